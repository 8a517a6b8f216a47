import PyProof.Rows.All
import Wide.All
import OpenK.AllK
import Wide.FinOn
import PyProof.EqAt
import PyProof.EqKinds
import PyProof.TupleCall
import Lean
import PySem.Challenge.RW_pursehall_k43_no_lines
set_option Elab.async false
set_option maxRecDepth 100000
set_option maxHeartbeats 8000000
set_option linter.all false
set_option exponentiation.threshold 500
abbrev FG := PySem.W.Frag
abbrev LQ := List (Int × Int)
abbrev LI := List (List Int)
section
namespace L2
open PySem PySem.Spec PyProof.Rows
abbrev Key := Sum Int Str
def keyIs : Key → Value → Bool
  | .inl k, v => Value.isInt k v
  | .inr x, v => Value.isStrOf x v
def keyH (w : World) : Key → Int
  | .inl k => hashInt k
  | .inr x => hashStr w x
theorem keyIs_shape : ∀ {k : Key} {v : Value}, keyIs k v = true → (∃ i t, k = Sum.inl i ∧ v = Value.int i t) ∨ (∃ x t, k = Sum.inr x ∧ v = Value.str x t)
  | .inl i, v, h => by
    obtain ⟨t, e⟩ := Value.isInt_shape (k := i) (v := v) h
    exact .inl ⟨i, t, rfl, e⟩
  | .inr x, v, h => by
    obtain ⟨t, e⟩ := Value.isStrOf_shape (x := x) (v := v) h
    exact .inr ⟨x, t, rfl, e⟩
theorem key_ll (a b : Int) : decide ((Sum.inl a : Key) = Sum.inl b) = (a == b) := by
  by_cases e : a = b
  · subst e; simp
  · have h : ¬ (Sum.inl a : Key) = Sum.inl b := fun q => e (Sum.inl.inj q)
    rw [decide_eq_false h]
    exact (beq_eq_false_iff_ne.mpr e).symm
theorem key_rr (a b : Str) : decide ((Sum.inr a : Key) = Sum.inr b) = decide (a = b) := by
  by_cases e : a = b
  · subst e; simp
  · have h : ¬ (Sum.inr a : Key) = Sum.inr b := fun q => e (Sum.inr.inj q)
    rw [decide_eq_false h, decide_eq_false e]
theorem key_lr (a : Int) (b : Str) : decide ((Sum.inl a : Key) = Sum.inr b) = false := decide_eq_false (fun q => nomatch q)
theorem key_rl (a : Str) (b : Int) : decide ((Sum.inr a : Key) = Sum.inl b) = false := decide_eq_false (fun q => nomatch q)
def mixKind (prog : Program) (w : World) : PySem.KeyKind prog w Key where
  is := keyIs
  hash := keyH w
  inj := fun v a b ha hb => by
    rcases keyIs_shape ha with ⟨i, t, rfl, rfl⟩ | ⟨x, t, rfl, rfl⟩
    · rcases keyIs_shape hb with ⟨j, u, rfl, e⟩ | ⟨y, u, rfl, e⟩
      · injection e with e1 _; rw [e1]
      · exact nomatch e
    · rcases keyIs_shape hb with ⟨j, u, rfl, e⟩ | ⟨y, u, rfl, e⟩
      · exact nomatch e
      · injection e with e1 _; rw [e1]
  byValue := fun k v h => by
    rcases keyIs_shape h with ⟨i, t, rfl, rfl⟩ | ⟨x, t, rfl, rfl⟩ <;> rfl
  pyHash := fun hv h => by
    rcases keyIs_shape hv with ⟨i, t, rfl, rfl⟩ | ⟨x, t, rfl, rfl⟩
    · exact wpAny_pyHash_int h
    · exact wpAny_pyHash_str h
  eqBool := fun hu hv h => by
    rcases keyIs_shape hu with ⟨i, t, rfl, rfl⟩ | ⟨x, t, rfl, rfl⟩
    · rcases keyIs_shape hv with ⟨j, u, rfl, rfl⟩ | ⟨y, u, rfl, rfl⟩
      · rw [key_ll] at h; exact wpAny_eqBool_int h
      · rw [key_lr] at h; exact SeqAt.EqAt.int_str i t y u _ _ _ _ h
    · rcases keyIs_shape hv with ⟨j, u, rfl, rfl⟩ | ⟨y, u, rfl, rfl⟩
      · rw [key_rl] at h; exact SeqAt.EqAt.str_int x t j u _ _ _ _ h
      · rw [key_rr] at h; exact wpAny_eqBool_str h
  «strs» := fun k x t v h => by
    rcases keyIs_shape h with ⟨i, u, rfl, e⟩ | ⟨y, u, rfl, e⟩
    · exact nomatch e
    · injection e with e1 _
      subst e1
      cases v <;> rfl
end L2
namespace L2
open PySem PySem.Spec PyProof.Rows
inductive V where
  | non | bl (b : Bool) | int (i : Int) | str (x : Str) | byt (b : Array UInt8) | flt (b : UInt64) | ref (a : Addr) | ty (n : String)
  deriving DecidableEq
def RelV : V → Value → Prop
  | .non, u => u = Value.none
  | .bl b, u => u = Value.bool b
  | .int i, u => ∃ t, u = Value.int i t
  | .str x, u => ∃ t, u = Value.str x t
  | .byt b, u => ∃ t, u = Value.bytes b t
  | .flt b, u => ∃ t, u = Value.float b t
  | .ref a, u => u = Value.ref a
  | .ty n, u => u = Value.type n
abbrev Vals : List V → List Value → Prop := Paired RelV
theorem Vals.length {xs : List V} {us : List Value} (r : Vals xs us) : xs.length = us.length := Paired.length r
theorem Vals.get : ∀ {xs : List V} {us : List Value} {i : Nat} {x : V}, Vals xs us → xs[i]? = some x → ∃ u, us[i]? = some u ∧ RelV x u
  | _, _, _, _, .nil, e => by simp at e
  | _, _, 0, _, .cons r _, e => by simp at e; subst e; exact ⟨_, rfl, r⟩
  | _, _, i + 1, x, .cons _ t, e => by
    obtain ⟨u, h1, h2⟩ := Vals.get (i := i) (x := x) t (by simpa using e)
    exact ⟨u, by simpa using h1, h2⟩
theorem Vals.set {x : V} {u : Value} (r : RelV x u) : ∀ {xs : List V} {us : List Value} (i : Nat), Vals xs us → Vals (xs.set i x) (us.set i u)
  | _, _, _, .nil => .nil
  | _, _, 0, .cons _ t => .cons r t
  | _, _, i + 1, .cons q t => .cons q (Vals.set r i t)
theorem Vals.append : ∀ {xs ys : List V} {us ws : List Value}, Vals xs us → Vals ys ws → Vals (xs ++ ys) (us ++ ws)
  | _, _, _, _, .nil, s => s
  | _, _, _, _, .cons r t, s => .cons r (Vals.append t s)
theorem Vals.take : ∀ {xs : List V} {us : List Value} (n : Nat), Vals xs us → Vals (xs.take n) (us.take n)
  | _, _, 0, _ => .nil
  | _, _, _ + 1, .nil => .nil
  | _, _, n + 1, .cons r t => .cons r (Vals.take n t)
theorem Vals.drop : ∀ {xs : List V} {us : List Value} (n : Nat), Vals xs us → Vals (xs.drop n) (us.drop n)
  | _, _, 0, r => r
  | _, _, _ + 1, .nil => .nil
  | _, _, n + 1, .cons _ t => Vals.drop n t
def RelO : Option V → Option Value → Prop
  | some v, some u => RelV v u
  | none, none => True
  | _, _ => False
def KV {κ : Type} : List (κ × V) → List (κ × Value) → Prop := Paired fun (p : κ × V) (q : κ × Value) => p.1 = q.1 ∧ RelV p.2 q.2
def kV : Key → V
  | .inl i => .int i
  | .inr x => .str x
inductive HO where
  | lst (xs : List V)
  | tup (xs : List V)
  | dK (kvs : List (Key × V)) | dT (kvs : List (List Key × V))
  | set (S : Int → Bool) (n : Nat)
  | ins (C dx : Addr) (fs : List (Str × V))
  | own (x : Addr)
  | xd (fs : List (Str × V))
  | met (f x : Addr)
  | rng (lo hi : Int)
  | frz (o : Obj) (u : HO)
  | tbl (ps : Array Value)
  | ext (φ : Heap → Prop)
abbrev Hp := Addr → Option HO
def upd (H : Hp) (a : Addr) (o : HO) : Hp := fun b => if b = a then some o else H b
theorem upd_same {H : Hp} {a : Addr} {o : HO} : upd H a o a = some o := by unfold upd; rw [if_pos rfl]
theorem upd_ne {H : Hp} {a b : Addr} {o : HO} (h : b ≠ a) : upd H a o b = H b := by unfold upd; rw [if_neg h]
theorem ne_of_none {H : Hp} {a b : Addr} {o : HO} (h : H a = some o) (h' : H b = none) : a ≠ b := by
  intro e; subst e; rw [h] at h'; cases h'
section
variable (P : Program) (w : World)
def ObjOk (H : Hp) (h : Heap) (a : Addr) : HO → Prop
  | .lst xs => xs.length ≤ sizeLine ∧ ∃ (its : List Value) (n : Nat), Vals xs its ∧ h.get? a = some { cls := .type "list", data := .seq its.toArray n }
  | .tup xs => xs.length ≤ sizeLine ∧ ∃ its : List Value, Vals xs its ∧ IsTup h a its.toArray
  | .dK kvs => kvs.length ≤ sizeLine ∧ (a == sysModules) = false ∧ ∃ vs, KV kvs vs ∧ h.DictOf (mixKind P w) a vs
  | .dT kvs => kvs.length ≤ sizeLine ∧ (a == sysModules) = false ∧ ∃ xs : List (List Key × Addr × Value),
      Paired (fun (p : List Key × V) (q : List Key × Addr × Value) => p.1 = q.1 ∧ H q.2.1 = some (.tup (p.1.map kV)) ∧ RelV p.2 q.2.2) kvs xs ∧
      ∃ o es ep, h.get? a = some o ∧ o.ExactDict ∧ o.data = .dict es ep ∧ es.toList = xs.map (entryOfKey (tupleKind (mixKind P w))) ∧ (xs.map (·.1)).Nodup
  | .set S n => h.SetOf (intKind P w) a S n
  | .ins C dx fs => H dx = some (.own a) ∧ fs.length ≤ 1000 ∧ dx ≠ a ∧ h.get? a = some (PySem.W.instObj C dx) ∧
      ∃ mA, h.Ns1 dx mA ∧ (∀ f, RelO (fs.lookup f) (mA f)) ∧ PySem.Within mA (fs.map (·.1))
  | .own _ => ∃ o, h.get? a = some o
  | .xd fs => ∃ mA, h.Ns1 a mA ∧ ∀ f, RelO (fs.lookup f) (mA f)
  | .rng lo hi => ∃ t u v, h.get? a = some { cls := .type "range", data := .fields #[.int lo t, .int hi u, .int 1 v] }
  | .frz o u => h.get? a = some o ∧ ObjOk H h a u
  | .tbl ps => h.get? a = some { cls := .none, data := .fields ps }
  | .met f x => h.get? a = some (PySem.W.methodObj (.ref f) (.ref x))
  | .ext φ => φ h ∧ (∃ o, h.get? a = some o) ∧ ∀ h1 h2 : Heap, φ h1 → (∀ o, h1.get? a = some o → h2.get? a = some o) → φ h2
def HOk (H : Hp) (h : Heap) : Prop := ∀ a o, H a = some o → ObjOk P w H h a o
end
section
variable {P : Program} {w : World} {H H' : Hp} {h h' : Heap} {a : Addr} {o : HO}
theorem ObjOk.lt (x : ObjOk P w H h a o) : a < h.objs.size := by
  cases o with
  | lst xs => obtain ⟨_, _, _, _, e⟩ := x; exact Heap.lt_size e
  | tup xs => obtain ⟨_, _, _, p⟩ := x; exact p.lt
  | dK kvs => obtain ⟨_, _, _, _, o, _, _, e, _⟩ := x; exact Heap.lt_size e
  | dT kvs => obtain ⟨_, _, _, _, o, _, _, e, _⟩ := x; exact Heap.lt_size e
  | set S n => obtain ⟨o, _, _, _, e, _⟩ := x; exact Heap.lt_size e
  | ins C dx fs => obtain ⟨_, _, _, e, _⟩ := x; exact Heap.lt_size e
  | own y => obtain ⟨_, e⟩ := x; exact Heap.lt_size e
  | xd fs => obtain ⟨_, ⟨_, _, _, e, _⟩, _⟩ := x; exact Heap.lt_size e
  | rng lo hi => obtain ⟨_, _, _, e⟩ := x; exact Heap.lt_size e
  | frz ob u => obtain ⟨e, _⟩ := x; exact Heap.lt_size e
  | tbl ps => exact Heap.lt_size (show h.get? a = some _ from x)
  | met f y => exact Heap.lt_size (show h.get? a = some _ from x)
  | ext φ => obtain ⟨_, ⟨_, e⟩, _⟩ := x; exact Heap.lt_size e
theorem Paired.mapP {α β : Type} {F G : α → β → Prop} : ∀ {l₁ : List α} {l₂ : List β}, Paired F l₁ l₂ → (∀ a b, F a b → G a b) → Paired G l₁ l₂
  | _, _, .nil, _ => .nil
  | _, _, .cons r t, f => .cons (f _ _ r) (Paired.mapP t f)
theorem ObjOk.stay (x : ObjOk P w H h a o) (k : ∀ b u, (b = a ∨ H b = some (.own a)) → h.get? b = some u → h'.get? b = some u)
    (ho : ∀ b, H b = some (.own a) → H' b = some (.own a)) (ht : ∀ b xs, H b = some (.tup xs) → H' b = some (.tup xs)) : ObjOk P w H' h' a o := by
  induction o with
  | lst xs => obtain ⟨z, its, n, r, e⟩ := x; exact ⟨z, its, n, r, k _ _ (.inl rfl) e⟩
  | tup xs => obtain ⟨z, its, r, ob, e, c⟩ := x; exact ⟨z, its, r, ob, k _ _ (.inl rfl) e, c⟩
  | dK kvs => obtain ⟨z, y, vs, r, ob, es, ep, e, c⟩ := x; exact ⟨z, y, vs, r, ob, es, ep, k _ _ (.inl rfl) e, c⟩
  | dT kvs =>
    obtain ⟨z, y, xs, r, ob, es, ep, e, c⟩ := x
    exact ⟨z, y, xs, Paired.mapP r fun p q z => ⟨z.1, ht _ _ z.2.1, z.2.2⟩, ob, es, ep, k _ _ (.inl rfl) e, c⟩
  | set S n => obtain ⟨ob, es, ep, t, e, c⟩ := x; exact ⟨ob, es, ep, t, k _ _ (.inl rfl) e, c⟩
  | ins C dx fs =>
    obtain ⟨d, z, ne, e, mA, ⟨od, es, ep, e2, c⟩, r⟩ := x
    exact ⟨ho _ d, z, ne, k _ _ (.inl rfl) e, mA, ⟨od, es, ep, k _ _ (.inr d) e2, c⟩, r⟩
  | own y => obtain ⟨ob, e⟩ := x; exact ⟨ob, k _ _ (.inl rfl) e⟩
  | xd fs => obtain ⟨mA, ⟨od, es, ep, e, c⟩, r⟩ := x; exact ⟨mA, ⟨od, es, ep, k _ _ (.inl rfl) e, c⟩, r⟩
  | rng lo hi => obtain ⟨t, u, v, e⟩ := x; exact ⟨t, u, v, k _ _ (.inl rfl) e⟩
  | frz ob u ih => obtain ⟨e, q⟩ := x; exact ⟨k _ _ (.inl rfl) e, ih q⟩
  | tbl ps =>
    have e : h.get? a = some { cls := .none, data := .fields ps } := x
    show h'.get? a = some { cls := .none, data := .fields ps }
    exact k a _ (.inl rfl) e
  | met f y =>
    have e : h.get? a = some (PySem.W.methodObj (.ref f) (.ref y)) := x
    show h'.get? a = some (PySem.W.methodObj (.ref f) (.ref y))
    exact k a _ (.inl rfl) e
  | ext φ => obtain ⟨p, ⟨o, e⟩, st⟩ := x; exact ⟨st _ _ p fun o q => k _ _ (.inl rfl) q, ⟨o, k _ _ (.inl rfl) e⟩, st⟩
theorem HOk.lt (x : HOk P w H h) (e : H a = some o) : a < h.objs.size := (x a o e).lt
theorem HOk.fresh (x : HOk P w H h) (e : h.objs.size ≤ a) : H a = none := by
  cases q : H a with
  | none => rfl
  | some u => exact absurd (Nat.lt_of_lt_of_le (x.lt q) e) (Nat.lt_irrefl _)
theorem HOk.kept (x : HOk P w H h) (k : ∀ b u, h.get? b = some u → h'.get? b = some u) : HOk P w H h' := fun a o e =>
  (x a o e).stay (fun b u _ q => k b u q) (fun _ q => q) fun _ _ q => q
theorem HOk.laid (x : HOk P w H h) (k : ∀ b u, h.get? b = some u → h'.get? b = some u) (hp : h.objs.size ≤ a) (new : ObjOk P w (upd H a o) h' a o) : HOk P w (upd H a o) h' := fun b u e => by
  have hn := x.fresh hp
  by_cases hb : b = a
  · subst hb; rw [upd_same] at e; cases e; exact new
  · rw [upd_ne hb] at e
    exact (x b u e).stay (fun c v _ q => k c v q) (fun c q => by rw [upd_ne (ne_of_none q hn)]; exact q) fun c xs q => by rw [upd_ne (ne_of_none q hn)]; exact q
end
def Rd (H : Hp) (a : Addr) (u : HO) : Prop := H a = some u ∨ ∃ o, H a = some (.frz o u)
theorem Rd.ok {P : Program} {w : World} {H : Hp} {h : Heap} {a : Addr} {u : HO} (r : Rd H a u) (x : HOk P w H h) : ObjOk P w H h a u := by
  rcases r with r | ⟨o, r⟩
  · exact x a u r
  · obtain ⟨_, q⟩ := x a _ r
    exact q
def Mut : Option HO → Prop
  | some (.lst _) => True
  | some (.dK _) => True
  | some (.dT _) => True
  | some (.set _ _) => True
  | some (.ins _ _ _) => True
  | some (.ext _) => True
  | _ => False
section
variable {P : Program} {w : World} {H : Hp} {h h' : Heap} {x e : Addr} {o' : HO}
theorem HOk.write (ok : HOk P w H h) (mu : Mut (H x)) (he : e = x ∨ H e = some (.own x)) (k : ∀ b u, b ≠ e → h.get? b = some u → h'.get? b = some u) (heo : ∃ u, h'.get? e = some u)
    (new : ObjOk P w (upd H x o') h' x o') : HOk P w (upd H x o') h' := fun b u q => by
  have nown : ∀ c y, H c = some (.own y) → c ≠ x := fun c y r z => by subst z; rw [r] at mu; exact mu
  have ntup : ∀ c xs, H c = some (.tup xs) → c ≠ x := fun c xs r z => by subst z; rw [r] at mu; exact mu
  by_cases hb : b = x
  · subst hb; rw [upd_same] at q; cases q; exact new
  · rw [upd_ne hb] at q
    by_cases hbe : b = e
    · have q' : H b = some (.own x) := by
        rcases he with z | z
        · exact absurd (hbe.trans z) hb
        · rw [hbe]; exact z
      rw [q] at q'; cases q'
      obtain ⟨v, hv⟩ := heo
      exact ⟨v, by rw [hbe]; exact hv⟩
    · refine (ok b u q).stay (fun c v hc r => k c v ?_ r) (fun c r => by rw [upd_ne (nown c b r)]; exact r) fun c xs r => by rw [upd_ne (ntup c xs r)]; exact r
      rcases hc with rfl | hc
      · exact hbe
      · rintro rfl
        rcases he with z | z
        · exact nown c b hc z
        · rw [hc] at z; cases z; exact hb rfl
end
structure Un (fs ex : List Addr) (H H' : Hp) (h h' : Heap) : Prop where
  keep : ∀ b o, h.get? b = some o → H b = none → b ∉ fs → b ∉ ex → h'.get? b = some o
  slot : ∀ b o, h.get? b = some o → H b = none → b ∈ fs → b ∉ ex → ∃ sl, h'.get? b = some { o with slots := sl }
  free : ∀ b o, h.get? b = some o → H b = none → b ∉ ex → H' b = none
  there : ∀ b o, h.get? b = some o → b ∉ ex → ∃ o', h'.get? b = some o'
  tups : ∀ b xs, H b = some (.tup xs) → H' b = some (.tup xs)
  frzs : ∀ b o u, H b = some (.frz o u) → H' b = some (.frz o u)
  tbls : ∀ b ps, H b = some (.tbl ps) → ∃ more, H' b = some (.tbl (ps ++ more))
section
variable {fs fs' ex ex' : List Addr} {H H1 H2 : Hp} {h h1 h2 h' : Heap} {a x e : Addr} {o : HO}
theorem Un.any (u : Un fs ex H H1 h h1) {b : Addr} {ob : Obj} (q : h.get? b = some ob) (n : H b = none) (hx : b ∉ ex) : ∃ sl, h1.get? b = some { ob with slots := sl } := by
  by_cases hb : b ∈ fs
  · exact u.slot b ob q n hb hx
  · exact ⟨ob.slots, u.keep b ob q n hb hx⟩
theorem Un.trans (a : Un fs ex H H1 h h1) (b : Un fs ex H1 H2 h1 h2) : Un fs ex H H2 h h2 where
  keep := fun c ob q n hc hx => b.keep c ob (a.keep c ob q n hc hx) (a.free c ob q n hx) hc hx
  slot := fun c ob q n hc hx => by
    obtain ⟨sl, e1⟩ := a.slot c ob q n hc hx
    obtain ⟨sl', e2⟩ := b.slot c _ e1 (a.free c ob q n hx) hc hx
    exact ⟨sl', e2⟩
  free := fun c ob q n hx => by
    obtain ⟨o', e1⟩ := a.there c ob q hx
    exact b.free c o' e1 (a.free c ob q n hx) hx
  there := fun c ob q hx => by
    obtain ⟨o', e1⟩ := a.there c ob q hx
    exact b.there c o' e1 hx
  tups := fun c xs q => b.tups c xs (a.tups c xs q)
  frzs := fun c ob xs q => b.frzs c ob xs (a.frzs c ob xs q)
  tbls := fun c ps q => by
    obtain ⟨m1, e1⟩ := a.tbls c ps q
    obtain ⟨m2, e2⟩ := b.tbls c _ e1
    exact ⟨m1 ++ m2, by rw [e2, Array.append_assoc]⟩
theorem Un.kept (k : ∀ b u, h.get? b = some u → h'.get? b = some u) : Un fs ex H H h h' :=
  ⟨fun b ob q _ _ _ => k b ob q, fun b ob q _ _ _ => ⟨ob.slots, k b ob q⟩, fun _ _ _ n _ => n, fun b ob q _ => ⟨ob, k b ob q⟩, fun _ _ q => q, fun _ _ _ q => q, fun _ ps q => ⟨#[], by rw [q]; simp⟩⟩
theorem Un.refl : Un fs ex H H h h := Un.kept fun _ _ q => q
theorem Un.laid (k : ∀ b u, h.get? b = some u → h'.get? b = some u) (hp : h.objs.size ≤ a) (hn : H a = none) : Un fs ex H (upd H a o) h h' where
  keep := fun b u q _ _ _ => k b u q
  slot := fun b u q _ _ _ => ⟨u.slots, k b u q⟩
  free := fun b u q n _ => by rw [upd_ne (Nat.ne_of_lt (Nat.lt_of_lt_of_le (Heap.lt_size q) hp))]; exact n
  there := fun b u q _ => ⟨u, k b u q⟩
  tups := fun b xs q => by rw [upd_ne (ne_of_none q hn)]; exact q
  frzs := fun b u xs q => by rw [upd_ne (ne_of_none q hn)]; exact q
  tbls := fun b ps q => ⟨#[], by rw [upd_ne (ne_of_none q hn), q]; simp⟩
theorem Un.write (mu : Mut (H x)) (he : e = x ∨ H e = some (.own x)) (k : ∀ b u, b ≠ e → h.get? b = some u → h'.get? b = some u) (heo : ∃ u, h'.get? e = some u) : Un fs ex H (upd H x o) h h' := by
  have hx : ∀ b, H b = none → b ≠ x := fun b n z => by subst z; rw [n] at mu; exact mu
  have hb : ∀ b, H b = none → b ≠ e := fun b n z => by
    subst z
    rcases he with r | r
    · exact hx b n r
    · rw [n] at r; cases r
  have hm : ∀ b u, H b = some u → ¬ Mut (some u) → b ≠ x := fun b u q nm z => by subst z; rw [q] at mu; exact nm mu
  refine ⟨fun b u q n _ _ => k b u (hb b n) q, fun b u q n _ _ => ⟨u.slots, k b u (hb b n) q⟩, fun b u q n _ => by rw [upd_ne (hx b n)]; exact n, fun b u q _ => ?_,
    fun b xs q => by rw [upd_ne (hm b _ q fun z => z)]; exact q, fun b u xs q => by rw [upd_ne (hm b _ q fun z => z)]; exact q, fun b ps q => ⟨#[], by rw [upd_ne (hm b _ q fun z => z), q]; simp⟩⟩
  by_cases hbe : b = e
  · subst hbe; exact heo
  · exact ⟨u, k b u hbe q⟩
end
def trk (h : Heap) (H : Hp) : List Addr := (List.range h.objs.size).filter fun a => (H a).isSome
def hidT (h : Heap) (H : Hp) : Heap := PySem.W.hideAll h (trk h H)
theorem hidT_size (h : Heap) (H : Hp) : (hidT h H).objs.size = h.objs.size := PySem.W.hideAll_size _ _
theorem hidT_get {h : Heap} {H : Hp} {b : Addr} {o : Obj} (e : h.get? b = some o) (n : H b = none) : (hidT h H).get? b = some o :=
  PySem.W.hideAll_get _ e fun hm => by
    have q : (H b).isSome = true := (List.mem_filter.mp hm).2
    rw [n] at q; simp at q
theorem of_hidT {h : Heap} {H : Hp} {b : Addr} {o : Obj} (e : (hidT h H).get? b = some o) : h.get? b = some o ∧ H b = none := by
  have e' : h.get? b = some o := PySem.W.of_hideAll (trk h H) e
  refine ⟨e', ?_⟩
  cases q : H b with
  | none => rfl
  | some x =>
    have hm : b ∈ trk h H := List.mem_filter.mpr ⟨List.mem_range.mpr (Heap.lt_size e'), by simp [q]⟩
    have z : (hidT h H).get? b = none := PySem.W.hideAll_none (trk h H) hm
    rw [z] at e; cases e
end L2
namespace L2
open PySem PySem.Spec PyProof.Rows
structure Mod (K : FG) (mg : Str → Option Value) (base : Heap) : Prop where
  kin : K.In base
  glob : base.Ns mainGlobals mg
  blt : ∃ mb, base.Ns builtinsNs mb ∧ ∀ x : Str, x ≠ "__name__" → mb x = bootBuiltins x
  nolimit : base.NoLimit
structure Cx where
  prog : Program
  w : World
  K : FG
  mg : Str → Option Value
  base : Heap
  A : Around
  N : List Str
  s₀ : Shared
  H₀ : Hp
  env : Env
  outer : List Env
  stack : List Env
  ex : List Addr
  fn : Str → Bool
  calm : Bool
  pn : List (Addr × Obj)
  xe : Value → Shared → Prop
def frs (l : List Env) : List Addr := l.filterMap (·.frame)
abbrev Cx.fs (X : Cx) : List Addr := frs X.outer
def Vis (sc : Scope) (x : Str) : Prop := sc.names.lookup x = some .local ∨ sc.names.lookup x = some .cell ∨ sc.names.lookup x = some .free
def Loc (sc : Scope) (x : Str) : Prop := sc.names.lookup x = some .local ∨ sc.names.lookup x = some .cell
def Look (env : Env) (h : Heap) (m : Str → Option Value) (x : Str) (u : Value) : Prop :=
  (env.kindOf x = some .local ∧ m x = some u) ∨ ((env.kindOf x = some .cell ∨ env.kindOf x = some .free) ∧ ∃ c, env.cells.lookup x = some c ∧ h.IsCell c (some u))
structure Cx.Ok (X : Cx) : Prop where
  mod : Mod X.K X.mg X.base
  kind : X.env.scope.kind = .function
  glob : X.env.globals = mainGlobals
  blt : X.env.builtins = builtinsNs
  above : X.s₀.heap.objs.size ≤ X.env.locals
  inj : ∀ x y c, X.env.cells.lookup x = some c → X.env.cells.lookup y = some c → x = y
  has : ∀ x, (X.env.kindOf x = some .cell ∨ X.env.kindOf x = some .free) → ∃ c, X.env.cells.lookup x = some c
  cab : ∀ x c, X.fn x = true → X.env.cells.lookup x = some c → X.s₀.heap.objs.size ≤ c
  hd : X.calm = true → X.A.handled = none
  frames : X.A.frames = some X.stack
  stk : X.stack = X.outer ∨ (X.stack = X.env :: X.outer ∧ X.env.frame = some X.env.locals)
  exf : ∀ b ∈ X.ex, b ≠ X.env.locals ∧ ∀ x c, X.env.cells.lookup x = some c → c ≠ b
  bs : ∀ b o, X.base.get? b = some o → X.s₀.heap.get? b = some o ∧ X.H₀ b = none
  bsz : X.base.objs.size ≤ X.s₀.heap.objs.size
  noex : ∀ b o, X.base.get? b = some o → b ∉ X.ex
  exfs : ∀ b ∈ X.ex, b ∉ X.fs
  funs : X.s₀.heap.FunFrames X.base X.outer
  frf : ∀ b ∈ X.fs, X.H₀ b = none
structure Inv (X : Cx) (pins : List (Addr × Obj)) (σ : List (Option V)) (H : Hp) (s : Shared) : Prop where
  ok : X.Ok
  os : s.os = X.s₀.os
  bare : AllBare s.gens
  base : Un X.fs X.ex X.H₀ H X.s₀.heap s.heap
  loc : ∃ m, s.heap.Ns X.env.locals m ∧ ∀ (i : Nat) (x : Str) (v : V), X.N[i]? = some x → σ[i]? = some (some v) → Vis X.env.scope x → ∃ u, RelV v u ∧ Look X.env s.heap m x u
  cell : ∀ x c, X.env.cells.lookup x = some c → ∃ v, s.heap.IsCell c v
  free : H X.env.locals = none
  freeC : ∀ x c, X.env.cells.lookup x = some c → H c = none
  pin : ∀ p ∈ X.pn ++ pins, s.heap.get? p.1 = some p.2 ∧ H p.1 = none ∧ p.1 ≠ X.env.locals ∧ p.1 ∉ X.fs ∧ ∀ v, p.2.data ≠ .cell v
  hok : HOk X.prog X.w H s.heap
  len : σ.length = X.N.length
section
variable {X : Cx} {pins : List (Addr × Obj)} {σ : List (Option V)} {H H' : Hp} {s : Shared} {h' : Heap}
theorem Cx.Ok.nofr (ok : X.Ok) {b : Addr} {o : Obj} (e : X.base.get? b = some o) : b ∉ X.fs := fun hb => by
  have := (ok.funs.mem hb).1
  rw [e] at this; cases this
theorem Inv.bs (I : Inv X pins σ H s) : ∀ b o, X.base.get? b = some o → s.heap.get? b = some o ∧ H b = none := fun b o e =>
  ⟨I.base.keep b o (I.ok.bs b o e).1 (I.ok.bs b o e).2 (I.ok.nofr e) (I.ok.noex b o e), I.base.free b o (I.ok.bs b o e).1 (I.ok.bs b o e).2 (I.ok.noex b o e)⟩
theorem Inv.bk (I : Inv X pins σ H s) : ∀ b o, X.base.get? b = some o → s.heap.get? b = some o := fun b o e => (I.bs b o e).1
theorem Inv.mod (I : Inv X pins σ H s) : Mod X.K X.mg X.base := I.ok.mod
theorem Inv.kIn (I : Inv X pins σ H s) : X.K.In s.heap := I.ok.mod.kin.keeps I.bk
theorem Inv.lt (I : Inv X pins σ H s) : X.env.locals < s.heap.objs.size := let ⟨_, hn, _⟩ := I.loc; hn.lt
theorem Inv.sz (I : Inv X pins σ H s) : X.s₀.heap.objs.size ≤ s.heap.objs.size := Nat.le_trans I.ok.above (Nat.le_of_lt I.lt)
theorem Inv.nofs (I : Inv X pins σ H s) {a : Addr} (h : s.heap.objs.size ≤ a) : a ∉ X.fs := fun hb => by
  obtain ⟨_, o, ho, _⟩ := I.ok.funs.mem hb
  exact absurd (Nat.lt_of_lt_of_le (Heap.lt_size ho) (Nat.le_trans I.sz h)) (Nat.lt_irrefl _)
theorem Inv.cne (I : Inv X pins σ H s) : ∀ x c, X.env.cells.lookup x = some c → c ≠ X.env.locals := fun x c e z => by
  obtain ⟨v, o, ho, hd⟩ := I.cell x c e
  obtain ⟨m, ⟨o', es, ep, ho', hd', _⟩, _⟩ := I.loc
  rw [z, ho'] at ho; cases ho; rw [hd'] at hd; cases hd
theorem Inv.funs (I : Inv X pins σ H s) : s.heap.FunFrames X.base X.outer := by
  have all : ∀ (l : List Env), (∀ b ∈ frs l, b ∈ X.fs) → X.s₀.heap.FunFrames X.base l → s.heap.FunFrames X.base l := by
    intro l
    induction l with
    | nil => intro _ _; trivial
    | cons env r ih =>
      intro hs hl
      obtain ⟨hk, ⟨L, o, hf, hn, ho, hd⟩, hr⟩ := hl
      have hL : L ∈ X.fs := hs L (by unfold frs; rw [List.filterMap_cons, hf]; exact List.mem_cons_self)
      obtain ⟨sl, e⟩ := I.base.slot L o ho (I.ok.frf L hL) hL fun z => I.ok.exfs L z hL
      exact ⟨hk, ⟨L, _, hf, hn, e, hd⟩, ih (fun b hb => hs b (by unfold frs; rw [List.filterMap_cons, hf]; exact List.mem_cons_of_mem _ hb)) hr⟩
  exact all X.outer (fun _ hb => hb) I.ok.funs
theorem Inv.stack (I : Inv X pins σ H s) : s.heap.FunFrames X.base X.stack := by
  rcases I.ok.stk with e | ⟨e, hf⟩
  · rw [e]; exact I.funs
  · rw [e]
    obtain ⟨m, hn, _⟩ := I.loc
    refine .cons (by rw [I.ok.kind]; decide) hf hn ?_ I.funs
    exact Heap.get?_none_of_le (Nat.le_trans I.ok.bsz I.ok.above)
theorem Inv.stkSub (I : Inv X pins σ H s) : ∀ b ∈ frs X.stack, b ∈ X.env.locals :: X.fs := fun b hb => by
  rcases I.ok.stk with e | ⟨e, hf⟩
  · rw [e] at hb; exact List.mem_cons_of_mem _ hb
  · rw [e] at hb
    unfold frs at hb
    rw [List.filterMap_cons, hf] at hb
    exact hb
theorem Inv.stkFree (I : Inv X pins σ H s) : ∀ b ∈ frs X.stack, H b = none := fun b hb => by
  rcases List.mem_cons.mp (I.stkSub b hb) with e | hb
  · rw [e]; exact I.free
  · obtain ⟨_, o, ho, _⟩ := I.ok.funs.mem hb
    exact I.base.free b o ho (I.ok.frf b hb) fun z => I.ok.exfs b z hb
theorem Inv.step {g' : Array GenState} {t' : Nat} {d' : Drawn} {ch : List Addr} (I : Inv X pins σ H s)
    (hch : ∀ b ∈ ch, (b ∈ X.ex ∨ X.s₀.heap.objs.size ≤ b) ∧ b ≠ X.env.locals ∧ (∀ x c, X.env.cells.lookup x = some c → c ≠ b) ∧ ∀ p ∈ X.pn ++ pins, p.1 ≠ b)
    (keep : ∀ b o, b ≠ X.env.locals → b ∉ X.fs → b ∉ ch → s.heap.get? b = some o → H b = none → h'.get? b = some o)
    (slot : ∀ b o, b ≠ X.env.locals → b ∈ X.fs → b ∉ ch → s.heap.get? b = some o → H b = none → ∃ sl, h'.get? b = some { o with slots := sl }) (free : ∀ b o, b ∉ ch → s.heap.get? b = some o → H b = none → H' b = none)
    (there : ∀ b o, b ∉ ch → s.heap.get? b = some o → ∃ o', h'.get? b = some o')
    (tups : ∀ b xs, H b = some (.tup xs) → H' b = some (.tup xs)) (frzs : ∀ b o u, H b = some (.frz o u) → H' b = some (.frz o u)) (tbls : ∀ b ps, H b = some (.tbl ps) → ∃ more, H' b = some (.tbl (ps ++ more)))
    (ns : ∀ m, s.heap.Ns X.env.locals m → h'.Ns X.env.locals m) (hok : HOk X.prog X.w H' h') (hg : AllBare g') :
    Inv X pins σ H' { s with heap := h', gens := g', drawn := d', toks := t' } := by
  have neL : ∀ b o, X.s₀.heap.get? b = some o → b ≠ X.env.locals := fun b o e => Nat.ne_of_lt (Nat.lt_of_lt_of_le (Heap.lt_size e) I.ok.above)
  have neC : ∀ b o, X.s₀.heap.get? b = some o → b ∉ X.ex → b ∉ ch := fun b o e hx hb => by
    rcases (hch b hb).1 with z | z
    · exact hx z
    · exact absurd (Nat.lt_of_lt_of_le (Heap.lt_size e) z) (Nat.lt_irrefl _)
  have cellK : ∀ x c, X.env.cells.lookup x = some c → ∀ v, s.heap.IsCell c v → h'.IsCell c v := fun x c e v ⟨o, ho, hd⟩ => by
    have nch : c ∉ ch := fun z => (hch c z).2.2.1 x c e rfl
    by_cases hc : c ∈ X.fs
    · obtain ⟨sl, q⟩ := slot c o (I.cne x c e) hc nch ho (I.freeC x c e)
      exact ⟨_, q, hd⟩
    · exact ⟨o, keep c o (I.cne x c e) hc nch ho (I.freeC x c e), hd⟩
  refine ⟨I.ok, I.os, hg, ⟨fun b o e n hb hx => ?_, fun b o e n hb hx => ?_, fun b o e n hx => ?_, fun b o e hx => ?_, fun b xs e => tups b xs (I.base.tups b xs e), fun b o xs e => frzs b o xs (I.base.frzs b o xs e), fun b ps e => ?_⟩, ?_, fun x c e => ?_, ?_, fun x c e => ?_, fun p hp => ?_, hok, I.len⟩
  · exact keep b o (neL b o e) hb (neC b o e hx) (I.base.keep b o e n hb hx) (I.base.free b o e n hx)
  · obtain ⟨sl, e1⟩ := I.base.slot b o e n hb hx
    obtain ⟨sl', e2⟩ := slot b _ (neL b o e) hb (neC b o e hx) e1 (I.base.free b o e n hx)
    exact ⟨sl', e2⟩
  · obtain ⟨o', e1⟩ := I.base.there b o e hx
    exact free b o' (neC b o e hx) e1 (I.base.free b o e n hx)
  · obtain ⟨o', e1⟩ := I.base.there b o e hx
    exact there b o' (neC b o e hx) e1
  · obtain ⟨m1, e1⟩ := I.base.tbls b ps e
    obtain ⟨m2, e2⟩ := tbls b _ e1
    exact ⟨m1 ++ m2, by rw [e2, Array.append_assoc]⟩
  · obtain ⟨m, hn, hl⟩ := I.loc
    refine ⟨m, ns m hn, fun i x v e1 e2 e3 => ?_⟩
    obtain ⟨u, r, l⟩ := hl i x v e1 e2 e3
    refine ⟨u, r, ?_⟩
    rcases l with l | ⟨k, c, e, z⟩
    · exact .inl l
    · exact .inr ⟨k, c, e, cellK x c e _ z⟩
  · obtain ⟨v, z⟩ := I.cell x c e
    exact ⟨v, cellK x c e v z⟩
  · obtain ⟨m, ⟨o, _, _, ho, _⟩, _⟩ := I.loc
    exact free _ o (fun z => (hch _ z).2.1 rfl) ho I.free
  · obtain ⟨v, o, ho, hd⟩ := I.cell x c e
    exact free c o (fun z => (hch c z).2.2.1 x c e rfl) ho (I.freeC x c e)
  · obtain ⟨e, n, ne, nf, d⟩ := I.pin p hp
    have nch : p.1 ∉ ch := fun z => (hch p.1 z).2.2.2 p hp rfl
    exact ⟨keep p.1 p.2 ne nf nch e n, free p.1 p.2 nch e n, ne, nf, d⟩
theorem Inv.un {t' : Nat} (I : Inv X pins σ H s) (u : Un X.fs [] H H' s.heap h') (hok : HOk X.prog X.w H' h') : Inv X pins σ H' { s with heap := h', toks := t' } := by
  obtain ⟨m, ⟨o, es, ep, ho, r⟩, _⟩ := id I.loc
  obtain ⟨sl, hL⟩ := u.any ho I.free (by simp)
  exact I.step (g' := s.gens) (d' := s.drawn) (ch := []) (fun _ z => nomatch z) (fun b o _ hb _ e n => u.keep b o e n hb (by simp)) (fun b o _ hb _ e n => u.slot b o e n hb (by simp)) (fun b o _ e n => u.free b o e n (by simp)) (fun b o _ e => u.there b o e (by simp)) u.tups u.frzs u.tbls (fun m' hm => by
    obtain ⟨o', es', ep', ho', r'⟩ := hm
    rw [ho] at ho'; cases ho'
    exact ⟨_, es', ep', hL, r'⟩) hok I.bare
theorem Inv.call {g' : Array GenState} {t' : Nat} {d' : Drawn} {ch : List Addr} (I : Inv X pins σ H s) (u : Un (frs X.stack) ch H H' s.heap h') (hok : HOk X.prog X.w H' h') (hg : AllBare g')
    (hch : ∀ b ∈ ch, (b ∈ X.ex ∨ X.s₀.heap.objs.size ≤ b) ∧ b ≠ X.env.locals ∧ (∀ x c, X.env.cells.lookup x = some c → c ≠ b) ∧ ∀ p ∈ X.pn ++ pins, p.1 ≠ b) :
    Inv X pins σ H' { s with heap := h', gens := g', drawn := d', toks := t' } := by
  obtain ⟨m, ⟨o, es, ep, ho, r⟩, _⟩ := id I.loc
  obtain ⟨sl, hL⟩ := u.any ho I.free fun z => (hch _ z).2.1 rfl
  exact I.step (ch := ch) hch (fun b o hL hb hc e n => u.keep b o e n (fun z => (List.mem_cons.mp (I.stkSub b z)).elim hL hb) hc) (fun b o _ _ hc e n => u.any e n hc) (fun b o hc e n => u.free b o e n hc) (fun b o hc e => u.there b o e hc) u.tups u.frzs u.tbls (fun m' hm => by
    obtain ⟨o', es', ep', ho', r'⟩ := hm
    rw [ho] at ho'; cases ho'
    exact ⟨_, es', ep', hL, r'⟩) hok hg
theorem Inv.turned {t' : Nat} {it : Addr} (I : Inv X pins σ H s) (k : ∀ b o, b ≠ it → s.heap.get? b = some o → h'.get? b = some o) (hn : H it = none) (hL : it ≠ X.env.locals)
    (h1 : it ∈ X.ex ∨ X.s₀.heap.objs.size ≤ it) (h2 : ∀ x c, X.env.cells.lookup x = some c → c ≠ it) (h3 : ∀ p ∈ X.pn ++ pins, p.1 ≠ it) : Inv X pins σ H { s with heap := h', toks := t' } := by
  have nit : ∀ b u, H b = some u → b ≠ it := fun b u e z => by rw [z, hn] at e; cases e
  refine I.step (g' := s.gens) (d' := s.drawn) (ch := [it]) (fun b hb => ?_) (fun b o _ _ hc e _ => k b o (fun z => hc (by simp [z])) e) (fun b o _ _ hc e _ => ⟨o.slots, k b o (fun z => hc (by simp [z])) e⟩) (fun _ _ _ _ n => n)
    (fun b o hc e => ⟨o, k b o (fun z => hc (by simp [z])) e⟩) (fun _ _ e => e) (fun _ _ _ e => e) (fun b ps e => ⟨#[], by rw [e]; simp⟩) (fun m hm => ?_) (fun b u e => ?_) I.bare
  · have e : b = it := by simpa using hb
    subst e
    exact ⟨h1, hL, h2, h3⟩
  · obtain ⟨o, es, ep, ho, r⟩ := hm
    exact ⟨o, es, ep, k _ o (Ne.symm hL) ho, r⟩
  · refine (I.hok b u e).stay (fun c v hc q => k c v ?_ q) (fun _ q => q) fun _ _ q => q
    rcases hc with z | z
    · rw [z]; exact nit b u e
    · exact nit c _ z
theorem Inv.tok (I : Inv X pins σ H s) (t : Nat) : Inv X pins σ H { s with toks := t } := I.un (h' := s.heap) (t' := t) Un.refl I.hok
theorem Inv.kept {t' : Nat} (I : Inv X pins σ H s) (k : ∀ b u, s.heap.get? b = some u → h'.get? b = some u) : Inv X pins σ H { s with heap := h', toks := t' } := I.un (Un.kept k) (I.hok.kept k)
theorem Inv.laid {a : Addr} {o : HO} {t' : Nat} (I : Inv X pins σ H s) (k : ∀ b u, s.heap.get? b = some u → h'.get? b = some u) (hp : s.heap.objs.size ≤ a) (new : ObjOk X.prog X.w (upd H a o) h' a o) :
    Inv X pins σ (upd H a o) { s with heap := h', toks := t' } := I.un (Un.laid k hp (I.hok.fresh hp)) (I.hok.laid k hp new)
theorem Inv.write {x e : Addr} {o : HO} {t' : Nat} (I : Inv X pins σ H s) (mu : Mut (H x)) (he : e = x ∨ H e = some (.own x)) (k : ∀ b u, b ≠ e → s.heap.get? b = some u → h'.get? b = some u) (heo : ∃ u, h'.get? e = some u)
    (new : ObjOk X.prog X.w (upd H x o) h' x o) : Inv X pins σ (upd H x o) { s with heap := h', toks := t' } := I.un (Un.write mu he k heo) (I.hok.write mu he k heo new)
theorem Inv.pins_of {pins' : List (Addr × Obj)} (I : Inv X pins σ H s) (h : ∀ p ∈ pins', s.heap.get? p.1 = some p.2 ∧ H p.1 = none ∧ p.1 ≠ X.env.locals ∧ p.1 ∉ X.fs ∧ ∀ v, p.2.data ≠ .cell v) : Inv X pins' σ H s :=
  ⟨I.ok, I.os, I.bare, I.base, I.loc, I.cell, I.free, I.freeC, fun p hp => (List.mem_append.mp hp).elim (fun z => I.pin p (List.mem_append_left _ z)) (h p), I.hok, I.len⟩
theorem nodup_ix {N : List Str} (hN : N.Nodup) {i j : Nat} {x : Str} (a : N[i]? = some x) (b : N[j]? = some x) : i = j := by
  obtain ⟨h1, e1⟩ := List.getElem?_eq_some_iff.mp a
  obtain ⟨h2, e2⟩ := List.getElem?_eq_some_iff.mp b
  exact (List.getElem_inj hN).mp (e1.trans e2.symm)
theorem store_ok2 {M : Model} {A : Around} {E : Value → Shared → Prop} {i : Nat} {x : Str} {v : V} {u : Value} {Q : Unit → Shared → Prop} (I : Inv X pins σ H s) (hN : X.N.Nodup) (hi : X.N[i]? = some x) (hx : Loc X.env.scope x) (r : RelV v u)
    (h : ∀ s', Inv X pins (σ.set i (some v)) H s' → (∃ a, Heap.SameBut a s.heap s'.heap ∧ (a = X.env.locals ∨ X.env.cells.lookup x = some a)) → Q () s') (hf : X.fn x = true ∨ X.env.scope.names.lookup x = some .local := by first | exact .inl rfl | exact .inr rfl | assumption) : wpAny M A (storeName X.env x u) Q E s := by
  obtain ⟨m, hn, hl⟩ := id I.loc
  have hcls : (X.env.scope.kind == .class || (X.env.scope.kind == .module && X.env.locals != X.env.globals)) = false := by rw [I.ok.kind]; rfl
  have hiσ : i < σ.length := by rw [I.len]; exact (List.getElem?_eq_some_iff.mp hi).1
  have cne := I.cne
  have tracked : ∀ {a : Addr} {h' : Heap}, (∃ o, s.heap.get? a = some o ∧ H a = none) → Heap.SameBut a s.heap h' → HOk X.prog X.w H h' := fun {a h'} ha hs b ob e => by
    obtain ⟨_, _, hfree⟩ := ha
    refine (I.hok b ob e).stay (fun c w' hc q => (hs.2 c ?_).trans q) (fun _ q => q) fun _ _ q => q
    rintro rfl
    rcases hc with rfl | hc
    · rw [hfree] at e; cases e
    · rw [hfree] at hc; cases hc
  rcases hx with hk | hk
  · refine wpAny_storeName_local hk hn (fun h' hn' hs => ?_) hcls
    obtain ⟨oL, _, _, hoL, _⟩ := id hn
    refine h _ ⟨I.ok, I.os, I.bare, ⟨fun b o e n hb hx => ?_, fun b o e n hb hx => ?_, I.base.free, fun b o e hx => ?_, I.base.tups, I.base.frzs, I.base.tbls⟩, ⟨_, hn', fun j y v' e1 e2 e3 => ?_⟩, fun y c e => ?_, I.free, I.freeC, fun p hp => ?_, tracked ⟨oL, hoL, I.free⟩ hs, by simpa using I.len⟩ ⟨_, hs, .inl rfl⟩
    · exact (hs.2 b (Nat.ne_of_lt (Nat.lt_of_lt_of_le (Heap.lt_size e) I.ok.above))).trans (I.base.keep b o e n hb hx)
    · obtain ⟨sl, e1⟩ := I.base.slot b o e n hb hx
      exact ⟨sl, (hs.2 b (Nat.ne_of_lt (Nat.lt_of_lt_of_le (Heap.lt_size e) I.ok.above))).trans e1⟩
    · obtain ⟨o', e1⟩ := I.base.there b o e hx
      exact ⟨o', (hs.2 b (Nat.ne_of_lt (Nat.lt_of_lt_of_le (Heap.lt_size e) I.ok.above))).trans e1⟩
    · by_cases hj : j = i
      · subst hj
        rw [hi] at e1; cases e1
        rw [List.getElem?_set_self hiσ] at e2
        cases e2
        exact ⟨u, r, .inl ⟨hk, by simp⟩⟩
      · rw [List.getElem?_set_ne (Ne.symm hj)] at e2
        obtain ⟨u', r', q⟩ := hl j y v' e1 e2 e3
        refine ⟨u', r', ?_⟩
        rcases q with ⟨k, e⟩ | ⟨k, c, e, z⟩
        · refine .inl ⟨k, ?_⟩
          have : y ≠ x := fun e => hj (nodup_ix hN e1 (e ▸ hi))
          simp [this, e]
        · exact .inr ⟨k, c, e, z.sameBut hs (cne y c e)⟩
    · obtain ⟨w', z⟩ := I.cell y c e
      exact ⟨w', z.sameBut hs (cne y c e)⟩
    · obtain ⟨e, n, ne, nf, d⟩ := I.pin p hp
      exact ⟨(hs.2 p.1 ne).trans e, n, ne, nf, d⟩
  · have hfn : X.fn x = true := by
      rcases hf with z | z
      · exact z
      · rw [z] at hk; cases hk
    obtain ⟨c, hc⟩ := I.ok.has x (.inl hk)
    obtain ⟨w', z⟩ := I.cell x c hc
    refine wpAny_storeName_cell I.ok.kind hk hc z (fun h' hc' hs => ?_)
    obtain ⟨oc, hoc, hocd⟩ := id z
    refine h { s with heap := h' } ⟨I.ok, I.os, I.bare, ⟨fun b o e n hb hx => ?_, fun b o e n hb hx => ?_, I.base.free, fun b o e hx => ?_, I.base.tups, I.base.frzs, I.base.tbls⟩, ⟨m, hn.sameBut hs (Ne.symm (cne x c hc)), fun j y v' e1 e2 e3 => ?_⟩, fun y c' e => ?_, I.free, I.freeC, fun p hp => ?_, tracked ⟨oc, hoc, I.freeC x c hc⟩ hs, by simpa using I.len⟩ ⟨c, hs, .inr hc⟩
    · exact (hs.2 b (Nat.ne_of_lt (Nat.lt_of_lt_of_le (Heap.lt_size e) (I.ok.cab x c hfn hc)))).trans (I.base.keep b o e n hb hx)
    · obtain ⟨sl, e1⟩ := I.base.slot b o e n hb hx
      exact ⟨sl, (hs.2 b (Nat.ne_of_lt (Nat.lt_of_lt_of_le (Heap.lt_size e) (I.ok.cab x c hfn hc)))).trans e1⟩
    · obtain ⟨o', e1⟩ := I.base.there b o e hx
      exact ⟨o', (hs.2 b (Nat.ne_of_lt (Nat.lt_of_lt_of_le (Heap.lt_size e) (I.ok.cab x c hfn hc)))).trans e1⟩
    · by_cases hj : j = i
      · subst hj
        rw [hi] at e1; cases e1
        rw [List.getElem?_set_self hiσ] at e2
        cases e2
        exact ⟨u, r, .inr ⟨.inl hk, c, hc, hc'⟩⟩
      · rw [List.getElem?_set_ne (Ne.symm hj)] at e2
        obtain ⟨u', r', q⟩ := hl j y v' e1 e2 e3
        refine ⟨u', r', ?_⟩
        rcases q with q | ⟨k, c', e, z'⟩
        · exact .inl q
        · refine .inr ⟨k, c', e, z'.sameBut hs ?_⟩
          rintro rfl
          exact hj (nodup_ix hN e1 (I.ok.inj _ _ _ e hc ▸ hi))
    · by_cases hcc : c' = c
      · subst hcc; exact ⟨_, hc'⟩
      · obtain ⟨w2, z2⟩ := I.cell y c' e
        exact ⟨w2, z2.sameBut hs hcc⟩
    · obtain ⟨e, n, ne, nf, d⟩ := I.pin p hp
      refine ⟨(hs.2 p.1 ?_).trans e, n, ne, nf, d⟩
      intro q
      rw [q, hoc] at e
      have q' : oc = p.2 := Option.some.inj e
      exact d w' (by rw [← q']; exact hocd)
theorem store_ok {M : Model} {A : Around} {E : Value → Shared → Prop} {i : Nat} {x : Str} {v : V} {u : Value} {Q : Unit → Shared → Prop} (I : Inv X pins σ H s) (hN : X.N.Nodup) (hi : X.N[i]? = some x) (hx : Loc X.env.scope x) (r : RelV v u)
    (h : ∀ s', Inv X pins (σ.set i (some v)) H s' → Q () s') (hf : X.fn x = true ∨ X.env.scope.names.lookup x = some .local := by first | exact .inl rfl | exact .inr rfl | assumption) : wpAny M A (storeName X.env x u) Q E s :=
  store_ok2 I hN hi hx r (fun s' I' _ => h s' I') hf
theorem Inv.call' {s' : Shared} {ch : List Addr} (I : Inv X pins σ H s) (ho : s'.os = s.os) (u : Un (frs X.stack) ch H H' s.heap s'.heap) (hok : HOk X.prog X.w H' s'.heap) (hg : AllBare s'.gens)
    (hch : ∀ b ∈ ch, (b ∈ X.ex ∨ X.s₀.heap.objs.size ≤ b) ∧ b ≠ X.env.locals ∧ (∀ x c, X.env.cells.lookup x = some c → c ≠ b) ∧ ∀ p ∈ X.pn ++ pins, p.1 ≠ b) : Inv X pins σ H' s' := by
  obtain ⟨h', g', d', t', o'⟩ := s'
  have e : o' = s.os := ho
  subst e
  exact I.call (g' := g') (t' := t') (d' := d') u hok hg hch
end
abbrev XK := Value → Option Addr → Hp → Prop
abbrev St := List (Option V)
abbrev VK := V → Hp → Prop
abbrev TE := St → Hp → VK → Prop
abbrev TT := St → Hp → (Bool → Hp → Prop) → Prop
abbrev TA := St → Hp → (List V → Hp → Prop) → Prop
structure Ends where
  nx : St → Hp → Prop
  rt : VK
  bk : St → Hp → Prop := fun _ _ => False
  ct : St → Hp → Prop := fun _ _ => False
abbrev TS := Ends → St → Hp → Prop
def EP (X : Cx) (pins : List (Addr × Obj)) (σ : St) (Q : VK) (u : Value) (s' : Shared) : Prop := ∃ v H', Inv X pins σ H' s' ∧ RelV v u ∧ Q v H'
def TP (X : Cx) (pins : List (Addr × Obj)) (σ : St) (Q : Bool → Hp → Prop) (b : Bool) (s' : Shared) : Prop := ∃ H', Inv X pins σ H' s' ∧ Q b H'
def AP (X : Cx) (pins : List (Addr × Obj)) (σ : St) (Q : List V → Hp → Prop) (us : List Value) (s' : Shared) : Prop := ∃ vs H', Inv X pins σ H' s' ∧ Vals vs us ∧ Q vs H'
def SP (X : Cx) (pins : List (Addr × Obj)) (D : Ends) (f : Flow) (s' : Shared) : Prop :=
  match f with
  | .next => ∃ σ' H', Inv X pins σ' H' s' ∧ D.nx σ' H'
  | .brk => ∃ σ' H', Inv X pins σ' H' s' ∧ D.bk σ' H'
  | .cont => ∃ σ' H', Inv X pins σ' H' s' ∧ D.ct σ' H'
  | .ret u => ∃ v σ' H', Inv X pins σ' H' s' ∧ RelV v u ∧ D.rt v H'
def PE (X : Cx) (e : Expr) (t : TE) : Prop :=
  ∀ (pins : List (Addr × Obj)) (s : Shared) (σ : St) (H : Hp) (Q : VK), Inv X pins σ H s → t σ H Q → wpAny (model X.prog X.w) X.A (eval e X.env) (EP X pins σ Q) X.xe s
def PT (X : Cx) (e : Expr) (t : TT) : Prop :=
  ∀ (pins : List (Addr × Obj)) (s : Shared) (σ : St) (H : Hp) (Q : Bool → Hp → Prop), Inv X pins σ H s → t σ H Q → wpAny (model X.prog X.w) X.A (isTrue e X.env (eval e X.env)) (TP X pins σ Q) X.xe s
def PW (X : Cx) (e : Expr) (t : TT) : Prop :=
  ∀ (whole : Sem Value) (pins : List (Addr × Obj)) (s : Shared) (σ : St) (H : Hp) (Q : Bool → Hp → Prop), Inv X pins σ H s → t σ H Q → wpAny (model X.prog X.w) X.A (isTrue e X.env whole) (TP X pins σ Q) X.xe s
theorem PW.pt {X : Cx} {e : Expr} {t : TT} (h : PW X e t) : PT X e t := h _
def PA (X : Cx) (es : List Expr) (t : TA) : Prop :=
  ∀ (pos : Pos) (pins : List (Addr × Obj)) (s : Shared) (σ : St) (H : Hp) (Q : List V → Hp → Prop), Inv X pins σ H s → t σ H Q → wpAny (model X.prog X.w) X.A (spliced (backTo pos (starEach es X.env))) (AP X pins σ Q) X.xe s
def PS (X : Cx) (st : Stmt) (t : TS) : Prop :=
  ∀ (pins : List (Addr × Obj)) (s : Shared) (σ : St) (H : Hp) (D : Ends), Inv X pins σ H s → t D σ H → wpAny (model X.prog X.w) X.A (exec st X.env) (SP X pins D) X.xe s
def PSs (X : Cx) (st : List Stmt) (t : TS) : Prop :=
  ∀ (pins : List (Addr × Obj)) (s : Shared) (σ : St) (H : Hp) (D : Ends), Inv X pins σ H s → t D σ H → wpAny (model X.prog X.w) X.A (execs st X.env) (SP X pins D) X.xe s
theorem thn {α : Type} {t : Sem α} {Q Q' : α → Shared → Prop} {M : Model} {A : Around} {E : Value → Shared → Prop} {s : Shared} (h : wpAny M A t Q E s) (hQ : ∀ a s, Q a s → Q' a s) : wpAny M A t Q' E s := wpAny_mono h hQ fun _ _ x => x
end L2
namespace L2
open PySem PySem.Spec PyProof.Rows
section
variable {X : Cx}
def tVar (i : Nat) : TE := fun σ H Q => ∃ v, σ[i]? = some (some v) ∧ Q v H
def tC (v : V) : TE := fun _ H Q => Q v H
theorem pe_var {i : Nat} {x : Str} {pos : Pos} (hN : X.N[i]? = some x) (hv : Vis X.env.scope x) (hd : (x == ("__debug__" : Str)) = false := by decide) (hcd : (x == ("__classdict__" : Str)) = false := by decide) : PE X (.Name x pos) (tVar i) := by
  intro pins s σ H Q I h
  obtain ⟨v, e, h⟩ := h
  obtain ⟨m, hn, hl⟩ := I.loc
  obtain ⟨u, r, l⟩ := hl i x v hN e hv
  have fin : EP X pins σ Q u s := ⟨v, H, I, r, h⟩
  rcases l with ⟨hk, hm⟩ | ⟨hk, c, hc, hcell⟩
  · exact wpAny_Name (wpAny_loadName_local I.ok.kind hk hn hm fin) hd
  · rcases hk with hk | hk
    · exact wpAny_Name (wpAny_loadName_cell I.ok.kind hk hc hcell fin) hd
    · exact wpAny_Name (wpAny_loadName_free I.ok.kind hk hc hcell fin hcd) hd
theorem pe_int {i j pos} : PE X (.Constant (.int i) j pos) (tC (.int i)) := fun _ _ _ H _ I h => wpAny_Constant_int ⟨.int i, H, I.tok _, ⟨_, rfl⟩, h⟩
theorem pe_bl {b j pos} : PE X (.Constant (.bool b) j pos) (tC (.bl b)) := fun _ _ _ H _ I h => Constant_bool ⟨.bl b, H, I, rfl, h⟩
theorem pe_non {j pos} : PE X (.Constant .none j pos) (tC .non) := fun _ _ _ H _ I h => Constant_none ⟨.non, H, I, rfl, h⟩
theorem pe_str {x j pos} : PE X (.Constant (.str x) j pos) (tC (.str x)) := fun _ _ _ H _ I h => Calls.Constant_str ⟨.str x, H, I.tok _, ⟨_, rfl⟩, h⟩
def Gl (X : Cx) (x : Str) : Prop := X.env.kindOf x = some .globalImplicit
theorem ld_glob {E : Value → Shared → Prop} {pins : List (Addr × Obj)} {s : Shared} {σ : St} {H : Hp} {x : Str} {u : Value} {pos : Pos} {Q : Value → Shared → Prop} (I : Inv X pins σ H s) (hg : Gl X x) (hm : X.mg x = some u) (h : Q u s)
    (hd : (x == ("__debug__" : Str)) = false := by decide) : wpAny (model X.prog X.w) X.A (eval (.Name x pos) X.env) Q E s :=
  Calls.Name_function_global I.ok.kind hg (Calls.loadGlobal_global (by rw [I.ok.glob]; exact I.mod.glob.keeps I.bk) hm h) hd
theorem ld_blt {E : Value → Shared → Prop} {pins : List (Addr × Obj)} {s : Shared} {σ : St} {H : Hp} {x : Str} {u : Value} {pos : Pos} {Q : Value → Shared → Prop} (I : Inv X pins σ H s) (hg : Gl X x) (hm : X.mg x = none) (hv : bootBuiltins x = some u) (h : Q u s)
    (hn : x ≠ "__name__" := by decide) (hd : (x == ("__debug__" : Str)) = false := by decide) : wpAny (model X.prog X.w) X.A (eval (.Name x pos) X.env) Q E s := by
  obtain ⟨mb, h1, h2⟩ := I.mod.blt
  exact Calls.Name_function_global I.ok.kind hg (Calls.loadGlobal_builtin (by rw [I.ok.glob]; exact I.mod.glob.keeps I.bk) hm (by rw [I.ok.blt]; exact h1.keeps I.bk) ((h2 x hn).trans hv) h) hd
theorem pe_glob {x : Str} {v : V} {u : Value} {pos : Pos} (hg : Gl X x) (hm : X.mg x = some u) (r : RelV v u) (hd : (x == ("__debug__" : Str)) = false := by decide) : PE X (.Name x pos) (tC v) :=
  fun _ _ _ H _ I h => ld_glob I hg hm ⟨v, H, I, r, h⟩ hd
theorem pe_bltn {x : Str} {v : V} {u : Value} {pos : Pos} (hg : Gl X x) (hm : X.mg x = none) (hv : bootBuiltins x = some u) (r : RelV v u) (hn : x ≠ "__name__" := by decide) (hd : (x == ("__debug__" : Str)) = false := by decide) : PE X (.Name x pos) (tC v) :=
  fun _ _ _ H _ I h => ld_blt I hg hm hv ⟨v, H, I, r, h⟩ hn hd
variable {a b : Expr} {ta tb : TE} {pos : Pos}
variable {tA tB' : TT} {rest : List Expr}
def tAnd (t u : TT) : TT := fun σ H Q => t σ H fun c H1 => if c = true then u σ H1 Q else Q false H1
def tOr (t u : TT) : TT := fun σ H Q => t σ H fun c H1 => if c = true then Q true H1 else u σ H1 Q
def tNot (t : TT) : TT := fun σ H Q => t σ H fun c H1 => Q (!c) H1
theorem pw_and1 (ha : PT X a tA) : PW X (.BoolOp .And [a] pos) tA := by
  intro wh pins s σ H Q I h
  refine isTrue_and (thn (ha pins s σ H Q I h) fun c s1 e => ?_)
  cases c with
  | true => exact isTrue_and_nil e
  | false => exact e
theorem pw_or1 (ha : PT X a tA) : PW X (.BoolOp .Or [a] pos) tA := by
  intro wh pins s σ H Q I h
  refine isTrue_or (thn (ha pins s σ H Q I h) fun c s1 e => ?_)
  cases c with
  | false => exact isTrue_or_nil e
  | true => exact e
theorem pw_and (ha : PT X a tA) (hb : PW X (.BoolOp .And (b :: rest) pos) tB') : PW X (.BoolOp .And (a :: b :: rest) pos) (tAnd tA tB') := by
  intro wh pins s σ H Q I h
  refine isTrue_and (thn (ha pins s σ H _ I h) fun c s1 ⟨H1, I1, q1⟩ => ?_)
  cases c with
  | true => exact hb wh pins s1 σ H1 Q I1 q1
  | false => exact ⟨H1, I1, q1⟩
theorem pw_or (ha : PT X a tA) (hb : PW X (.BoolOp .Or (b :: rest) pos) tB') : PW X (.BoolOp .Or (a :: b :: rest) pos) (tOr tA tB') := by
  intro wh pins s σ H Q I h
  refine isTrue_or (thn (ha pins s σ H _ I h) fun c s1 ⟨H1, I1, q1⟩ => ?_)
  cases c with
  | true => exact ⟨H1, I1, q1⟩
  | false => exact hb wh pins s1 σ H1 Q I1 q1
theorem pt_not (ha : PT X a tA) : PT X (.UnaryOp .Not a pos) (tNot tA) := by
  intro pins s σ H Q I h
  exact isTrue_not (ha pins s σ H (fun c H1 => Q (!c) H1) I h)
def tAndV (ta tb : TE) : TE := fun σ H Q => ta σ H fun x H1 => ∃ c, x = .bl c ∧ if c = true then tb σ H1 Q else Q (.bl false) H1
def tNotV (ta : TE) : TE := fun σ H Q => ta σ H fun x H1 => ∃ c, x = .bl c ∧ Q (.bl (!c)) H1
theorem pe_one {op} {t : TE} (h : PE X a t) : PE X (.BoolOp op [a] pos) t := fun pins s σ H Q I hw => BoolOp_one (h pins s σ H Q I hw)
theorem pe_and (ha : PE X a ta) (hb : PE X (.BoolOp .And (b :: rest) pos) tb) : PE X (.BoolOp .And (a :: b :: rest) pos) (tAndV ta tb) := by
  intro pins s σ H Q I h
  refine BoolOp_and (thn (ha pins s σ H _ I h) fun v s1 ⟨x, H1, I1, r1, q1⟩ => ?_)
  obtain ⟨c, rfl, q1⟩ := q1
  cases r1
  refine wpAny_truthy_bool ?_
  cases c with
  | true => exact hb pins s1 σ H1 Q I1 q1
  | false => exact ⟨.bl false, H1, I1, rfl, q1⟩
theorem pe_not (ha : PE X a ta) : PE X (.UnaryOp .Not a pos) (tNotV ta) := by
  intro pins s σ H Q I h
  refine UnaryOp_ (thn (ha pins s σ H _ I h) fun v s1 ⟨x, H1, I1, r1, q1⟩ => ?_)
  obtain ⟨c, rfl, q1⟩ := q1
  cases r1
  exact not_of (wpAny_truthy_bool ⟨.bl (!c), H1, I1, rfl, q1⟩)
def tIf (t : TT) (ta tb : TE) : TE := fun σ H Q => t σ H fun c H1 => if c = true then ta σ H1 Q else tb σ H1 Q
theorem pe_ifExp {c : Expr} (hc : PT X c tA) (ha : PE X a ta) (hb : PE X b tb) : PE X (.IfExp c a b pos) (tIf tA ta tb) := by
  intro pins s σ H Q I h
  refine wpAny_IfExp (thn (hc pins s σ H _ I h) fun d s1 ⟨H1, I1, q1⟩ => ?_)
  cases d with
  | true => exact ha pins s1 σ H1 Q I1 q1
  | false => exact hb pins s1 σ H1 Q I1 q1
end
end L2
namespace L2
open PySem PySem.Spec PyProof.Rows
def SqL (K : FG) (H : Hp) (a : Addr) (xs : List V) : Prop :=
  Rd H a (.lst xs) ∨
    ∃ (o : Obj) (its : Array Value) (n : Nat), K.lookup a = some o ∧ o.cls = .type "list" ∧ o.dict = none ∧ o.data = .seq its n ∧ its.size ≤ sizeLine ∧ Vals xs its.toList
def SqT (K : FG) (H : Hp) (a : Addr) (xs : List V) : Prop :=
  Rd H a (.tup xs) ∨
    ∃ (o : Obj) (its : Array Value) (n : Nat), K.lookup a = some o ∧ o.cls = .type "tuple" ∧ o.data = .seq its n ∧ its.size ≤ sizeLine ∧ Vals xs its.toList
def absV : Value → Option V
  | .none => some .non
  | .bool b => some (.bl b)
  | .int i _ => some (.int i)
  | .str x _ => some (.str x)
  | .bytes b _ => some (.byt b)
  | .float b _ => some (.flt b)
  | .ref a => some (.ref a)
  | .type n => some (.ty n)
  | _ => none
theorem RelV.abs {x : V} {u : Value} (r : RelV x u) : absV u = some x := by
  cases x with
  | non => cases r; rfl
  | bl _ => cases r; rfl
  | int _ => obtain ⟨t, rfl⟩ := r; rfl
  | str _ => obtain ⟨t, rfl⟩ := r; rfl
  | byt _ => obtain ⟨t, rfl⟩ := r; rfl
  | flt _ => obtain ⟨t, rfl⟩ := r; rfl
  | ref _ => cases r; rfl
  | ty _ => cases r; rfl
theorem RelV.inj {x y : V} {u : Value} (r : RelV x u) (q : RelV y u) : x = y := Option.some.inj (r.abs.symm.trans q.abs)
theorem Vals.inj : ∀ {xs ys : List V} {us : List Value}, Vals xs us → Vals ys us → xs = ys
  | _, _, _, .nil, .nil => rfl
  | _, _, _, .cons r t, .cons r' t' => by rw [r.inj r', Vals.inj t t']
section
variable {X : Cx} {pins : List (Addr × Obj)} {σ : St} {H : Hp} {s : Shared} {a : Addr} {xs ys : List V}
theorem SqL.of {K : FG} (h : H a = some (.lst xs)) : SqL K H a xs := .inl (.inl h)
theorem SqT.of {K : FG} (h : H a = some (.tup xs)) : SqT K H a xs := .inl (.inl h)
theorem Inv.list (I : Inv X pins σ H s) (h : SqL X.K H a xs) : ∃ its : List Value, Vals xs its ∧ PlainL s.heap a its.toArray ∧ xs.length ≤ sizeLine := by
  rcases h with h | ⟨o, its, n, hk, hc, hd, hs, hz, r⟩
  · obtain ⟨z, its, n, r, e⟩ := h.ok I.hok
    exact ⟨its, r, ⟨_, n, e, rfl, rfl, rfl⟩, z⟩
  · refine ⟨its.toList, r, ⟨o, n, I.kIn a o hk, hc, hd, by simpa using hs⟩, ?_⟩
    have e := r.length
    simp only [Array.length_toList] at e
    omega
theorem Inv.tuple (I : Inv X pins σ H s) (h : SqT X.K H a xs) : ∃ its : List Value, Vals xs its ∧ IsTup s.heap a its.toArray ∧ xs.length ≤ sizeLine := by
  rcases h with h | ⟨o, its, n, hk, hc, hs, hz, r⟩
  · obtain ⟨z, its, r, p⟩ := h.ok I.hok
    exact ⟨its, r, p, z⟩
  · refine ⟨its.toList, r, ⟨o, I.kIn a o hk, hc, n, by simpa using hs⟩, ?_⟩
    have e := r.length
    simp only [Array.length_toList] at e
    omega
theorem Inv.list_inj (I : Inv X pins σ H s) (h : SqL X.K H a xs) (h' : SqL X.K H a ys) : xs = ys := by
  obtain ⟨its, r, ⟨o, n, e, _, _, d⟩, _⟩ := I.list h
  obtain ⟨its', r', ⟨o', n', e', _, _, d'⟩, _⟩ := I.list h'
  rw [e] at e'; cases e'
  rw [d] at d'
  injection d' with d1 _
  have : its = its' := by simpa using congrArg Array.toList d1
  subst this
  exact r.inj r'
theorem Inv.tuple_inj (I : Inv X pins σ H s) (h : SqT X.K H a xs) (h' : SqT X.K H a ys) : xs = ys := by
  obtain ⟨its, r, ⟨o, e, _, n, d⟩, _⟩ := I.tuple h
  obtain ⟨its', r', ⟨o', e', _, n', d'⟩, _⟩ := I.tuple h'
  rw [e] at e'; cases e'
  rw [d] at d'
  injection d' with d1 _
  have : its = its' := by simpa using congrArg Array.toList d1
  subst this
  exact r.inj r'
end
section
variable {X : Cx} {pins : List (Addr × Obj)} {σ : St} {H : Hp} {s : Shared} {E : Value → Shared → Prop}
end
section
variable {X : Cx} {st : Stmt} {rest : List Stmt} {t u : TS} {e : Expr} {te : TE} {pos : Pos}
def tNext : TS := fun D σ H => D.nx σ H
def tSeq (t u : TS) : TS := fun D σ H => t { D with nx := u D } σ H
theorem pss_nil : PSs X [] tNext := fun _ _ σ H _ I h => wpAny_execs_nil ⟨σ, H, I, h⟩
theorem pss_cons (h1 : PS X st t) (h2 : PSs X rest u) : PSs X (st :: rest) (tSeq t u) := by
  intro pins s σ H D I h
  refine wpAny_execs_cons (thn (h1 pins s σ H { D with nx := u D } I h) fun f s1 q => ?_)
  cases f with
  | next =>
    obtain ⟨σ', H', I', q⟩ := q
    exact h2 pins s1 σ' H' D I' q
  | ret v => exact q
  | brk => exact q
  | cont => exact q
theorem pss_one (h1 : PS X st t) : PSs X [st] t := by
  intro pins s σ H D I h
  refine wpAny_execs_cons (thn (h1 pins s σ H D I h) fun f s1 q => ?_)
  cases f with
  | next => exact wpAny_execs_nil q
  | ret v => exact q
  | brk => exact q
  | cont => exact q
theorem Inv.quiet {pins : List (Addr × Obj)} {σ : St} {H : Hp} {s : Shared} (I : Inv X pins σ H s) : interactive X.env = false := by simp [interactive, I.ok.kind]
def tDrop (te : TE) : TS := fun D σ H => te σ H fun _ H1 => D.nx σ H1
theorem ps_expr (he : PE X e te) (hs : swapsWith e none pos.line X.env = pure false := by rfl) : PS X (.Expr e pos) (tDrop te) := by
  intro pins s σ H D I h
  exact wpAny_Expr_any (thn (he pins s σ H _ I h) fun v s1 ⟨x, H1, I1, r1, q1⟩ => ⟨σ, H1, I1, q1⟩) I.quiet hs
def tRet (te : TE) : TS := fun D σ H => te σ H D.rt
theorem ps_ret (he : PE X e te) : PS X (.Return (some e) pos) (tRet te) := by
  intro pins s σ H D I h
  exact wpAny_Return_some (thn (he pins s σ H _ I h) fun v s1 ⟨x, H1, I1, r1, q1⟩ => ⟨x, σ, H1, I1, r1, q1⟩)
def tIfS (c : TT) (t u : TS) : TS := fun D σ H => c σ H fun b H1 => if b = true then t D σ H1 else u D σ H1
theorem ps_if {c : Expr} {a b : List Stmt} {tc : TT} (hc : PT X c tc) (ha : PSs X a t) (hb : PSs X b u) : PS X (.If c a b pos) (tIfS tc t u) := by
  intro pins s σ H D I h
  refine wpAny_If (thn (hc pins s σ H _ I h) fun d s1 ⟨H1, I1, q1⟩ => ?_)
  cases d with
  | true => exact ha pins s1 σ H1 D I1 q1
  | false => exact hb pins s1 σ H1 D I1 q1
end
abbrev TG := V → St → Hp → (St → Hp → Prop) → Prop
abbrev TGs := List V → St → Hp → (St → Hp → Prop) → Prop
def PG (X : Cx) (target : Expr) (t : TG) : Prop :=
  ∀ (pins : List (Addr × Obj)) (s : Shared) (σ : St) (H : Hp) (v : V) (u : Value) (Q : St → Hp → Prop), Inv X pins σ H s → RelV v u → t v σ H Q →
    wpAny (model X.prog X.w) X.A (assign target X.env u) (fun _ s' => ∃ σ' H', Inv X pins σ' H' s' ∧ Q σ' H') X.xe s
def PGs (X : Cx) (ts : List Expr) (t : TGs) : Prop :=
  ∀ (pins : List (Addr × Obj)) (s : Shared) (σ : St) (H : Hp) (vs : List V) (us : List Value) (Q : St → Hp → Prop), Inv X pins σ H s → Vals vs us → t vs σ H Q →
    wpAny (model X.prog X.w) X.A (assignInOrder ((assignEach ts X.env).map (·.2)) us) (fun _ s' => ∃ σ' H', Inv X pins σ' H' s' ∧ Q σ' H') X.xe s
abbrev TSet := V → V → V → Hp → (Hp → Prop) → Prop
def PSet (X : Cx) (t : TSet) : Prop :=
  ∀ (pins : List (Addr × Obj)) (s : Shared) (σ : St) (H : Hp) (o i v : V) (ov iv u : Value) (Q : Hp → Prop), Inv X pins σ H s → RelV o ov → RelV i iv → RelV v u → t o i v H Q →
    wpAny (model X.prog X.w) X.A (setItem ov iv u) (fun _ s' => ∃ H', Inv X pins σ H' s' ∧ Q H') X.xe s
abbrev TIp := V → V → Hp → VK → Prop
def PIp (X : Cx) (op : Operator) (t : TIp) : Prop :=
  ∀ (pins : List (Addr × Obj)) (s : Shared) (σ : St) (H : Hp) (x y : V) (v u : Value) (Q : VK), Inv X pins σ H s → RelV x v → RelV y u → t x y H Q →
    wpAny (model X.prog X.w) X.A (inplaceOp op v u) (EP X pins σ Q) X.xe s
section
variable {X : Cx} {pos : Pos}
def gName (i : Nat) : TG := fun v σ H Q => Q (σ.set i (some v)) H
theorem pg_name {i : Nat} {x : Str} (hN : X.N.Nodup) (hi : X.N[i]? = some x) (hx : Loc X.env.scope x) (hf : X.fn x = true ∨ X.env.scope.names.lookup x = some .local := by first | exact .inl rfl | exact .inr rfl | assumption) : PG X (.Name x pos) (gName i) := by
  intro pins s σ H v u Q I r h
  exact wpAny_assign_Name (store_ok I hN hi hx r (fun s' I' => ⟨_, H, I', h⟩) hf)
def gNil : TGs := fun vs σ H Q => vs = [] ∧ Q σ H
def gCons (t : TG) (u : TGs) : TGs := fun vs σ H Q => ∃ v r, vs = v :: r ∧ t v σ H fun σ' H' => u r σ' H' Q
theorem pgs_nil : PGs X [] gNil := by
  intro pins s σ H vs us Q I r h
  obtain ⟨e, h⟩ := h
  subst e
  cases r
  exact assignInOrder_nil ⟨σ, H, I, h⟩
theorem pgs_cons {e : Expr} {es : List Expr} {t : TG} {u : TGs} (h1 : PG X e t) (h2 : PGs X es u)
    (hs : (assignEach (e :: es) X.env).map (·.2) = assign e X.env :: (assignEach es X.env).map (·.2) := by rfl) : PGs X (e :: es) (gCons t u) := by
  intro pins s σ H vs us Q I r h
  obtain ⟨v, vr, e1, h⟩ := h
  subst e1
  cases r with
  | cons r rr =>
    rw [hs]
    refine assignInOrder_cons (thn (h1 pins s σ H _ _ _ I r h) fun _ s1 ⟨σ1, H1, I1, q1⟩ => ?_)
    exact h2 pins s1 σ1 H1 _ _ Q I1 rr q1
def gTup (K : FG) (n : Nat) (t : TGs) : TG := fun v σ H Q => ∃ a xs, v = .ref a ∧ SqT K H a xs ∧ xs.length = n ∧ t xs σ H Q
theorem pg_tup {es : List Expr} {k : Nat} {t : TGs} {n : Nat} (hc : X.calm = true) (h : PGs X es t)
    (hn : (assignEach es X.env).length = n := by rfl) (hst : (assignEach es X.env).findIdx? (·.1) = none := by rfl) : PG X (.Tuple es k pos) (gTup X.K n t) := by
  intro pins s σ H v u Q I r hw
  obtain ⟨a, xs, e1, hq, hl, hw⟩ := hw
  subst e1
  cases r
  obtain ⟨its, rv, ht, hz⟩ := I.tuple hq
  refine assign_Tuple_tuple (I.ok.hd hc) ht (by simp [hn, ← hl, rv.length]) hst fun h' hx => ?_
  have I1 : Inv X pins σ H { s with heap := h' } := I.kept (t' := s.toks) fun b o e => hx b o (Nat.ne_of_lt (Heap.lt_size e)) e
  exact h pins _ σ H xs _ Q I1 (by simpa using rv) hw
def gSub (to ti : TE) (t : TSet) : TG := fun v σ H Q => to σ H fun o H1 => ti σ H1 fun i H2 => t o i v H2 fun H3 => Q σ H3
theorem pg_sub {o i : Expr} {to ti : TE} {t : TSet} (ho : PE X o to) (hi : PE X i ti) (hs : PSet X t)
    (ha : ∀ v, assign (.Subscript o i pos) X.env v = (do
      let ov ← holding [v] (eval o X.env)
      let iv ← holding [v, ov] (eval i X.env)
      standAt pos
      holding [v, ov, iv] (setItem ov iv v)
      release [v, ov, iv] []) := by intro _; rfl) : PG X (.Subscript o i pos) (gSub to ti t) := by
  intro pins s σ H v u Q I r h
  rw [ha]
  refine wpAny_bind (wpAny_holding (thn (ho pins s σ H _ I h) fun ov s1 ⟨x, H1, I1, r1, q1⟩ => ?_))
  refine wpAny_bind (wpAny_holding (thn (hi pins s1 σ H1 _ I1 q1) fun iv s2 ⟨y, H2, I2, r2, q2⟩ => ?_))
  refine wpAny_bind (wpAny_standAt (wpAny_bind (wpAny_holding (thn (hs pins s2 σ H2 x y v ov iv u _ I2 r1 r2 r q2) fun _ s3 ⟨H3, I3, q3⟩ => ?_))))
  exact wpAny_release ⟨σ, H3, I3, q3⟩
def tAsg (te : TE) (g : TG) : TS := fun D σ H => te σ H fun x H1 => g x σ H1 D.nx
theorem ps_asg {tg e : Expr} {te : TE} {g : TG} (he : PE X e te) (hg : PG X tg g) (hs : swapsWithSole [tg] e pos.line X.env = pure false := by rfl) (hw : swappedStores [tg] e X.env = pure none := by rfl)
    (h1 : (assignEach [tg] X.env).map (·.2) = [assign tg X.env] := by rfl) : PS X (.Assign [tg] e pos) (tAsg te g) := by
  intro pins s σ H D I h
  refine wpAny_Assign_stores (thn (he pins s σ H _ I h) fun v s1 ⟨x, H1, I1, r1, q1⟩ => ?_) hs hw
  rw [h1]
  exact thn (hg pins s1 σ H1 x v _ I1 r1 q1) fun _ s2 q => q
theorem ps_set {i : Nat} {x : Str} {e : Expr} {te : TE} {pos' : Pos} (hN : X.N.Nodup) (hi : X.N[i]? = some x) (hx : Loc X.env.scope x) (he : PE X e te) (hs : swapsWith e (some (.Name x pos')) pos.line X.env = pure false := by rfl) (hf : X.fn x = true ∨ X.env.scope.names.lookup x = some .local := by first | exact .inl rfl | exact .inr rfl | assumption) :
    PS X (.Assign [.Name x pos'] e pos) (tAsg te (gName i)) := by
  intro pins s σ H D I h
  refine wpAny_Assign_Name (thn (he pins s σ H _ I h) fun v s1 ⟨y, H1, I1, r1, q1⟩ => ?_) hs
  exact store_ok I1 hN hi hx r1 (fun s2 I2 => ⟨_, H1, I2, q1⟩) hf
def tAugS (to ti te : TE) (tget : V → V → Hp → VK → Prop) (tip : TIp) (tset : TSet) : TS := fun D σ H => to σ H fun o H1 => ti σ H1 fun i H2 => tget o i H2 fun x H3 => te σ H3 fun y H4 => tip x y H4 fun z H5 => tset o i z H5 fun H6 => D.nx σ H6
def PGet (X : Cx) (t : V → V → Hp → VK → Prop) : Prop :=
  ∀ (pins : List (Addr × Obj)) (s : Shared) (σ : St) (H : Hp) (o i : V) (ov iv : Value) (Q : VK), Inv X pins σ H s → RelV o ov → RelV i iv → t o i H Q →
    wpAny (model X.prog X.w) X.A (getItem ov iv) (EP X pins σ Q) X.xe s
theorem ps_augS {o i e : Expr} {to ti te : TE} {tget : V → V → Hp → VK → Prop} {tip : TIp} {tset : TSet} {op : Operator} {tpos : Pos} (ho : PE X o to) (hi : PE X i ti) (hg : PGet X tget) (he : PE X e te) (hp : PIp X op tip) (hs : PSet X tset)
    (ha : ∀ ov iv new, augStore i ov iv new = (do holding [new, ov, iv] (setItem ov iv new); release [new, ov, iv] []; pure .next) := by intros; rfl) : PS X (.AugAssign (.Subscript o i tpos) op e pos) (tAugS to ti te tget tip tset) := by
  intro pins s σ H D I h
  refine wpAny_AugAssign_SubscriptAny (thn (ho pins s σ H _ I h) fun ov s1 ⟨x1, H1, I1, r1, q1⟩ => ?_) ha
  refine thn (hi pins s1 σ H1 _ I1 q1) fun iv s2 ⟨x2, H2, I2, r2, q2⟩ => ?_
  refine thn (hg pins s2 σ H2 x1 x2 ov iv _ I2 r1 r2 q2) fun old s3 ⟨x3, H3, I3, r3, q3⟩ => ?_
  refine thn (he pins s3 σ H3 _ I3 q3) fun v s4 ⟨x4, H4, I4, r4, q4⟩ => ?_
  refine thn (hp pins s4 σ H4 x3 x4 old v _ I4 r3 r4 q4) fun new s5 ⟨x5, H5, I5, r5, q5⟩ => ?_
  exact thn (hs pins s5 σ H5 x1 x2 x5 ov iv new _ I5 r1 r2 r5 q5) fun _ s6 ⟨H6, I6, q6⟩ => ⟨σ, H6, I6, q6⟩
def ipI (f : Int → Int → Int) : TIp := fun x y H Q => ∃ i j, x = .int i ∧ y = .int j ∧ Q (.int (f i j)) H
theorem ip_add : PIp X .Add (ipI fun i j => i + j) := by
  intro pins s σ H x y v u Q I r1 r2 h
  obtain ⟨i, j, e1, e2, q⟩ := h
  subst e1; subst e2
  obtain ⟨t, rfl⟩ := r1
  obtain ⟨t', rfl⟩ := r2
  exact iadd_int ⟨.int _, H, I.tok _, ⟨_, rfl⟩, q⟩
end
section
variable {X : Cx} {pos : Pos}
def tWhile (c : TT) (tb : TS) : TS := fun D σ H => ∃ W : Nat → St → Hp → Prop, (∃ m, W m σ H) ∧ ∀ m σ H, W m σ H →
  c σ H fun b H1 => if b = true then ∃ N : St → Hp → Prop, (∀ σ' H', N σ' H' → ∃ m', m' < m ∧ W m' σ' H') ∧ tb { D with nx := N, ct := N, bk := D.nx } σ H1 else D.nx σ H1
theorem ps_while {c : Expr} {body : List Stmt} {tc : TT} {tb : TS} (hp : PassesOwn (model X.prog X.w) X.A X.env X.xe) (hc : PT X c tc) (hb : PSs X body tb) : PS X (.While c body [] pos) (tWhile tc tb) := by
  intro pins s σ H D I h
  obtain ⟨W, ⟨m0, w0⟩, turn⟩ := h
  refine wpAny_While (codeAny_whileLoop (fun n s' => ∃ σ' H', Inv X pins σ' H' s' ∧ W n σ' H') ?_ m0 ⟨σ, H, I, w0⟩)
  rintro n s1 ⟨σ1, H1, I1, w1⟩
  refine wpAny_passesOwn hp (thn (hc pins s1 σ1 H1 _ I1 (turn n σ1 H1 w1)) fun b s2 ⟨H2, I2, q2⟩ => ?_)
  cases b with
  | true =>
    obtain ⟨N, hN, q2⟩ := q2
    rw [if_pos rfl]
    refine wpAny_passesOwn hp (thn (hb pins s2 σ1 H2 _ I2 q2) fun f s3 q3 => ?_)
    cases f with
    | next =>
      obtain ⟨σ3, H3, I3, n3⟩ := q3
      obtain ⟨m', hm, w3⟩ := hN σ3 H3 n3
      exact ⟨m', hm, σ3, H3, I3, w3⟩
    | cont =>
      obtain ⟨σ3, H3, I3, n3⟩ := q3
      obtain ⟨m', hm, w3⟩ := hN σ3 H3 n3
      exact ⟨m', hm, σ3, H3, I3, w3⟩
    | brk => exact q3
    | ret v => exact q3
  | false =>
    rw [if_neg Bool.false_ne_true]
    exact wpAny_execs_nil ⟨σ1, H2, I2, q2⟩
end
structure It where
  go : Nat → Hp → Prop
  yld : Nat → Hp → V → Hp → Prop
  stop : Nat → Hp → Prop
def FpOk (X : Cx) (pins : List (Addr × Obj)) (H : Hp) (b : Addr) : Prop :=
  H b = none ∧ b ≠ X.env.locals ∧ b ∉ X.fs ∧ (b ∈ X.ex ∨ X.s₀.heap.objs.size ≤ b) ∧ (∀ x c, X.env.cells.lookup x = some c → c ≠ b) ∧ ∀ p ∈ X.pn ++ pins, p.1 ≠ b
theorem Inv.fpOk {X : Cx} {pins : List (Addr × Obj)} {σ : St} {H H' : Hp} {s : Shared} {b : Addr} (I : Inv X pins σ H s) (hb : s.heap.objs.size ≤ b) (hn : H' b = none) : FpOk X pins H' b := by
  refine ⟨hn, Nat.ne_of_gt (Nat.lt_of_lt_of_le I.lt hb), I.nofs hb, .inr (Nat.le_trans I.sz hb), fun x c e z => ?_, fun p hp z => ?_⟩
  · obtain ⟨v, q⟩ := I.cell x c e
    exact absurd (Nat.lt_of_lt_of_le q.lt (by rw [z]; exact hb)) (Nat.lt_irrefl _)
  · exact absurd (Nat.lt_of_lt_of_le (Heap.lt_size (I.pin p hp).1) (by rw [z]; exact hb)) (Nat.lt_irrefl _)
structure Turn (P : Program) (w : World) (K : FG) (tg : Expr) (J : It) (fp : List Addr) (it : Addr) (tn : Nat → Heap → Prop) : Prop where
  mem : it ∈ fp
  obj : ∀ i h, tn i h → ∀ b ∈ fp, ∃ o, h.get? b = some o ∧ ∀ v, o.data ≠ .cell v
  keep : ∀ i h h', tn i h → (∀ b ∈ fp, ∀ o, h.get? b = some o → h'.get? b = some o) → tn i h'
  item : ∀ (X : Cx), X.prog = P → X.w = w → X.K = K → X.calm = true → ∀ (i : Nat) (pins : List (Addr × Obj)) (s : Shared) (σ : St) (H : Hp) (E : Value → Shared → Prop), Inv X pins σ H s → (∀ b ∈ fp, FpOk X pins H b) → tn i s.heap → J.go i H →
    wpAny (model P w) X.A (pyNext (.ref it)) (fun r s1 => ∃ u, r = some u ∧
      wpAny (model P w) X.A (letOwnedTupleGo tg (.ref it) u) (fun _ s2 => ∃ x H', Inv X pins σ H' s2 ∧ RelV x u ∧ J.yld i H x H' ∧ tn (i + 1) s2.heap ∧ ∀ b ∈ fp, H' b = none) E s1) E s
  done : ∀ (X : Cx), X.prog = P → X.w = w → X.K = K → X.calm = true → ∀ (i : Nat) (pins : List (Addr × Obj)) (s : Shared) (σ : St) (H : Hp) (E : Value → Shared → Prop), Inv X pins σ H s → (∀ b ∈ fp, FpOk X pins H b) → tn i s.heap → J.stop i H →
    wpAny (model P w) X.A (pyNext (.ref it)) (fun r s1 => r = none ∧ Inv X pins σ H s1) E s
  self : ∀ (A : Around) (i : Nat) (s : Shared) (Q : Value → Shared → Prop) (E : Value → Shared → Prop), tn i s.heap → Q (.ref it) s → wpAny (model P w) A (pyIter (.ref it)) Q E s
abbrev TI := St → Hp → (It → Hp → Prop) → Prop
def PIE (X : Cx) (pins : List (Addr × Obj)) (σ : St) (tg : Expr) (R : It → Hp → Prop) (itv : Value) (s2 : Shared) : Prop :=
  ∃ (it : Addr) (fp : List Addr) (tn : Nat → Heap → Prop) (J : It) (H' : Hp), itv = .ref it ∧ Inv X pins σ H' s2 ∧ Turn X.prog X.w X.K tg J fp it tn ∧ tn 0 s2.heap ∧ (∀ b ∈ fp, FpOk X pins H' b) ∧ R J H'
def PI (X : Cx) (tg iter : Expr) (wi : TI) : Prop :=
  ∀ (pins : List (Addr × Obj)) (s : Shared) (σ : St) (H : Hp) (R : It → Hp → Prop), Inv X pins σ H s → wi σ H R →
    wpAny (model X.prog X.w) X.A (eval iter X.env) (fun v s1 => wpAny (model X.prog X.w) X.A (pyIter v) (PIE X pins σ tg R) X.xe s1) X.xe s
theorem go_of {M : Model} {A : Around} {E : Value → Shared → Prop} {s : Shared} {tg : Expr} {it : Addr} {u : Value} {o : Obj} {n : String} {vs : Array Value} {Q : Unit → Shared → Prop} (ho : s.heap.get? it = some o) (hc : o.cls = .type n) (hd : o.data = .fields vs)
    (hn : ["enumerate", "zip", "dict_itemiterator", "dict_reverseitemiterator", "odict_iterator", "itertools.zip_longest", "itertools.pairwise"].contains n = false) (hQ : Q () s) : wpAny M A (letOwnedTupleGo tg (.ref it) u) Q E s := by
  unfold letOwnedTupleGo
  cases tg <;> first
    | exact wpAny_pure hQ
    | (cases u <;> first
        | exact wpAny_pure hQ
        | (refine wpAny_bind (wpAny_load ho ?_)
           rw [hc, hd]
           show wpAny M A (if (["enumerate", "zip", "dict_itemiterator", "dict_reverseitemiterator", "odict_iterator", "itertools.zip_longest", "itertools.pairwise"].contains n && vs[0]? == some (rawInt _)) = true then _ else _) Q E s
           rw [if_neg (by intro h; rw [hn, Bool.false_and] at h; cases h)]
           exact wpAny_pure hQ))
def Itl (K : FG) (a : Addr) : It :=
  ⟨fun i H => ∃ xs x, SqL K H a xs ∧ xs[i]? = some x, fun i H x H' => H' = H ∧ ∀ xs, SqL K H a xs → xs[i]? = some x, fun i H => ∃ xs, SqL K H a xs ∧ xs.length ≤ i⟩
def Itt (K : FG) (a : Addr) : It :=
  ⟨fun i H => ∃ xs x, SqT K H a xs ∧ xs[i]? = some x, fun i H x H' => H' = H ∧ ∀ xs, SqT K H a xs → xs[i]? = some x, fun i H => ∃ xs, SqT K H a xs ∧ xs.length ≤ i⟩
def Itr (lo : Int) (n : Nat) : It := ⟨fun i _ => i < n, fun i H x H' => H' = H ∧ x = .int (lo + i), fun i _ => n ≤ i⟩
theorem turn_list {P : Program} {w : World} {K : FG} {tg : Expr} (a it : Addr) : Turn P w K tg (Itl K a) [it] it (fun i h => h.IsListIter it a i) where
  mem := by simp
  obj := fun i h st b hb => by
    have e : b = it := by simpa using hb
    subst e
    obtain ⟨o, e, c, d⟩ := st
    exact ⟨o, e, fun v z => by rw [d] at z; cases z⟩
  keep := fun i h h' st k => st.at fun o e => k it (by simp) o e
  item := by
    intro X hP hw hK hc i pins s σ H E I hf st hg
    subst hP hw hK
    obtain ⟨xs, x, hq, hx⟩ := hg
    obtain ⟨its, rv, p, hz⟩ := I.list hq
    obtain ⟨u, hu, ru⟩ := rv.get hx
    obtain ⟨f0, f1, f2, f3, f4, f5⟩ := hf it (by simp)
    refine wpAny_pyNext_list_item st p.isList (x := u) (by simpa using hu) fun h' st' sb => ?_
    have I1 : Inv X pins σ H { s with heap := h' } := I.turned (t' := s.toks) (fun b o hb e => (sb.2 b hb).trans e) f0 f1 f3 f4 f5
    obtain ⟨o, e, c, d⟩ := id st'
    exact ⟨u, rfl, go_of (s := { s with heap := h' }) e c d (by decide) ⟨x, H, I1, ru, ⟨rfl, fun ys hy => by rw [I.list_inj hy hq]; exact hx⟩, st', fun b hb => (hf b hb).1⟩⟩
  done := by
    intro X hP hw hK hc i pins s σ H E I hf st hg
    subst hP hw hK
    obtain ⟨xs, hq, hx⟩ := hg
    obtain ⟨its, rv, p, hz⟩ := I.list hq
    obtain ⟨f0, f1, f2, f3, f4, f5⟩ := hf it (by simp)
    have hl := rv.length
    exact wpAny_pyNext_list_end (I.ok.hd hc) st p.isList (by simp; omega) fun h' eb => ⟨rfl, I.turned (t' := s.toks) (fun b o hb e => eb b o hb e) f0 f1 f3 f4 f5⟩
  self := fun _ _ _ _ _ st h => wpAny_pyIter_listiter st h
theorem turn_tuple {P : Program} {w : World} {K : FG} {tg : Expr} (a it : Addr) : Turn P w K tg (Itt K a) [it] it (fun i h => h.IsTupleIter it a i) where
  mem := by simp
  obj := fun i h st b hb => by
    have e : b = it := by simpa using hb
    subst e
    obtain ⟨o, e, c, d⟩ := st
    exact ⟨o, e, fun v z => by rw [d] at z; cases z⟩
  keep := fun i h h' st k => st.at fun o e => k it (by simp) o e
  item := by
    intro X hP hw hK hc i pins s σ H E I hf st hg
    subst hP hw hK
    obtain ⟨xs, x, hq, hx⟩ := hg
    obtain ⟨its, rv, p, hz⟩ := I.tuple hq
    obtain ⟨u, hu, ru⟩ := rv.get hx
    obtain ⟨f0, f1, f2, f3, f4, f5⟩ := hf it (by simp)
    refine wpAny_pyNext_tuple_item st (show s.heap.IsTuple a its.toArray from p) (x := u) (by simpa using hu) fun h' st' sb => ?_
    have I1 : Inv X pins σ H { s with heap := h' } := I.turned (t' := s.toks) (fun b o hb e => (sb.2 b hb).trans e) f0 f1 f3 f4 f5
    obtain ⟨o, e, c, d⟩ := id st'
    exact ⟨u, rfl, go_of (s := { s with heap := h' }) e c d (by decide) ⟨x, H, I1, ru, ⟨rfl, fun ys hy => by rw [I.tuple_inj hy hq]; exact hx⟩, st', fun b hb => (hf b hb).1⟩⟩
  done := by
    intro X hP hw hK hc i pins s σ H E I hf st hg
    subst hP hw hK
    obtain ⟨xs, hq, hx⟩ := hg
    obtain ⟨its, rv, p, hz⟩ := I.tuple hq
    obtain ⟨f0, f1, f2, f3, f4, f5⟩ := hf it (by simp)
    have hl := rv.length
    exact wpAny_pyNext_tuple_end (I.ok.hd hc) st (show s.heap.IsTuple a its.toArray from p) (by simp; omega) fun h' eb => ⟨rfl, I.turned (t' := s.toks) (fun b o hb e => eb b o hb e) f0 f1 f3 f4 f5⟩
  self := fun _ _ _ _ _ st h => wpAny_pyIter_tupleiter st h
theorem turn_range {P : Program} {w : World} {K : FG} {tg : Expr} (it : Addr) (lo : Int) (n : Nat) : Turn P w K tg (Itr lo n) [it] it (fun i h => IsRangeIter h it (lo + (i : Nat) * 1) ((n : Int) - (i : Nat)) 1) where
  mem := by simp
  obj := fun i h st b hb => by
    have e : b = it := by simpa using hb
    subst e
    exact ⟨_, st, fun v z => by
      have z' : Data.fields _ = Data.cell v := z
      cases z'⟩
  keep := fun i h h' st k => k it (by simp) _ st
  item := by
    intro X hP hw hK hc i pins s σ H E I hf st hg
    subst hP hw hK
    obtain ⟨f0, f1, f2, f3, f4, f5⟩ := hf it (by simp)
    have W := Walks.range (prog := X.prog) (w := X.w) (I.ok.hd hc) it lo 1 n
    refine W.item i s _ _ hg st fun v h' tk hv st' kk => ?_
    obtain ⟨t, rfl⟩ := hv
    have I1 : Inv X pins σ H { s with heap := h', toks := tk } := I.turned (fun b o hb e => kk b o (by simpa using hb) e) f0 f1 f3 f4 f5
    refine ⟨_, rfl, go_of (s := { s with heap := h', toks := tk }) (n := "range_iterator") st' rfl rfl (by decide) ⟨.int (lo + i), H, I1, ⟨t, ?_⟩, ⟨rfl, rfl⟩, st', fun b hb => (hf b hb).1⟩⟩
    rw [Int.mul_one]
  done := by
    intro X hP hw hK hc i pins s σ H E I hf st hg
    subst hP hw hK
    obtain ⟨f0, f1, f2, f3, f4, f5⟩ := hf it (by simp)
    exact wpAny_pyNext_range_end (I.ok.hd hc) st (by have : n ≤ i := hg; omega) fun h' eb => ⟨rfl, I.turned (t' := s.toks) (fun b o hb e => eb b o hb e) f0 f1 f3 f4 f5⟩
  self := fun _ _ _ _ _ st h => wpAny_pyIter_rangeiter st h
end L2
namespace L2
open PySem PySem.Spec PyProof.Rows
section
variable {X : Cx} {tg : Expr}
def iList (K : FG) (tl : TE) : TI := fun σ H R => tl σ H fun x H1 => ∃ a, x = .ref a ∧ (∃ xs, SqL K H1 a xs) ∧ R (Itl K a) H1
def iTup (K : FG) (tl : TE) : TI := fun σ H R => tl σ H fun x H1 => ∃ a, x = .ref a ∧ (∃ xs, SqT K H1 a xs) ∧ R (Itt K a) H1
theorem pi_list {l : Expr} {tl : TE} (hl : PE X l tl) : PI X tg l (iList X.K tl) := by
  intro pins s σ H R I h
  refine thn (hl pins s σ H _ I h) fun v s1 ⟨x, H1, I1, r1, q1⟩ => ?_
  obtain ⟨a, e, ⟨xs, hq⟩, q⟩ := q1
  subst e
  cases r1
  obtain ⟨its, rv, p, hz⟩ := I1.list hq
  refine wpAny_pyIter_list p.isList ?_
  refine ⟨s1.heap.objs.size, [s1.heap.objs.size], _, _, H1, rfl, I1.kept (t' := s1.toks) fun b o e => Heap.get?_push_of_some _ e, turn_list a _, ⟨_, Heap.get?_push_size _ rfl, rfl, rfl⟩, fun b hb => ?_, q⟩
  have e : b = s1.heap.objs.size := by simpa using hb
  subst e
  exact I1.fpOk (Nat.le_refl _) (I1.hok.fresh (Nat.le_refl _))
theorem pi_tup {l : Expr} {tl : TE} (hl : PE X l tl) : PI X tg l (iTup X.K tl) := by
  intro pins s σ H R I h
  refine thn (hl pins s σ H _ I h) fun v s1 ⟨x, H1, I1, r1, q1⟩ => ?_
  obtain ⟨a, e, ⟨xs, hq⟩, q⟩ := q1
  subst e
  cases r1
  obtain ⟨its, rv, p, hz⟩ := I1.tuple hq
  refine wpAny_pyIter_tuple (show s1.heap.IsTuple a its.toArray from p) ?_
  refine ⟨s1.heap.objs.size, [s1.heap.objs.size], _, _, H1, rfl, I1.kept (t' := s1.toks) fun b o e => Heap.get?_push_of_some _ e, turn_tuple a _, ⟨_, Heap.get?_push_size _ rfl, rfl, rfl⟩, fun b hb => ?_, q⟩
  have e : b = s1.heap.objs.size := by simpa using hb
  subst e
  exact I1.fpOk (Nat.le_refl _) (I1.hok.fresh (Nat.le_refl _))
theorem range_it {pins : List (Addr × Obj)} {σ : St} {H : Hp} {s : Shared} {R : It → Hp → Prop} {E : Value → Shared → Prop} {lo hi : Int} {t u v : Tok} {tk : Nat} (I : Inv X pins σ H s) (h1 : -(2 ^ 62) ≤ lo) (h2 : lo < 2 ^ 62) (h3 : -(2 ^ 62) ≤ hi) (h4 : hi < 2 ^ 62)
    (q : R (Itr lo (hi - lo).toNat) H) : wpAny (model X.prog X.w) X.A (pyIter (.ref s.heap.objs.size)) (PIE X pins σ tg R) E { s with heap := s.heap.push { cls := .type "range", data := .fields #[.int lo t, .int hi u, .int 1 v] }, toks := tk } := by
  refine wpAny_pyIter_range (IsRange.new ..) (small_one h1 h2 h3 h4) ?_
  have I1 : Inv X pins σ H { s with heap := s.heap.push { cls := .type "range", data := .fields #[.int lo t, .int hi u, .int 1 v] }, toks := tk } := I.kept fun b o e => Heap.get?_push_of_some _ e
  refine ⟨(s.heap.push { cls := .type "range", data := .fields #[.int lo t, .int hi u, .int 1 v] }).objs.size, [(s.heap.push { cls := .type "range", data := .fields #[.int lo t, .int hi u, .int 1 v] }).objs.size], _, _, H, rfl,
    I1.kept (t' := tk) fun b o e => Heap.get?_push_of_some _ e, turn_range _ lo (hi - lo).toNat, ?_, fun b hb => ?_, q⟩
  · have e1 : lo + ((0 : Nat) : Int) * 1 = lo := by simp
    have e2 : (((hi - lo).toNat : Nat) : Int) - ((0 : Nat) : Int) = Builtin.Range.rangeSize lo hi 1 := by rw [rangeSize_one]; split <;> omega
    show IsRangeIter _ _ (lo + ((0 : Nat) : Int) * 1) ((((hi - lo).toNat : Nat) : Int) - ((0 : Nat) : Int)) 1
    rw [e1, e2]
    exact Heap.get?_push_size _ rfl
  · have e : b = (s.heap.push { cls := .type "range", data := .fields #[.int lo t, .int hi u, .int 1 v] }).objs.size := by simpa using hb
    subst e
    exact I1.fpOk (Nat.le_refl _) (I1.hok.fresh (Nat.le_refl _))
def iRng1 (ta : TA) : TI := fun σ H R => ta σ H fun vs H1 => ∃ j : Int, vs = [.int j] ∧ -(2 ^ 62) ≤ j ∧ j < 2 ^ 62 ∧ R (Itr 0 j.toNat) H1
theorem pi_range1 {a : Expr} {ta : TA} {p pos : Pos} (hg : Gl X "range") (hm : X.mg "range" = none) (ha : PA X [a] ta) (hs : starEach [a] X.env = [(false, eval a X.env)] := by rfl) : PI X tg (.Call (.Name "range" p) [a] [] pos) (iRng1 ta) := by
  intro pins s σ H R I h
  refine Call_ (ld_blt I hg hm boot_range (PyProof.Rows.callWith_type1 (thn (ha pos pins s σ H _ I h) fun us s1 ⟨vs, H1, I1, r1, q1⟩ => ?_) hs rfl))
  obtain ⟨j, e, q1, q2, q⟩ := q1
  subst e
  cases r1 with
  | cons r rr =>
    cases rr
    obtain ⟨t, rfl⟩ := r
    exact call_range_1 (range_it I1 (by omega) (by omega) q1 q2 (by simpa using q))
def tFor (wi : TI) (g : TG) (tb : TS) : TS := fun D σ H => wi σ H fun J H1 => ∃ W : Nat → Nat → St → Hp → Prop, (∃ m, W 0 m σ H1) ∧ ∀ i m σ H, W i m σ H →
  (J.stop i H ∧ D.nx σ H) ∨ (J.go i H ∧ ∃ N : St → Hp → Prop, (∀ σ' H', N σ' H' → ∃ m', m' < m ∧ W (i + 1) m' σ' H') ∧ ∀ x H', J.yld i H x H' → g x σ H' fun σ2 H2 => tb { D with nx := N, ct := N, bk := D.nx } σ2 H2)
def pinsAt (fp : List Addr) (h : Heap) : List (Addr × Obj) := fp.filterMap fun b => (h.get? b).map fun o => (b, o)
theorem mem_pinsAt {fp : List Addr} {h : Heap} {b : Addr} {o : Obj} (hb : b ∈ fp) (e : h.get? b = some o) : (b, o) ∈ pinsAt fp h := List.mem_filterMap.mpr ⟨b, hb, by rw [e]; rfl⟩
theorem of_pinsAt {fp : List Addr} {h : Heap} {p : Addr × Obj} (hp : p ∈ pinsAt fp h) : p.1 ∈ fp ∧ h.get? p.1 = some p.2 := by
  obtain ⟨b, hb, e⟩ := List.mem_filterMap.mp hp
  cases q : h.get? b with
  | none => rw [q] at e; cases e
  | some o =>
    rw [q] at e
    have e' : (b, o) = p := Option.some.inj e
    subst e'
    exact ⟨hb, q⟩
theorem Inv.pinned {pins : List (Addr × Obj)} {σ : St} {H : Hp} {s : Shared} {fp : List Addr} (I : Inv X pins σ H s) (hf : ∀ b ∈ fp, FpOk X pins H b) (ho : ∀ b ∈ fp, ∃ o, s.heap.get? b = some o ∧ ∀ v, o.data ≠ .cell v) : Inv X (pins ++ pinsAt fp s.heap) σ H s :=
  I.pins_of fun p hp => (List.mem_append.mp hp).elim (fun z => I.pin p (List.mem_append_right _ z)) fun z => by
    obtain ⟨hb, e⟩ := of_pinsAt z
    obtain ⟨f0, f1, f2, _⟩ := hf p.1 hb
    obtain ⟨o, e', d⟩ := ho p.1 hb
    rw [e] at e'; cases e'
    exact ⟨e, f0, f1, f2, d⟩
theorem Inv.unpinned {pins pl : List (Addr × Obj)} {σ : St} {H : Hp} {s : Shared} (I : Inv X (pins ++ pl) σ H s) : Inv X pins σ H s := I.pins_of fun p hp => I.pin p (List.mem_append_right _ (List.mem_append_left _ hp))
theorem ps_for {iter : Expr} {body : List Stmt} {wi : TI} {g : TG} {tb : TS} {pos : Pos} (hp : PassesOwn (model X.prog X.w) X.A X.env X.xe) (hc : X.calm = true) (hi : PI X tg iter wi) (hg : PG X tg g) (hb : PSs X body tb)
    (hs : ∀ x, foldedSetIterable iter X.env x = pure x := by intro _; rfl) : PS X (.For tg iter body [] pos) (tFor wi g tb) := by
  intro pins s σ H D I h
  refine wpAny_For (thn (hi pins s σ H _ I h) fun v s1 h1 => thn h1 fun itv s2 h2 => ?_) hs
  obtain ⟨it, fp, tn, J, H2, e, I2, T, st2, f2, W, ⟨m0, w0⟩, turn⟩ := h2
  subst e
  have stat : ∀ {H' : Hp}, (∀ b ∈ fp, H' b = none) → ∀ b ∈ fp, FpOk X pins H' b := fun hn b hb => ⟨hn b hb, (f2 b hb).2⟩
  refine codeAny_forLoop_any (fun n s' => ∃ i σ' H', Inv X pins σ' H' s' ∧ tn i s'.heap ∧ (∀ b ∈ fp, H' b = none) ∧ W i n σ' H') ?_ m0 ⟨0, σ, H2, I2, st2, fun b hb => (f2 b hb).1, w0⟩
  rintro n s3 ⟨i, σ3, H3, I3, st3, fr3, w3⟩
  rcases turn i n σ3 H3 w3 with ⟨stop, qn⟩ | ⟨go, N, hN, step⟩
  · refine wpAny_passesOwn hp (thn (T.done X rfl rfl rfl hc i pins s3 σ3 H3 X.xe I3 (stat fr3) st3 stop) fun r s4 ⟨hr, I4⟩ => ?_)
    subst hr
    exact wpAny_execs_nil ⟨σ3, H3, I4, qn⟩
  · refine wpAny_passesOwn hp (thn (T.item X rfl rfl rfl hc i pins s3 σ3 H3 X.xe I3 (stat fr3) st3 go) fun r s4 ⟨u, hr, h4⟩ => ?_)
    subst hr
    refine wpAny_passesOwn hp (thn h4 fun _ s5 ⟨x, H5, I5, r5, y5, st5, fr5⟩ => ?_)
    have I5' := I5.pinned (stat fr5) (T.obj _ _ st5)
    refine wpAny_passesOwn hp (thn (hg _ s5 σ3 H5 x u _ I5' r5 (step x H5 y5)) fun _ s6 ⟨σ6, H6, I6, q6⟩ => ?_)
    refine wpAny_passesOwn hp (thn (hb _ s6 σ6 H6 _ I6 q6) fun f s7 q7 => ?_)
    have again : ∀ {σ7 : St} {H7 : Hp}, Inv X (pins ++ pinsAt fp s5.heap) σ7 H7 s7 → N σ7 H7 → ∃ m, m < n ∧ ∃ i σ' H', Inv X pins σ' H' s7 ∧ tn i s7.heap ∧ (∀ b ∈ fp, H' b = none) ∧ W i m σ' H' := fun {σ7 H7} I7 n7 => by
      obtain ⟨m', hm, w7⟩ := hN σ7 H7 n7
      refine ⟨m', hm, i + 1, σ7, H7, I7.unpinned, T.keep _ _ _ st5 fun b hb o e => (I7.pin (b, o) (List.mem_append_right _ (List.mem_append_right _ (mem_pinsAt hb e)))).1, fun b hb => ?_, w7⟩
      obtain ⟨o, e, d⟩ := T.obj _ _ st5 b hb
      exact (I7.pin (b, o) (List.mem_append_right _ (List.mem_append_right _ (mem_pinsAt hb e)))).2.1
    cases f with
    | next => obtain ⟨σ7, H7, I7, n7⟩ := q7; exact again I7 n7
    | cont => obtain ⟨σ7, H7, I7, n7⟩ := q7; exact again I7 n7
    | brk => obtain ⟨σ7, H7, I7, q7⟩ := q7; exact ⟨σ7, H7, I7.unpinned, q7⟩
    | ret v => obtain ⟨x7, σ7, H7, I7, r7, q7⟩ := q7; exact ⟨x7, σ7, H7, I7.unpinned, r7, q7⟩
end
end L2
namespace L2
open PySem PySem.Spec PyProof.Rows
abbrev R2 := V → V → Hp → VK → Prop
def OpR (X : Cx) (f : Value → Value → Sem Value) (r : R2) : Prop :=
  ∀ (pins : List (Addr × Obj)) (s : Shared) (σ : St) (H : Hp) (x y : V) (v u : Value) (Q : VK), Inv X pins σ H s → RelV x v → RelV y u → r x y H Q →
    wpAny (model X.prog X.w) X.A (f v u) (EP X pins σ Q) X.xe s
def UnR (X : Cx) (f : Value → Sem Value) (r : V → Hp → VK → Prop) : Prop :=
  ∀ (pins : List (Addr × Obj)) (s : Shared) (σ : St) (H : Hp) (x : V) (v : Value) (Q : VK), Inv X pins σ H s → RelV x v → r x H Q →
    wpAny (model X.prog X.w) X.A (f v) (EP X pins σ Q) X.xe s
def CallR (X : Cx) (f : Value) (r : List V → Hp → VK → Prop) : Prop :=
  ∀ (pins : List (Addr × Obj)) (s : Shared) (σ : St) (H : Hp) (xs : List V) (us : List Value) (Q : VK), Inv X pins σ H s → Vals xs us → r xs H Q →
    wpAny (model X.prog X.w) X.A (call f us) (EP X pins σ Q) X.xe s
def TruR (X : Cx) (r : V → Hp → (Bool → Hp → Prop) → Prop) : Prop :=
  ∀ (pins : List (Addr × Obj)) (s : Shared) (σ : St) (H : Hp) (x : V) (v : Value) (Q : Bool → Hp → Prop), Inv X pins σ H s → RelV x v → r x H Q →
    wpAny (model X.prog X.w) X.A (truthy v) (TP X pins σ Q) X.xe s
def tOp (r : R2) (ta tb : TE) : TE := fun σ H Q => ta σ H fun x H1 => tb σ H1 fun y H2 => r x y H2 Q
def tUn (r : V → Hp → VK → Prop) (ta : TE) : TE := fun σ H Q => ta σ H fun x H1 => r x H1 Q
def rI (C : Int → Int → Prop) (g : Int → Int → V) : R2 := fun x y H Q => ∃ i j, x = .int i ∧ y = .int j ∧ C i j ∧ Q (g i j) H
def rI0 (g : Int → Int → V) : R2 := fun x y H Q => ∃ i j, x = .int i ∧ y = .int j ∧ Q (g i j) H
def rU (g : Int → V) : V → Hp → VK → Prop := fun x H Q => ∃ i, x = .int i ∧ Q (g i) H
section
variable {X : Cx} {a b c : Expr} {ta tb tc : TE} {pos : Pos}
theorem binT (ha : PE X a ta) (hb : PE X b tb) {pins : List (Addr × Obj)} {s : Shared} {σ : St} {H : Hp} {R : V → V → Hp → Prop} (I : Inv X pins σ H s)
    (h : ta σ H fun x H1 => tb σ H1 fun y H2 => R x y H2) {Q : Value → Shared → Prop} {f : Value → Value → Sem Value}
    (hf : ∀ v u s2 x y H2, Inv X pins σ H2 s2 → RelV x v → RelV y u → R x y H2 → wpAny (model X.prog X.w) X.A (f v u) Q X.xe s2) :
    wpAny (model X.prog X.w) X.A (eval a X.env) (fun v s₁ => wpAny (model X.prog X.w) X.A (eval b X.env) (fun u s₂ => wpAny (model X.prog X.w) X.A (f v u) Q X.xe s₂) X.xe s₁) X.xe s := by
  refine thn (ha pins s σ H _ I h) fun v s1 ⟨x, H1, I1, r1, q1⟩ => ?_
  refine thn (hb pins s1 σ H1 _ I1 q1) fun u s2 ⟨y, H2, I2, r2, q2⟩ => ?_
  exact hf v u s2 x y H2 I2 r1 r2 q2
theorem pe_op {op : Operator} {r : R2} (ho : OpR X (binaryOp op) r) (ha : PE X a ta) (hb : PE X b tb) : PE X (.BinOp a op b pos) (tOp r ta tb) := by
  intro pins s σ H Q I h
  exact wpAny_BinOp (binT ha hb I h fun v u s2 x y H2 I2 rx ry q => ho pins s2 σ H2 x y v u Q I2 rx ry q)
theorem pe_un {op : UnaryOp} {r : V → Hp → VK → Prop} (ho : UnR X (unaryOp op) r) (ha : PE X a ta) : PE X (.UnaryOp op a pos) (tUn r ta) := by
  intro pins s σ H Q I h
  exact UnaryOp_ (thn (ha pins s σ H _ I h) fun v s1 ⟨x, H1, I1, r1, q1⟩ => ho pins s1 σ H1 x v Q I1 r1 q1)
theorem opI {f : Value → Value → Sem Value} {C : Int → Int → Prop} {g : Int → Int → Int}
    (rule : ∀ (i j : Int) (t u : Tok) (s : Shared) (Q : Value → Shared → Prop) (E : Value → Shared → Prop), C i j → Q (.int (g i j) s.toks) { s with toks := s.toks + 1 } → wpAny (model X.prog X.w) X.A (f (.int i t) (.int j u)) Q E s) :
    OpR X f (rI C fun i j => .int (g i j)) := by
  intro pins s σ H x y v u Q I rx ry h
  obtain ⟨i, j, rfl, rfl, hc, q⟩ := h
  obtain ⟨t, rfl⟩ := rx
  obtain ⟨t', rfl⟩ := ry
  exact rule i j t t' s _ _ hc ⟨.int (g i j), H, I.tok _, ⟨_, rfl⟩, q⟩
theorem opI0 {f : Value → Value → Sem Value} {g : Int → Int → Int}
    (rule : ∀ (i j : Int) (t u : Tok) (s : Shared) (Q : Value → Shared → Prop) (E : Value → Shared → Prop), Q (.int (g i j) s.toks) { s with toks := s.toks + 1 } → wpAny (model X.prog X.w) X.A (f (.int i t) (.int j u)) Q E s) :
    OpR X f (rI0 fun i j => .int (g i j)) := by
  intro pins s σ H x y v u Q I rx ry h
  obtain ⟨i, j, rfl, rfl, q⟩ := h
  obtain ⟨t, rfl⟩ := rx
  obtain ⟨t', rfl⟩ := ry
  exact rule i j t t' s _ _ ⟨.int (g i j), H, I.tok _, ⟨_, rfl⟩, q⟩
theorem opB0 {f : Value → Value → Sem Value} {g : Int → Int → Bool}
    (rule : ∀ (i j : Int) (t u : Tok) (s : Shared) (Q : Value → Shared → Prop) (E : Value → Shared → Prop), Q (.bool (g i j)) s → wpAny (model X.prog X.w) X.A (f (.int i t) (.int j u)) Q E s) :
    OpR X f (rI0 fun i j => .bl (g i j)) := by
  intro pins s σ H x y v u Q I rx ry h
  obtain ⟨i, j, rfl, rfl, q⟩ := h
  obtain ⟨t, rfl⟩ := rx
  obtain ⟨t', rfl⟩ := ry
  exact rule i j t t' s _ _ ⟨.bl (g i j), H, I, rfl, q⟩
theorem op_add : OpR X (binaryOp .Add) (rI0 fun i j => .int (i + j)) := opI0 fun _ _ _ _ _ _ _ q => add_int q
theorem op_sub : OpR X (binaryOp .Sub) (rI0 fun i j => .int (i - j)) := opI0 fun _ _ _ _ _ _ _ q => sub_int q
theorem op_mod : OpR X (binaryOp .Mod) (rI (fun _ j => 0 < j) fun i j => .int (i % j)) := opI fun i j _ _ _ _ _ hc q => by
  have h1 : (0 : Int) < j := hc
  exact mod_int' (by omega) (by rw [Int.fmod_eq_emod_of_nonneg i (by omega)]; exact q)
theorem unI {f : Value → Sem Value} {g : Int → Int}
    (rule : ∀ (i : Int) (t : Tok) (s : Shared) (Q : Value → Shared → Prop) (E : Value → Shared → Prop), Q (.int (g i) s.toks) { s with toks := s.toks + 1 } → wpAny (model X.prog X.w) X.A (f (.int i t)) Q E s) :
    UnR X f (rU fun i => .int (g i)) := by
  intro pins s σ H x v Q I rx h
  obtain ⟨i, rfl, q⟩ := h
  obtain ⟨t, rfl⟩ := rx
  exact rule i t s _ _ ⟨.int (g i), H, I.tok _, ⟨_, rfl⟩, q⟩
theorem un_neg : UnR X (unaryOp .USub) (rU fun i => .int (-i)) := unI fun _ _ _ _ _ q => neg_int q
end
section
variable {X : Cx} {a b c : Expr} {ta tb tc : TE} {pos : Pos}
theorem fin_bl {pins : List (Addr × Obj)} {σ : St} {H : Hp} {s : Shared} {Q : VK} {k k' : Bool} (I : Inv X pins σ H s) (q : Q (.bl k) H) (e : k = k') : EP X pins σ Q (.bool k') s := by
  subst e
  exact ⟨.bl k, H, I, rfl, q⟩
theorem op_lt : OpR X (compareOp .Lt) (rI0 fun i j => .bl (decide (i < j))) := opB0 fun _ _ _ _ _ _ _ q => lt_int q
theorem op_le : OpR X (compareOp .LtE) (rI0 fun i j => .bl (decide (i ≤ j))) := opB0 fun _ _ _ _ _ _ _ q => le_int q
theorem op_gt : OpR X (compareOp .Gt) (rI0 fun i j => .bl (decide (j < i))) := opB0 fun _ _ _ _ _ _ _ q => gt_int q
theorem op_isN : OpR X (compareOp .Is) (fun x y H Q => y = .non ∧ Q (.bl (decide (x = .non))) H) := by
  intro pins s σ H x y v u Q I rx ry h
  obtain ⟨rfl, q⟩ := h
  cases ry
  refine is_none_gen (fin_bl I q ?_)
  cases x <;> first
    | (cases rx; rfl)
    | (obtain ⟨t, rfl⟩ := rx; rfl)
theorem op_notN : OpR X (compareOp .IsNot) (fun x y H Q => y = .non ∧ Q (.bl (!decide (x = .non))) H) := by
  intro pins s σ H x y v u Q I rx ry h
  obtain ⟨rfl, q⟩ := h
  cases ry
  refine isnot_none_gen (fin_bl I q ?_)
  cases x <;> first
    | (cases rx; rfl)
    | (obtain ⟨t, rfl⟩ := rx; rfl)
theorem OpR.or {f : Value → Value → Sem Value} {r r' : R2} (h : OpR X f r) (h' : OpR X f r') : OpR X f (fun x y H Q => r x y H Q ∨ r' x y H Q) := by
  intro pins s σ H x y v u Q I rx ry q
  rcases q with q | q
  · exact h pins s σ H x y v u Q I rx ry q
  · exact h' pins s σ H x y v u Q I rx ry q
theorem nomark (b : Expr) {op : CmpOp} (h : op ≠ .In := by decide) (h2 : op ≠ .NotIn := by decide) : behindInMarks op b = false := by
  have e1 : (op == CmpOp.In) = false := by cases op <;> first | rfl | exact absurd rfl h
  have e2 : (op == CmpOp.NotIn) = false := by cases op <;> first | rfl | exact absurd rfl h2
  cases b <;> simp [behindInMarks, e1, e2]
theorem pe_cmpR {op : CmpOp} {r : R2} (ho : OpR X (compareOp op) r) (ha : PE X a ta) (hb : PE X b tb) (hm : behindInMarks op b = false) : PE X (.Compare a [op] [b] pos) (tOp r ta tb) := by
  intro pins s σ H Q I h
  exact wpAny_Compare1 (binT ha hb I h fun v u s2 x y H2 I2 rx ry q => ho pins s2 σ H2 x y v u Q I2 rx ry q) hm
def tTest (t : TE) : TT := fun σ H Q => t σ H fun x H' => ∃ k, x = .bl k ∧ Q k H'
theorem pt_cmpR {op : CmpOp} {r : R2} (ho : OpR X (compareOp op) r) (ha : PE X a ta) (hb : PE X b tb) (hm : behindInMarks op b = false) : PT X (.Compare a [op] [b] pos) (tTest (tOp r ta tb)) := by
  intro pins s σ H Q I h
  refine wpAny_isTrue_Compare1 (thn (ha pins s σ H _ I h) fun v s1 ⟨x, H1, I1, r1, q1⟩ => thn (hb pins s1 σ H1 _ I1 q1) fun u s2 ⟨y, H2, I2, r2, q2⟩ =>
    thn (ho pins s2 σ H2 x y v u _ I2 r1 r2 q2) fun c s3 ⟨z, H3, I3, r3, k, e, q3⟩ => ?_) hm
  subst e
  cases r3
  exact wpAny_truthy_bool ⟨H3, I3, q3⟩
def tChain (r r' : R2) (ta tb tc : TE) : TE := fun σ H Q => ta σ H fun x H1 => tb σ H1 fun y H2 => r x y H2 fun z H3 => ∃ k, z = .bl k ∧
  (if k = true then tc σ H3 fun w' H4 => r' y w' H4 Q else Q (.bl false) H3)
theorem pe_chain {op op' : CmpOp} {r r' : R2} (ho : OpR X (compareOp op) r) (ho' : OpR X (compareOp op') r') (ha : PE X a ta) (hb : PE X b tb) (hc : PE X c tc)
    (hm : lastMarks [op, op'] [b, c] = false := by with_unfolding_all rfl) : PE X (.Compare a [op, op'] [b, c] pos) (tChain r r' ta tb tc) := by
  intro pins s σ H Q I h
  refine Compare_chain (thn (ha pins s σ H _ I h) fun v s1 ⟨x, H1, I1, r1, q1⟩ => chain_link (thn (hb pins s1 σ H1 _ I1 q1) fun u s2 ⟨y, H2, I2, r2, q2⟩ =>
    thn (ho pins s2 σ H2 x y v u _ I2 r1 r2 q2) fun d s3 ⟨z, H3, I3, r3, k, e, q3⟩ => ?_)) hm
  subst e
  cases r3
  refine wpAny_truthy_bool ?_
  cases k with
  | false => exact ite_ff ⟨.bl false, H3, I3, rfl, q3⟩
  | true => exact ite_tt (chain_last (thn (hc pins s3 σ H3 _ I3 q3) fun w' s4 ⟨z', H4, I4, r4, q4⟩ => ho' pins s4 σ H4 y z' u w' Q I4 r2 r4 q4))
def TruV (K : FG) (x : V) (H : Hp) (k : Bool) : Prop :=
  match x with
  | .non => k = false
  | .bl b => k = b
  | .int i => k = (i != 0)
  | .str y => y.length ≤ sizeLine ∧ k = ((y.length : Int) != 0)
  | .byt y => y.size ≤ sizeLine ∧ k = ((y.size : Int) != 0)
  | .ref p => (∃ xs, SqL K H p xs ∧ k = !xs.isEmpty) ∨ (∃ xs, SqT K H p xs ∧ k = !xs.isEmpty) ∨ ∃ kvs, H p = some (.dK kvs) ∧ k = !kvs.isEmpty
  | _ => False
theorem isEmpty_kv {κ : Type} {kvs : List (κ × V)} {vs : List (κ × Value)} (r : KV kvs vs) : (!vs.isEmpty) = !kvs.isEmpty := by
  cases r <;> rfl
theorem isEmpty_of {xs : List V} {its : List Value} (r : Vals xs its) : (!its.toArray.isEmpty) = !xs.isEmpty := by
  cases r <;> simp
theorem line63 : (sizeLine : Nat) < 2 ^ 63 := by rw [sizeLine_eq]; decide
theorem tru_ok : TruR X (fun x H Q => ∃ k, TruV X.K x H k ∧ Q k H) := by
  intro pins s σ H x v Q I rx h
  obtain ⟨k, e, q⟩ := h
  have hl := line63
  have hs : sizeLine = 16777216 := sizeLine_eq
  cases x with
  | non =>
    cases rx
    have e' : k = false := e
    subst e'
    exact truthy_none ⟨H, I, q⟩
  | bl b =>
    cases rx
    have e' : k = b := e
    subst e'
    exact wpAny_truthy_bool ⟨H, I, q⟩
  | int i =>
    obtain ⟨t, rfl⟩ := rx
    have e' : k = (i != 0) := e
    subst e'
    exact PySem.P.truthy_int ⟨H, I, q⟩
  | str y =>
    obtain ⟨t, rfl⟩ := rx
    obtain ⟨hy, e'⟩ : y.length ≤ sizeLine ∧ k = ((y.length : Int) != 0) := e
    subst e'
    exact PySem.P.truthy_str (by omega) ⟨H, I.tok _, q⟩
  | byt y =>
    obtain ⟨t, rfl⟩ := rx
    obtain ⟨hy, e'⟩ : y.size ≤ sizeLine ∧ k = ((y.size : Int) != 0) := e
    subst e'
    exact PySem.W.truthy_bytes (by omega) ⟨H, I.tok _, q⟩
  | ref p =>
    cases rx
    have e' : (∃ xs, SqL X.K H p xs ∧ k = !xs.isEmpty) ∨ (∃ xs, SqT X.K H p xs ∧ k = !xs.isEmpty) ∨ ∃ kvs, H p = some (.dK kvs) ∧ k = !kvs.isEmpty := e
    rcases e' with ⟨xs, hx, e'⟩ | ⟨xs, hx, e'⟩ | ⟨kvs, hx, e'⟩
    · subst e'
      obtain ⟨its, r, pl, hz⟩ := I.list hx
      have hlen := r.length
      exact wpAny_truthy_list pl.isList (by simp only [List.size_toArray]; omega) ⟨H, I.tok _, by rw [isEmpty_of r]; exact q⟩
    · subst e'
      obtain ⟨its, r, pl, hz⟩ := I.tuple hx
      have hlen := r.length
      exact truthy_tuple pl (by simp only [List.size_toArray]; omega) ⟨H, I.tok _, by rw [isEmpty_of r]; exact q⟩
    · subst e'
      obtain ⟨hz, hS, vs, r, m⟩ : kvs.length ≤ sizeLine ∧ (p == sysModules) = false ∧ ∃ vs, KV kvs vs ∧ s.heap.DictOf (mixKind X.prog X.w) p vs := I.hok p _ hx
      have hlen : kvs.length = vs.length := Paired.length r
      exact wpAny_truthy_dict hS m (by omega) ⟨H, I.tok _, by rw [isEmpty_kv r]; exact q⟩
  | _ => exact (show False from e).elim
theorem pt_truth (ha : PE X a ta) (he : ∀ whole, isTrue a X.env whole = (do let v ← whole; standAt a.pos; holding [v] (truthy v))) :
    PT X a (fun σ H Q => ta σ H fun x H' => ∃ k, TruV X.K x H' k ∧ Q k H') := by
  intro pins s σ H Q I h
  exact isTrue_plain (thn (ha pins s σ H _ I h) fun v s1 ⟨x, H1, I1, r1, q1⟩ => tru_ok pins s1 σ H1 x v Q I1 r1 q1) (he _)
theorem vals1 {x : V} {us : List Value} (r : Vals [x] us) : ∃ u, us = [u] ∧ RelV x u := by
  cases r with
  | cons r1 r2 => cases r2; exact ⟨_, rfl, r1⟩
theorem vals2 {x y : V} {us : List Value} (r : Vals [x, y] us) : ∃ u w', us = [u, w'] ∧ RelV x u ∧ RelV y w' := by
  cases r with
  | cons r1 r2 =>
    cases r2 with
    | cons r3 r4 => cases r4; exact ⟨_, _, rfl, r1, r3⟩
theorem call_abs : CallR X (.builtin "abs") (fun xs H Q => ∃ i, xs = [.int i] ∧ Q (.int (if i < 0 then -i else i)) H) := by
  intro pins s σ H xs us Q I r h
  obtain ⟨i, rfl, q⟩ := h
  obtain ⟨u, rfl, t, rfl⟩ := vals1 r
  exact call_abs_int fun u tk => ⟨.int (if i < 0 then -i else i), H, I.tok _, ⟨_, rfl⟩, q⟩
theorem call_max2 (hc : X.calm = true) : CallR X (.builtin "max") (fun xs H Q => ∃ i j, xs = [.int i, .int j] ∧ Q (.int (if j > i then j else i)) H) := by
  intro pins s σ H xs us Q I r h
  obtain ⟨i, j, rfl, q⟩ := h
  obtain ⟨u, w', rfl, ⟨t, rfl⟩, ⟨t', rfl⟩⟩ := vals2 r
  refine max_two_ints (I.ok.hd hc) fun h' tk k => ⟨_, H, I.kept k, ?_, q⟩
  by_cases hj : j > i
  · rw [if_pos hj, if_pos hj]; exact ⟨_, rfl⟩
  · rw [if_neg hj, if_neg hj]; exact ⟨_, rfl⟩
end
end L2
namespace L2
open PySem PySem.Spec PyProof.Rows
structure ObjM (h : Heap) (x dx C : Addr) (mA : Str → Option Value) : Prop where
  obj : h.get? x = some (PySem.W.instObj C dx)
  ns : h.Ns1 dx mA
  ne : dx ≠ x
theorem lookIn_ns {h : Heap} {dx : Addr} {mA : Str → Option Value} (n : h.Ns1 dx mA) : ∃ od, h.get? dx = some od ∧ ∀ name, PySem.W.lookIn name od = some (mA name) := by
  obtain ⟨o, es, ep, ho, hd, hk, _, hm⟩ := n
  refine ⟨o, ho, fun name => ?_⟩
  have e := hm name
  unfold nsFind findBy at e
  rw [← Array.find?_toList] at e
  unfold PySem.W.lookIn
  rw [hd]
  dsimp only
  split
  · rename_i y q
    rw [q] at e
    exact congrArg some e
  · rename_i q
    rw [q] at e
    have a : es.toList.any (·.refKey) = false := by
      rw [List.any_eq_false]
      intro y hy
      obtain ⟨z, t, hkey⟩ := hk y (Array.mem_toList_iff.mp hy)
      simp [DictEntry.refKey, hkey]
    have a' : ¬ es.toList.any (·.refKey) = true := by rw [a]; exact Bool.false_ne_true
    rw [if_neg a']
    exact congrArg some e
theorem ObjM.look {h : Heap} {x dx C : Addr} {mA : Str → Option Value} (I : ObjM h x dx C mA) : ∃ od, PySem.W.InstAt h x (PySem.W.instObj C dx) C (some od) ∧ ∀ name, PySem.W.lookIn name od = some (mA name) :=
  let ⟨od, ho, hl⟩ := lookIn_ns I.ns
  ⟨od, ⟨I.obj, rfl, rfl, ho⟩, hl⟩
section
variable {prog : Program} {w : World} {A : Around} {E : Value → Shared → Prop} {s : Shared} {K : FG} {x dx C f : Addr} {mA : Str → Option Value} {name : Str} {v : Value}
end
section
variable {P : Program} {w : World} {H H' : Hp} {h h' : Heap} {a C dx : Addr} {fs fs' : List (Str × V)}
theorem ins_get (hok : HOk P w H h) (e : H a = some (.ins C dx fs)) : ∃ mA, ObjM h a dx C mA ∧ (∀ f, RelO (fs.lookup f) (mA f)) ∧ PySem.Within mA (fs.map (·.1)) ∧ fs.length ≤ 1000 ∧ H dx = some (.own a) := by
  obtain ⟨d, z, ne, ob, mA, n, r, q⟩ := (show ObjOk P w H h a (.ins C dx fs) from hok a _ e)
  exact ⟨mA, ⟨ob, n, ne⟩, r, q, z, d⟩
end
structure Cls (K : FG) (C : Addr) : Prop where
  pg : PySem.W.plainGet K C Str.empty = true
  hd : PySem.W.hasDictIn K C = true
  po : PySem.W.plainOver K C = true
  sa : PySem.W.findIn K (.ref C) "__setattr__" = some (some (.builtin "object.__setattr__"))
theorem Cls.get {K : FG} {C : Addr} (c : Cls K C) (f : Str) : PySem.W.plainGet K C f = true := c.pg
structure Con (K : FG) (C : Addr) (f : Str) (v : V) (u : Value) : Prop where
  at_ : PySem.W.findIn K (.ref C) f = some (some u)
  rel : RelV v u
  get : PySem.W.specialIn K u "__get__" = some none
  cp : PySem.W.copiedNames.contains f = false
structure Meth (K : FG) (C : Addr) (m : Str) (f : Addr) : Prop where
  at_ : PySem.W.findIn K (.ref C) m = some (some (.ref f))
  fn : PySem.W.isFn K (.ref f) = true
  kp : PySem.W.keepIn K (.ref f) = true
section
variable {X : Cx} {pins : List (Addr × Obj)} {σ : St} {H : Hp} {s : Shared} {a C dx : Addr} {fs : List (Str × V)} {f : Str} {v : V} {A : Around} {E : Value → Shared → Prop}
end
section
variable {X : Cx} {o e value : Expr} {f : Str} {pos pos' tpos : Pos} {ta tv : TE}
end
section
variable {X : Cx} {pins : List (Addr × Obj)} {σ : St} {H : Hp} {s : Shared} {A : Around} {E : Value → Shared → Prop} {Q : Value → Shared → Prop} {c : Value} {b : Bool}
inductive TyOf (K : FG) (H : Hp) : V → Value → Prop where
  | non : TyOf K H .non (.type "NoneType")
  | bl (x : Bool) : TyOf K H (.bl x) (.type "bool")
  | int (i : Int) : TyOf K H (.int i) (.type "int")
  | str (x : Str) : TyOf K H (.str x) (.type "str")
  | flt (x : UInt64) : TyOf K H (.flt x) (.type "float")
  | lst {a : Addr} {xs : List V} (e : H a = some (.lst xs)) : TyOf K H (.ref a) (.type "list")
  | frz {a : Addr} {o : Obj} {xs : List V} (e : H a = some (.frz o (.lst xs))) : TyOf K H (.ref a) (.type "list")
  | tup {a : Addr} {xs : List V} (e : H a = some (.tup xs)) : TyOf K H (.ref a) (.type "tuple")
  | dK {a : Addr} {kvs : List (Key × V)} (e : H a = some (.dK kvs)) : TyOf K H (.ref a) (.type "dict")
  | dT {a : Addr} {kvs : List (List Key × V)} (e : H a = some (.dT kvs)) : TyOf K H (.ref a) (.type "dict")
  | ins {a C dx : Addr} {fs : List (Str × V)} (e : H a = some (.ins C dx fs)) (cl : Cls K C) (ha : PySem.W.findIn K (.ref C) "__class__" = some (some (.builtin "object.__class__")))
      (hn : PySem.W.specialIn K (.builtin "object.__class__") "__get__" = some (some (.builtin "getset_descriptor.__get__"))) (htk : PySem.W.takesIn K (.builtin "object.__class__") = some true)
      (hm : PySem.W.mroIn K C (.type "object") = some true) : TyOf K H (.ref a) (.ref C)
theorem isinst_ok {x : V} {u t : Value} (I : Inv X pins σ H s) (rx : RelV x u) (ty : TyOf X.K H x t) (e : PySem.W.kitOne X.K t c = some b) (h : ∀ tk, Q (.bool b) { s with toks := tk }) :
    wpAny (model X.prog X.w) A (call (.builtin "isinstance") [u, c]) Q E s := by
  cases ty with
  | non => cases (show u = Value.none from rx); exact PySem.W.kia_one PySem.W.kitx_none I.kIn True.intro e (fun z => nomatch z) h
  | bl y => cases (show u = Value.bool y from rx); exact PySem.W.kia_one PySem.W.kitx_bool I.kIn True.intro e (fun z => nomatch z) h
  | int i => obtain ⟨t, q⟩ := (show ∃ t, u = Value.int i t from rx); cases q; exact PySem.W.kia_one PySem.W.kitx_int I.kIn True.intro e (fun z => nomatch z) h
  | str y => obtain ⟨t, q⟩ := (show ∃ t, u = Value.str y t from rx); cases q; exact PySem.W.kia_one PySem.W.kitx_str I.kIn True.intro e (fun z => nomatch z) h
  | flt y => obtain ⟨t, q⟩ := (show ∃ t, u = Value.float y t from rx); cases q; exact PySem.W.kia_one PySem.W.kitx_float I.kIn True.intro e (fun z => nomatch z) h
  | @lst a xs ea =>
    cases (show u = Value.ref a from rx)
    obtain ⟨_, _, n, _, h1⟩ := (show ObjOk X.prog X.w H s.heap a (.lst xs) from I.hok a _ ea)
    exact PySem.W.kia_one PySem.W.kitx_list I.kIn ⟨_, h1, rfl⟩ e (fun z => nomatch z) h
  | @frz a ob xs ea =>
    cases (show u = Value.ref a from rx)
    obtain ⟨_, _, _, n, _, h1⟩ := (show ObjOk X.prog X.w H s.heap a (.frz ob (.lst xs)) from I.hok a _ ea)
    exact PySem.W.kia_one PySem.W.kitx_list I.kIn ⟨_, h1, rfl⟩ e (fun z => nomatch z) h
  | @tup a xs ea =>
    cases (show u = Value.ref a from rx)
    obtain ⟨_, _, _, p⟩ := (show ObjOk X.prog X.w H s.heap a (.tup xs) from I.hok a _ ea)
    obtain ⟨o, h1, h2, _⟩ := p
    exact PySem.W.kia_one PySem.W.kitx_tuple I.kIn ⟨o, h1, h2⟩ e (fun z => nomatch z) h
  | @dK a kvs ea =>
    cases (show u = Value.ref a from rx)
    obtain ⟨_, _, vs, _, p⟩ := (show ObjOk X.prog X.w H s.heap a (.dK kvs) from I.hok a _ ea)
    obtain ⟨o, es, ep, h1, h2, _⟩ := p
    exact PySem.W.kia_one PySem.W.kitx_dict I.kIn ⟨o, h1, h2.1⟩ e (fun z => nomatch z) h
  | @dT a kvs ea =>
    cases (show u = Value.ref a from rx)
    obtain ⟨_, _, xs, _, o, es, ep, h1, h2, _⟩ := (show ObjOk X.prog X.w H s.heap a (.dT kvs) from I.hok a _ ea)
    exact PySem.W.kia_one PySem.W.kitx_dict I.kIn ⟨o, h1, h2.1⟩ e (fun z => nomatch z) h
  | @ins a C dx fs ea cl ha hn htk hm =>
    cases (show u = Value.ref a from rx)
    obtain ⟨mA, O, _⟩ := ins_get I.hok ea
    obtain ⟨od, J, _⟩ := O.look
    exact PySem.W.kia_one (PySem.W.kitx_own (cl.get _) cl.hd ha hn htk hm) I.kIn J e (fun z => nomatch z) h
end
end L2
namespace L2
open PySem PySem.Spec PyProof.Rows
structure Room (k : Nat) (A : Around) : Prop where
  hd : A.handled = none
  dp : A.depth + 3 * k + 5 < recursionLimit
  un : A.units + 16 * k + 200 < cLine
theorem Room.mono {j k : Nat} {A : Around} (r : Room k A) (h : j ≤ k) : Room j A := ⟨r.hd, by have := r.dp; omega, by have := r.un; omega⟩
theorem Room.deeper {k : Nat} {A : Around} (r : Room (k + 1) A) (env : Env) : Room k (A.deeper env) :=
  ⟨r.hd, by have := r.dp; show A.depth + 1 + 3 * k + 5 < _; omega, by have := r.un; show A.units + 3 + 16 * k + 200 < _; omega⟩
theorem Room.depth {k : Nat} {A : Around} (r : Room k A) : A.depth < recursionLimit := by have := r.dp; omega
def tNil : TA := fun _ H Q => Q [] H
def tCons (ta : TE) (tr : TA) : TA := fun σ H Q => ta σ H fun x H1 => tr σ H1 fun xs H2 => Q (x :: xs) H2
section
variable {X : Cx} {e : Expr} {es : List Expr} {te : TE} {t : TA} {pos : Pos}
theorem pa_nil : PA X [] tNil := fun _ _ _ _ H Q I h => Calls.spliced_nil ⟨[], H, I, .nil, h⟩
theorem pa_cons (ha : PE X e te) (hr : PA X es t) (hs : starEach (e :: es) X.env = (false, eval e X.env) :: starEach es X.env := by rfl) : PA X (e :: es) (tCons te t) := by
  intro pos pins s σ H Q I h
  rw [hs]
  show wpAny _ _ (spliced ((false, eval e X.env) :: backTo pos (starEach es X.env))) _ _ s
  refine Calls.spliced_cons (thn (ha pins s σ H _ I h) fun u s1 ⟨x, H1, I1, r1, q1⟩ => ?_)
  exact thn (hr pos pins s1 σ H1 _ I1 q1) fun us s2 ⟨xs, H2, I2, r2, q2⟩ => ⟨x :: xs, H2, I2, .cons r1 r2, q2⟩
def tTup (t : TA) : TE := fun σ H Q => t σ H fun xs H1 => xs.length ≤ sizeLine ∧ ∀ p, H1 p = none → Q (.ref p) (upd H1 p (.tup xs))
def tLst (t : TA) : TE := fun σ H Q => t σ H fun xs H1 => xs.length ≤ sizeLine ∧ ∀ p, H1 p = none → Q (.ref p) (upd H1 p (.lst xs))
theorem pe_tup {x1} (h : PA X es t) : PE X (.Tuple es x1 pos) (tTup t) := by
  intro pins s σ H Q I hq
  refine wpAny_Tuple_spliced (thn (h pos pins s σ H _ I hq) fun us s1 ⟨xs, H1, I1, r, z, q⟩ => ⟨by rw [← r.length]; exact z, ?_⟩)
  have hf : H1 s1.heap.objs.size = none := I1.hok.fresh (Nat.le_refl _)
  refine ⟨.ref s1.heap.objs.size, upd H1 s1.heap.objs.size (.tup xs), I1.laid (t' := s1.toks) (fun b u e => Heap.get?_push_of_some _ e) (Nat.le_refl _) ?_, rfl, q _ hf⟩
  exact ⟨z, us, r, ⟨_, Heap.get?_push_size _ rfl, rfl, _, rfl⟩⟩
theorem pe_lst (h : PA X es t) : PE X (.List es pos) (tLst t) := by
  intro pins s σ H Q I hq
  refine wpAny_List_spliced (thn (h pos pins s σ H _ I hq) fun us s1 ⟨xs, H1, I1, r, z, q⟩ => ⟨by rw [← r.length]; exact z, ?_⟩)
  have hf : H1 s1.heap.objs.size = none := I1.hok.fresh (Nat.le_refl _)
  refine ⟨.ref s1.heap.objs.size, upd H1 s1.heap.objs.size (.lst xs), I1.laid (t' := s1.toks) (fun b u e => Heap.get?_push_of_some _ e) (Nat.le_refl _) ?_, rfl, q _ hf⟩
  exact ⟨z, us, 0, r, Heap.get?_push_size _ rfl⟩
end
abbrev Sp := List V → Hp → VK → XK → Prop
abbrev CXT := List Env → Hp → Shared → XK → Value → Shared → Prop
structure Env0 (P : Program) (w : World) (K : FG) (mg : Str → Option Value) (base : Heap) (A : Around) (outer : List Env) (s : Shared) (H : Hp) : Prop where
  frames : A.frames = some outer
  mod : Mod K mg base
  bs : ∀ b o, base.get? b = some o → s.heap.get? b = some o ∧ H b = none
  bsz : base.objs.size ≤ s.heap.objs.size
  funs : s.heap.FunFrames base outer
  frf : ∀ b ∈ frs outer, H b = none
  hok : HOk P w H s.heap
  bare : AllBare s.gens
def CE (outer : List Env) (P : Program) (w : World) (H : Hp) (s : Shared) (Q : VK) (u : Value) (s' : Shared) : Prop :=
  ∃ v H', s'.os = s.os ∧ AllBare s'.gens ∧ Un (frs outer) [] H H' s.heap s'.heap ∧ HOk P w H' s'.heap ∧ RelV v u ∧ Q v H'
def CR (CX : CXT) (outer : List Env) (P : Program) (w : World) (H : Hp) (s : Shared) (Q : VK) (E : XK) (r : Result) (s' : Shared) : Prop :=
  match r with
  | .ok (.ret u) => CE outer P w H s Q u s'
  | .ok _ => False
  | .error e => CX outer H s E e s'
structure FnOk (P : Program) (w : World) (K : FG) (mg : Str → Option Value) (base : Heap) (CX : CXT) (k : Nat) (f : Addr) (fd : FuncData) (ps : List Str) (sp : Sp) : Prop where
  len : ∀ vs H Q E, sp vs H Q E → vs.length = ps.length
  run : ∀ (A : Around) (outer : List Env) (s : Shared) (H : Hp) (args : Args) (us : List Value) (vs : List V) (Q : VK) (E : XK), Room k A → Env0 P w K mg base A outer s H → BindsTo s fd args (ps.zip us) → Vals vs us → sp vs H Q E →
    codeAny (model P w) A (.call (.ref f) args) (CR CX outer P w H s Q E) s
section
variable {X : Cx} {pins : List (Addr × Obj)} {σ : St} {H : Hp} {s s' : Shared}
theorem Inv.env0 (I : Inv X pins σ H s) : Env0 X.prog X.w X.K X.mg X.base X.A X.stack s H :=
  ⟨I.ok.frames, I.ok.mod, I.bs, Nat.le_trans I.ok.bsz I.sz, I.stack, I.stkFree, I.hok, I.bare⟩
theorem Inv.after {Q : VK} {u : Value} (I : Inv X pins σ H s) (h : CE X.stack X.prog X.w H s Q u s') : EP X pins σ Q u s' := by
  obtain ⟨v, H', os, bare, un, hok, r, q⟩ := h
  obtain ⟨hh, g, d, t, os'⟩ := s'
  obtain rfl : os' = s.os := os
  exact ⟨v, H', I.call (h' := hh) (g' := g) (d' := d) (t' := t) (ch := []) un hok bare (fun b z => absurd z (by simp)), r, q⟩
end
def tCall (sp : Sp) (dvs : List V) (E : XK) (t : TA) : TE := fun σ H Q => t σ H fun vs H1 => sp (vs ++ dvs) H1 Q E
def Binds (K : FG) (fd : FuncData) (ps : List Str) (ds : List Value) : Prop :=
  ∀ (s : Shared) (us : List Value), K.In s.heap → (us ++ ds).length = ps.length → BindsTo s fd ⟨us, []⟩ (ps.zip (us ++ ds))
theorem Binds.all {K : FG} {fd : FuncData} {ps : List Str} (h : ∀ us : List Value, us.length = ps.length → bindArgs fd ⟨us, []⟩ = pure (ps.zip us)) : Binds K fd ps [] := fun s us _ hl => by
  rw [List.append_nil] at hl ⊢
  exact .of_eq (h us hl)
def Passes (CX : CXT) (X : Cx) (E : XK) : Prop := ∀ (pins : List (Addr × Obj)) (σ : St) (H : Hp) (s : Shared) (e : Value) (s' : Shared), Inv X pins σ H s → CX X.stack H s E e s' → X.xe e s'
section
variable {X : Cx} {CX : CXT} {k : Nat} {f C : Addr} {fd : FuncData} {ps : List Str} {sp : Sp} {dvs : List V} {ds : List Value} {E : XK} {x m : Str} {p pos apos : Pos} {e o : Expr} {es : List Expr} {ta : TE} {t : TA}
theorem run_fn {pins : List (Addr × Obj)} {σ : St} {H : Hp} {s : Shared} {Q : VK} {us : List Value} {vs : List V} (F : FnOk X.prog X.w X.K X.mg X.base CX k f fd ps sp) (hr : Room k X.A) (hb : Binds X.K fd ps ds) (hd : Vals dvs ds) (hx : Passes CX X E)
    (I : Inv X pins σ H s) (r : Vals vs us) (h : sp (vs ++ dvs) H Q E) : wpAny (model X.prog X.w) X.A (call (.ref f) us) (EP X pins σ Q) X.xe s := by
  have r2 : Vals (vs ++ dvs) (us ++ ds) := r.append hd
  have hl : (us ++ ds).length = ps.length := by rw [← r2.length]; exact F.len _ _ _ _ h
  refine wpAny_call (codeAny_mono (F.run X.A X.stack s H ⟨us, []⟩ (us ++ ds) (vs ++ dvs) Q E hr I.env0 (hb s us I.kIn hl) r2 h) fun r s' hq => ?_)
  cases r with
  | error e => exact hx pins σ H s e s' I hq
  | ok fl =>
    cases fl with
    | ret u => exact I.after hq
    | next => exact False.elim hq
    | brk => exact False.elim hq
    | cont => exact False.elim hq
theorem pe_call (F : FnOk X.prog X.w X.K X.mg X.base CX k f fd ps sp) (hr : Room k X.A) (hg : Gl X x) (hm : X.mg x = some (.ref f)) (hk : PySem.W.keepIn X.K (.ref f) = true) (hb : Binds X.K fd ps ds) (hd : Vals dvs ds) (hx : Passes CX X E)
    (ha : PA X (e :: es) t) (hdb : (x == ("__debug__" : Str)) = false := by decide) (he : starEach (e :: es) X.env = (false, eval e X.env) :: starEach es X.env := by rfl) (hpl : (backTo pos (starEach es X.env)).any (·.1) = false := by rfl) :
    PE X (.Call (.Name x p) (e :: es) [] pos) (tCall sp dvs E t) := by
  intro pins s σ H Q I h
  refine wpAny_Call_Name_kw (ld_glob I hg hm ?_ hdb)
  refine PySem.W.callWith_K (h₀ := X.base) I.ok.mod.kin hk (thn (ha pos pins s σ H _ I h) fun us s1 ⟨vs, H1, I1, r, q⟩ => ⟨I1.kIn, ?_⟩) he hpl
  exact run_fn F hr hb hd hx I1 r q
structure Mk (K : FG) (C f : Addr) : Prop where
  makes : PySem.W.makesIn K C = true
  init : PySem.W.findIn K (.ref C) "__init__" = some (some (.ref f))
  fn : PySem.W.isFn K (.ref f) = true
  kp : PySem.W.keepIn K (.ref C) = true
end
section
variable {X : Cx} {CX : CXT} {k : Nat} {f C : Addr} {fd : FuncData} {ps ks : List Str} {sp : Sp} {E : XK} {x m : Str} {p pos apos kpos : Pos} {e o : Expr} {es : List Expr} {kws : List Keyword} {te ta : TE} {t tk : TA} {nm : Option Str}
structure KBinds (K : FG) (fd : FuncData) (ps ks : List Str) (g : List Value → List Value → List Value) (gV : List V → List V → List V) : Prop where
  to : ∀ (s : Shared) (us ws : List Value), K.In s.heap → (g us ws).length = ps.length → BindsTo s fd ⟨us, ks.zip ws⟩ (ps.zip (g us ws))
  rel : ∀ {vs : List V} {us : List Value} {zs : List V} {ws : List Value}, Vals vs us → Vals zs ws → Vals (gV vs zs) (g us ws)
variable {g : List Value → List Value → List Value} {gV : List V → List V → List V}
end
structure FnScope (N P : List Str) (sc : Scope) : Prop where
  kind : sc.kind = .function
  co : sc.isCoroutine = false
  gen : sc.isGenerator = false
  nd : N.Nodup
  pre : N.take P.length = P
  par : ∀ x ∈ P, sc.names.lookup x = some .local ∨ sc.names.lookup x = some .cell
  nofree : ∀ y ∈ sc.names, y.2 ≠ .free
theorem bindL_out {kindOf : Str → Option NameKind} {x : Str} : ∀ {binds : List (Str × Value)} {m : Str → Option Value}, (∀ v, (x, v) ∉ binds) → bindL kindOf binds m x = m x
  | [], _, _ => rfl
  | (n, v) :: r, m, h => by
    unfold bindL
    rw [bindL_out fun w hw => h w (List.mem_cons_of_mem _ hw)]
    split
    · have : x ≠ n := by rintro rfl; exact h v List.mem_cons_self
      simp [this]
    · rfl
theorem bindC_out {kindOf : Str → Option NameKind} {x : Str} : ∀ {binds : List (Str × Value)} {m : Str → Option Value}, (∀ v, (x, v) ∉ binds) → bindC kindOf binds m x = m x
  | [], _, _ => rfl
  | (n, v) :: r, m, h => by
    unfold bindC
    rw [bindC_out fun w hw => h w (List.mem_cons_of_mem _ hw)]
    split
    · rfl
    · have : x ≠ n := by rintro rfl; exact h v List.mem_cons_self
      simp [this]
theorem bindL_get {kindOf : Str → Option NameKind} {x : Str} {v : Value} : ∀ {P : List Str} {vs : List Value} {i : Nat} {m : Str → Option Value}, P.Nodup → P[i]? = some x → vs[i]? = some v → kindOf x = some .local →
    bindL kindOf (P.zip vs) m x = some v
  | [], _, _, _, _, h, _, _ => by simp at h
  | _ :: _, [], _, _, _, _, h, _ => by simp at h
  | p :: P, w :: vs, 0, m, nd, h1, h2, hk => by
    simp at h1 h2; subst h1; subst h2
    show bindL kindOf ((p, w) :: P.zip vs) m p = _
    unfold bindL
    rw [bindL_out fun v hv => (List.nodup_cons.mp nd).1 (List.of_mem_zip hv).1, if_pos hk]
    simp
  | p :: P, w :: vs, i + 1, m, nd, h1, h2, hk => by
    show bindL kindOf ((p, w) :: P.zip vs) m x = _
    unfold bindL
    exact bindL_get (i := i) (List.nodup_cons.mp nd).2 (by simpa using h1) (by simpa using h2) hk
theorem bindC_get {kindOf : Str → Option NameKind} {x : Str} {v : Value} : ∀ {P : List Str} {vs : List Value} {i : Nat} {m : Str → Option Value}, P.Nodup → P[i]? = some x → vs[i]? = some v → kindOf x ≠ some .local →
    bindC kindOf (P.zip vs) m x = some v
  | [], _, _, _, _, h, _, _ => by simp at h
  | _ :: _, [], _, _, _, _, h, _ => by simp at h
  | p :: P, w :: vs, 0, m, nd, h1, h2, hk => by
    simp at h1 h2; subst h1; subst h2
    show bindC kindOf ((p, w) :: P.zip vs) m p = _
    unfold bindC
    rw [bindC_out fun v hv => (List.nodup_cons.mp nd).1 (List.of_mem_zip hv).1, if_neg hk]
    simp
  | p :: P, w :: vs, i + 1, m, nd, h1, h2, hk => by
    show bindC kindOf ((p, w) :: P.zip vs) m x = _
    unfold bindC
    exact bindC_get (i := i) (List.nodup_cons.mp nd).2 (by simpa using h1) (by simpa using h2) hk
def start (N : List Str) (vs : List V) : St := vs.map some ++ List.replicate (N.length - vs.length) none
def cxOf (CX : CXT) (P : Program) (w : World) (K : FG) (mg : Str → Option Value) (base : Heap) (N : List Str) (qual : Str) (scope : Scope) (f : Addr) (cd : Value) (A : Around) (outer : List Env) (s : Shared) (H : Hp) (E : XK) : Cx where
  prog := P
  w := w
  K := K
  mg := mg
  base := base
  A := A.deeper (envOfC qual scope s.heap.objs.size f cd)
  N := N
  s₀ := s
  H₀ := H
  env := envOfC qual scope s.heap.objs.size f cd
  outer := outer
  stack := envOfC qual scope s.heap.objs.size f cd :: outer
  ex := []
  calm := true
  fn := fun _ => true
  pn := []
  xe := fun e s' => wpAny (model P w) (A.deeper (envOfC qual scope s.heap.objs.size f cd)) (leaving (envOfC qual scope s.heap.objs.size f cd) e) (fun _ s'' => CX outer H s E e s'') (fun e' s'' => CX outer H s E e' s'') s'
theorem cell_has {sc : Scope} {n : Nat} {x : Str} (h : sc.names.lookup x = some .cell) : ∃ c, (cellsFrom n sc.names []).lookup x = some c := by
  have q := PySem.W.cellsFrom_some sc.names n [] (.inl h)
  exact Option.isSome_iff_exists.mp q
theorem inv_start {CX : CXT} {P : Program} {w : World} {K : FG} {mg : Str → Option Value} {base : Heap} {N ps : List Str} {qual : Str} {scope : Scope} {f : Addr} {cd : Value} {A : Around} {outer : List Env} {s s1 : Shared} {H : Hp} {E : XK} {us : List Value} {vs : List V}
    (S : FnScope N ps scope) (hd : A.handled = none) (e0 : Env0 P w K mg base A outer s H) (hl : vs.length = ps.length) (r : Vals vs us)
    (x : InCallC s s.heap.objs.size (bindL (envOfC qual scope s.heap.objs.size f cd).kindOf (ps.zip us) fun _ => none) (cellsFrom (s.heap.objs.size + 1) scope.names []) (bindC (envOfC qual scope s.heap.objs.size f cd).kindOf (ps.zip us) fun _ => none) s1) :
    Inv (cxOf CX P w K mg base N qual scope f cd A outer s H E) [] (start N vs) H s1 := by
  have hpl : ps.length ≤ N.length := by have := congrArg List.length S.pre; rw [List.length_take] at this; omega
  obtain ⟨h1, tk, rfl, hk⟩ := x.done
  have noA : ∀ b : Addr, b ∉ (cxOf CX P w K mg base N qual scope f cd A outer s H E).ex := fun b z => absurd (show b ∈ ([] : List Addr) from z) (by simp)
  refine ⟨⟨e0.mod, S.kind, rfl, rfl, Nat.le_refl _, fun y z c h1 h2 => ?_, fun y hy => ?_, fun y c _ h => ?_, fun _ => hd, Around.frames_deeper e0.frames, .inr ⟨rfl, rfl⟩, fun b z => absurd z (noA b), e0.bs, e0.bsz, fun b _ _ => noA b, fun b z => absurd z (noA b), e0.funs, e0.frf⟩,
    rfl, e0.bare, Un.kept hk, ⟨_, x.toInCall.ns, fun i y v h1 h2 h3 => ?_⟩, fun y c h => ⟨_, x.cell y c h⟩, e0.hok.fresh (Nat.le_refl _), fun y c h => ?_, fun p hp => absurd (show p ∈ ([] : List (Addr × Obj)) from hp) (by simp), e0.hok.kept hk, ?_⟩
  · exact name_of_addr x.apart (PySem.mem_of_lookup h1) (PySem.mem_of_lookup h2)
  · have hy : scope.names.lookup y = some .cell ∨ scope.names.lookup y = some .free := hy
    rcases hy with hy | hy
    · exact cell_has hy
    · exact absurd rfl (S.nofree _ (PySem.mem_of_lookup hy))
  · exact Nat.le_of_lt (x.above y c (PySem.mem_of_lookup h))
  · have hi : i < vs.length := by
      unfold start at h2
      by_cases hi : i < vs.length
      · exact hi
      · rw [List.getElem?_append_right (by simpa using hi)] at h2
        rw [List.getElem?_replicate] at h2
        split at h2 <;> cases h2
    have ha : vs[i]? = some v := by
      unfold start at h2
      rw [List.getElem?_append_left (by simpa using hi), List.getElem?_map] at h2
      cases e : vs[i]? with
      | none => rw [e] at h2; cases h2
      | some a => rw [e] at h2; cases h2; rfl
    obtain ⟨u, hu, rv⟩ := r.get ha
    have hp : ps[i]? = some y := by
      rw [← S.pre, List.getElem?_take_of_lt (by omega)]; exact h1
    have ndP : ps.Nodup := by rw [← S.pre]; exact S.nd.sublist (List.take_sublist _ _)
    refine ⟨u, rv, ?_⟩
    rcases S.par y (List.mem_of_getElem? hp) with k | k
    · exact .inl ⟨k, bindL_get ndP hp hu k⟩
    · obtain ⟨c, e⟩ := cell_has (n := s.heap.objs.size + 1) k
      refine .inr ⟨.inl k, c, e, ?_⟩
      have q := x.cell y c e
      rw [bindC_get ndP hp hu (by show scope.names.lookup y ≠ _; rw [k]; decide)] at q
      exact q
  · exact e0.hok.fresh (Nat.le_of_lt (x.above y c (PySem.mem_of_lookup h)))
  · unfold start
    show _ = N.length
    rw [List.length_append, List.length_map, List.length_replicate]
    omega
theorem fn_of {CX : CXT} {P : Program} {w : World} {K : FG} {mg : Str → Option Value} {base : Heap} {k : Nat} {f : Addr} {name qual : Str} {params : Arguments} {body : List Stmt} {scope : Scope} {dV kV doc pm cdv ct oc : Value} {an od : Option Addr}
    {osl : Array (Option Value)} {N ps : List Str} {sp : Sp} (lk : K.lookup f = some ⟨oc, od, .func (PySem.W.fnOf name qual params body scope dV kV doc pm an cdv ct), osl⟩) (hcd : PySem.W.codeIn K cdv qual = true) (S : FnScope N ps scope)
    (len : ∀ vs H Q E, sp vs H Q E → vs.length = ps.length)
    (hbody : ∀ (A : Around) (outer : List Env) (s : Shared) (H : Hp) (vs : List V) (Q : VK) (E : XK), Room k (A.deeper (envOfC qual scope s.heap.objs.size f cdv)) → sp vs H Q E →
      ∃ t, PSs (cxOf CX P w K mg base N qual scope f cdv A outer s H E) body t ∧ t { nx := fun _ H' => Q .non H', rt := Q } (start N vs) H) :
    FnOk P w K mg base CX (k + 1) f (PySem.W.fnOf name qual params body scope dV kV doc pm an cdv ct) ps sp := by
  refine ⟨len, fun A outer s H args us vs Q E hr e0 hb r hsp => ?_⟩
  have hl := len _ _ _ _ hsp
  have KX : K.In s.heap := e0.mod.kin.keeps fun b o e => (e0.bs b o e).1
  have lim : s.heap.NoLimit := e0.mod.nolimit.keeps fun b o e => (e0.bs b o e).1
  have hkind : ∀ y ∈ ps.zip us, scope.names.lookup y.1 = some .local ∨ (scope.names.lookup y.1 = some .cell ∧ ((cellsFrom (s.heap.objs.size + 1) scope.names []).lookup y.1).isSome = true) := fun ⟨n, v⟩ hy => by
    rcases S.par n (List.of_mem_zip hy).1 with q | q
    · exact .inl q
    · exact .inr ⟨q, PySem.W.cellsFrom_some _ _ _ (.inl q)⟩
  refine codeAny_call_function hr.depth (KX _ _ lk) rfl S.co S.gen rfl (PySem.W.codeRec_of KX hcd) (hb _ _ _ _ ?_)
  refine wpAny_newFunctionEnv_cells S.kind hkind fun env he s1 x => ?_
  subst he
  refine ⟨lim.keeps x.toInCall.keep, codeAny_func ?_⟩
  obtain ⟨t, ht, hq⟩ := hbody A outer s H vs Q E (hr.deeper _) hsp
  have I : Inv (cxOf CX P w K mg base N qual scope f cdv A outer s H E) [] (start N vs) H s1 := inv_start S hr.hd e0 hl r x
  refine wpAny_mono (ht [] s1 (start N vs) H _ I hq) (fun fl s' hs => ?_) fun e s' hs => hs
  have fin : ∀ {σ' : St} {H' : Hp} {v : V} {u : Value}, Inv (cxOf CX P w K mg base N qual scope f cdv A outer s H E) [] σ' H' s' → RelV v u → Q v H' → CE outer P w H s Q u s' :=
    fun {σ' H' v u} J rv q => ⟨v, H', J.os, J.bare, J.base, J.hok, rv, q⟩
  cases fl with
  | ret u =>
    obtain ⟨v, σ', H', J, rv, q⟩ := hs
    exact fin J rv q
  | next =>
    obtain ⟨σ', H', J, q⟩ := hs
    exact fin (v := V.non) (u := Value.none) J rfl q
  | brk =>
    obtain ⟨_, _, _, q⟩ := hs
    exact False.elim q
  | cont =>
    obtain ⟨_, _, _, q⟩ := hs
    exact False.elim q
end L2
namespace L2
open PySem PySem.Spec PyProof.Rows
section
variable {X : Cx} {x : Str} {p pos : Pos} {e : Expr} {es : List Expr} {t : TA} {id T : String} {r : List V → Hp → VK → Prop}
def tCB (r : List V → Hp → VK → Prop) (t : TA) : TE := fun σ H Q => t σ H fun vs H1 => r vs H1 Q
theorem pe_callB (hc : CallR X (.builtin id) r) (hg : Gl X x) (hm : X.mg x = none) (hv : bootBuiltins x = some (.builtin id)) (ha : PA X (e :: es) t) (hn : x ≠ "__name__" := by decide) (hdb : (x == ("__debug__" : Str)) = false := by decide)
    (he : starEach (e :: es) X.env = (false, eval e X.env) :: starEach es X.env := by rfl) (hpl : (backTo pos (starEach es X.env)).any (·.1) = false := by rfl) : PE X (.Call (.Name x p) (e :: es) [] pos) (tCB r t) := by
  intro pins s σ H Q I h
  refine wpAny_Call_Name_kw (ld_blt I hg hm hv ?_ hn hdb)
  exact PyProof.Rows.callWith_builtin1 (thn (ha pos pins s σ H _ I h) fun us s1 ⟨vs, H1, I1, r1, q1⟩ => hc pins s1 σ H1 vs us Q I1 r1 q1) he hpl
theorem pe_callTy (hc : CallR X (.type T) r) (hg : Gl X x) (hm : X.mg x = none) (hv : bootBuiltins x = some (.type T)) (ha : PA X (e :: es) t) (hn : x ≠ "__name__" := by decide) (hdb : (x == ("__debug__" : Str)) = false := by decide)
    (he : starEach (e :: es) X.env = (false, eval e X.env) :: starEach es X.env := by rfl) (hpl : (backTo pos (starEach es X.env)).any (·.1) = false := by rfl) : PE X (.Call (.Name x p) (e :: es) [] pos) (tCB r t) := by
  intro pins s σ H Q I h
  refine wpAny_Call_Name_kw (ld_blt I hg hm hv ?_ hn hdb)
  exact PyProof.Rows.callWith_type1 (thn (ha pos pins s σ H _ I h) fun us s1 ⟨vs, H1, I1, r1, q1⟩ => hc pins s1 σ H1 vs us Q I1 r1 q1) he hpl
end
end L2
namespace HT
open PySem PyProof.Rows
section
open PySem.SeqAt
open PySem.AutoSeq1 (wpAny_loadPart')
open PySem.MeetsSeq PySem.MeetsSeq2 PySem.MeetsSeq3
end
section
variable {prog : Program} {w : World} {A : Around} {E : Value → Shared → Prop} {s : Shared}
theorem cat_tup {t b : Addr} {vs ws : List Value} {Q : Value → Shared → Prop} (ht : IsTup s.heap t vs.toArray) (hb : IsTup s.heap b ws.toArray) (hv : vs ≠ [])
    (h1 : ws = [] → Q (.ref t) s) (h2 : ws ≠ [] → Q (.ref s.heap.objs.size) { s with heap := s.heap.push { cls := .type "tuple", data := .seq (vs ++ ws).toArray } })
    (hsz : vs.length + ws.length ≤ sizeLine) : wpAny (model prog w) A (binaryOp .Add (.ref t) (.ref b)) Q E s := by
  obtain ⟨⟨cls, dd, data, sl⟩, ho, hc, n, hd⟩ := id ht
  obtain ⟨⟨cls2, dd2, data2, sl2⟩, ho2, hc2, n2, hd2⟩ := id hb
  simp only at hc hd hc2 hd2
  subst hc hd hc2 hd2
  have e : vs.toArray ++ ws.toArray = (vs ++ ws).toArray := by simp
  by_cases hw : ws = []
  · exact concat_meets ⟨_, ho, rfl⟩ ⟨_, ho2, rfl⟩ noFill_tuple_add seq_tuple_add PySem.F.slot_tuple_add PySem.F.entry_tuple_add (PySem.F.args_tuple_add_2 _ _)
      (tuple_addW1 t b vs.toArray ws.toArray n n2 dd dd2 sl sl2 (by simpa using hv) (by simp [hw])) ⟨ho, ho2, h1 hw⟩
  · refine concat_meets ⟨_, ho, rfl⟩ ⟨_, ho2, rfl⟩ noFill_tuple_add seq_tuple_add PySem.F.slot_tuple_add PySem.F.entry_tuple_add (PySem.F.args_tuple_add_2 _ _)
      (tuple_addW2 t b vs.toArray ws.toArray n n2 dd dd2 sl sl2 (by simpa using hv) (by simpa using hw) (by rw [List.size_toArray, List.size_toArray]; exact hsz)) ⟨ho, ho2, ?_⟩
    rw [e]
    exact h2 hw
def sIx (n d : Nat) : Option Int → Nat
  | none => d
  | some v => if v < 0 then (v + (n : Int)).toNat else min v.toNat n
theorem sIx_le (n d : Nat) (hd : d ≤ n) (o : Option Int) : sIx n d o ≤ n := by
  cases o with
  | none => exact hd
  | some v =>
    show (if v < 0 then (v + (n : Int)).toNat else min v.toNat n) ≤ n
    by_cases hv : v < 0
    · rw [if_pos hv]; omega
    · rw [if_neg hv]; exact Nat.min_le_right _ _
theorem clip_eq (v : Int) (n d : Nat) : (if v < 0 then max (v + (n : Int)) 0 else min v (n : Int)) = ((sIx n d (some v) : Nat) : Int) := by
  show (if v < 0 then max (v + (n : Int)) 0 else min v (n : Int)) = (((if v < 0 then (v + (n : Int)).toNat else min v.toNat n) : Nat) : Int)
  by_cases hv : v < 0
  · simp only [if_pos hv]; omega
  · simp only [if_neg hv]; omega
theorem adjust_gen (lo hi : Option Int) (n : Nat) : Builtin.Slice.sliceAdjust lo hi 1 (n : Int) = (((sIx n 0 lo : Nat) : Int), ((sIx n n hi : Nat) : Int)) := by
  have h1 : ¬ ((1 : Int) < 0) := by omega
  unfold Builtin.Slice.sliceAdjust
  simp only [h1, if_false]
  refine Prod.ext ?_ ?_
  · cases lo with
    | none => rfl
    | some v => exact clip_eq v n 0
  · cases hi with
    | none => rfl
    | some v => exact clip_eq v n n
theorem places_gen (i j : Nat) : Builtin.Slice.slicePlaces (i : Int) (j : Int) 1 = j - i := by
  unfold Builtin.Slice.slicePlaces
  have h1 : (1 : Int) > 0 := by omega
  simp only [h1, if_true, Int.ediv_one]
  split <;> omega
theorem slicePart_ {v : Value} {o : Option Int} {Q : Option Int → Shared → Prop} (p : IsPart v o) (h : Q o s) : wpAny (model prog w) A (Builtin.Slice.slicePartIndex v) Q E s := by
  cases p with
  | none => exact slicePart_none h
  | int i t => exact slicePart_int h
theorem sliceApplied_gen {sl : Addr} {vl vu : Value} {lo hi : Option Int} {n : Nat} {Q : Int × Int × Nat → Shared → Prop} (hs : s.heap.IsSliceOf sl vl vu .none) (pl : IsPart vl lo) (pu : IsPart vu hi)
    (h : Q (((sIx n 0 lo : Nat) : Int), 1, sIx n n hi - sIx n 0 lo) s) : wpAny (model prog w) A (Builtin.Slice.sliceApplied (.ref sl) (pure (n : Int))) Q E s := by
  obtain ⟨os, hos, hcs, hds⟩ := id hs
  unfold Builtin.Slice.sliceApplied Builtin.Slice.sliceFields
  refine wpAny_bind (wpAny_bind (wpAny_field hos hds (x := vl) rfl (wpAny_bind (wpAny_field hos hds (x := vu) rfl (wpAny_bind (wpAny_field hos hds (x := .none) rfl (wpAny_pure ?_)))))))
  refine wpAny_bind (slicePart_none ?_)
  show wpAny _ _ (if ((1 : Int) == 0) = true then _ else _) _ _ s
  rw [if_neg (by decide)]
  refine wpAny_bind (slicePart_ pl (wpAny_bind (slicePart_ pu (wpAny_bind (wpAny_pure ?_)))))
  show wpAny _ _ (match Builtin.Slice.sliceAdjust lo hi 1 (n : Int) with | (lo, hi) => pure (lo, (1 : Int), Builtin.Slice.slicePlaces lo hi 1)) _ _ s
  rw [adjust_gen lo hi n]
  show wpAny _ _ (pure (((sIx n 0 lo : Nat) : Int), (1 : Int), Builtin.Slice.slicePlaces ((sIx n 0 lo : Nat) : Int) ((sIx n n hi : Nat) : Int) 1)) _ _ s
  rw [places_gen]
  exact wpAny_pure h
theorem pick_gen (xs : Array Value) (i k : Nat) : ((List.range k).filterMap fun (m : Nat) => xs[((i : Int) + (m : Int) * 1).toNat]?).toArray = ((xs.toList.drop i).take k).toArray := by
  have e : (fun (m : Nat) => xs[((i : Int) + (m : Int) * 1).toNat]?) = fun m => xs[i + m]? := by
    funext m
    have : ((i : Int) + (m : Int) * 1).toNat = i + m := by omega
    rw [this]
  rw [e]
  have := pick_run xs i k
  rw [List.filterMap_map] at this
  have e2 : ((fun x => xs[x]?) ∘ fun x => i + x) = fun m => xs[i + m]? := rfl
  rw [e2] at this
  rw [this]
theorem getItem_tuple_cut {t sl : Addr} {items : Array Value} {vl vu : Value} {lo hi : Option Int} {Q : Value → Shared → Prop} (ht : IsTup s.heap t items) (hs : s.heap.IsSliceOf sl vl vu .none) (pl : IsPart vl lo) (pu : IsPart vu hi)
    (hw : ¬ (sIx items.size 0 lo = 0 ∧ sIx items.size items.size hi = items.size))
    (h : Q (.ref s.heap.objs.size) { s with heap := s.heap.push { cls := .type "tuple", data := .seq ((items.toList.drop (sIx items.size 0 lo)).take (sIx items.size items.size hi - sIx items.size 0 lo)).toArray } })
    (hsz : items.size ≤ sizeLine) : wpAny (model prog w) A (getItem (.ref t) (.ref sl)) Q E s := by
  have htake : sizeOk (.seq ((items.toList.drop (sIx items.size 0 lo)).take (sIx items.size items.size hi - sIx items.size 0 lo)).toArray) := by
    show ((items.toList.drop (sIx items.size 0 lo)).take (sIx items.size items.size hi - sIx items.size 0 lo)).toArray.size ≤ sizeLine
    rw [List.size_toArray, List.length_take, List.length_drop, Array.length_toList]
    omega
  have hj : sIx items.size items.size hi ≤ items.size := sIx_le _ _ (Nat.le_refl _) hi
  obtain ⟨os, hos, hcs, hds⟩ := id hs
  have hTs : s.TypeIs (.ref sl) "slice" := ⟨os, hos, hcs⟩
  unfold getItem
  try with_reducible refine wpAny_holding ?_
  first | refine wpAny_bind (wpAny_pure ?_) | skip
  refine wpAny_bind (wpAny_sequenceKey ht.typeIs (by decide) ?_)
  refine wpAny_bind (wpAny_callSpecial?_slot (name := Str.ofString "__getitem__") ht.typeIs PyProof.Rows.slot_tuple_getitem
    (wpAny_call_entry PyProof.Rows.slot_tuple_getitem ht.typeIs entry_tuple_getitem ?_ (args_tuple_getitem _ _)))
  show wpAny _ _ (Builtin.Tuple.tupleItemsOf (.ref t) >>= _) _ _ s
  refine wpAny_bind (tupleItemsOf_ ht ?_)
  refine wpAny_bind (wpAny_typeOf hTs ?_)
  rw [if_pos (by decide)]
  refine wpAny_bind (sliceApplied_gen hs pl pu ?_)
  have hno : ¬ ((((sIx items.size 0 lo : Nat) : Int) == 0 && (1 : Int) == 1 && (sIx items.size items.size hi - sIx items.size 0 lo) == items.size) = true) := by
    intro q
    rw [Bool.and_eq_true, Bool.and_eq_true] at q
    have q1 : ((sIx items.size 0 lo : Nat) : Int) = 0 := eq_of_beq q.1.1
    have q2 : sIx items.size items.size hi - sIx items.size 0 lo = items.size := eq_of_beq q.2
    exact hw ⟨by omega, by omega⟩
  show wpAny _ _ (if (((sIx items.size 0 lo : Nat) : Int) == 0 && (1 : Int) == 1 && (sIx items.size items.size hi - sIx items.size 0 lo) == items.size) = true then _ else _) _ _ s
  rw [if_neg hno, pick_gen]
  first
    | exact wpAny_bind (m := Builtin.Tuple.tupleExact _) (wpAny_newObj_type (wpAny_pure ⟨_, rfl, wpAny_pure h⟩) htake)
    | exact wpAny_bind (m := Builtin.Tuple.tupleExact _) (wpAny_newObj_type (wpAny_bind (wpAny_pure (wpAny_pure ⟨_, rfl, wpAny_pure h⟩))) htake)
    | exact wpAny_bind (wpAny_bind (m := Builtin.Tuple.tupleExact _) (wpAny_newObj_type (wpAny_pure (wpAny_pure ⟨_, rfl, wpAny_pure h⟩)) htake))
    | exact wpAny_bind (wpAny_bind (m := Builtin.Tuple.tupleExact _) (wpAny_newObj_type (wpAny_pure ⟨_, rfl, wpAny_pure h⟩) htake))
end
end HT
namespace L2
open PySem PySem.Spec PyProof.Rows
abbrev TO := St → Hp → (Option Int → Hp → Prop) → Prop
def PO (X : Cx) (e : Option Expr) (t : TO) : Prop :=
  ∀ (pins : List (Addr × Obj)) (s : Shared) (σ : St) (H : Hp) (Q : Option Int → Hp → Prop), Inv X pins σ H s → t σ H Q →
    wpAny (model X.prog X.w) X.A (evalPart e X.env) (fun u s' => ∃ o H', Inv X pins σ H' s' ∧ IsPart u o ∧ Q o H') X.xe s
def tNoPart : TO := fun _ H Q => Q none H
def tPart (t : TE) : TO := fun σ H Q => t σ H fun x H1 => ∃ i, x = .int i ∧ Q (some i) H1
theorem intsAre_of {ns : List Int} : ∀ {us : List Value}, Vals (ns.map V.int) us → IntsAre us ns := by
  induction ns with
  | nil => intro us r; rw [List.map_nil] at r; cases r; exact .nil
  | cons n ns ih =>
    intro us r
    rw [List.map_cons] at r
    cases r with
    | cons r1 r2 =>
      obtain ⟨t, e⟩ := r1
      subst e
      exact .cons n t (ih r2)
section
variable {X : Cx} {e : Expr} {te : TE} {lo hi : Option Expr} {tl th : TO} {pos p2 : Pos}
theorem po_none : PO X none tNoPart := by
  intro pins s σ H Q I h
  rw [evalPart_none]
  exact wpAny_pure ⟨none, H, I, .none, h⟩
theorem po_some (h : PE X e te) : PO X (some e) (tPart te) := by
  intro pins s σ H Q I hw
  rw [evalPart_some]
  refine thn (h pins s σ H _ I hw) fun u s1 ⟨x, H1, I1, r1, q1⟩ => ?_
  obtain ⟨i, rfl, q⟩ := q1
  obtain ⟨t, rfl⟩ := r1
  exact ⟨some i, H1, I1, .int i t, q⟩
def SlR (X : Cx) (r : V → Option Int → Option Int → Hp → VK → Prop) : Prop :=
  ∀ (pins : List (Addr × Obj)) (s : Shared) (σ : St) (H : Hp) (x : V) (v vl vu : Value) (lo hi : Option Int) (sl : Addr) (Q : VK), Inv X pins σ H s → RelV x v → s.heap.IsSliceOf sl vl vu .none → IsPart vl lo → IsPart vu hi → r x lo hi H Q →
    ∃ T id, typeLookup (.type T) "__getitem__" = pure (some (.builtin id)) ∧ s.TypeIs v T ∧ wpAny (model X.prog X.w) X.A (getItem v (.ref sl)) (EP X pins σ Q) X.xe s
def tSl (r : V → Option Int → Option Int → Hp → VK → Prop) (te : TE) (tl th : TO) : TE := fun σ H Q => te σ H fun x H1 => tl σ H1 fun l H2 => th σ H2 fun u H3 => r x l u H3 Q
theorem pe_slice {r : V → Option Int → Option Int → Hp → VK → Prop} (hr : SlR X r) (he : PE X e te) (hl : PO X lo tl) (hu : PO X hi th) : PE X (.Subscript e (.Slice lo hi none p2) pos) (tSl r te tl th) := by
  intro pins s σ H Q I h
  refine Subscript_ (thn (he pins s σ H _ I h) fun v s1 ⟨x, H1, I1, r1, q1⟩ => ?_)
  refine wpAny_Slice (thn (hl pins s1 σ H1 _ I1 q1) fun vl s2 ⟨l, H2, I2, pl, q2⟩ => thn (hu pins s2 σ H2 _ I2 q2) fun vu s3 ⟨u, H3, I3, pu, q3⟩ => ?_)
  rw [evalPart_none]
  refine wpAny_pure ?_
  have I4 : Inv X pins σ H3 { s3 with heap := s3.heap.push { cls := .type "slice", data := .fields #[vl, vu, .none] } } := I3.kept (t' := s3.toks) fun b ob q => Heap.get?_push_of_some _ q
  obtain ⟨T, id, hT, ht, hg⟩ := hr pins { s3 with heap := s3.heap.push { cls := .type "slice", data := .fields #[vl, vu, .none] } } σ H3 x v vl vu l u s3.heap.objs.size Q I4 r1 (Heap.IsSliceOf.new ..) pl pu q3
  show wpAny (model X.prog X.w) X.A (subscriptTail e (.Slice lo hi none p2) v (.ref s3.heap.objs.size)) (EP X pins σ Q) X.xe { s3 with heap := s3.heap.push { cls := .type "slice", data := .fields #[vl, vu, .none] } }
  exact tail_any (ops := [.ref s3.heap.objs.size, v]) ht hT hg (by with_unfolding_all rfl)
def cutV (xs : List V) (lo hi : Option Int) : List V := (xs.drop (HT.sIx xs.length 0 lo)).take (HT.sIx xs.length xs.length hi - HT.sIx xs.length 0 lo)
theorem cutV_length (xs : List V) (lo hi : Option Int) : (cutV xs lo hi).length ≤ xs.length := by
  unfold cutV
  rw [List.length_take, List.length_drop]
  omega
def rSlT (K : FG) : V → Option Int → Option Int → Hp → VK → Prop := fun x lo hi H Q => ∃ a xs, x = .ref a ∧ SqT K H a xs ∧
  ¬ (HT.sIx xs.length 0 lo = 0 ∧ HT.sIx xs.length xs.length hi = xs.length) ∧ ∀ p, H p = none → Q (.ref p) (upd H p (.tup (cutV xs lo hi)))
theorem sl_tup : SlR X (rSlT X.K) := by
  intro pins s σ H x v vl vu lo hi sl Q I rx hs pl pu h
  obtain ⟨a, xs, rfl, hx, hw, q⟩ := h
  cases rx
  obtain ⟨its, r, ht, hz⟩ := I.tuple hx
  have hlen : its.toArray.size = xs.length := by rw [List.size_toArray]; exact r.length.symm
  refine ⟨"tuple", _, PyProof.Rows.slot_tuple_getitem.lookup, ht.typeIs, ?_⟩
  refine HT.getItem_tuple_cut ht hs pl pu (by rw [hlen]; exact hw) ?_ (by rw [hlen]; exact hz)
  rw [hlen]
  refine ⟨.ref s.heap.objs.size, _, I.laid (t' := s.toks) (o := .tup (cutV xs lo hi)) (fun b ob q => Heap.get?_push_of_some _ q) (Nat.le_refl _) ?_, rfl, q _ (I.hok.fresh (Nat.le_refl _))⟩
  exact ⟨Nat.le_trans (cutV_length xs lo hi) hz, _, (r.drop (HT.sIx xs.length 0 lo)).take (HT.sIx xs.length xs.length hi - HT.sIx xs.length 0 lo), IsTup.new _ _⟩
def rCatT (K : FG) : R2 := fun x y H Q => ∃ a b xs ys, x = .ref a ∧ y = .ref b ∧ SqT K H a xs ∧ SqT K H b ys ∧ xs ≠ [] ∧ xs.length + ys.length ≤ sizeLine ∧
  (ys = [] → Q (.ref a) H) ∧ (ys ≠ [] → ∀ p, H p = none → Q (.ref p) (upd H p (.tup (xs ++ ys))))
theorem Vals.nil_iff {xs : List V} {us : List Value} (r : Vals xs us) : us = [] ↔ xs = [] := by
  cases r with
  | nil => simp
  | cons _ _ => simp
theorem op_catT : OpR X (binaryOp .Add) (rCatT X.K) := by
  intro pins s σ H x y v u Q I rx ry h
  obtain ⟨a, b, xs, ys, rfl, rfl, ha, hb, hx, hz, q1, q2⟩ := h
  cases rx
  cases ry
  obtain ⟨its, r1, p1, _⟩ := I.tuple ha
  obtain ⟨its2, r2, p2, _⟩ := I.tuple hb
  refine HT.cat_tup p1 p2 (fun z => hx (r1.nil_iff.mp z)) (fun z => ⟨.ref a, H, I, rfl, q1 (r2.nil_iff.mp z)⟩) (fun z => ?_) (by rw [← r1.length, ← r2.length]; exact hz)
  refine ⟨.ref s.heap.objs.size, _, I.laid (t' := s.toks) (o := .tup (xs ++ ys)) (fun b ob q => Heap.get?_push_of_some _ q) (Nat.le_refl _) ?_, rfl, q2 (fun w => z (r2.nil_iff.mpr w)) _ (I.hok.fresh (Nat.le_refl _))⟩
  exact ⟨by rw [List.length_append]; exact hz, _, r1.append r2, IsTup.new _ _⟩
end
end L2
namespace L2
open PySem PySem.Spec PyProof.Rows
def ixN (n : Nat) (i : Int) : Option Nat := if 0 ≤ i then (if i < n then some i.toNat else none) else if -(n : Int) ≤ i then some (i + n).toNat else none
def atI {α : Type} (xs : List α) (i : Int) : Option α := (ixN xs.length i).bind fun j => xs[j]?
theorem ixN_seq {n : Nat} {i : Int} {j : Nat} (h : ixN n i = some j) : seqIndex? i n = some j ∧ j < n ∧ -(n : Int) ≤ i ∧ i < n := by
  unfold ixN at h
  by_cases h0 : 0 ≤ i
  · rw [if_pos h0] at h
    by_cases h1 : i < n
    · rw [if_pos h1] at h
      have e : i.toNat = j := Option.some.inj h
      exact ⟨by rw [seqIndex_of h0 h1, e], by omega, by omega, h1⟩
    · rw [if_neg h1] at h; cases h
  · rw [if_neg h0] at h
    by_cases h1 : -(n : Int) ≤ i
    · rw [if_pos h1] at h
      have e : (i + n).toNat = j := Option.some.inj h
      exact ⟨by rw [seqIndex_neg (by omega) h1, e], by omega, h1, by omega⟩
    · rw [if_neg h1] at h; cases h
theorem atI_get {α : Type} {xs : List α} {i : Int} {v : α} (h : atI xs i = some v) : ∃ j, seqIndex? i xs.length = some j ∧ xs[j]? = some v ∧ j < xs.length ∧ -(xs.length : Int) ≤ i ∧ i < xs.length := by
  unfold atI at h
  cases e : ixN xs.length i with
  | none => rw [e] at h; cases h
  | some j =>
    rw [e] at h
    obtain ⟨h1, h2, h3, h4⟩ := ixN_seq e
    exact ⟨j, h1, h, h2, h3, h4⟩
def PlainIx (b : Expr) : Prop := ∀ o i, subscripted b false o i = operate [o, i] (getItem o i)
def IxR (X : Cx) (r : R2) : Prop :=
  ∀ (value slice : Expr) (pins : List (Addr × Obj)) (s : Shared) (σ : St) (H : Hp) (x y : V) (v u : Value) (Q : VK), Inv X pins σ H s → RelV x v → RelV y u → r x y H Q →
    subscripted slice false v u = operate [v, u] (getItem v u) → wpAny (model X.prog X.w) X.A (subscriptTail value slice v u) (EP X pins σ Q) X.xe s
def MtR (X : Cx) (id : String) (r : V → List V → Hp → VK → Prop) : Prop :=
  ∀ (pins : List (Addr × Obj)) (s : Shared) (σ : St) (H : Hp) (x : V) (xs : List V) (v : Value) (us : List Value) (Q : VK), Inv X pins σ H s → RelV x v → Vals xs us → r x xs H Q →
    wpAny (model X.prog X.w) X.A (call (.builtin id) (v :: us)) (EP X pins σ Q) X.xe s
section
variable {X : Cx} {a b : Expr} {ta tb : TE} {pos : Pos}
theorem IxR.or {r r' : R2} (h : IxR X r) (h' : IxR X r') : IxR X (fun x y H Q => r x y H Q ∨ r' x y H Q) := by
  intro value slice pins s σ H x y v u Q I rx ry q hs
  rcases q with q | q
  · exact h value slice pins s σ H x y v u Q I rx ry q hs
  · exact h' value slice pins s σ H x y v u Q I rx ry q hs
theorem pe_ix {r : R2} (hr : IxR X r) (ha : PE X a ta) (hb : PE X b tb) (hs : PlainIx b) : PE X (.Subscript a b pos) (tOp r ta tb) := by
  intro pins s σ H Q I h
  exact Subscript_ (binT ha hb I h fun v u s2 x y H2 I2 rx ry q => hr a b pins s2 σ H2 x y v u Q I2 rx ry q (hs _ _))
def rIxL (K : FG) : R2 := fun x y H Q => ∃ p xs i v, x = .ref p ∧ y = .int i ∧ SqL K H p xs ∧ atI xs i = some v ∧ Q v H
def rIxT (K : FG) : R2 := fun x y H Q => ∃ p xs i v, x = .ref p ∧ y = .int i ∧ SqT K H p xs ∧ atI xs i = some v ∧ Q v H
theorem ix_list : IxR X (rIxL X.K) := by
  intro value slice pins s σ H x y v u Q I rx ry h hs
  obtain ⟨p, xs, i, z, rfl, rfl, hq, he, q⟩ := h
  cases rx
  obtain ⟨t, rfl⟩ := ry
  obtain ⟨its, r, pl, hz⟩ := I.list hq
  obtain ⟨j, h1, h2, h3, h4, h5⟩ := atI_get he
  obtain ⟨w, ew, rw'⟩ := r.get h2
  have hl := r.length
  have hn := line63
  have fin : EP X pins σ Q w s := ⟨z, H, I, rw', q⟩
  by_cases h0 : 0 ≤ i
  · have hj : i.toNat = j := by
      rw [seqIndex_of h0 h5] at h1
      exact Option.some.inj h1
    exact item_listR pl.isList h0 (by omega) (by rw [hj]; simpa using ew) fin hs
  · have hj : (i + (its.toArray.size : Int)).toNat = j := by
      rw [seqIndex_neg (by omega) h4] at h1
      rw [List.size_toArray, ← hl]
      exact Option.some.inj h1
    exact subscriptTail_builtinR (x := w) pl.isList.typeIs slot_list_getitem.lookup
      (wpAny_getItem_list_neg (Q := fun r s' => r = w ∧ EP X pins σ Q r s') pl.isList (by omega) (by rw [List.size_toArray] <;> omega) (by omega) (by rw [hj]; simpa using ew) ⟨rfl, fin⟩) hs
theorem ix_tup : IxR X (rIxT X.K) := by
  intro value slice pins s σ H x y v u Q I rx ry h hs
  obtain ⟨p, xs, i, z, rfl, rfl, hq, he, q⟩ := h
  cases rx
  obtain ⟨t, rfl⟩ := ry
  obtain ⟨its, r, pl, hz⟩ := I.tuple hq
  obtain ⟨j, h1, h2, h3, h4, h5⟩ := atI_get he
  obtain ⟨w, ew, rw'⟩ := r.get h2
  have hl := r.length
  have hn := line63
  have fin : EP X pins σ Q w s := ⟨z, H, I, rw', q⟩
  exact subscriptTail_builtinR (x := w) pl.typeIs slot_tuple_getitem.lookup
    (getItem_tuple (j := j) (Q := fun r s' => r = w ∧ EP X pins σ Q r s') pl (by omega) (by omega) (by rw [List.size_toArray, ← hl]; exact h1) (by simpa using ew) ⟨rfl, fin⟩) hs
theorem mapSeq_set (its : List Value) (n j : Nat) (u : Value) : Obj.mapSeq (·.setIfInBounds j u) { cls := .type "list", data := .seq its.toArray n } = { cls := .type "list", data := .seq (its.set j u).toArray n } := by
  simp [Obj.mapSeq]
theorem Inv.lst {pins : List (Addr × Obj)} {σ : St} {H : Hp} {s : Shared} {p : Addr} {xs : List V} (I : Inv X pins σ H s) (h : H p = some (.lst xs)) :
    ∃ (its : List Value) (n : Nat), Vals xs its ∧ s.heap.get? p = some { cls := .type "list", data := .seq its.toArray n } ∧ xs.length ≤ sizeLine := by
  obtain ⟨z, its, n, r, e⟩ := I.hok p _ h
  exact ⟨its, n, r, e, z⟩
theorem Inv.lstUpd {pins : List (Addr × Obj)} {σ : St} {H : Hp} {s : Shared} {p : Addr} {xs ys : List V} {its its' : List Value} {n n' : Nat} {f : Obj → Obj} (I : Inv X pins σ H s) (h : H p = some (.lst xs))
    (ho : s.heap.get? p = some { cls := .type "list", data := .seq its.toArray n }) (hf : f { cls := .type "list", data := .seq its.toArray n } = { cls := .type "list", data := .seq its'.toArray n' }) (r : Vals ys its') (hz : ys.length ≤ sizeLine) (t : Nat) :
    Inv X pins σ (upd H p (.lst ys)) { s with heap := s.heap.update p f, toks := t } := by
  have e : (s.heap.update p f).get? p = some { cls := .type "list", data := .seq its'.toArray n' } := by
    rw [Heap.get?_update_self f ho (by rw [hf] <;> rfl), hf]
  refine I.write (x := p) (e := p) (by rw [h]; trivial) (.inl rfl) (fun b u hb q => (Heap.get?_update_other _ _ (Ne.symm hb)).trans q) ⟨_, e⟩ ?_
  exact ⟨hz, its', n', r, e⟩
def rSetL : V → V → V → Hp → (Hp → Prop) → Prop := fun o i v H Q => ∃ p xs k j, o = .ref p ∧ i = .int k ∧ H p = some (.lst xs) ∧ ixN xs.length k = some j ∧ Q (upd H p (.lst (xs.set j v)))
theorem set_list : PSet X rSetL := by
  intro pins s σ H o i v ov iv u Q I ro ri rv h
  obtain ⟨p, xs, k, j, rfl, rfl, hp, hj, q⟩ := h
  cases ro
  obtain ⟨t, rfl⟩ := ri
  obtain ⟨its, n, r, ho, hz⟩ := I.lst hp
  obtain ⟨h1, h2, h3, h4⟩ := ixN_seq hj
  have hl := r.length
  have hn := line63
  have I' : Inv X pins σ (upd H p (.lst (xs.set j v))) { s with heap := s.heap.update p (Obj.mapSeq (·.setIfInBounds j u)) } :=
    I.lstUpd hp ho (mapSeq_set its n j u) (r.set rv j) (by rw [List.length_set]; exact hz) s.toks
  by_cases h0 : 0 ≤ k
  · have hk : k.toNat = j := by
      rw [seqIndex_of h0 h4] at h1
      exact Option.some.inj h1
    exact PySem.W.ki_setAt ho h0 (by omega) (by rw [List.size_toArray, ← hl]; exact h4) (by rw [hk]; exact ⟨_, I', q⟩)
  · have hk : (k + (its.toArray.size : Int)).toNat = j := by
      rw [seqIndex_neg (by omega) h3] at h1
      rw [List.size_toArray, ← hl]
      exact Option.some.inj h1
    exact PySem.W.ki_setBack ho (by omega) (by rw [List.size_toArray, ← hl]; exact h3) (by omega) (by rw [hk]; exact ⟨_, I', q⟩)
theorem slice_bounds (lo hi : Option Int) (n : Nat) : (sliceBounds lo hi none n).1 = ((HT.sIx n 0 lo : Nat) : Int) ∧ (sliceBounds lo hi none n).2.1 = ((HT.sIx n n hi : Nat) : Int) ∧ (sliceBounds lo hi none n).2.2 = 1 := by
  refine ⟨?_, ?_, rfl⟩
  · cases lo with
    | none => simp [sliceBounds, HT.sIx]
    | some i =>
      simp only [sliceBounds, HT.sIx, Option.getD_none, show (1 : Int) > 0 by decide, if_true]
      by_cases h : i < 0
      · simp only [h, if_true] <;> omega
      · simp only [h, if_false] <;> omega
  · cases hi with
    | none => simp [sliceBounds, HT.sIx]
    | some i =>
      simp only [sliceBounds, HT.sIx, Option.getD_none, show (1 : Int) > 0 by decide, if_true]
      by_cases h : i < 0
      · simp only [h, if_true] <;> omega
      · simp only [h, if_false] <;> omega
theorem slicePick_cut (its : List Value) (lo hi : Option Int) : slicePick its.toArray lo hi none = ((its.drop (HT.sIx its.length 0 lo)).take (HT.sIx its.length its.length hi - HT.sIx its.length 0 lo)).toArray := by
  obtain ⟨h1, h2, h3⟩ := slice_bounds lo hi its.toArray.size
  unfold slicePick
  rw [h1, h2, h3]
  simp only [sliceRange_one, pick_run, List.size_toArray] <;> rfl
def rSlL (K : FG) : V → Option Int → Option Int → Hp → VK → Prop := fun x lo hi H Q => ∃ a xs, x = .ref a ∧ SqL K H a xs ∧ ∀ p, H p = none → Q (.ref p) (upd H p (.lst (cutV xs lo hi)))
theorem sl_list : SlR X (rSlL X.K) := by
  intro pins s σ H x v vl vu lo hi sl Q I rx hs pl pu h
  obtain ⟨a, xs, rfl, hx, q⟩ := h
  cases rx
  obtain ⟨its, r, ht, hz⟩ := I.list hx
  have hlen := r.length
  refine ⟨"list", _, slot_list_getitem.lookup, ht.isList.typeIs, ?_⟩
  refine wpAny_getItem_list_slice ht.isList hs pl pu .none (by simp) ?_ (by rw [List.size_toArray] <;> omega)
  rw [slicePick_cut, ← hlen]
  refine ⟨.ref s.heap.objs.size, _, I.laid (t' := s.toks) (o := .lst (cutV xs lo hi)) (fun b ob q => Heap.get?_push_of_some _ q) (Nat.le_refl _) ?_, rfl, q _ (I.hok.fresh (Nat.le_refl _))⟩
  exact ⟨Nat.le_trans (cutV_length xs lo hi) hz, _, 0, (r.drop (HT.sIx xs.length 0 lo)).take (HT.sIx xs.length xs.length hi - HT.sIx xs.length 0 lo), Heap.get?_push_size _ rfl⟩
theorem call_len_seq : CallR X (.builtin "len") (fun xs H Q => ∃ p ys, xs = [.ref p] ∧ (SqL X.K H p ys ∨ SqT X.K H p ys) ∧ Q (.int ys.length) H) := by
  intro pins s σ H xs us Q I r h
  obtain ⟨p, ys, rfl, hq, q⟩ := h
  obtain ⟨u, rfl, rx⟩ := vals1 r
  cases rx
  have hn := line63
  rcases hq with hq | hq
  · obtain ⟨its, r', pl, hz⟩ := I.list hq
    have hlen := r'.length
    exact Calls.call_len_list pl.isList (by simp only [List.size_toArray] <;> omega) ⟨.int ys.length, H, I.tok _, ⟨s.toks + 1, by rw [List.size_toArray, hlen]⟩, q⟩
  · obtain ⟨its, r', pl, hz⟩ := I.tuple hq
    have hlen := r'.length
    exact len_tuple pl (by simp only [List.size_toArray] <;> omega) ⟨.int ys.length, H, I.tok _, ⟨s.toks + 1, by rw [List.size_toArray, hlen]⟩, q⟩
theorem call_list_of : CallR X (.type "list") (fun xs H Q => ∃ p ys, xs = [.ref p] ∧ (SqL X.K H p ys ∨ SqT X.K H p ys) ∧ ∀ l, H l = none → Q (.ref l) (upd H l (.lst ys))) := by
  intro pins s σ H xs us Q I r h
  obtain ⟨p, ys, rfl, hq, q⟩ := h
  obtain ⟨u, rfl, rx⟩ := vals1 r
  cases rx
  have fin : ∀ (its : List Value), Vals ys its → ys.length ≤ sizeLine → ∀ (h' : Heap) (c' : Nat), (∀ b o', s.heap.get? b = some o' → h'.get? b = some o') →
      h'.get? s.heap.objs.size = some { cls := .type "list", dict := none, data := .seq its.toArray c', slots := #[] } → EP X pins σ Q (.ref s.heap.objs.size) { s with heap := h' } := fun its r' hz h' c' kp e =>
    ⟨.ref s.heap.objs.size, _, I.laid (t' := s.toks) kp (Nat.le_refl _) (show ObjOk X.prog X.w _ h' _ (.lst ys) from ⟨hz, its, c', r', e⟩), rfl, q _ (I.hok.fresh (Nat.le_refl _))⟩
  rcases hq with hq | hq
  · obtain ⟨its, r', pl, hz⟩ := I.list hq
    have hlen := r'.length
    obtain ⟨o, ho, hc, n, hd⟩ := pl.isList
    exact call_list_seq p (.inl rfl) ho hc hd (fun h' c' kp e => fin its r' hz h' c' kp e) (by simp only [List.size_toArray] <;> omega)
  · obtain ⟨its, r', pl, hz⟩ := I.tuple hq
    have hlen := r'.length
    obtain ⟨o, ho, hc, n, hd⟩ := pl
    exact call_list_seq p (.inr rfl) ho hc hd (fun h' c' kp e => fin its r' hz h' c' kp e) (by simp only [List.size_toArray] <;> omega)
theorem call_tuple_of : CallR X (.type "tuple") (fun xs H Q => ∃ p ys, xs = [.ref p] ∧ ((SqL X.K H p ys ∧ ∀ l, H l = none → Q (.ref l) (upd H l (.tup ys))) ∨ (SqT X.K H p ys ∧ Q (.ref p) H))) := by
  intro pins s σ H xs us Q I r h
  obtain ⟨p, ys, rfl, h⟩ := h
  obtain ⟨u, rfl, rx⟩ := vals1 r
  cases rx
  rcases h with ⟨hq, q⟩ | ⟨hq, q⟩
  · obtain ⟨its, r', pl, hz⟩ := I.list hq
    have hlen := r'.length
    refine call_tuple_list pl.isList (fun h' kp => ?_) (by simp only [List.size_toArray] <;> omega)
    have I1 : Inv X pins σ H { s with heap := h' } := I.kept (t' := s.toks) kp
    have I2 : Inv X pins σ (upd H h'.objs.size (.tup ys)) { s with heap := h'.push { cls := .type "tuple", data := .seq its.toArray } } :=
      I1.laid (t' := s.toks) (fun b o e => Heap.get?_push_of_some _ e) (Nat.le_refl _) (show ObjOk X.prog X.w _ _ _ (.tup ys) from ⟨hz, its, r', IsTup.new _ _⟩)
    exact ⟨.ref h'.objs.size, _, I2, rfl, q _ (I1.hok.fresh (Nat.le_refl _))⟩
  · obtain ⟨its, r', pl, hz⟩ := I.tuple hq
    exact call_tuple_same pl ⟨.ref p, H, I, rfl, q⟩
def tyV (K : FG) (T : String) (x : V) (H : Hp) : Prop := match x with
  | .str _ => T = "str"
  | .int _ => T = "int"
  | .ref p => (T = "list" ∧ ∃ xs, SqL K H p xs) ∨ (T = "tuple" ∧ ∃ o, K.lookup p = some o ∧ o.cls = .type "tuple" ∧ o.dict = none) ∨
      (T = "dict" ∧ ((∃ kvs, H p = some (.dK kvs)) ∨ ∃ kvs, H p = some (.dT kvs))) ∨ (T = "set" ∧ ∃ S n, H p = some (.set S n))
  | _ => False
theorem tyV_is {pins : List (Addr × Obj)} {σ : St} {H : Hp} {s : Shared} {T : String} {x : V} {v : Value} (I : Inv X pins σ H s) (r : RelV x v) (ty : tyV X.K T x H) :
    s.TypeIs v T ∧ ∀ a, v = .ref a → ∃ ob, s.heap.get? a = some ob ∧ ob.dict = none := by
  cases x with
  | str z =>
    obtain ⟨t, rfl⟩ := r
    cases (show T = "str" from ty)
    exact ⟨typeIs_str s z t, fun _ e => nomatch e⟩
  | int i =>
    obtain ⟨t, rfl⟩ := r
    cases (show T = "int" from ty)
    exact ⟨typeIs_int s i t, fun _ e => nomatch e⟩
  | ref p =>
    cases r
    rcases ty with ⟨rfl, xs, hq⟩ | ⟨rfl, o, hk, hc, hd⟩ | ⟨rfl, hk⟩ | ⟨rfl, S, n, hk⟩
    · obtain ⟨its, _, pl, _⟩ := I.list hq
      refine ⟨pl.isList.typeIs, fun a e => ?_⟩
      cases e
      obtain ⟨o, n, e, c, hd, _⟩ := pl
      exact ⟨o, e, hd⟩
    · refine ⟨⟨o, I.kIn p o hk, hc⟩, fun a e => ?_⟩
      cases e
      exact ⟨o, I.kIn _ o hk, hd⟩
    · have z : ∃ o, s.heap.get? p = some o ∧ o.ExactDict := by
        rcases hk with ⟨kvs, hk⟩ | ⟨kvs, hk⟩
        · obtain ⟨_, _, _, _, o, _, _, e, ex, _⟩ := I.hok p _ hk
          exact ⟨o, e, ex⟩
        · obtain ⟨_, _, _, _, o, _, _, e, ex, _⟩ := I.hok p _ hk
          exact ⟨o, e, ex⟩
      obtain ⟨o, e, ex⟩ := z
      refine ⟨⟨o, e, ex.1⟩, fun a e2 => ?_⟩
      cases e2
      exact ⟨o, e, ex.2.1⟩
    · obtain ⟨o, _, _, _, e, ex, _⟩ := I.hok p _ hk
      refine ⟨⟨o, e, ex.1⟩, fun a e2 => ?_⟩
      cases e2
      exact ⟨o, e, ex.2.1⟩
  | _ => exact False.elim ty
def tBM (K : FG) (T : String) (r : V → List V → Hp → VK → Prop) (to : TE) (t : TA) : TE := fun σ H Q => to σ H fun x H1 => tyV K T x H1 ∧ t σ H1 fun xs H2 => r x xs H2 Q
variable {o e : Expr} {es : List Expr} {to : TE} {t : TA} {name : Str} {apos cpos : Pos} {T id : String} {r : V → List V → Hp → VK → Prop}
theorem pe_bm (pa : PlainAttrs T) (slot : Slot T name id) (hty : typeOf (.builtin id) = pure (.type "method_descriptor")) (hm : MtR X id r) (ho : PE X o to) (ha : PA X (e :: es) t)
    (hbase : attributeBase o name X.env (eval o X.env) = eval o X.env := by rfl)
    (hfew : ((backTo cpos (starEach (e :: es) X.env)).all (fun x => !x.1) && (backToKw cpos (keywordEach [] X.env)).all (fun x => x.1.isSome)
      && decide ((e :: es).length + ([] : List Keyword).length + (if ([] : List Keyword).isEmpty then 0 else 1) < 30)) = true := by rfl)
    (hline : (apos.endLine == cpos.line) = true := by rfl) (hs : starEach (e :: es) X.env = (false, eval e X.env) :: starEach es X.env := by rfl) (hplain : (backTo cpos (starEach es X.env)).any (·.1) = false := by rfl) :
    PE X (.Call (.Attribute o name apos) (e :: es) [] cpos) (tBM X.K T r to t) := by
  intro pins s σ H Q I h
  refine wpAny_Call_method_late hbase hfew hline rfl (thn (ho pins s σ H _ I h) fun v s1 ⟨x, H1, I1, r1, ty, q1⟩ => ?_)
  obtain ⟨h1, h2⟩ := tyV_is I1 r1 ty
  refine ⟨T, id, pa, slot, hty, h1, h2, ?_⟩
  have hA := ha cpos pins s1 σ H1 _ I1 q1
  rw [hs] at hA ⊢
  refine Calls.callWith_builtin (by show (false || (backTo cpos (starEach es X.env)).any (·.1)) = false; rw [hplain] <;> rfl) (Calls.evalArgs_plain ?_)
  exact thn hA fun us s2 ⟨vs, H2, I2, r2, q2⟩ => hm pins s2 σ H2 x vs v us Q I2 r1 r2 q2
end
end L2
namespace L2
open PySem PySem.Spec PyProof.Rows
def MtM (X : Cx) (id : String) (r : V → List V → Hp → VK → Prop) : Prop :=
  ∀ (pins : List (Addr × Obj)) (s : Shared) (σ : St) (H : Hp) (x : V) (xs : List V) (v : Value) (us : List Value) (Q : VK), Inv X pins σ H s → RelV x v → Vals xs us → r x xs H Q →
    wpAny (model X.prog X.w) X.A (call (.builtin id) (v :: us)) (EP X pins σ Q) X.xe s
theorem Vals.one : ∀ {x : V} {us : List Value}, Vals [x] us → ∃ u, us = [u] ∧ RelV x u
  | _, _, .cons r .nil => ⟨_, rfl, r⟩
theorem Vals.two : ∀ {x y : V} {us : List Value}, Vals [x, y] us → ∃ u v, us = [u, v] ∧ RelV x u ∧ RelV y v
  | _, _, _, .cons r (.cons q .nil) => ⟨_, _, rfl, r, q⟩
theorem Vals.rep {xs : List V} {us : List Value} (h : Vals xs us) : ∀ k : Nat, Vals (List.replicate k xs).flatten (List.replicate k us).flatten
  | 0 => .nil
  | k + 1 => by
    rw [List.replicate_succ, List.replicate_succ, List.flatten_cons, List.flatten_cons]
    exact Vals.append h (Vals.rep h k)
theorem foldl_rep (its : List Value) : ∀ (k : Nat) (acc : List Value),
    List.foldl (fun x1 x2 => x1 ++ x2) acc.toArray (List.replicate k its.toArray) = (acc ++ (List.replicate k its).flatten).toArray
  | 0, acc => by simp
  | k + 1, acc => by
    have e : acc.toArray ++ its.toArray = (acc ++ its).toArray := by simp
    have e2 : (acc ++ its) ++ (List.replicate k its).flatten = acc ++ (List.replicate (k + 1) its).flatten := by
      rw [List.replicate_succ, List.flatten_cons, List.append_assoc]
    rw [← e2, ← foldl_rep its k (acc ++ its), ← e, List.replicate_succ, List.foldl_cons]
section
variable {X : Cx} {pins : List (Addr × Obj)} {σ : St} {H : Hp} {s : Shared} {l b : Addr} {xs ys zs : List V}
theorem Inv.lset {its its' : List Value} {n : Nat} {f : Array Value → Array Value} {t' : Nat} (I : Inv X pins σ H s) (hH : H l = some (.lst xs))
    (e : s.heap.get? l = some { cls := .type "list", data := .seq its.toArray n }) (hf : f its.toArray = its'.toArray) (hv : Vals ys its') (hz : ys.length ≤ sizeLine) :
    Inv X pins σ (upd H l (.lst ys)) { s with heap := s.heap.update l (Obj.mapSeq f), toks := t' } := by
  have q := PySem.IsL.update e f
  rw [hf] at q
  refine I.write (x := l) (e := l) (by rw [hH]; exact trivial) (.inl rfl) (fun b' u hb hu => (Heap.get?_update_other s.heap (Obj.mapSeq f) (Ne.symm hb)).trans hu) ⟨_, q⟩ ?_
  exact ⟨hz, its', _, hv, q⟩
theorem Inv.lnew {its : List Value} {t' : Nat} (I : Inv X pins σ H s) (hv : Vals ys its) (hz : ys.length ≤ sizeLine) :
    Inv X pins σ (upd H s.heap.objs.size (.lst ys)) { s with heap := s.heap.push { cls := .type "list", data := .seq its.toArray }, toks := t' } :=
  I.laid (fun _ _ q => Heap.get?_push_of_some _ q) (Nat.le_refl _) ⟨hz, its, 0, hv, Heap.get?_push_size _ rfl⟩
theorem Inv.fresh (I : Inv X pins σ H s) : H s.heap.objs.size = none := I.hok.fresh (Nat.le_refl _)
theorem Inv.lstM (I : Inv X pins σ H s) (hH : H l = some (.lst xs)) : xs.length ≤ sizeLine ∧ ∃ (its : List Value) (n : Nat), Vals xs its ∧ xs.length = its.length ∧ s.heap.get? l = some { cls := .type "list", data := .seq its.toArray n } := by
  obtain ⟨z, its, n, r, e⟩ := I.hok l _ hH
  exact ⟨z, its, n, r, r.length, e⟩
theorem notLongL {n : Nat} (h : n ≤ sizeLine) : Builtin.List.listTooLong n = false := by
  unfold Builtin.List.listTooLong
  exact decide_eq_false (by omega)
end
section
variable {X : Cx}
def rAppend : V → List V → Hp → VK → Prop := fun x vs H Q => ∃ l xs y, x = .ref l ∧ vs = [y] ∧ H l = some (.lst xs) ∧ xs.length < sizeLine ∧ Q .non (upd H l (.lst (xs ++ [y])))
theorem mt_append : MtM X "list.append" rAppend := by
  intro pins s σ H x vs v us Q I rx rv h
  obtain ⟨l, xs, y, rfl, rfl, hH, hz, q⟩ := h
  cases rx
  obtain ⟨u, rfl, ru⟩ := rv.one
  obtain ⟨z, its, n, r, hl, e⟩ := I.lstM hH
  refine call_meets F.slot_list_append ⟨_, e, rfl⟩ F.entry_list_append (F.args_list_append_2 _ _) (PySem.list_append l its.toArray n u (by rw [List.size_toArray]; omega)) ⟨e, ?_⟩
  refine ⟨.non, _, I.lset (its' := its ++ [u]) hH e (by simp) (r.append (.cons ru .nil)) ?_, rfl, q⟩
  rw [List.length_append, List.length_singleton]
  omega
def rRep : R2 := fun x y H Q => ∃ l k xs, x = .ref l ∧ y = .int k ∧ H l = some (.lst xs) ∧ -(2 ^ 63) ≤ k ∧ k < 2 ^ 63 ∧ xs.length * k.toNat ≤ sizeLine ∧
  ∀ p, H p = none → Q (.ref p) (upd H p (.lst (List.replicate k.toNat xs).flatten))
theorem len_rep {α : Type} (xs : List α) (k : Nat) : (List.replicate k xs).flatten.length = k * xs.length := by
  induction k with
  | zero => simp
  | succ k ih => rw [List.replicate_succ, List.flatten_cons, List.length_append, ih, Nat.succ_mul, Nat.add_comm]
theorem op_rep : OpR X (binaryOp .Mult) rRep := by
  intro pins s σ H x y v u Q I rx ry h
  obtain ⟨l, k, xs, rfl, rfl, hH, h1, h2, hz, q⟩ := h
  cases rx
  obtain ⟨t, rfl⟩ := ry
  obtain ⟨z, its, n, r, hl, e⟩ := I.lstM hH
  have hlen : its.toArray.size * k.toNat ≤ sizeLine := by rw [List.size_toArray, ← hl]; exact hz
  have hcap : ¬ its.toArray.size * k.toNat > (2 ^ 63 - 1) / 8 := by
    have : (sizeLine : Nat) ≤ (2 ^ 63 - 1) / 8 := by decide
    omega
  have hfit : ¬ (!Builtin.List.listFitsIndex k) = true := by
    rw [fitsIndex_both h1 h2]
    exact Bool.false_ne_true
  have hlong : ¬ Builtin.List.listTooLong (its.toArray.size * k.toNat) = true := by
    rw [notLongL hlen]
    exact Bool.false_ne_true
  have hnew : List.foldl (fun x1 x2 => x1 ++ x2) #[] (List.replicate (if its.toArray.isEmpty = true then 0 else k.toNat) its.toArray) = (List.replicate k.toNat its).flatten.toArray := by
    have f0 : ∀ m : Nat, List.foldl (fun x1 x2 => x1 ++ x2) #[] (List.replicate m its.toArray) = (List.replicate m its).flatten.toArray := fun m => by
      have := foldl_rep its m []
      rw [List.nil_append] at this
      exact this
    rw [f0]
    cases its with
    | nil => simp
    | cons a r' => rw [if_neg (by simp)]
  refine wpAny_binaryOp_repeat_ref (T := "list") (U := "int") (by decide) ⟨_, e, rfl⟩ (fun s' => typeIs_int s' k t) noFill_list_mul F.fills_int_mul F.slot_int_rmul repeat_list F.slot_int_index.lookup
    (call_meets F.slot_int_rmul (typeIs_int s k t) F.entry_int_rmul (F.args_int_rmul_2 _ _) (int___rmul___int_list k t l its.toArray n)
      ⟨e, rfl, ⟨_, e, rfl⟩, call_meets F.slot_list_mul ⟨_, e, rfl⟩ F.entry_list_mul (F.args_list_mul_2 _ _) (AutoListH.list___mul___list_int_3 l its.toArray n k t hfit hcap hlong) ⟨e, ?_⟩⟩)
  rw [hnew]
  exact ⟨.ref _, _, I.lnew (t' := s.toks) (r.rep k.toNat) (by rw [len_rep, Nat.mul_comm]; exact hz), rfl, q _ I.fresh⟩
end
section
variable {prog : Program} {w : World} {A : Around} {E : Value → Shared → Prop} {s : Shared}
set_option maxRecDepth 100000 in
end
section
variable {X : Cx}
end
end L2
namespace Att
open PySem PySem.W PySem.Calls PyProof.Rows
theorem ints_of_wellAll {P : Params} {h : Heap} : ∀ (ns : List Int) (vs : List Value), WellAll P h vs (ns.map WData.int) → IntsAre vs ns := by
  intro ns
  induction ns with
  | nil =>
    intro vs w
    rw [List.map_nil] at w
    cases w
    exact .nil
  | cons n ns ih =>
    intro vs w
    rw [List.map_cons] at w
    cases w with
    | cons a b =>
      cases a
      exact .cons _ _ (ih _ b)
theorem script_of {l : OpenLaw} {n : Nat} (hn : l.most = some n) {P : Params} {h : Heap} {args : List WData} {vals : List Value}
    (hpre : l.row.toRowW.claim.pre args = true) (hwl : WellAll P h vals args) :
    ∃ a vs ns, vals = [Value.ref a] ∧ args = [WData.list (ns.map WData.int)] ∧ h.get? a = some { cls := .type "list", data := .seq vs.toArray } ∧ IntsAre vs ns ∧ ns.length ≤ n := by
  have hsh : WShape.hasAll [] args [.list .int] = true := (pre_splitW hpre).1
  have hc : l.pre.holds [] { args := args } = true := (pre_splitW hpre).2
  obtain ⟨d, r, rfl, h1, h2⟩ := hasAllW_cons hsh
  obtain rfl := hasAllW_nil h2
  obtain ⟨xs, rfl, h3⟩ := hasW_list h1
  obtain ⟨ns, rfl⟩ := items_int h3
  have hlen : ns.length ≤ n := by
    unfold OpenLaw.pre at hc
    have h4 : (WTm.not (.lt (.lit (.int (n : Int))) (.len (.arg 0)))).holds [] { args := [.list (ns.map .int)] } = true := by
      have h4 := (holds_andW hc).1
      rw [hn] at h4
      exact h4
    have h5 := condW_of h4 (w_not (w_lt w_lit (w_len_list (w_arg rfl))))
    rw [List.length_map] at h5
    refine Nat.le_of_not_lt fun q => ?_
    have q' : (n : Int) < ((ns.length : Nat) : Int) := by omega
    first
      | (rw [decide_eq_true q'] at h5; exact absurd h5 (by decide))
      | (simp at h5; omega)
  cases hwl with
  | cons w1 w2 =>
    cases w2
    cases w1 with
    | list ho hall => exact ⟨_, _, ns, rfl, rfl, ho, ints_of_wellAll ns _ hall, hlen⟩
theorem post_true (l : OpenLaw) (args : List WData) : l.row.toRowW.claim.post args (.bool true) args = true :=
  postW_of (r := l.row.toRowW) (X := (true == true))
    (show WShape.has [] (.bool true) .bool = true by first | rfl | decide | simp [WShape.has, WShape.arms, WShape.armsAll])
    (show (WTm.eq .res (.lit (.bool true))).value [] { args := args, res := some (.bool true), after := args } = some (.bool (true == true)) from w_eq_bool (w_res rfl) w_lit) rfl
theorem attach_call {l : OpenLaw} {n : Nat} {q : Program} {loose : List Str} {XP : (Str → Option Value) → Heap → Prop} {YP : World → Heap → Prop} {d : DefRec}
    (hn : l.most = some n) (hdf : d.params.defaults = [])
    (call : ∀ (w : World) (s₀ s₁ : Shared) (mg mb : Str → Option Value) (fa : Addr) (o : Obj) (pm cd doc : Value) (a : Addr) (vs : List Value) (ns : List Int),
      Ground q loose [] XP w s₀ mg mb s₁.heap → YP w s₁.heap →
      s₁.heap.get? fa = some o → o.data = .func (docDef d.name d.params d.body d.scope pm cd doc) → s₁.heap.CodeRec cd d.name → mg d.name = some (.ref fa) →
      s₁.heap.get? a = some { cls := .type "list", data := .seq vs.toArray } → IntsAre vs ns → ns.length ≤ n → s₁.gens = #[] →
      codeAny (model l.prog w) callerA (.call (.ref fa) ⟨[.ref a], []⟩) (fun r s' => r = .ok (.ret (.bool true)) ∧ OldK s₁.heap s'.heap ∧ s'.os = s₁.os ∧ AllBare s'.gens) s₁) :
    WalkO q loose XP YP l.row.toRowW d [] (fun f vs => PySem.call f vs) := by
  intro w s₀ s₁ mg mb G Y fa o pm cd doc dV kV ho hd hcd hD hmg hg args vals as hpre hlay hrd hwl hlo
  obtain rfl : dV = .none := Dflts.none hD hdf
  obtain rfl : kV = .none := Dflts.noKw hD
  obtain ⟨a, vs, ns, rfl, rfl, hobj, hints, hlen⟩ := script_of hn hpre hwl
  refine enter_call (codeAny_mono (call w s₀ s₁ mg mb fa o pm cd doc a vs ns G Y ho (fd_plain hd) hcd hmg hobj hints hlen hg) fun r s' hq => ?_)
  obtain ⟨rfl, h2, h3, h4⟩ := hq
  exact ⟨.inl ⟨.bool true, .bool true, [], rfl, fun _ => rfl, .bool true, post_true l _, fun _ => ⟨List.Pairwise.nil, fun _ hm => (nomatch hm)⟩⟩, h2, h3, h4⟩
section
variable {prog : Program} {w : World} {A : Around} {E : Value → Shared → Prop} {s : Shared} {K : Frag}
end
end Att
namespace L2
open PySem PySem.Spec PyProof.Rows
theorem vals_ints : ∀ {vs : List Value} {ns : List Int}, IntsAre vs ns → Vals (ns.map V.int) vs
  | _, _, .nil => .nil
  | _, _, .cons n t h => .cons ⟨t, rfl⟩ (vals_ints h)
def Only (H : Hp) : Prop := ∀ b, H b = none ∨ ∃ o xs, H b = some (.frz o (.lst xs))
theorem law_call {P : Program} {w : World} {K : FG} {mg mb : Str → Option Value} {CX : CXT} {k : Nat} {fa a : Addr} {fd : FuncData} {x : Str} {sp : Sp} {s₁ : Shared} {vs : List Value} {ns : List Int}
    (KX : K.In s₁.heap) (hns : s₁.heap.Ns mainGlobals mg) (hb : s₁.heap.Ns builtinsNs mb) (hbb : ∀ x : Str, x ≠ "__name__" → mb x = bootBuiltins x) (hlim : s₁.heap.NoLimit) (hg : s₁.gens = #[])
    (ha : s₁.heap.get? a = some { cls := .type "list", data := .seq vs.toArray }) (hi : IntsAre vs ns) (hl : ns.length ≤ sizeLine) (hr : Room k callerA)
    (F : ∀ base : Heap, K.In base → base.Ns mainGlobals mg → FnOk P w K mg base CX k fa fd [x] sp) (hbind : ∀ (s : Shared) (u : Value), BindsTo s fd ⟨[u], []⟩ [(x, u)])
    (hsp : ∀ H : Hp, Only H → SqL K H a (ns.map V.int) → sp [.ref a] H (fun v _ => v = .bl true) fun _ _ _ => False)
    (hCX : ∀ H e s', CX [] H s₁ (fun _ _ _ => False) e s' → False) :
    codeAny (model P w) callerA (.call (.ref fa) ⟨[.ref a], []⟩) (fun r s' => r = .ok (.ret (.bool true)) ∧ OldK s₁.heap s'.heap ∧ s'.os = s₁.os ∧ AllBare s'.gens) s₁ := by
  have rv := vals_ints hi
  have lenV := hi.length
  have core : ∀ H : Hp, Only H → SqL K H a (ns.map V.int) → HOk P w H s₁.heap → (∀ b, H b ≠ none → b = a) → (H a ≠ none → K.lookup a = none) →
      codeAny (model P w) callerA (.call (.ref fa) ⟨[.ref a], []⟩) (fun r s' => r = .ok (.ret (.bool true)) ∧ OldK s₁.heap s'.heap ∧ s'.os = s₁.os ∧ AllBare s'.gens) s₁ := by
    intro H hO hS hok hA hK
    have base_of : ∀ {b : Addr} {o : Obj}, s₁.heap.get? b = some o → H b = none → (hidT s₁.heap H).get? b = some o := fun e n => hidT_get e n
    have noA : ∀ {b : Addr} {o : Obj} {es : Array DictEntry} {ep : Nat}, s₁.heap.get? b = some o → o.data = .dict es ep → H b = none := fun {b o es ep} e d => by
      cases q : H b with
      | none => rfl
      | some u =>
        have e' : b = a := hA b (by rw [q]; simp)
        subst e'
        rw [ha] at e; cases e
        have d' : Data.seq vs.toArray _ = Data.dict es ep := d
        cases d'
    have nsK : ∀ {b : Addr} {m : Str → Option Value}, s₁.heap.Ns b m → (hidT s₁.heap H).Ns b m := fun {b m} ⟨o, es, ep, e, d, r⟩ => ⟨o, es, ep, base_of e (noA e d), d, r⟩
    have hKb : K.In (hidT s₁.heap H) := fun b o e => base_of (KX b o e) (by
      cases q : H b with
      | none => rfl
      | some u =>
        have e' : b = a := hA b (by rw [q]; simp)
        subst e'
        rw [hK (by rw [q]; simp)] at e; cases e)
    have hM : Mod K mg (hidT s₁.heap H) := ⟨hKb, nsK hns, ⟨mb, nsK hb, hbb⟩, let ⟨mc, h1, h2⟩ := hlim; ⟨mc, nsK h1, h2⟩⟩
    have e0 : Env0 P w K mg (hidT s₁.heap H) callerA [] s₁ H := ⟨rfl, hM, fun b o e => of_hidT e, Nat.le_of_eq (hidT_size _ _), trivial, fun b hb => absurd (show b ∈ ([] : List Addr) from hb) (by simp), hok, .of_eq hg⟩
    refine codeAny_mono ((F _ hKb (nsK hns)).run callerA [] s₁ H ⟨[.ref a], []⟩ [.ref a] [.ref a] _ _ hr e0 (hbind s₁ (.ref a)) (.cons rfl .nil) (hsp H hO hS)) fun r s' h => ?_
    cases r with
    | error e => exact (hCX H e s' h).elim
    | ok fl =>
      cases fl with
      | next => exact False.elim h
      | brk => exact False.elim h
      | cont => exact False.elim h
      | ret u =>
        obtain ⟨v, H', os, bare, un, hok', r', q⟩ := h
        have q' : v = .bl true := q
        subst q'
        obtain rfl : u = Value.bool true := r'
        refine ⟨rfl, OldK.of_keep fun b o e => ?_, os, bare⟩
        cases q : H b with
        | none => exact un.keep b o e q (by intro z; exact absurd (show b ∈ ([] : List Addr) from z) (by simp)) (by simp)
        | some u =>
          rcases hO b with z | ⟨ob, xs, z⟩
          · rw [q] at z; cases z
          · have z2 := un.frzs b ob _ z
            obtain ⟨e1, _⟩ := hok b _ z
            obtain ⟨e2, _⟩ := hok' b _ z2
            rw [e] at e1; cases e1
            exact e2
  cases hk : K.lookup a with
  | some o =>
    have e := KX a o hk
    rw [ha] at e
    cases e
    refine core (fun _ => none) (fun _ => .inl rfl) (.inr ⟨_, vs.toArray, _, hk, rfl, rfl, rfl, by rw [List.size_toArray, lenV]; exact hl, by simpa using rv⟩) (fun b u z => by have z' : (none : Option HO) = some u := z; cases z') (fun b z => absurd rfl z) fun z => absurd rfl z
  | none =>
    refine core (fun b => if b = a then some (.frz { cls := .type "list", data := .seq vs.toArray } (.lst (ns.map V.int))) else none) (fun b => ?_) (.inl (.inr ⟨{ cls := .type "list", data := .seq vs.toArray }, if_pos rfl⟩)) (fun b u z => ?_) (fun b z => ?_) fun _ => hk
    · by_cases hb : b = a
      · exact .inr ⟨_, _, if_pos hb⟩
      · exact .inl (if_neg hb)
    · by_cases hb : b = a
      · have z' := (if_pos hb).symm.trans z
        cases z'
        subst hb
        exact ⟨ha, by rw [List.length_map]; exact hl, vs, _, rv, ha⟩
      · have z' := (if_neg hb).symm.trans z
        cases z'
    · by_cases hb : b = a
      · exact hb
      · exact absurd (if_neg hb) z
end L2
namespace L2
open PySem PySem.Spec PyProof.Rows
theorem walk_of {l : PySem.W.OpenLaw} {n k : Nat} {q : Program} {loose : List Str} {XP : (Str → Option Value) → Heap → Prop} {YP : World → Heap → Prop} {d : DefRec} {K : Params → FG} {CX : World → CXT} {sp : World → Sp} {x : Str}
    (hn : l.most = some n) (hn2 : n ≤ sizeLine) (hdf : d.params.defaults = []) (hr : Room k callerA)
    (hY : ∀ (w : World) (h : Heap), YP w h → (K w.params).In h)
    (F : ∀ (w : World) (mg : Str → Option Value) (fa : Addr) (h : Heap), (K w.params).In h → h.Ns mainGlobals mg → mg d.name = some (.ref fa) →
      ∃ fd : FuncData, (∀ (s : Shared) (u : Value), BindsTo s fd ⟨[u], []⟩ [(x, u)]) ∧
        ∀ base : Heap, (K w.params).In base → base.Ns mainGlobals mg → FnOk l.prog w (K w.params) mg base (CX w) k fa fd [x] (sp w))
    (hsp : ∀ (w : World) (H : Hp) (a : Addr) (ns : List Int), ns.length ≤ n → Only H → SqL (K w.params) H a (ns.map V.int) → sp w [.ref a] H (fun v _ => v = .bl true) fun _ _ _ => False)
    (hCX : ∀ (w : World) (H : Hp) (s : Shared) (e : Value) (s' : Shared), CX w [] H s (fun _ _ _ => False) e s' → False) :
    PySem.W.WalkO q loose XP YP l.row.toRowW d [] (fun f vs => PySem.call f vs) := by
  refine Att.attach_call hn hdf fun w s₀ s₁ mg mb fa o pm cd doc a vs ns G Y ho hd hcd hmg hobj hints hlen hg => ?_
  have KX := hY w _ Y
  obtain ⟨fd, hb, hF⟩ := F w mg fa _ KX G.T.g hmg
  exact law_call KX G.T.g G.T.b G.T.builtins G.T.nolimit hg hobj hints (Nat.le_trans hlen hn2) hr hF hb (fun H hO hS => hsp w H a ns hlen hO hS) fun H e s' => hCX w H s₁ e s'
end L2
namespace L2
open PySem PySem.Spec PyProof.Rows
def defArgs (s : Stmt) : Arguments := match s with
  | .FunctionDef _ a _ _ _ _ _ _ _ _ => a
  | _ => { posonlyargs := [], args := [], vararg := none, kwonlyargs := [], kw_defaults := [], kwarg := none, defaults := [] }
def defBody (s : Stmt) : List Stmt := match s with
  | .FunctionDef _ _ b _ _ _ _ _ _ _ => b
  | _ => []
def defScope (s : Stmt) : Scope := match s with
  | .FunctionDef _ _ _ _ _ _ sc _ _ _ => sc
  | _ => { kind := .function, names := [], isGenerator := false, isCoroutine := false }
abbrev E0 : XK := fun _ _ _ => False
structure Fun (K : FG) (x qual : Str) (st : Stmt) (f : Addr) (fd : FuncData) : Prop where
  ex : ∃ (oc : Value) (od : Option Addr) (kV doc pm : Value) (an : Option Addr) (cdv ct : Value) (osl : Array (Option Value)),
    fd = PySem.W.fnOf x qual (defArgs st) (defBody st) (defScope st) .none kV doc pm an cdv ct ∧ K.lookup f = some ⟨oc, od, .func fd, osl⟩ ∧ PySem.W.codeIn K cdv qual = true
  kp : PySem.W.keepIn K (.ref f) = true
section
variable {P : Program} {w : World} {K : FG} {mg : Str → Option Value} {base : Heap}
theorem Fun.binds {x qual : Str} {st : Stmt} {f : Addr} {fd : FuncData} {ps : List Str} (F : Fun K x qual st f fd)
    (h : ∀ (kV doc pm : Value) (an : Option Addr) (cdv ct : Value) (us : List Value), us.length = ps.length → bindArgs (PySem.W.fnOf x qual (defArgs st) (defBody st) (defScope st) .none kV doc pm an cdv ct) ⟨us, []⟩ = pure (ps.zip us)) : Binds K fd ps [] := by
  obtain ⟨oc, od, kV, doc, pm, an, cdv, ct, osl, rfl, lk, hcd⟩ := F.ex
  exact .all (h kV doc pm an cdv ct)
theorem fun_mk {x qual : Str} {st : Stmt} {f : Addr} {oc : Value} {od an : Option Addr} {osl : Array (Option Value)} {kV doc pm cdv ct : Value} (l : K.lookup f = some ⟨oc, od, .func (PySem.W.fnOf x qual (defArgs st) (defBody st) (defScope st) .none kV doc pm an cdv ct), osl⟩)
    (c : PySem.W.codeIn K cdv qual = true) (k : PySem.W.keepIn K (.ref f) = true) : Fun K x qual st f (PySem.W.fnOf x qual (defArgs st) (defBody st) (defScope st) .none kV doc pm an cdv ct) := ⟨⟨oc, od, kV, doc, pm, an, cdv, ct, osl, rfl, l, c⟩, k⟩
end
section
variable {X : Cx}
end
def Same (H H' : Hp) : Prop := ∀ b o, H b = some o → H' b = some o
theorem Same.refl (H : Hp) : Same H H := fun _ _ h => h
theorem Same.trans {H H1 H2 : Hp} (a : Same H H1) (b : Same H1 H2) : Same H H2 := fun c o h => b c o (a c o h)
theorem Same.free {H H' : Hp} (e : Same H H') {l : Addr} (h : H' l = Option.none) : H l = Option.none := by
  cases q : H l with
  | none => rfl
  | some o =>
    rw [e l o q] at h
    cases h
theorem Same.seq {K : FG} {H H' : Hp} {a : Addr} {xs : List V} (e : Same H H') (h : SqL K H a xs) : SqL K H' a xs := by
  rcases h with (h | ⟨o, h⟩) | h
  · exact .inl (.inl (e _ _ h))
  · exact .inl (.inr ⟨o, e _ _ h⟩)
  · exact .inr h
end L2
end
section
namespace VL
open PySem PySem.Spec PyProof.Rows L2
theorem closure_go (env : Env) : ∀ (l : List (Str × NameKind)) (acc : List (Str × Addr)), (∀ y ∈ l, y.2 = .free → ∃ c, env.cells.lookup y.1 = some c) → (∀ x c, acc.lookup x = some c → env.cells.lookup x = some c) →
    ∃ cl, (forIn l acc (fun (x : Str × NameKind) (cs : List (Str × Addr)) => (if x.2 == NameKind.free then (do let a ← cellOf env x.1; pure (ForInStep.yield ((x.1, a) :: cs))) else pure (ForInStep.yield cs) : Sem (ForInStep (List (Str × Addr))))) : Sem (List (Str × Addr))) = pure cl ∧
      (∀ x c, cl.lookup x = some c → env.cells.lookup x = some c) ∧ (∀ x c, acc.lookup x = some c → cl.lookup x = some c) ∧ ∀ y ∈ l, y.2 = .free → cl.lookup y.1 = env.cells.lookup y.1
  | [], acc, _, ha => ⟨acc, by simp, ha, fun _ _ h => h, fun y hy => by cases hy⟩
  | (n, k) :: l, acc, hl, ha => by
    by_cases hk : k = .free
    · subst hk
      obtain ⟨c, hc⟩ := hl (n, .free) List.mem_cons_self rfl
      have ha' : ∀ x d, ((n, c) :: acc).lookup x = some d → env.cells.lookup x = some d := fun x d e => by
        rw [List.lookup_cons] at e
        cases q : x == n with
        | true =>
          rw [q] at e
          have : x = n := by simpa using q
          subst this; cases e; exact hc
        | false => rw [q] at e; exact ha x d e
      obtain ⟨cl, e1, e2, e3, e4⟩ := closure_go env l ((n, c) :: acc) (fun y hy => hl y (List.mem_cons_of_mem _ hy)) ha'
      have up : ∀ x d, acc.lookup x = some d → ((n, c) :: acc).lookup x = some d := fun x d e => by
        rw [List.lookup_cons]
        cases q : x == n with
        | true =>
          have : x = n := by simpa using q
          subst this
          have := ha _ _ e
          rw [hc] at this; exact this
        | false => exact e
      refine ⟨cl, ?_, e2, fun x d e => e3 x d (up x d e), fun y hy hf => ?_⟩
      · rw [List.forIn_cons]
        have : cellOf env n = pure c := by unfold cellOf; rw [hc]
        simp only [this, beq_self_eq_true, if_true, pure_bind]
        exact e1
      · rcases List.mem_cons.mp hy with rfl | hy
        · rw [hc]
          exact e3 n c (by rw [List.lookup_cons, beq_self_eq_true])
        · exact e4 y hy hf
    · obtain ⟨cl, e1, e2, e3, e4⟩ := closure_go env l acc (fun y hy => hl y (List.mem_cons_of_mem _ hy)) ha
      refine ⟨cl, ?_, e2, e3, fun y hy hf => ?_⟩
      · rw [List.forIn_cons]
        have : (k == NameKind.free) = false := by simpa using hk
        simp only [this, Bool.false_eq_true, if_false, pure_bind]
        exact e1
      · rcases List.mem_cons.mp hy with rfl | hy
        · exact absurd hf hk
        · exact e4 y hy hf
theorem closure_ok (scope : Scope) (env : Env) (h : ∀ y ∈ scope.names, y.2 = .free → ∃ c, env.cells.lookup y.1 = some c) :
    ∃ cl, closureFor scope env = pure cl ∧ (∀ x c, cl.lookup x = some c → env.cells.lookup x = some c) ∧ ∀ y ∈ scope.names, y.2 = .free → cl.lookup y.1 = env.cells.lookup y.1 := by
  obtain ⟨cl, e1, e2, _, e4⟩ := closure_go env scope.names [] h (fun x c e => by simp at e)
  refine ⟨cl, ?_, e2, e4⟩
  unfold closureFor
  have : (forIn scope.names ([] : List (Str × Addr)) fun (x : Str × NameKind) (r : List (Str × Addr)) => (match x with
      | (name, kind) => if (kind == NameKind.free) = true then (do let a ← cellOf env name; pure (ForInStep.yield ((name, a) :: r))) else pure (ForInStep.yield r) : Sem (ForInStep (List (Str × Addr))))) = pure cl := e1
  first
    | (simp only [this, pure_bind])
    | (rw [this]; rfl)
    | (show (forIn _ _ _ >>= _) = _; rw [this]; rfl)
theorem lookup_relabel_free {env : Env} : ∀ {names : List (Str × NameKind)} {x : Str}, names.lookup x = some .free →
    (names.map fun (n, k) => if (k == NameKind.free && env.scope.kind == .function && env.kindOf n == some .cell) then (n, NameKind.cell) else (n, k)).lookup x = some .cell ∨
    (names.map fun (n, k) => if (k == NameKind.free && env.scope.kind == .function && env.kindOf n == some .cell) then (n, NameKind.cell) else (n, k)).lookup x = some .free
  | [], _, h => by simp at h
  | (n, k) :: r, x, h => by
    have ih := @lookup_relabel_free env r x
    rw [List.map_cons]
    cases hx : x == n with
    | true =>
      simp only [List.lookup_cons, hx] at h
      cases h
      by_cases hc : (NameKind.free == NameKind.free && env.scope.kind == .function && env.kindOf n == some .cell) = true
      · left; simp only [hc, if_true, List.lookup_cons, hx]
      · right; simp only [hc, Bool.false_eq_true, if_false, List.lookup_cons, hx]
    | false =>
      simp only [List.lookup_cons, hx] at h
      by_cases hc : (k == NameKind.free && env.scope.kind == .function && env.kindOf n == some .cell) = true
      · simp only [hc, if_true, List.lookup_cons, hx]; exact ih h
      · simp only [hc, Bool.false_eq_true, if_false, List.lookup_cons, hx]; exact ih h
theorem relabel_inv {env : Env} : ∀ {names : List (Str × NameKind)} {x : Str} {k : NameKind}, (names.map fun (n, k) => if (k == NameKind.free && env.scope.kind == .function && env.kindOf n == some .cell) then (n, NameKind.cell) else (n, k)).lookup x = some k → k = .cell ∨ k = .free →
    ∃ y ∈ names, y.1 = x ∧ (y.2 = .free ∨ y.2 = .cell)
  | [], _, _, h, _ => by simp at h
  | (n, k) :: r, x, k', h, hk => by
    rw [List.map_cons] at h
    cases hx : x == n with
    | true =>
      have e : x = n := by simpa using hx
      subst e
      by_cases hc : (k == NameKind.free && env.scope.kind == .function && env.kindOf x == some .cell) = true
      · refine ⟨(x, k), List.mem_cons_self, rfl, .inl ?_⟩
        simp only [Bool.and_eq_true] at hc
        simpa using hc.1.1
      · simp only [hc, Bool.false_eq_true, if_false, List.lookup_cons, hx] at h
        cases h
        exact ⟨(x, k), List.mem_cons_self, rfl, hk.symm⟩
    | false =>
      have h' : (r.map fun (n, k) => if (k == NameKind.free && env.scope.kind == .function && env.kindOf n == some .cell) then (n, NameKind.cell) else (n, k)).lookup x = some k' := by
        by_cases hc : (k == NameKind.free && env.scope.kind == .function && env.kindOf n == some .cell) = true
        · simp only [hc, if_true, List.lookup_cons, hx] at h; exact h
        · simp only [hc, Bool.false_eq_true, if_false, List.lookup_cons, hx] at h; exact h
      obtain ⟨y, hy, e⟩ := relabel_inv h' hk
      exact ⟨y, List.mem_cons_of_mem _ hy, e⟩
def blk (X : Cx) (scope : Scope) (cl : List (Str × Addr)) (N : List Str) (s3 : Shared) (H3 : Hp) (fp : List Addr) : Cx :=
  { X with N := N, s₀ := s3, H₀ := H3, env := compEnvC scope cl s3.heap.objs.size X.env, outer := X.stack, ex := fp, fn := fun _ => false, pn := [], xe := fun _ _ => False }
def PTs (Y : Cx) (ifs : List Expr) (t : TT) : Prop :=
  ∀ (pins : List (Addr × Obj)) (s : Shared) (σ : L2.St) (H : Hp) (Q : Bool → Hp → Prop), L2.Inv Y pins σ H s → t σ H Q →
    wpAny (model Y.prog Y.w) Y.A (forIn ifs true fun c r => if r = true then do let ok ← isTrue c Y.env (eval c Y.env); pure (ForInStep.yield ok) else pure (ForInStep.yield r)) (TP Y pins σ Q) Y.xe s
theorem pts_nil {Y : Cx} : PTs Y [] (fun _ H Q => Q true H) := fun _ _ _ H _ I h => wpAny_tests_nil ⟨H, I, h⟩
def tComp (wi : TI) (nt : Nat) (js : List Nat) (g : TG) (tc : TT) (te : TE) : TE := fun σ H Q => wi σ H fun J H1 => ∀ acc, H1 acc = none → ∃ W : Nat → Nat → L2.St → Hp → Prop,
  (∃ m, W 0 m (List.replicate nt none ++ js.map fun j => (σ[j]?).join) (upd H1 acc (.lst []))) ∧ ∀ i m σ' H', W i m σ' H' →
    (J.stop i H' ∧ Q (.ref acc) H') ∨ (J.go i H' ∧ ∀ x H2, J.yld i H' x H2 → g x σ' H2 fun σ2 H3 => tc σ2 H3 fun b H4 =>
      if b = true then te σ2 H4 fun y H5 => ∃ xs, H5 acc = some (.lst xs) ∧ xs.length < sizeLine ∧ ∃ m', m' < m ∧ W (i + 1) m' σ2 (upd H5 acc (.lst (xs ++ [y])))
      else ∃ m', m' < m ∧ W (i + 1) m' σ2 H4)
section
variable {prog : Program} {w : World} {A : Around} {R : Result → Shared → Prop} {s : Shared}
theorem compLoop_go {elt target iter : Expr} {ifs : List Expr} {scope : Scope} {pos : Pos} {it acc : Value} {env : Env} (I : Nat → Shared → Prop)
    (turn : ∀ n s, I n s → wpAny (model prog w) A (pyNext it) (fun r s₁ => match r with
      | none => R (.ok .next) s₁
      | some v => wpAny (model prog w) A (letOwnedTupleGo target it v) (fun _ s₁ => wpAny (model prog w) A (assign target env v) (fun _ s₂ =>
          wpAny (model prog w) A (forIn ifs true fun c r => if r = true then do let ok ← isTrue c env (eval c env); pure (ForInStep.yield ok) else pure (ForInStep.yield r)) (fun ok s₃ =>
            if ok = true then wpAny (model prog w) A (eval elt env) (fun x s₄ =>
              wpAny (model prog w) A (call (.builtin "list.append") [acc, x]) (fun _ s₅ => ∃ m, m < n ∧ I m s₅) (fun _ _ => False) s₄) (fun _ _ => False) s₃
            else ∃ m, m < n ∧ I m s₃) (fun _ _ => False) s₂) (fun _ _ => False) s₁) (fun _ _ => False) s₁) (fun _ _ => False) s)
    (n : Nat) (h : I n s) : codeAny (model prog w) A (.compLoop (.ListComp elt [⟨target, iter, ifs, 0⟩] scope pos) 0 it acc env) R s := by
  refine codeAny_loop rfl I (fun n s hI => ?_) n h
  show wpAny _ A ((compTurn (.ListComp elt [⟨target, iter, ifs, 0⟩] scope pos) 0 it acc env).onRaise (fun x => do noteFrame x env; theTreesLotGoes x)) _ _ s
  refine wpAny_noted ?_
  rw [compTurn_list]
  refine wpAny_bind (wpAny_standAt (wpAny_bind (wpAny_mono (turn n s hI) (fun r s₁ h₁ => ?_) fun _ _ h' => h'.elim)))
  cases r with
  | none => exact wpAny_pure h₁
  | some v =>
    refine wpAny_bind (wpAny_mono h₁ (fun _ s₁' h₁' => ?_) fun _ _ h' => h'.elim)
    refine wpAny_bind (wpAny_mono h₁' (fun _ s₂ h₂ => wpAny_bind (wpAny_mono h₂ (fun ok s₃ h₃ => ?_) fun _ _ h' => h'.elim)) fun _ _ h' => h'.elim)
    cases ok with
    | false => exact wpAny_pure ⟨rfl, h₃⟩
    | true =>
      exact wpAny_bind (wpAny_bind (wpAny_mono h₃ (fun x s₄ h₄ => wpAny_bind (wpAny_mono h₄ (fun _ s₅ h₅ => wpAny_pure (wpAny_pure ⟨rfl, h₅⟩)) fun _ _ h' => h'.elim)) fun _ _ h' => h'.elim))
end
section
variable {X : Cx} {pos : Pos}
theorem comp_core {elt iter tg : Expr} {ifs : List Expr} {scope : Scope} {wi : TI} {N : List Str} {nt : Nat} {js : List Nat} {g : TG} {tc : TT} {te : TE}
    (hc : X.calm = true) (hi : PI X tg iter wi) (hkind : scope.kind = .function) (hcell : ∀ y ∈ scope.names, y.2 ≠ .cell) (hnames : ∀ y ∈ scope.names, y.2 = .local → scope.names.lookup y.1 = some .local)
    (hfr : ∀ y ∈ scope.names, y.2 = .free → X.env.kindOf y.1 = some .cell ∨ X.env.kindOf y.1 = some .free)
    (hlen : nt + js.length = N.length)
    (hjs : ∀ (k : Nat) (j : Nat), js[k]? = some j → ∃ x, N[nt + k]? = some x ∧ X.N[j]? = some x ∧ scope.names.lookup x = some .free)
    (hb : ∀ cl s3 H3 fp, PG (blk X scope cl N s3 H3 fp) tg g ∧ PTs (blk X scope cl N s3 H3 fp) ifs tc ∧ PE (blk X scope cl N s3 H3 fp) elt te)
    (hs : ∀ x, foldedSetIterable iter X.env x = pure x) {pins : List (Addr × Obj)} {s : Shared} {σ : L2.St} {H : Hp} {Q : VK} {use : Option (Value → Sem Unit)} {QQ : Value → Shared → Prop} (p0 : Pos) (I : L2.Inv X pins σ H s) (h : tComp wi nt js g tc te σ H Q)
    (fin : ∀ (a C : Addr) (s6 : Shared) (H5 : Hp) (m : Str → Option Value), L2.Inv X pins σ H5 s6 → s6.heap.Ns C m → FpOk X pins H5 C → Q (.ref a) H5 → compPost (model X.prog X.w) X.A X.xe use QQ (.ref a) C (.ok .next) s6) :
    wpAny (model X.prog X.w) X.A (comprehension (.ListComp elt [⟨tg, iter, ifs, 0⟩] scope pos) scope X.env p0 (newList []) false (eval iter X.env) use) QQ X.xe s := by
  obtain ⟨cl, hcl, cl1, cl2⟩ := closure_ok scope X.env fun y hy hf => I.ok.has y.1 (hfr y hy hf)
  refine wpAny_comprehension_free (use := use) rfl hs hcl hkind hnames (wpAny_mono (hi pins s σ H _ I h) (fun xv s1 h1 => wpAny_mono h1 (fun itv s2 h2 => ?_) fun _ _ z => z) fun _ _ z => z)
  obtain ⟨it, fp, tn, J, H2, rfl, I2, T, st2, hfp, h2⟩ := h2
  obtain ⟨W, ⟨m0, w0⟩, turn⟩ := h2 s2.heap.objs.size I2.fresh
  refine wpAny_newObj_type (wpAny_newFunctionEnv hcell (by intro y hy; simp at hy) (fun h₁ hns₁ hsb₁ => ?_) hkind)
  dsimp only at hns₁ hsb₁ ⊢
  have I3 : L2.Inv X pins σ (upd H2 s2.heap.objs.size (.lst [])) { s2 with heap := s2.heap.push { cls := .type "list", data := .seq ([] : List Value).toArray } } := I2.lnew (its := []) (t' := s2.toks) .nil (Nat.zero_le _)
  generalize hs3 : ({ s2 with heap := s2.heap.push { cls := .type "list", data := .seq ([] : List Value).toArray } } : Shared) = s3 at I3
  have e3 : s3.heap = s2.heap.push { cls := .type "list", dict := none, data := .seq ([] : List Value).toArray } := by rw [← hs3]
  rw [← e3] at hns₁ hsb₁
  have hH3 : ∃ H3, H3 = upd H2 s2.heap.objs.size (.lst []) := ⟨_, rfl⟩
  obtain ⟨H3, eH3⟩ := hH3
  rw [← eH3] at I3 w0
  have hC : s3.heap.objs.size = s2.heap.objs.size + 1 := by rw [e3, Heap.size_push]
  have k1 : ∀ b u, s3.heap.get? b = some u → h₁.get? b = some u := fun b u e => hsb₁.extBut b u (Nat.ne_of_lt (Heap.lt_size e)) (Heap.get?_push_of_some _ e)
  have k2 : ∀ b u, s2.heap.get? b = some u → s3.heap.get? b = some u := fun b u e => by rw [e3]; exact Heap.get?_push_of_some _ e
  have hfpo : ∀ b ∈ fp, ∃ o, s2.heap.get? b = some o := fun b hb => let ⟨o, e, _⟩ := T.obj 0 _ st2 b hb; ⟨o, e⟩
  have hfplt : ∀ b ∈ fp, b < s2.heap.objs.size := fun b hb => let ⟨o, e⟩ := hfpo b hb; Heap.lt_size e
  have hfn : ∀ b ∈ fp, b ∉ frs X.stack := fun b hb z => (List.mem_cons.mp (I2.stkSub b z)).elim (hfp b hb).2.1 (hfp b hb).2.2.1
  have hH3fp : ∀ b ∈ fp, H3 b = none := fun b hb => by rw [eH3, upd_ne (Nat.ne_of_lt (hfplt b hb))]; exact (hfp b hb).1
  let Y := blk X scope cl N s3 H3 fp
  obtain ⟨pg, pt, pe⟩ := hb cl s3 H3 fp
  have okY : Y.Ok := by
    refine ⟨I3.ok.mod, by show (relabel scope X.env).kind = _; exact hkind, I3.ok.glob, I3.ok.blt, Nat.le_refl _, fun x y c a b => I3.ok.inj x y c (cl1 x c a) (cl1 y c b), fun x hx => ?_, (fun x c z => by cases z), I3.ok.hd, I3.ok.frames, .inl rfl, fun b hb => ⟨?_, fun x c e => (hfp b hb).2.2.2.2.1 x c (cl1 x c e)⟩, I3.bs, Nat.le_trans I3.ok.bsz I3.sz, fun b o e hb => ?_, hfn, I3.stack, I3.stkFree⟩
    · have hx' : (relabel scope X.env).names.lookup x = some .cell ∨ (relabel scope X.env).names.lookup x = some .free := hx
      obtain ⟨y, hy, e1, e2⟩ : ∃ y ∈ scope.names, y.1 = x ∧ (y.2 = .free ∨ y.2 = .cell) := by
        rcases hx' with z | z
        · exact relabel_inv z (.inl rfl)
        · exact relabel_inv z (.inr rfl)
      have e2 : y.2 = .free := e2.elim id fun z => absurd z (hcell y hy)
      obtain ⟨c, ec⟩ := I3.ok.has y.1 (hfr y hy e2)
      exact ⟨c, by subst e1; exact (cl2 y hy e2).trans ec⟩
    · exact Nat.ne_of_lt (by show b < s3.heap.objs.size; rw [hC]; exact Nat.lt_succ_of_lt (hfplt b hb))
    · rcases (hfp b hb).2.2.2.1 with z | z
      · exact I3.ok.noex b o e z
      · exact absurd (Nat.lt_of_lt_of_le (Heap.lt_size e) (Nat.le_trans I3.ok.bsz z)) (Nat.lt_irrefl _)
  have vals : ∀ (i : Nat) (x : Str) (v : V), N[i]? = some x → (List.replicate nt none ++ js.map fun j => (σ[j]?).join)[i]? = some (some v) → ∃ u c, RelV v u ∧ X.env.cells.lookup x = some c ∧ s3.heap.IsCell c (some u) ∧ scope.names.lookup x = some .free := by
    intro i x v a1 a2
    have hi : nt ≤ i := by
      rcases Nat.lt_or_ge i nt with z | z
      · rw [List.getElem?_append_left (by simpa using z), List.getElem?_replicate, if_pos z] at a2; cases a2
      · exact z
    obtain ⟨k, rfl⟩ := Nat.exists_eq_add_of_le hi
    rw [List.getElem?_append_right (by simp)] at a2
    rw [List.length_replicate, Nat.add_sub_cancel_left, List.getElem?_map] at a2
    cases ej : js[k]? with
    | none => rw [ej] at a2; cases a2
    | some j =>
      rw [ej] at a2
      have hv : σ[j]? = some (some v) := by
        have a2 : (σ[j]?).join = some v := Option.some.inj a2
        cases q : σ[j]? with
        | none => rw [q] at a2; cases a2
        | some o => rw [q] at a2; exact congrArg some a2
      obtain ⟨y, n1, n2, n3⟩ := hjs k j ej
      have ey : y = x := by rw [n1] at a1; exact Option.some.inj a1
      subst ey
      have mem : (y, NameKind.free) ∈ scope.names := PySem.mem_of_lookup n3
      have kd := hfr _ mem rfl
      have vis : Vis X.env.scope y := by
        rcases kd with z | z
        · exact .inr (.inl z)
        · exact .inr (.inr z)
      obtain ⟨m, hn, hl⟩ := I3.loc
      obtain ⟨u, ru, look⟩ := hl j y v n2 hv vis
      rcases look with ⟨kk, _⟩ | ⟨kk, c, ec, hce⟩
      · rcases kd with z | z
        · rw [z] at kk; cases kk
        · rw [z] at kk; cases kk
      · exact ⟨u, c, ru, ec, hce, n3⟩
  have IY : L2.Inv Y [] (List.replicate nt none ++ js.map fun j => (σ[j]?).join) H3 { s3 with heap := h₁, toks := s3.toks + ([] : List (Str × Value)).length } := by
    refine ⟨okY, rfl, I3.bare, Un.kept k1, ⟨_, hns₁, fun i x v a1 a2 a3 => ?_⟩, fun x c e => ?_, I3.hok.fresh (Nat.le_refl _), fun x c e => I3.freeC x c (cl1 x c e), (fun p hp => by cases hp), I3.hok.kept k1, ?_⟩
    · obtain ⟨u, c, ru, ec, ⟨o, ho, hd⟩, n3⟩ := vals i x v a1 a2
      exact ⟨u, ru, .inr ⟨lookup_relabel_free n3, c, (cl2 (x, .free) (PySem.mem_of_lookup n3) rfl).trans ec, o, k1 c o ho, hd⟩⟩
    · obtain ⟨v, o, ho, hd⟩ := I3.cell x c (cl1 x c e)
      exact ⟨v, o, k1 c o ho, hd⟩
    · show _ = N.length
      simp; omega
  have hfY : ∀ {H' : Hp}, (∀ b ∈ fp, H' b = none) → ∀ b ∈ fp, FpOk Y [] H' b := fun hn b hb =>
    ⟨hn b hb, Nat.ne_of_lt (by show b < s3.heap.objs.size; rw [hC]; exact Nat.lt_succ_of_lt (hfplt b hb)), hfn b hb, .inl hb, fun x c e => (hfp b hb).2.2.2.2.1 x c (cl1 x c e), fun p hp => by cases hp⟩
  have st1 : tn 0 h₁ := T.keep 0 _ _ st2 fun b hb o e => k1 b o (k2 b o e)
  have loop : ∀ s4 : Shared, s4 = { s3 with heap := h₁, toks := s3.toks + ([] : List (Str × Value)).length } → codeAny (model X.prog X.w) X.A (.compLoop (.ListComp elt [⟨tg, iter, ifs, 0⟩] scope pos) 0 (.ref it) (.ref s2.heap.objs.size) (compEnvC scope cl s3.heap.objs.size X.env))
      (compPost (model X.prog X.w) X.A X.xe use QQ (.ref s2.heap.objs.size) s3.heap.objs.size) s4 := by
    rintro s4 rfl
    refine compLoop_go (fun n s' => ∃ i σ' H', L2.Inv Y [] σ' H' s' ∧ tn i s'.heap ∧ (∀ b ∈ fp, H' b = none) ∧ W i n σ' H') ?_ m0 ⟨0, _, H3, IY, st1, hH3fp, w0⟩
    rintro n s5 ⟨i, σ5, H5, I5, st5, fr5, w5⟩
    rcases turn i n σ5 H5 w5 with ⟨stop, qn⟩ | ⟨go, step⟩
    · refine wpAny_mono (T.done Y rfl rfl rfl hc i [] s5 σ5 H5 (fun _ _ => False) I5 (hfY fr5) st5 stop) (fun r s6 ⟨hr, I6⟩ => ?_) fun _ _ z => z
      subst hr
      obtain ⟨m, hn, _⟩ := I6.loc
      have U6 : Un (frs X.stack) fp H3 H5 s3.heap s6.heap := I6.base
      have U2 : Un (frs X.stack) fp H2 H3 s2.heap s3.heap := by rw [eH3]; exact Un.laid k2 (Nat.le_refl _) I2.fresh
      have IX : L2.Inv X pins σ H5 s6 := by
        refine I2.call' (s' := s6) ?_ (U2.trans U6) I6.hok I6.bare fun b hb => ⟨(hfp b hb).2.2.2.1, (hfp b hb).2.1, (hfp b hb).2.2.2.2.1, (hfp b hb).2.2.2.2.2⟩
        rw [I6.os]
        show s3.os = s2.os
        rw [← hs3]
      exact fin _ _ s6 H5 m IX hn (I2.fpOk (by rw [hC]; exact Nat.le_succ _) I6.free) qn
    · refine wpAny_mono (T.item Y rfl rfl rfl hc i [] s5 σ5 H5 (fun _ _ => False) I5 (hfY fr5) st5 go) (fun r s6 ⟨u, hr, h6⟩ => ?_) fun _ _ z => z
      subst hr
      refine wpAny_mono h6 (fun _ s7 ⟨x, H7, I7, r7, y7, st7, fr7⟩ => ?_) fun _ _ z => z
      have I7' := I7.pinned (hfY fr7) (T.obj _ _ st7)
      refine wpAny_mono (pg _ s7 σ5 H7 x u _ I7' r7 (step x H7 y7)) (fun _ s8 ⟨σ8, H8, I8, q8⟩ => ?_) fun _ _ z => z
      refine wpAny_mono (pt _ s8 σ8 H8 _ I8 q8) (fun ok s9 ⟨H9, I9, q9⟩ => ?_) fun _ _ z => z
      have again : ∀ {s' : Shared} {H' : Hp} {m' : Nat}, L2.Inv Y ([] ++ pinsAt fp s7.heap) σ8 H' s' → m' < n → W (i + 1) m' σ8 H' → ∃ m, m < n ∧ ∃ i σ' H', L2.Inv Y [] σ' H' s' ∧ tn i s'.heap ∧ (∀ b ∈ fp, H' b = none) ∧ W i m σ' H' := fun {s' H' m'} I' hm w' => by
        refine ⟨m', hm, i + 1, σ8, H', I'.unpinned, T.keep _ _ _ st7 fun b hb o e => (I'.pin (b, o) (List.mem_append_right _ (List.mem_append_right _ (mem_pinsAt hb e)))).1, fun b hb => ?_, w'⟩
        obtain ⟨o, e, d⟩ := T.obj _ _ st7 b hb
        exact (I'.pin (b, o) (List.mem_append_right _ (List.mem_append_right _ (mem_pinsAt hb e)))).2.1
      cases ok with
      | false =>
        rw [if_neg Bool.false_ne_true] at q9 ⊢
        obtain ⟨m', hm, w'⟩ := q9
        exact again I9 hm w'
      | true =>
        rw [if_pos rfl] at q9 ⊢
        refine wpAny_mono (pe _ s9 σ8 H9 _ I9 q9) (fun yv s10 ⟨y, H10, I10, r10, xs, hacc, hz, m', hm, w'⟩ => ?_) fun _ _ z => z
        refine wpAny_mono (mt_append (X := blk X scope cl N s3 H3 fp) _ s10 σ8 H10 (.ref s2.heap.objs.size) [y] (.ref s2.heap.objs.size) [yv] (fun _ H' => H' = upd H10 s2.heap.objs.size (.lst (xs ++ [y]))) I10 rfl (.cons r10 .nil) ⟨s2.heap.objs.size, xs, y, rfl, rfl, hacc, hz, rfl⟩) (fun _ s11 ⟨_, H11, I11, _, e11⟩ => ?_) fun _ _ z => z
        subst e11
        exact again I11 hm w'
  subst hs3
  exact codeAny_compStart_list (loop _ rfl) (T.self _ 0 _ _ _ st1 (loop _ rfl))
theorem Inv.dropC {pins : List (Addr × Obj)} {s : Shared} {σ : L2.St} {H : Hp} {C : Addr} {m : Str → Option Value} {h' : Heap} (I : L2.Inv X pins σ H s) (n : s.heap.Ns C m) (f : FpOk X pins H C) (hs : Heap.SameBut C s.heap h') : L2.Inv X pins σ H { s with heap := h' } := by
  have hne : ∀ b, b ∉ [C] → b ≠ C := fun b hb z => hb (by rw [z]; exact List.mem_cons_self)
  refine I.call' (s' := { s with heap := h' }) (ch := [C]) rfl ?_ ?_ I.bare fun b hb => ?_
  · exact ⟨fun b o e _ _ hx => (hs.2 b (hne b hx)).trans e, fun b o e _ _ hx => ⟨o.slots, (hs.2 b (hne b hx)).trans e⟩, fun b o _ q _ => q, fun b o e hx => ⟨o, (hs.2 b (hne b hx)).trans e⟩, fun _ _ q => q, fun _ _ _ q => q, fun _ ps q => ⟨#[], by simpa using q⟩⟩
  · intro b u e
    have hbC : ∀ c, (c = b ∨ H c = some (.own b)) → c ≠ C := fun c hcb z => by
      rcases hcb with q | q
      · rw [← q, z, f.1] at e; cases e
      · rw [z, f.1] at q; cases q
    exact (I.hok b u e).stay (fun c w' hcb q => (hs.2 c (hbC c hcb)).trans q) (fun _ q => q) fun _ _ q => q
  · have : b = C := by simpa using hb
    subst this
    exact ⟨f.2.2.2.1, f.2.1, f.2.2.2.2.1, f.2.2.2.2.2⟩
theorem pe_comp {elt iter tg : Expr} {ifs : List Expr} {scope : Scope} {wi : TI} {N : List Str} {nt : Nat} {js : List Nat} {g : TG} {tc : TT} {te : TE}
    (hc : X.calm = true) (hi : PI X tg iter wi) (hkind : scope.kind = .function) (hcell : ∀ y ∈ scope.names, y.2 ≠ .cell) (hnames : ∀ y ∈ scope.names, y.2 = .local → scope.names.lookup y.1 = some .local)
    (hfr : ∀ y ∈ scope.names, y.2 = .free → X.env.kindOf y.1 = some .cell ∨ X.env.kindOf y.1 = some .free)
    (hlen : nt + js.length = N.length)
    (hjs : ∀ (k : Nat) (j : Nat), js[k]? = some j → ∃ x, N[nt + k]? = some x ∧ X.N[j]? = some x ∧ scope.names.lookup x = some .free)
    (hb : ∀ cl s3 H3 fp, PG (blk X scope cl N s3 H3 fp) tg g ∧ PTs (blk X scope cl N s3 H3 fp) ifs tc ∧ PE (blk X scope cl N s3 H3 fp) elt te)
    (hs : ∀ x, foldedSetIterable iter X.env x = pure x := by intro _; rfl) :
    PE X (.ListComp elt [⟨tg, iter, ifs, 0⟩] scope pos) (tComp wi nt js g tc te) := by
  intro pins s σ H Q I h
  rw [eval_ListComp]
  exact comp_core hc hi hkind hcell hnames hfr hlen hjs hb hs _ I h fun a C s6 H5 m IX hn hf q => ⟨m, hn, fun h' hs' => ⟨.ref a, H5, Inv.dropC IX hn hf hs', rfl, q⟩⟩
theorem ps_setComp {i : Nat} {y : Str} {py spos : Pos} {elt iter tg : Expr} {ifs : List Expr} {scope : Scope} {wi : TI} {N : List Str} {nt : Nat} {js : List Nat} {g : TG} {tc : TT} {te : TE}
    (hN : X.N.Nodup) (hi0 : X.N[i]? = some y) (hx : X.env.scope.names.lookup y = some .local) (hsw : swapsWith (.ListComp elt [⟨tg, iter, ifs, 0⟩] scope pos) (some (.Name y py)) spos.line X.env = pure true) (hc : X.calm = true) (hi : PI X tg iter wi) (hkind : scope.kind = .function) (hcell : ∀ y ∈ scope.names, y.2 ≠ .cell) (hnames : ∀ y ∈ scope.names, y.2 = .local → scope.names.lookup y.1 = some .local)
    (hfr : ∀ y ∈ scope.names, y.2 = .free → X.env.kindOf y.1 = some .cell ∨ X.env.kindOf y.1 = some .free)
    (hlen : nt + js.length = N.length)
    (hjs : ∀ (k : Nat) (j : Nat), js[k]? = some j → ∃ x, N[nt + k]? = some x ∧ X.N[j]? = some x ∧ scope.names.lookup x = some .free)
    (hb : ∀ cl s3 H3 fp, PG (blk X scope cl N s3 H3 fp) tg g ∧ PTs (blk X scope cl N s3 H3 fp) ifs tc ∧ PE (blk X scope cl N s3 H3 fp) elt te)
    (hs : ∀ x, foldedSetIterable iter X.env x = pure x := by intro _; rfl) : PS X (.Assign [.Name y py] (.ListComp elt [⟨tg, iter, ifs, 0⟩] scope pos) spos) (tAsg (tComp wi nt js g tc te) (gName i)) := by
  intro pins s σ H D I h
  rw [exec_Assign_Name_used _ _ _ _ hsw]
  refine wpAny_bind (wpAny_standAt (wpAny_bind ?_))
  show wpAny _ X.A (do let _ ← comprehension (.ListComp elt [⟨tg, iter, ifs, 0⟩] scope pos) scope X.env _ (newList []) false (eval iter X.env) (some (assign (.Name y py) X.env))) _ _ s
  refine wpAny_bind (wpAny_mono (comp_core (QQ := fun _ s' => (SP X pins D) .next s') hc hi hkind hcell hnames hfr hlen hjs hb hs _ I h fun a C s6 H5 m IX hn hf q => ?_) (fun _ s' hq => wpAny_pure (wpAny_pure hq)) fun _ _ e => e)
  show wpAny _ X.A (assign (.Name y py) X.env (.ref a)) _ _ _
  refine wpAny_assign_Name (store_ok2 (v := .ref a) IX hN hi0 (.inl hx) rfl (fun s7 I7 ⟨a0, sb, ha⟩ => ?_) (.inr hx))
  have hne : C ≠ a0 := fun z => by
    rcases ha with q | q
    · exact hf.2.1 (z.trans q)
    · exact hf.2.2.2.2.1 y a0 q z.symm
  exact ⟨m, hn.sameBut sb hne, fun h' hs' => ⟨_, H5, Inv.dropC I7 (hn.sameBut sb hne) hf hs', q⟩⟩
end
end VL
end
section
namespace VL
open PySem L2
inductive Tg where
  | exc (c : Str) | dK (kvs : List (Key × Int)) | dT (kvs : List (List Key × Int))
  deriving Inhabited
inductive D where
  | non | bl (b : Bool) | int (i : Int) | str (x : Str) | tup (ds : List D) | lst (own : Bool) (ds : List D) | ext (own : Bool) (t : Tg)
  deriving Inhabited
def ExcAt (a C : Addr) : HO := .ext fun h => ∃ o vs, h.get? a = some o ∧ o.cls = .ref C ∧ o.data = .fields vs
def TgO (K : FG) (a : Addr) : Tg → HO → Prop
  | .exc c, u => ∃ C, PySem.W.nsIn K mainGlobals c = some (some (.ref C)) ∧ u = ExcAt a C
  | .dK kvs, u => u = .dK (kvs.map fun p => (p.1, V.int p.2))
  | .dT kvs, u => u = .dT (kvs.map fun p => (p.1, V.int p.2))
mutual
def D.calm : D → Bool
  | .non => true | .bl _ => true | .int _ => true | .str _ => true
  | .tup ds => D.calms ds
  | .lst o ds => !o && D.calms ds
  | .ext o _ => !o
def D.calms : List D → Bool
  | [] => true
  | d :: ds => d.calm && D.calms ds
end
mutual
def D.frz : D → D
  | .non => .non | .bl b => .bl b | .int i => .int i | .str x => .str x
  | .tup ds => .tup (D.frzs ds)
  | .lst _ ds => .lst false (D.frzs ds)
  | .ext _ t => .ext false t
def D.frzs : List D → List D
  | [] => []
  | d :: ds => d.frz :: D.frzs ds
end
theorem D.frzs_eq : ∀ ds : List D, D.frzs ds = ds.map D.frz
  | [] => rfl
  | d :: ds => by rw [D.frzs, D.frzs_eq ds]; rfl
theorem D.calms_eq : ∀ ds : List D, D.calms ds = ds.all D.calm
  | [] => rfl
  | d :: ds => by rw [D.calms, D.calms_eq ds]; rfl
inductive R (α : Type) where
  | ok (a : α) | exc (c : Str) | bad
def R.bind {α β : Type} (x : R α) (f : α → R β) : R β := match x with
  | .ok a => f a | .exc c => .exc c | .bad => .bad
def R.of {α : Type} : Option α → R α
  | some a => .ok a | none => .bad
mutual
def Own (K : FG) (F H : Hp) : D → V → List Addr → Prop
  | .non, v, fp => v = .non ∧ fp = []
  | .bl b, v, fp => v = .bl b ∧ fp = []
  | .int i, v, fp => v = .int i ∧ fp = []
  | .str x, v, fp => v = .str x ∧ fp = []
  | .tup ds, v, fp => fp = [] ∧ ∃ a xs, v = .ref a ∧ SqT K F a xs ∧ Owns K F H ds xs []
  | .lst o ds, v, fp => ∃ a xs fq, v = .ref a ∧ Owns K F H ds xs fq ∧ ((o = true ∧ F a = none ∧ H a = some (.lst xs) ∧ fp = a :: fq) ∨ (o = false ∧ Rd F a (.lst xs) ∧ fq = [] ∧ fp = []))
  | .ext o t, v, fp => ∃ a u, v = .ref a ∧ TgO K a t u ∧ ((o = true ∧ F a = none ∧ H a = some u ∧ fp = [a]) ∨ (o = false ∧ F a = some u ∧ fp = []))
def Owns (K : FG) (F H : Hp) : List D → List V → List Addr → Prop
  | [], vs, fp => vs = [] ∧ fp = []
  | d :: ds, vs, fp => ∃ v r f1 f2, vs = v :: r ∧ Own K F H d v f1 ∧ Owns K F H ds r f2 ∧ fp = f1 ++ f2
end
section
variable {K : FG} {F H F' H' : Hp}
theorem Same.seqT {a : Addr} {xs : List V} (e : Same F F') (h : SqT K F a xs) : SqT K F' a xs := by
  rcases h with (h | ⟨o, h⟩) | h
  · exact .inl (.inl (e _ _ h))
  · exact .inl (.inr ⟨o, e _ _ h⟩)
  · exact .inr h
theorem Same.rd {a : Addr} {u : HO} (e : Same F F') (h : Rd F a u) : Rd F' a u := by
  rcases h with h | ⟨o, h⟩
  · exact .inl (e _ _ h)
  · exact .inr ⟨o, e _ _ h⟩
mutual
theorem Own.keep (hf : Same F F') : ∀ (d : D) {v : V} {fp : List Addr}, (∀ a ∈ fp, F' a = none ∧ H' a = H a) → Own K F H d v fp → Own K F' H' d v fp
  | .non, _, _, _, h => h
  | .bl _, _, _, _, h => h
  | .int _, _, _, _, h => h
  | .str _, _, _, _, h => h
  | .tup ds, v, fp, _, h => by
    unfold Own at h ⊢
    obtain ⟨e, a, xs, e1, q, r⟩ := h
    exact ⟨e, a, xs, e1, Same.seqT hf q, Owns.keep hf ds (by simp) r⟩
  | .lst o ds, v, fp, k, h => by
    unfold Own at h ⊢
    obtain ⟨a, xs, fq, e1, r, h⟩ := h
    rcases h with ⟨o1, h1, h2, h3⟩ | ⟨o1, h1, h2, h3⟩
    · subst h3
      obtain ⟨k1, k2⟩ := k a List.mem_cons_self
      exact ⟨a, xs, fq, e1, Owns.keep hf ds (fun b hb => k b (List.mem_cons_of_mem _ hb)) r, .inl ⟨o1, k1, k2.trans h2, rfl⟩⟩
    · subst h2
      exact ⟨a, xs, [], e1, Owns.keep hf ds (by simp) r, .inr ⟨o1, Same.rd hf h1, rfl, h3⟩⟩
  | .ext o t, v, fp, k, h => by
    unfold Own at h ⊢
    obtain ⟨a, u, e1, tg, h⟩ := h
    rcases h with ⟨o1, h1, h2, h3⟩ | ⟨o1, h1, h3⟩
    · subst h3
      obtain ⟨k1, k2⟩ := k a List.mem_cons_self
      exact ⟨a, u, e1, tg, .inl ⟨o1, k1, k2.trans h2, rfl⟩⟩
    · exact ⟨a, u, e1, tg, .inr ⟨o1, hf _ _ h1, h3⟩⟩
theorem Owns.keep (hf : Same F F') : ∀ (ds : List D) {vs : List V} {fp : List Addr}, (∀ a ∈ fp, F' a = none ∧ H' a = H a) → Owns K F H ds vs fp → Owns K F' H' ds vs fp
  | [], _, _, _, h => h
  | d :: ds, vs, fp, k, h => by
    unfold Owns at h ⊢
    obtain ⟨v, r, f1, f2, e, h1, h2, e2⟩ := h
    subst e2
    exact ⟨v, r, f1, f2, e, Own.keep hf d (fun b hb => k b (List.mem_append_left _ hb)) h1, Owns.keep hf ds (fun b hb => k b (List.mem_append_right _ hb)) h2, rfl⟩
end
mutual
theorem Own.zone : ∀ (d : D) {v : V} {fp : List Addr}, Own K F H d v fp → ∀ a ∈ fp, F a = none ∧ ∃ u, H a = some u
  | .non, _, _, h, a, ha => by unfold Own at h; rw [h.2] at ha; cases ha
  | .bl _, _, _, h, a, ha => by unfold Own at h; rw [h.2] at ha; cases ha
  | .int _, _, _, h, a, ha => by unfold Own at h; rw [h.2] at ha; cases ha
  | .str _, _, _, h, a, ha => by unfold Own at h; rw [h.2] at ha; cases ha
  | .tup _, _, _, h, a, ha => by unfold Own at h; rw [h.1] at ha; cases ha
  | .lst o ds, v, fp, h, a, ha => by
    unfold Own at h
    obtain ⟨b, xs, fq, e1, r, h⟩ := h
    rcases h with ⟨o1, h1, h2, h3⟩ | ⟨o1, h1, h2, h3⟩
    · subst h3
      rcases List.mem_cons.mp ha with rfl | ha
      · exact ⟨h1, _, h2⟩
      · exact Owns.zone ds r a ha
    · rw [h3] at ha; cases ha
  | .ext o t, v, fp, h, a, ha => by
    unfold Own at h
    obtain ⟨b, u, e1, tg, h⟩ := h
    rcases h with ⟨o1, h1, h2, h3⟩ | ⟨o1, h1, h3⟩
    · subst h3
      have : a = b := by simpa using ha
      subst this
      exact ⟨h1, u, h2⟩
    · rw [h3] at ha; cases ha
theorem Owns.zone : ∀ (ds : List D) {vs : List V} {fp : List Addr}, Owns K F H ds vs fp → ∀ a ∈ fp, F a = none ∧ ∃ u, H a = some u
  | [], _, _, h, a, ha => by unfold Owns at h; rw [h.2] at ha; cases ha
  | d :: ds, vs, fp, h, a, ha => by
    unfold Owns at h
    obtain ⟨v, r, f1, f2, e, h1, h2, e2⟩ := h
    subst e2
    rcases List.mem_append.mp ha with ha | ha
    · exact Own.zone d h1 a ha
    · exact Owns.zone ds h2 a ha
end
mutual
theorem Own.fp_nil : ∀ (d : D) {v : V} {fp : List Addr}, d.calm = true → Own K F H d v fp → fp = []
  | .non, _, _, _, h => by unfold Own at h; exact h.2
  | .bl _, _, _, _, h => by unfold Own at h; exact h.2
  | .int _, _, _, _, h => by unfold Own at h; exact h.2
  | .str _, _, _, _, h => by unfold Own at h; exact h.2
  | .tup _, _, _, _, h => by unfold Own at h; exact h.1
  | .lst o ds, _, _, hc, h => by
    unfold Own at h
    obtain ⟨a, xs, fq, e1, r, h⟩ := h
    rcases h with ⟨o1, _⟩ | ⟨_, _, _, h3⟩
    · subst o1; simp [D.calm] at hc
    · exact h3
  | .ext o t, _, _, hc, h => by
    unfold Own at h
    obtain ⟨b, u, e1, tg, h⟩ := h
    rcases h with ⟨o1, _⟩ | ⟨_, _, h3⟩
    · subst o1; simp [D.calm] at hc
    · exact h3
end
theorem Owns.fp_nil : ∀ (ds : List D) {vs : List V} {fp : List Addr}, D.calms ds = true → Owns K F H ds vs fp → fp = []
  | [], _, _, _, h => by unfold Owns at h; exact h.2
  | d :: ds, vs, fp, hc, h => by
    unfold Owns at h
    obtain ⟨v, r, f1, f2, e, h1, h2, e2⟩ := h
    simp only [D.calms, Bool.and_eq_true] at hc
    rw [e2, Own.fp_nil d hc.1 h1, Owns.fp_nil ds hc.2 h2]; rfl
theorem Owns.length : ∀ (ds : List D) {vs : List V} {fp : List Addr}, Owns K F H ds vs fp → ds.length = vs.length
  | [], _, _, h => by unfold Owns at h; rw [h.1]; rfl
  | d :: ds, vs, fp, h => by
    unfold Owns at h
    obtain ⟨v, r, f1, f2, e, h1, h2, e2⟩ := h
    rw [e, List.length_cons, List.length_cons, Owns.length ds h2]
theorem Owns.get : ∀ (ds : List D) {vs : List V} {fp : List Addr} {i : Nat} {d : D}, Owns K F H ds vs fp → ds[i]? = some d → ∃ v f, vs[i]? = some v ∧ Own K F H d v f ∧ f.Sublist fp
  | [], _, _, _, _, _, e => by simp at e
  | c :: ds, vs, fp, 0, d, h, e => by
    unfold Owns at h
    obtain ⟨v, r, f1, f2, e1, h1, h2, e2⟩ := h
    simp at e; subst e; subst e1; subst e2
    exact ⟨v, f1, rfl, h1, List.sublist_append_left _ _⟩
  | c :: ds, vs, fp, i + 1, d, h, e => by
    unfold Owns at h
    obtain ⟨v, r, f1, f2, e1, h1, h2, e2⟩ := h
    subst e1; subst e2
    obtain ⟨u, f, q1, q2, q3⟩ := Owns.get ds (i := i) h2 (by simpa using e)
    exact ⟨u, f, by simpa using q1, q2, q3.trans (List.sublist_append_right _ _)⟩
theorem Owns.append : ∀ (ds : List D) {es : List D} {vs us : List V} {f g : List Addr}, Owns K F H ds vs f → Owns K F H es us g → Owns K F H (ds ++ es) (vs ++ us) (f ++ g)
  | [], es, vs, us, f, g, h, k => by unfold Owns at h; rw [h.1, h.2]; exact k
  | d :: ds, es, vs, us, f, g, h, k => by
    unfold Owns at h
    obtain ⟨v, r, f1, f2, e1, h1, h2, e2⟩ := h
    subst e1; subst e2
    show Owns K F H (d :: (ds ++ es)) _ _
    unfold Owns
    exact ⟨v, r ++ us, f1, f2 ++ g, rfl, h1, Owns.append ds h2 k, by rw [List.append_assoc]⟩
theorem Owns.one {d : D} {v : V} {f : List Addr} (h : Own K F H d v f) : Owns K F H [d] [v] f := by
  unfold Owns
  exact ⟨v, [], f, [], rfl, h, by unfold Owns; exact ⟨rfl, rfl⟩, by simp⟩
theorem Owns.nil : Owns K F H [] [] [] := by unfold Owns; exact ⟨rfl, rfl⟩
theorem Owns.cons {d : D} {v : V} {f : List Addr} {ds : List D} {vs : List V} {g : List Addr} (h : Own K F H d v f) (k : Owns K F H ds vs g) : Owns K F H (d :: ds) (v :: vs) (f ++ g) := by
  unfold Owns; exact ⟨v, vs, f, g, rfl, h, k, rfl⟩
theorem Owns.of_get : ∀ (ds : List D) {vs : List V}, ds.length = vs.length → (∀ (i : Nat) (d : D) (v : V), ds[i]? = some d → vs[i]? = some v → Own K F H d v []) → Owns K F H ds vs []
  | [], vs, hl, _ => by
    have : vs = [] := List.length_eq_zero_iff.mp (by simpa using hl.symm)
    subst this; exact Owns.nil
  | d :: ds, [], hl, _ => by simp at hl
  | d :: ds, v :: vs, hl, h => by
    have h1 := h 0 d v rfl rfl
    have h2 := Owns.of_get ds (vs := vs) (by simpa using hl) fun i d' v' e1 e2 => h (i + 1) d' v' (by simpa using e1) (by simpa using e2)
    exact Owns.cons h1 h2
theorem Owns.get0 {ds : List D} {vs : List V} {i : Nat} {d : D} {v : V} (h : Owns K F H ds vs []) (e : ds[i]? = some d) (e2 : vs[i]? = some v) : Own K F H d v [] := by
  obtain ⟨u, f, q1, q2, q3⟩ := Owns.get ds h e
  rw [e2] at q1; cases q1
  have : f = [] := List.sublist_nil.mp q3
  subst this; exact q2
structure Grow (F H F' H' : Hp) : Prop where
  fr : Same F F'
  all : Same H H'
  inn : Same F' H'
  new : ∀ b o, F' b = some o → F b = some o ∨ H b = none
theorem Grow.refl (h : Same F H) : Grow F H F H := ⟨Same.refl _, Same.refl _, h, fun _ _ e => .inl e⟩
theorem Grow.trans {F1 H1 F2 H2 : Hp} (a : Grow F H F1 H1) (b : Grow F1 H1 F2 H2) : Grow F H F2 H2 :=
  ⟨a.fr.trans b.fr, a.all.trans b.all, b.inn, fun c o e => by
    rcases b.new c o e with h | h
    · exact a.new c o h
    · exact .inr (a.all.free h)⟩
theorem Own.grow {d : D} {v : V} {fp : List Addr} (g : Grow F H F' H') (h : Own K F H d v fp) : Own K F' H' d v fp := by
  refine Own.keep g.fr d (fun a ha => ?_) h
  obtain ⟨h1, xs, h2⟩ := Own.zone d h a ha
  refine ⟨?_, (g.all a _ h2).trans h2.symm⟩
  cases e : F' a with
  | none => rfl
  | some o =>
    rcases g.new a o e with q | q
    · rw [h1] at q; cases q
    · rw [h2] at q; cases q
theorem Owns.grow {ds : List D} {vs : List V} {fp : List Addr} (g : Grow F H F' H') (h : Owns K F H ds vs fp) : Owns K F' H' ds vs fp := by
  refine Owns.keep g.fr ds (fun a ha => ?_) h
  obtain ⟨h1, xs, h2⟩ := Owns.zone ds h a ha
  refine ⟨?_, (g.all a _ h2).trans h2.symm⟩
  cases e : F' a with
  | none => rfl
  | some o =>
    rcases g.new a o e with q | q
    · rw [h1] at q; cases q
    · rw [h2] at q; cases q
theorem Same.upd {p : Addr} {o : HO} (h : H p = none) : Same H (upd H p o) := fun b u e => by
  rw [upd_ne (ne_of_none e h)]; exact e
theorem Grow.both {p : Addr} {o : HO} (hs : Same F H) (h : H p = none) : Grow F H (upd F p o) (upd H p o) := by
  refine ⟨Same.upd (hs.free h), Same.upd h, fun b u e => ?_, fun b u e => ?_⟩
  · by_cases hb : b = p
    · subst hb; rw [upd_same] at e ⊢; exact e
    · rw [upd_ne hb] at e ⊢; exact hs b u e
  · by_cases hb : b = p
    · subst hb; exact .inr h
    · rw [upd_ne hb] at e; exact .inl e
theorem Grow.one {p : Addr} {o : HO} (hs : Same F H) (h : H p = none) : Grow F H F (upd H p o) :=
  ⟨Same.refl _, Same.upd h, fun b u e => by rw [upd_ne (ne_of_none (hs b u e) h)]; exact hs b u e, fun _ _ e => .inl e⟩
def frzH (F H : Hp) (fp : List Addr) : Hp := fun b => if b ∈ fp then H b else F b
theorem frzH_same {fp : List Addr} (h : ∀ a ∈ fp, F a = none) : Same F (frzH F H fp) := fun b o e => by
  unfold frzH
  rw [if_neg fun hb => by rw [h b hb] at e; cases e]; exact e
theorem frzH_in {fp : List Addr} (hs : Same F H) : Same (frzH F H fp) H := fun b o e => by
  unfold frzH at e
  split at e
  · exact e
  · exact hs b o e
mutual
theorem Own.freeze {fp : List Addr} (hz : ∀ a ∈ fp, F a = none) : ∀ (d : D) {v : V} {f : List Addr}, (∀ a ∈ f, a ∈ fp) → Own K F H d v f → Own K (frzH F H fp) H d.frz v []
  | .non, _, _, _, h => by unfold Own at h; unfold D.frz Own; exact ⟨h.1, rfl⟩
  | .bl _, _, _, _, h => by unfold Own at h; unfold D.frz Own; exact ⟨h.1, rfl⟩
  | .int _, _, _, _, h => by unfold Own at h; unfold D.frz Own; exact ⟨h.1, rfl⟩
  | .str _, _, _, _, h => by unfold Own at h; unfold D.frz Own; exact ⟨h.1, rfl⟩
  | .tup ds, _, _, _, h => by
    unfold Own at h; unfold D.frz Own
    obtain ⟨e, a, xs, e1, q, r⟩ := h
    exact ⟨rfl, a, xs, e1, Same.seqT (frzH_same hz) q, Owns.freeze hz ds (by simp) r⟩
  | .lst o ds, v, f, hf, h => by
    unfold Own at h; unfold D.frz Own
    obtain ⟨a, xs, fq, e1, r, h⟩ := h
    rcases h with ⟨o1, h1, h2, h3⟩ | ⟨o1, h1, h2, h3⟩
    · subst h3
      refine ⟨a, xs, [], e1, Owns.freeze hz ds (fun b hb => hf b (List.mem_cons_of_mem _ hb)) r, .inr ⟨rfl, .inl ?_, rfl, rfl⟩⟩
      unfold frzH; rw [if_pos (hf a List.mem_cons_self)]; exact h2
    · subst h2
      exact ⟨a, xs, [], e1, Owns.freeze hz ds (by simp) r, .inr ⟨rfl, Same.rd (frzH_same hz) h1, rfl, rfl⟩⟩
  | .ext o t, v, f, hf, h => by
    unfold Own at h; unfold D.frz Own
    obtain ⟨a, u, e1, tg, h⟩ := h
    rcases h with ⟨o1, h1, h2, h3⟩ | ⟨o1, h1, h3⟩
    · subst h3
      refine ⟨a, u, e1, tg, .inr ⟨rfl, ?_, rfl⟩⟩
      unfold frzH; rw [if_pos (hf a List.mem_cons_self)]; exact h2
    · exact ⟨a, u, e1, tg, .inr ⟨rfl, frzH_same hz _ _ h1, rfl⟩⟩
theorem Owns.freeze {fp : List Addr} (hz : ∀ a ∈ fp, F a = none) : ∀ (ds : List D) {vs : List V} {f : List Addr}, (∀ a ∈ f, a ∈ fp) → Owns K F H ds vs f → Owns K (frzH F H fp) H (D.frzs ds) vs []
  | [], _, _, _, h => by unfold Owns at h; unfold D.frzs Owns; exact ⟨h.1, rfl⟩
  | d :: ds, vs, f, hf, h => by
    unfold Owns at h; unfold D.frzs Owns
    obtain ⟨v, r, f1, f2, e, h1, h2, e2⟩ := h
    subst e2
    exact ⟨v, r, [], [], e, Own.freeze hz d (fun b hb => hf b (List.mem_append_left _ hb)) h1, Owns.freeze hz ds (fun b hb => hf b (List.mem_append_right _ hb)) h2, rfl⟩
end
mutual
theorem D.frz_calm : ∀ d : D, d.calm = true → d.frz = d
  | .non, _ => rfl | .bl _, _ => rfl | .int _, _ => rfl | .str _, _ => rfl
  | .tup ds, h => by unfold D.frz; rw [D.frzs_calm ds (by simpa [D.calm] using h)]
  | .lst o ds, h => by
    simp only [D.calm, Bool.and_eq_true, Bool.not_eq_true'] at h
    unfold D.frz; rw [D.frzs_calm ds h.2, h.1]
  | .ext o t, h => by
    simp only [D.calm, Bool.not_eq_true'] at h
    unfold D.frz; rw [h]
theorem D.frzs_calm : ∀ ds : List D, D.calms ds = true → D.frzs ds = ds
  | [], _ => rfl
  | d :: ds, h => by
    simp only [D.calms, Bool.and_eq_true] at h
    unfold D.frzs; rw [D.frz_calm d h.1, D.frzs_calm ds h.2]
end
end
inductive Slot where
  | un | val (d : D) | pin (d : D)
  deriving Inhabited
def Slot.d? : Slot → Option D
  | .un => none | .val d => some d | .pin d => some d
abbrev Env := List Slot
structure Sim (K : FG) (F H : Hp) (σ : St) (ρ : Env) (fps : List (List Addr)) : Prop where
  same : Same F H
  ls : σ.length = ρ.length
  lf : fps.length = ρ.length
  at_ : ∀ (i : Nat) (s : Slot) (d : D), ρ[i]? = some s → s.d? = some d → ∃ v fp, σ[i]? = some (some v) ∧ fps[i]? = some fp ∧ Own K F H d v fp
  nd : fps.flatten.Nodup
  zone : ∀ a ∈ fps.flatten, F a = none ∧ H a ≠ none
section
variable {K : FG} {F H F' H' : Hp} {σ : St} {ρ : Env} {fps : List (List Addr)}
theorem Sim.grow (S : Sim K F H σ ρ fps) (g : Grow F H F' H') : Sim K F' H' σ ρ fps := by
  refine ⟨g.inn, S.ls, S.lf, fun i s d e1 e2 => ?_, S.nd, fun a ha => ?_⟩
  · obtain ⟨v, fp, h1, h2, h3⟩ := S.at_ i s d e1 e2
    exact ⟨v, fp, h1, h2, h3.grow g⟩
  · obtain ⟨h1, h2⟩ := S.zone a ha
    constructor
    · cases e : F' a with
      | none => rfl
      | some o =>
        rcases g.new a o e with q | q
        · rw [h1] at q; cases q
        · exact absurd q h2
    · intro e
      exact h2 (g.all.free e)
end
structure Evo (F H : Hp) (Z : List Addr) (F' H' : Hp) (Z' : List Addr) : Prop where
  fr : Same F F'
  keep : ∀ b o, H b = some o → b ∉ Z → H' b = some o
  dom : ∀ b, H' b = none → H b = none
  new : ∀ b o, F' b = some o → F b = some o ∨ H b = none ∨ b ∈ Z
  zone : ∀ b ∈ Z', b ∈ Z ∨ H b = none
section
variable {F H F' H' F1 H1 : Hp} {Z Z' Z1 : List Addr}
theorem Evo.refl : Evo F H Z F H Z := ⟨Same.refl _, fun _ _ e _ => e, fun _ e => e, fun _ _ e => .inl e, fun _ h => .inl h⟩
theorem Evo.trans (a : Evo F H Z F1 H1 Z1) (b : Evo F1 H1 Z1 F' H' Z') : Evo F H Z F' H' Z' := by
  refine ⟨a.fr.trans b.fr, fun c o e hc => ?_, fun c e => a.dom c (b.dom c e), fun c o e => ?_, fun c hc => ?_⟩
  · refine b.keep c o (a.keep c o e hc) fun hz => ?_
    rcases a.zone c hz with h | h
    · exact hc h
    · rw [h] at e; cases e
  · rcases b.new c o e with h | h | h
    · exact a.new c o h
    · exact .inr (.inl (a.dom c h))
    · rcases a.zone c h with h | h
      · exact .inr (.inr h)
      · exact .inr (.inl h)
  · rcases b.zone c hc with h | h
    · exact a.zone c h
    · exact .inr (a.dom c h)
theorem Grow.evo (g : Grow F H F' H') : Evo F H Z F' H' Z :=
  ⟨g.fr, fun b o e _ => g.all b o e, fun _ e => g.all.free e, fun b o e => (g.new b o e).elim .inl fun h => .inr (.inl h), fun _ h => .inl h⟩
end
end VL
end
section
namespace VL
open PySem L2
def R.holds {α : Type} (x : R α) (P : α → Prop) : Prop := match x with
  | .ok a => P a | _ => False
theorem R.holds_bind {α β : Type} {x : R α} {f : α → R β} {P : β → Prop} : (x.bind f).holds P ↔ x.holds fun a => (f a).holds P := by
  cases x <;> exact Iff.rfl
theorem R.holds_mono {α : Type} {x : R α} {P Q : α → Prop} (h : x.holds P) (k : ∀ a, P a → Q a) : x.holds Q := by
  cases x with
  | ok a => exact k a h
  | exc _ => exact h.elim
  | bad => exact h.elim
theorem R.holds_of {α : Type} {x : Option α} {P : α → Prop} (h : (R.of x).holds P) : ∃ a, x = some a ∧ P a := by
  cases x with
  | none => exact h.elim
  | some a => exact ⟨a, rfl, h⟩
def R.hx {α : Type} (x : R α) (P : α → Prop) (W : Str → Prop) : Prop := match x with
  | .ok a => P a | .exc c => W c | .bad => False
theorem R.hx_of {α : Type} {x : R α} {P : α → Prop} {W : Str → Prop} (h : x.holds P) : x.hx P W := by
  cases x with
  | ok a => exact h
  | exc _ => exact h.elim
  | bad => exact h.elim
abbrev SemE := Env → R (D × Bool)
abbrev SemT := Env → R Bool
abbrev SemA := Env → R (List (D × Bool))
def EPost (K : FG) (F H : Hp) (Q : VK) (x : D × Bool) : Prop :=
  ∀ v F' H' fp, Grow F H F' H' → Own K F' H' x.1 v fp → fp.Nodup → (x.2 = true → ∀ b ∈ fp, H b = none) → Q v H'
def TPost (F H : Hp) (Q : Bool → Hp → Prop) (x : Bool) : Prop := ∀ F' H', Grow F H F' H' → Q x H'
def Args (K : FG) (F H : Hp) : List (D × Bool) → List V → List Addr → Prop
  | [], vs, fa => vs = [] ∧ fa = []
  | x :: xs, vs, fa => ∃ v r fp f2, vs = v :: r ∧ Own K F H x.1 v fp ∧ fp.Nodup ∧ Args K F H xs r f2 ∧ ((x.2 = true ∧ fa = fp ++ f2) ∨ (x.2 = false ∧ fa = f2))
def APost (K : FG) (F H : Hp) (Q : List V → Hp → Prop) (xs : List (D × Bool)) : Prop :=
  ∀ vs F' H' fa, Grow F H F' H' → Args K F' H' xs vs fa → fa.Nodup → (∀ b ∈ fa, H b = none) → Q vs H'
def tv (K : FG) (f : SemE) : TE := fun σ H Q => ∃ ρ F fps, Sim K F H σ ρ fps ∧ (f ρ).holds (EPost K F H Q)
def tvT (K : FG) (f : SemT) : TT := fun σ H Q => ∃ ρ F fps, Sim K F H σ ρ fps ∧ (f ρ).holds (TPost F H Q)
def tvA (K : FG) (f : SemA) : TA := fun σ H Q => ∃ ρ F fps, Sim K F H σ ρ fps ∧ (f ρ).holds (APost K F H Q)
section
variable {K : FG} {F H F' H' : Hp} {σ : St} {Q : VK}
theorem EPost.lift {x : D × Bool} (g : Grow F H F' H') (h : EPost K F H Q x) : EPost K F' H' Q x := fun v F2 H2 fp g2 o n k =>
  h v F2 H2 fp (g.trans g2) o n fun e b hb => g.all.free (k e b hb)
theorem TPost.lift {Q : Bool → Hp → Prop} {x : Bool} (g : Grow F H F' H') (h : TPost F H Q x) : TPost F' H' Q x := fun F2 H2 g2 => h F2 H2 (g.trans g2)
def vVar (i : Nat) : SemE := fun ρ => match ρ[i]? with
  | some (.val d) => .ok (d, false) | some (.pin d) => .ok (d, false) | _ => .bad
theorem Sim.sub {ρ : Env} {fps : List (List Addr)} (S : Sim K F H σ ρ fps) {i : Nat} {fp : List Addr} (e : fps[i]? = some fp) : fp.Nodup := by
  have : fp ∈ fps := List.mem_of_getElem? e
  exact (List.sublist_flatten_of_mem this).nodup S.nd
theorem tv_var {i : Nat} (h : tv K (vVar i) σ H Q) : tVar i σ H Q := by
  obtain ⟨ρ, F, fps, S, h⟩ := h
  unfold vVar at h
  cases e : ρ[i]? with
  | none => rw [e] at h; exact h.elim
  | some s =>
    rw [e] at h
    cases s with
    | un => exact h.elim
    | val d =>
      obtain ⟨v, fp, h1, h2, h3⟩ := S.at_ i _ d e rfl
      exact ⟨v, h1, h v F H fp (Grow.refl S.same) h3 (S.sub h2) (fun z => by cases z)⟩
    | pin d =>
      obtain ⟨v, fp, h1, h2, h3⟩ := S.at_ i _ d e rfl
      exact ⟨v, h1, h v F H fp (Grow.refl S.same) h3 (S.sub h2) (fun z => by cases z)⟩
def vC (d : D) : SemE := fun _ => .ok (d, true)
def scalD : D → Option V
  | .non => some .non | .bl b => some (.bl b) | .int i => some (.int i) | .str x => some (.str x) | _ => none
theorem own_scal {d : D} {v : V} (e : scalD d = some v) : Own K F H d v [] := by
  cases d <;> simp [scalD] at e <;> subst e <;> unfold Own <;> exact ⟨rfl, rfl⟩
theorem of_scal {d : D} {v u : V} {fp : List Addr} (e : scalD d = some v) (o : Own K F H d u fp) : u = v ∧ fp = [] := by
  cases d <;> simp [scalD] at e <;> subst e <;> unfold Own at o <;> exact o
theorem EPost.scal {d : D} {v : V} {b : Bool} (hs : Same F H) (h : EPost K F H Q (d, b)) (e : scalD d = some v) : Q v H :=
  h v F H [] (Grow.refl hs) (own_scal e) List.nodup_nil fun _ _ hb => by cases hb
theorem EPost.scalG {F0 H0 : Hp} {d : D} {v : V} {b : Bool} (g : Grow F0 H0 F H) (h : EPost K F0 H0 Q (d, b)) (e : scalD d = some v) : Q v H :=
  h v F H [] g (own_scal e) List.nodup_nil fun _ _ hb => by cases hb
theorem tv_c {d : D} {v : V} (e : scalD d = some v) (h : tv K (vC d) σ H Q) : tC v σ H Q := by
  obtain ⟨ρ, F, fps, S, h⟩ := h
  exact EPost.scal S.same h e
def v2 (k : D × Bool → D × Bool → R (D × Bool)) (f h : SemE) : SemE := fun ρ => (f ρ).bind fun x => (h ρ).bind fun y => k x y
def Op2 (K : FG) (k : D × Bool → D × Bool → R (D × Bool)) (r : R2) : Prop :=
  ∀ (F0 H0 F H : Hp) (x y : D × Bool) (v u : V) (fx fy : List Addr) (Q : VK), Grow F0 H0 F H → Own K F H x.1 v fx → fx.Nodup → (x.2 = true → ∀ b ∈ fx, H0 b = none) →
    Own K F H y.1 u fy → fy.Nodup → (y.2 = true → ∀ b ∈ fy, H0 b = none) → (k x y).holds (EPost K F0 H0 Q) → r v u H Q
theorem tv_op {k : D × Bool → D × Bool → R (D × Bool)} {r : R2} (hr : Op2 K k r) {f g : SemE} (h : tv K (v2 k f g) σ H Q) : tOp r (tv K f) (tv K g) σ H Q := by
  obtain ⟨ρ, F, fps, S, h⟩ := h
  refine ⟨ρ, F, fps, S, R.holds_mono (R.holds_bind.mp h) fun x hx v F1 H1 fx g1 o1 n1 k1 => ?_⟩
  refine ⟨ρ, F1, fps, S.grow g1, R.holds_mono (R.holds_bind.mp hx) fun y hy u F2 H2 fy g2 o2 n2 k2 => ?_⟩
  exact hr F H F2 H2 x y v u fx fy Q (g1.trans g2) (o1.grow g2) n1 k1 o2 n2 (fun e b hb => g1.all.free (k2 e b hb)) hy
def v1 (k : D × Bool → R (D × Bool)) (f : SemE) : SemE := fun ρ => (f ρ).bind k
def Op1 (K : FG) (k : D × Bool → R (D × Bool)) (r : V → Hp → VK → Prop) : Prop :=
  ∀ (F0 H0 F H : Hp) (x : D × Bool) (v : V) (fx : List Addr) (Q : VK), Grow F0 H0 F H → Own K F H x.1 v fx → fx.Nodup → (x.2 = true → ∀ b ∈ fx, H0 b = none) →
    (k x).holds (EPost K F0 H0 Q) → r v H Q
theorem tv_un {k : D × Bool → R (D × Bool)} {r : V → Hp → VK → Prop} (hr : Op1 K k r) {f : SemE} (h : tv K (v1 k f) σ H Q) : tUn r (tv K f) σ H Q := by
  obtain ⟨ρ, F, fps, S, h⟩ := h
  exact ⟨ρ, F, fps, S, R.holds_mono (R.holds_bind.mp h) fun x hx v F1 H1 fx g1 o1 n1 k1 => hr F H F1 H1 x v fx Q g1 o1 n1 k1 hx⟩
def kI (g : Int → Int → D) : D × Bool → D × Bool → R (D × Bool) := fun x y => match x.1, y.1 with
  | .int i, .int j => .ok (g i j, true) | _, _ => .bad
def kIc (c : Int → Int → Bool) (g : Int → Int → D) : D × Bool → D × Bool → R (D × Bool) := fun x y => match x.1, y.1 with
  | .int i, .int j => if c i j = true then .ok (g i j, true) else .bad | _, _ => .bad
theorem op2_I {g : Int → Int → D} {g' : Int → Int → V} (e : ∀ i j, scalD (g i j) = some (g' i j)) : Op2 K (kI g) (rI0 g') := by
  intro F0 H0 F H x y v u fx fy Q gr o1 n1 k1 o2 n2 k2 h
  obtain ⟨x, bx⟩ := x
  obtain ⟨y, by'⟩ := y
  cases x <;> try exact h.elim
  cases y <;> try exact h.elim
  rename_i i j
  unfold Own at o1 o2
  exact ⟨i, j, o1.1, o2.1, EPost.scalG gr h (e i j)⟩
theorem op2_Ic {c : Int → Int → Bool} {C : Int → Int → Prop} {g : Int → Int → D} {g' : Int → Int → V} (e : ∀ i j, scalD (g i j) = some (g' i j)) (hc : ∀ i j, c i j = true → C i j) : Op2 K (kIc c g) (rI C g') := by
  intro F0 H0 F H x y v u fx fy Q gr o1 n1 k1 o2 n2 k2 h
  obtain ⟨x, bx⟩ := x
  obtain ⟨y, by'⟩ := y
  cases x <;> try exact h.elim
  cases y <;> try exact h.elim
  rename_i i j
  unfold Own at o1 o2
  have h : (if c i j = true then R.ok (g i j, true) else R.bad).holds (EPost K F0 H0 Q) := h
  by_cases hcc : c i j = true
  · rw [if_pos hcc] at h
    exact ⟨i, j, o1.1, o2.1, hc i j hcc, EPost.scalG gr h (e i j)⟩
  · rw [if_neg hcc] at h; exact h.elim
def kU (g : Int → D) : D × Bool → R (D × Bool) := fun x => match x.1 with
  | .int i => .ok (g i, true) | _ => .bad
theorem op1_U {g : Int → D} {g' : Int → V} (e : ∀ i, scalD (g i) = some (g' i)) : Op1 K (kU g) (rU g') := by
  intro F0 H0 F H x v fx Q gr o1 n1 k1 h
  obtain ⟨x, bx⟩ := x
  cases x <;> try exact h.elim
  rename_i i
  unfold Own at o1
  exact ⟨i, o1.1, EPost.scalG gr h (e i)⟩
theorem Own.lstR {o : Bool} {ds : List D} {v : V} {fp : List Addr} (g : Same F H) (h : Own K F H (.lst o ds) v fp) : ∃ a xs fq, v = .ref a ∧ Rd H a (.lst xs) ∧ Owns K F H ds xs fq ∧ fq.Sublist fp := by
  unfold Own at h
  obtain ⟨a, xs, fq, e1, r, h⟩ := h
  rcases h with ⟨o1, h1, h2, h3⟩ | ⟨o1, h1, h2, h3⟩
  · subst h3
    exact ⟨a, xs, fq, e1, .inl h2, r, List.sublist_cons_self _ _⟩
  · subst h2; subst h3
    exact ⟨a, xs, [], e1, Same.rd g h1, r, List.Sublist.refl _⟩
theorem Own.lst {o : Bool} {ds : List D} {v : V} {fp : List Addr} (g : Same F H) (h : Own K F H (.lst o ds) v fp) : ∃ a xs fq, v = .ref a ∧ SqL K H a xs ∧ Owns K F H ds xs fq ∧ fq.Sublist fp := by
  obtain ⟨a, xs, fq, e, q, r⟩ := Own.lstR g h
  exact ⟨a, xs, fq, e, .inl q, r⟩
theorem Own.tup {ds : List D} {v : V} {fp : List Addr} (g : Same F H) (h : Own K F H (.tup ds) v fp) : ∃ a xs, v = .ref a ∧ SqT K H a xs ∧ Owns K F H ds xs [] ∧ fp = [] := by
  unfold Own at h
  obtain ⟨e, a, xs, e1, q, r⟩ := h
  exact ⟨a, xs, e1, Same.seqT g q, r, e⟩
theorem Owns.atI {ds : List D} {vs : List V} {fp : List Addr} {i : Int} {d : D} (h : Owns K F H ds vs fp) (e : L2.atI ds i = some d) : ∃ v f, L2.atI vs i = some v ∧ Own K F H d v f ∧ f.Sublist fp := by
  unfold L2.atI at e ⊢
  rw [← Owns.length ds h]
  cases q : ixN ds.length i with
  | none => rw [q] at e; cases e
  | some j =>
    rw [q] at e
    exact Owns.get ds h e
def kIx : D × Bool → D × Bool → R (D × Bool) := fun x y => match x.1, y.1 with
  | .lst _ ds, .int i => R.of ((atI ds i).map (·, x.2)) | .tup ds, .int i => R.of ((atI ds i).map (·, x.2)) | _, _ => .bad
theorem op2_ix : Op2 K kIx (fun v u H Q => rIxL K v u H Q ∨ rIxT K v u H Q) := by
  intro F0 H0 F H x y v u fx fy Q gr o1 n1 k1 o2 n2 k2 h
  obtain ⟨x, bx⟩ := x
  obtain ⟨y, by'⟩ := y
  cases x <;> try exact h.elim
  · rename_i ds
    cases y <;> try exact h.elim
    rename_i i
    obtain ⟨a, xs, e1, q, r, e2⟩ := Own.tup gr.inn o1
    unfold Own at o2
    obtain ⟨z, ez, h⟩ := R.holds_of h
    cases ed : atI ds i with
    | none => rw [ed] at ez; cases ez
    | some d =>
      rw [ed] at ez; cases ez
      obtain ⟨w, f, q1, q2, q3⟩ := Owns.atI r ed
      have : f = [] := List.sublist_nil.mp q3
      subst this
      exact .inr ⟨a, xs, i, w, e1, o2.1, q, q1, h w F H [] gr q2 List.nodup_nil fun _ _ hb => by cases hb⟩
  · rename_i o ds
    cases y <;> try exact h.elim
    rename_i i
    obtain ⟨a, xs, fq, e1, q, r, e2⟩ := Own.lst gr.inn o1
    unfold Own at o2
    obtain ⟨z, ez, h⟩ := R.holds_of h
    cases ed : atI ds i with
    | none => rw [ed] at ez; cases ez
    | some d =>
      rw [ed] at ez; cases ez
      obtain ⟨w, f, q1, q2, q3⟩ := Owns.atI r ed
      have hs : f.Sublist fx := q3.trans e2
      exact .inl ⟨a, xs, i, w, e1, o2.1, q, q1, h w F H f gr q2 (hs.nodup n1) fun e b hb => k1 e b (hs.subset hb)⟩
def aNil : SemA := fun _ => .ok []
def aCons (f : SemE) (g : SemA) : SemA := fun ρ => (f ρ).bind fun x => (g ρ).bind fun xs => .ok (x :: xs)
theorem tvA_nil {Q : List V → Hp → Prop} (h : tvA K aNil σ H Q) : tNil σ H Q := by
  obtain ⟨ρ, F, fps, S, h⟩ := h
  exact h [] F H [] (Grow.refl S.same) (by unfold Args; exact ⟨rfl, rfl⟩) List.nodup_nil fun _ hb => by cases hb
theorem tvA_cons {f : SemE} {g : SemA} {Q : List V → Hp → Prop} (h : tvA K (aCons f g) σ H Q) : tCons (tv K f) (tvA K g) σ H Q := by
  obtain ⟨ρ, F, fps, S, h⟩ := h
  refine ⟨ρ, F, fps, S, R.holds_mono (R.holds_bind.mp h) fun x hx v F1 H1 fx g1 o1 n1 k1 => ?_⟩
  refine ⟨ρ, F1, fps, S.grow g1, R.holds_mono (R.holds_bind.mp hx) fun xs hy vs F2 H2 fa g2 o2 n2 k2 => ?_⟩
  have hy : APost K F H Q (x :: xs) := hy
  have zo := Own.zone x.1 o1
  cases e : x.2 with
  | true =>
    refine hy (v :: vs) F2 H2 (fx ++ fa) (g1.trans g2) ?_ ?_ ?_
    · unfold Args
      exact ⟨v, vs, fx, fa, rfl, o1.grow g2, n1, o2, .inl ⟨e, rfl⟩⟩
    · refine List.nodup_append.mpr ⟨n1, n2, fun a ha b hb z => ?_⟩
      subst z
      obtain ⟨_, ys, q⟩ := zo a ha
      rw [k2 a hb] at q; cases q
    · intro b hb
      rcases List.mem_append.mp hb with hb | hb
      · exact k1 e b hb
      · exact g1.all.free (k2 b hb)
  | false =>
    refine hy (v :: vs) F2 H2 fa (g1.trans g2) ?_ n2 fun b hb => g1.all.free (k2 b hb)
    unfold Args
    exact ⟨v, vs, fx, fa, rfl, o1.grow g2, n1, o2, .inr ⟨e, rfl⟩⟩
def keepable (x : D × Bool) : Bool := x.2 || x.1.calm
theorem Args.owns : ∀ (xs : List (D × Bool)) {vs : List V} {fa : List Addr}, xs.all keepable = true → Args K F H xs vs fa → Owns K F H (xs.map (·.1)) vs fa
  | [], _, _, _, h => by unfold Args at h; rw [h.1, h.2]; exact Owns.nil
  | x :: xs, vs, fa, hk, h => by
    unfold Args at h
    obtain ⟨v, r, fp, f2, e, o, n, t, w⟩ := h
    rw [List.all_cons, Bool.and_eq_true] at hk
    subst e
    rw [List.map_cons]
    rcases w with ⟨_, w⟩ | ⟨e, w⟩
    · subst w; exact Owns.cons o (Args.owns xs hk.2 t)
    · subst w
      have hc : x.1.calm = true := by have := hk.1; unfold keepable at this; rw [e] at this; exact this
      have : fp = [] := Own.fp_nil x.1 hc o
      subst this
      exact Owns.cons o (Args.owns xs hk.2 t)
theorem Args.length : ∀ (xs : List (D × Bool)) {vs : List V} {fa : List Addr}, Args K F H xs vs fa → xs.length = vs.length
  | [], _, _, h => by unfold Args at h; rw [h.1]; rfl
  | x :: xs, vs, fa, h => by
    unfold Args at h
    obtain ⟨v, r, fp, f2, e, o, n, t, w⟩ := h
    rw [e, List.length_cons, List.length_cons, Args.length xs t]
def vLst (g : SemA) : SemE := fun ρ => (g ρ).bind fun xs => if xs.all keepable && decide (xs.length ≤ 1000000) then .ok (.lst true (xs.map (·.1)), true) else .bad
def vTup (g : SemA) : SemE := fun ρ => (g ρ).bind fun xs => if xs.all keepable && decide (xs.length ≤ 1000000) then .ok (.tup (D.frzs (xs.map (·.1))), true) else .bad
theorem size_ok {n : Nat} (h : n ≤ 1000000) : n ≤ sizeLine := Nat.le_trans h (by decide)
theorem own_new {ds : List D} {xs : List V} {fa : List Addr} {p : Addr} (hs : Same F H) (h : H p = none) (o : Owns K F H ds xs fa) : Own K F (upd H p (.lst xs)) (.lst true ds) (.ref p) (p :: fa) := by
  unfold Own
  exact ⟨p, xs, fa, rfl, o.grow (Grow.one hs h), .inl ⟨rfl, hs.free h, upd_same, rfl⟩⟩
theorem new_nodup {ds : List D} {xs : List V} {fa : List Addr} {p : Addr} (h : H p = none) (o : Owns K F H ds xs fa) (n : fa.Nodup) : (p :: fa).Nodup := by
  refine List.nodup_cons.mpr ⟨fun hp => ?_, n⟩
  obtain ⟨_, ys, q⟩ := Owns.zone ds o p hp
  rw [h] at q; cases q
theorem tv_lst {g : SemA} (h : tv K (vLst g) σ H Q) : tLst (tvA K g) σ H Q := by
  obtain ⟨ρ, F, fps, S, h⟩ := h
  refine ⟨ρ, F, fps, S, R.holds_mono (R.holds_bind.mp h) fun xs hx vs F1 H1 fa g1 o1 n1 k1 => ?_⟩
  by_cases hc : (xs.all keepable && decide (xs.length ≤ 1000000)) = true
  · rw [if_pos hc] at hx
    rw [Bool.and_eq_true, decide_eq_true_iff] at hc
    have o2 := Args.owns xs hc.1 o1
    refine ⟨size_ok (by rw [← Args.length xs o1]; exact hc.2), fun p hp => ?_⟩
    refine hx (.ref p) F1 _ (p :: fa) (g1.trans (Grow.one g1.inn hp)) (own_new g1.inn hp o2) (new_nodup hp o2 n1) fun _ b hb => ?_
    rcases List.mem_cons.mp hb with rfl | hb
    · exact g1.all.free hp
    · exact k1 b hb
  · rw [if_neg hc] at hx; exact hx.elim
theorem Grow.frz {fa : List Addr} (g : Grow F H F' H') (k : ∀ b ∈ fa, H b = none) (z : ∀ b ∈ fa, F' b = none) : Grow F H (frzH F' H' fa) H' :=
  ⟨g.fr.trans (frzH_same z), g.all, frzH_in g.inn, fun b o e => by
    unfold frzH at e
    split at e
    · rename_i hb; exact .inr (k b hb)
    · exact g.new b o e⟩
theorem tv_tup {g : SemA} (h : tv K (vTup g) σ H Q) : tTup (tvA K g) σ H Q := by
  obtain ⟨ρ, F, fps, S, h⟩ := h
  refine ⟨ρ, F, fps, S, R.holds_mono (R.holds_bind.mp h) fun xs hx vs F1 H1 fa g1 o1 n1 k1 => ?_⟩
  by_cases hc : (xs.all keepable && decide (xs.length ≤ 1000000)) = true
  · rw [if_pos hc] at hx
    rw [Bool.and_eq_true, decide_eq_true_iff] at hc
    have o2 := Args.owns xs hc.1 o1
    have z : ∀ b ∈ fa, F1 b = none := fun b hb => (Owns.zone _ o2 b hb).1
    have g2 := g1.frz k1 z
    have o3 : Owns K (frzH F1 H1 fa) H1 (D.frzs (xs.map (·.1))) vs [] := Owns.freeze z _ (fun a ha => ha) o2
    refine ⟨size_ok (by rw [← Args.length xs o1]; exact hc.2), fun p hp => ?_⟩
    have g3 : Grow (frzH F1 H1 fa) H1 (upd (frzH F1 H1 fa) p (.tup vs)) (upd H1 p (.tup vs)) := Grow.both g2.inn hp
    refine hx (.ref p) _ _ [] (g2.trans g3) ?_ List.nodup_nil fun _ b hb => by cases hb
    unfold Own
    exact ⟨rfl, p, vs, rfl, SqT.of upd_same, o3.grow g3⟩
  · rw [if_neg hc] at hx; exact hx.elim
def tBool (f : SemE) : SemT := fun ρ => (f ρ).bind fun x => match x.1 with | .bl b => .ok b | _ => .bad
theorem tvT_test {f : SemE} {Q : Bool → Hp → Prop} (h : tvT K (tBool f) σ H Q) : tTest (tv K f) σ H Q := by
  obtain ⟨ρ, F, fps, S, h⟩ := h
  refine ⟨ρ, F, fps, S, R.holds_mono (R.holds_bind.mp h) fun x hx v F1 H1 fx g1 o1 n1 k1 => ?_⟩
  obtain ⟨x, b⟩ := x
  cases x <;> try exact hx.elim
  rename_i c
  unfold Own at o1
  exact ⟨c, o1.1, hx F1 H1 g1⟩
def tAndD (f g : SemT) : SemT := fun ρ => (f ρ).bind fun c => if c = true then g ρ else .ok false
def tOrD (f g : SemT) : SemT := fun ρ => (f ρ).bind fun c => if c = true then .ok true else g ρ
def tNotD (f : SemT) : SemT := fun ρ => (f ρ).bind fun c => .ok (!c)
theorem tvT_and {f g : SemT} {Q : Bool → Hp → Prop} (h : tvT K (tAndD f g) σ H Q) : tAnd (tvT K f) (tvT K g) σ H Q := by
  obtain ⟨ρ, F, fps, S, h⟩ := h
  refine ⟨ρ, F, fps, S, R.holds_mono (R.holds_bind.mp h) fun c hx F1 H1 g1 => ?_⟩
  cases c with
  | true => rw [if_pos rfl] at hx ⊢; exact ⟨ρ, F1, fps, S.grow g1, R.holds_mono hx fun b hb => hb.lift g1⟩
  | false => rw [if_neg Bool.false_ne_true] at hx ⊢; exact hx F1 H1 g1
theorem tvT_or {f g : SemT} {Q : Bool → Hp → Prop} (h : tvT K (tOrD f g) σ H Q) : tOr (tvT K f) (tvT K g) σ H Q := by
  obtain ⟨ρ, F, fps, S, h⟩ := h
  refine ⟨ρ, F, fps, S, R.holds_mono (R.holds_bind.mp h) fun c hx F1 H1 g1 => ?_⟩
  cases c with
  | false => rw [if_neg Bool.false_ne_true] at hx ⊢; exact ⟨ρ, F1, fps, S.grow g1, R.holds_mono hx fun b hb => hb.lift g1⟩
  | true => rw [if_pos rfl] at hx ⊢; exact hx F1 H1 g1
theorem tvT_not {f : SemT} {Q : Bool → Hp → Prop} (h : tvT K (tNotD f) σ H Q) : tNot (tvT K f) σ H Q := by
  obtain ⟨ρ, F, fps, S, h⟩ := h
  exact ⟨ρ, F, fps, S, R.holds_mono (R.holds_bind.mp h) fun c hx F1 H1 g1 => hx F1 H1 g1⟩
def vIf (c : SemT) (f g : SemE) : SemE := fun ρ => (c ρ).bind fun b => if b = true then f ρ else g ρ
theorem tv_if {c : SemT} {f g : SemE} (h : tv K (vIf c f g) σ H Q) : tIf (tvT K c) (tv K f) (tv K g) σ H Q := by
  obtain ⟨ρ, F, fps, S, h⟩ := h
  refine ⟨ρ, F, fps, S, R.holds_mono (R.holds_bind.mp h) fun c hx F1 H1 g1 => ?_⟩
  cases c with
  | true => rw [if_pos rfl] at hx ⊢; exact ⟨ρ, F1, fps, S.grow g1, R.holds_mono hx fun b hb => hb.lift g1⟩
  | false => rw [if_neg Bool.false_ne_true] at hx ⊢; exact ⟨ρ, F1, fps, S.grow g1, R.holds_mono hx fun b hb => hb.lift g1⟩
def vAnd (f g : SemE) : SemE := fun ρ => (f ρ).bind fun x => match x.1 with | .bl true => g ρ | .bl false => .ok (.bl false, true) | _ => .bad
def kNot : D × Bool → R (D × Bool) := fun x => match x.1 with | .bl b => .ok (.bl (!b), true) | _ => .bad
theorem tv_and {f g : SemE} (h : tv K (vAnd f g) σ H Q) : tAndV (tv K f) (tv K g) σ H Q := by
  obtain ⟨ρ, F, fps, S, h⟩ := h
  refine ⟨ρ, F, fps, S, R.holds_mono (R.holds_bind.mp h) fun x hx v F1 H1 fx g1 o1 n1 k1 => ?_⟩
  obtain ⟨x, b⟩ := x
  cases x <;> try exact hx.elim
  rename_i c
  unfold Own at o1
  refine ⟨c, o1.1, ?_⟩
  cases c with
  | true => rw [if_pos rfl]; exact ⟨ρ, F1, fps, S.grow g1, R.holds_mono hx fun b hb => hb.lift g1⟩
  | false => rw [if_neg Bool.false_ne_true]; exact EPost.scalG g1 hx rfl
theorem tv_not {f : SemE} (h : tv K (v1 kNot f) σ H Q) : tNotV (tv K f) σ H Q := by
  obtain ⟨ρ, F, fps, S, h⟩ := h
  refine ⟨ρ, F, fps, S, R.holds_mono (R.holds_bind.mp h) fun x hx v F1 H1 fx g1 o1 n1 k1 => ?_⟩
  obtain ⟨x, b⟩ := x
  cases x <;> try exact hx.elim
  rename_i c
  unfold Own at o1
  exact ⟨c, o1.1, EPost.scalG g1 hx rfl⟩
def vCB (k : List (D × Bool) → R (D × Bool)) (g : SemA) : SemE := fun ρ => (g ρ).bind k
def OpA (K : FG) (k : List (D × Bool) → R (D × Bool)) (r : List V → Hp → VK → Prop) : Prop :=
  ∀ (F0 H0 F H : Hp) (xs : List (D × Bool)) (vs : List V) (fa : List Addr) (Q : VK), Grow F0 H0 F H → Args K F H xs vs fa → fa.Nodup → (∀ b ∈ fa, H0 b = none) → (k xs).holds (EPost K F0 H0 Q) → r vs H Q
theorem tv_cb {k : List (D × Bool) → R (D × Bool)} {r : List V → Hp → VK → Prop} (hr : OpA K k r) {g : SemA} (h : tv K (vCB k g) σ H Q) : tCB r (tvA K g) σ H Q := by
  obtain ⟨ρ, F, fps, S, h⟩ := h
  exact ⟨ρ, F, fps, S, R.holds_mono (R.holds_bind.mp h) fun xs hx vs F1 H1 fa g1 o1 n1 k1 => hr F H F1 H1 xs vs fa Q g1 o1 n1 k1 hx⟩
end
end VL
end
section
namespace VL
open PySem L2
inductive Out where
  | next (ρ : Env) | ret (d : D) (ρ : Env) | brk (ρ : Env) | cont (ρ : Env) | exc (c : Str) (ρ : Env) | bad
abbrev SemS := Env → Out
abbrev SemX := Env → R (D × Bool × Env)
def PinE (ρ ρ' : Env) : Prop := ∀ (i : Nat) (d : D), ρ[i]? = some (.pin d) → ∃ d', ρ'[i]? = some (.pin d')
def Pins (ρ : Env) (σ : St) (ρ' : Env) (σ' : St) : Prop := ∀ (i : Nat) (d : D), ρ[i]? = some (.pin d) → (∃ d', ρ'[i]? = some (.pin d')) ∧ σ'[i]? = σ[i]?
theorem PinE.refl (ρ : Env) : PinE ρ ρ := fun _ d h => ⟨d, h⟩
theorem PinE.trans {ρ ρ1 ρ2 : Env} (a : PinE ρ ρ1) (b : PinE ρ1 ρ2) : PinE ρ ρ2 := fun i d h => by
  obtain ⟨d1, h1⟩ := a i d h
  exact b i d1 h1
theorem PinE.pins {ρ ρ' : Env} {σ : St} (a : PinE ρ ρ') : Pins ρ σ ρ' σ := fun i d h => ⟨a i d h, rfl⟩
theorem Pins.refl (ρ : Env) (σ : St) : Pins ρ σ ρ σ := (PinE.refl ρ).pins
theorem Pins.trans {ρ ρ1 ρ2 : Env} {σ σ1 σ2 : St} (a : Pins ρ σ ρ1 σ1) (b : Pins ρ1 σ1 ρ2 σ2) : Pins ρ σ ρ2 σ2 := fun i d h => by
  obtain ⟨⟨d1, h1⟩, e1⟩ := a i d h
  obtain ⟨h2, e2⟩ := b i d1 h1
  exact ⟨h2, e2.trans e1⟩
def NPost (K : FG) (F H : Hp) (Z : List Addr) (ρ : Env) (σ : St) (P : St → Hp → Prop) (ρ' : Env) : Prop :=
  ∀ σ' F' H' fps', Evo F H Z F' H' fps'.flatten → Sim K F' H' σ' ρ' fps' → Pins ρ σ ρ' σ' → P σ' H'
def RPost (K : FG) (F H : Hp) (Z : List Addr) (ρ : Env) (σ : St) (P : VK) (d : D) (ρ' : Env) : Prop :=
  ∀ r σ' F' H' fps' fr, Evo F H Z F' H' fps'.flatten → Sim K F' H' σ' ρ' fps' → Pins ρ σ ρ' σ' → Own K F' H' d r fr → fr.Nodup → (∀ b ∈ fr, b ∉ fps'.flatten ∧ (b ∈ Z ∨ H b = none)) → P r H'
abbrev XW := Str → St → Hp → Prop
def SPost (K : FG) (W : XW) (F H : Hp) (Z : List Addr) (ρ : Env) (σ : St) (D : Ends) : Out → Prop
  | .next ρ' => NPost K F H Z ρ σ D.nx ρ'
  | .ret d ρ' => RPost K F H Z ρ σ D.rt d ρ'
  | .brk ρ' => NPost K F H Z ρ σ D.bk ρ'
  | .cont ρ' => NPost K F H Z ρ σ D.ct ρ'
  | .exc c ρ' => NPost K F H Z ρ σ (W c) ρ'
  | .bad => False
def sv (K : FG) (W : XW) (g : SemS) : TS := fun D σ H => ∃ ρ F fps, Sim K F H σ ρ fps ∧ SPost K W F H fps.flatten ρ σ D (g ρ)
def XPost (K : FG) (F H : Hp) (Z : List Addr) (ρ : Env) (σ : St) (Q : VK) (x : D × Bool × Env) : Prop :=
  ∀ v F' H' fps' fp, Evo F H Z F' H' fps'.flatten → Sim K F' H' σ x.2.2 fps' → PinE ρ x.2.2 → Own K F' H' x.1 v fp → fp.Nodup → (x.2.1 = true → ∀ b ∈ fp, b ∉ fps'.flatten ∧ (b ∈ Z ∨ H b = none)) → Q v H'
def tx (K : FG) (W : XW) (g : SemX) : TE := fun σ H Q => ∃ ρ F fps, Sim K F H σ ρ fps ∧ (g ρ).hx (XPost K F H fps.flatten ρ σ Q) fun c => NPost K F H fps.flatten ρ σ (W c) ρ
section
variable {K : FG} {W : XW} {F H F' H' F1 H1 : Hp} {Z Z' Z1 : List Addr} {σ σ1 : St} {ρ ρ1 : Env} {D' : Ends}
theorem NPost.lift {P : St → Hp → Prop} {ρ' : Env} (e : Evo F H Z F1 H1 Z1) (p : Pins ρ σ ρ1 σ1) (h : NPost K F H Z ρ σ P ρ') : NPost K F1 H1 Z1 ρ1 σ1 P ρ' :=
  fun σ' F' H' fps' e' S' p' => h σ' F' H' fps' (e.trans e') S' (p.trans p')
theorem RPost.lift {P : VK} {d : D} {ρ' : Env} (e : Evo F H Z F1 H1 Z1) (p : Pins ρ σ ρ1 σ1) (h : RPost K F H Z ρ σ P d ρ') : RPost K F1 H1 Z1 ρ1 σ1 P d ρ' :=
  fun r σ' F' H' fps' fr e' S' p' o n k => h r σ' F' H' fps' fr (e.trans e') S' (p.trans p') o n fun b hb => ⟨(k b hb).1, by
    rcases (k b hb).2 with q | q
    · exact e.zone b q
    · exact .inr (e.dom b q)⟩
theorem SPost.lift {o : Out} (e : Evo F H Z F1 H1 Z1) (p : Pins ρ σ ρ1 σ1) (h : SPost K W F H Z ρ σ D' o) : SPost K W F1 H1 Z1 ρ1 σ1 D' o := by
  cases o with
  | next ρ' => exact NPost.lift e p h
  | ret d ρ' => exact RPost.lift e p h
  | brk ρ' => exact NPost.lift e p h
  | cont ρ' => exact NPost.lift e p h
  | exc c ρ' => exact NPost.lift e p h
  | bad => exact h
def sNext : SemS := fun ρ => .next ρ
def Out.andThen (o : Out) (g : SemS) : Out := match o with | .next ρ => g ρ | o => o
def sSeq (f g : SemS) : SemS := fun ρ => (f ρ).andThen g
theorem sv_next (h : sv K W sNext D' σ H) : tNext D' σ H := by
  obtain ⟨ρ, F, fps, S, h⟩ := h
  exact h σ F H fps .refl S (Pins.refl _ _)
theorem sv_seq {f g : SemS} (h : sv K W (sSeq f g) D' σ H) : tSeq (sv K W f) (sv K W g) D' σ H := by
  obtain ⟨ρ, F, fps, S, h⟩ := h
  refine ⟨ρ, F, fps, S, ?_⟩
  unfold sSeq at h
  cases e : f ρ with
  | next ρ1 =>
    rw [e] at h
    have h : SPost K W F H fps.flatten ρ σ D' (g ρ1) := h
    exact fun σ1 F1 H1 fps1 e1 S1 p1 => ⟨ρ1, F1, fps1, S1, SPost.lift e1 p1 h⟩
  | ret d ρ' => rw [e] at h; exact h
  | brk ρ' => rw [e] at h; exact h
  | cont ρ' => rw [e] at h; exact h
  | exc _ _ => rw [e] at h; exact h
  | bad => rw [e] at h; exact h
def sIf (c : SemT) (f g : SemS) : SemS := fun ρ => match c ρ with
  | .ok true => f ρ | .ok false => g ρ | .exc _ => .bad | .bad => .bad
theorem sv_if {c : SemT} {f g : SemS} (h : sv K W (sIf c f g) D' σ H) : tIfS (tvT K c) (sv K W f) (sv K W g) D' σ H := by
  obtain ⟨ρ, F, fps, S, h⟩ := h
  refine ⟨ρ, F, fps, S, ?_⟩
  unfold sIf at h
  cases e : c ρ with
  | ok b =>
    rw [e] at h
    intro F1 H1 g1
    cases b with
    | true => rw [if_pos rfl]; exact ⟨ρ, F1, fps, S.grow g1, SPost.lift g1.evo (Pins.refl _ _) h⟩
    | false => rw [if_neg Bool.false_ne_true]; exact ⟨ρ, F1, fps, S.grow g1, SPost.lift g1.evo (Pins.refl _ _) h⟩
  | exc _ => rw [e] at h; exact h.elim
  | bad => rw [e] at h; exact h.elim
def xOf (f : SemE) : SemX := fun ρ => match f ρ with | .ok x => .ok (x.1, x.2, ρ) | _ => .bad
theorem tx_of {f : SemE} {Q : VK} (h : tx K W (xOf f) σ H Q) : tv K f σ H Q := by
  obtain ⟨ρ, F, fps, S, h⟩ := h
  refine ⟨ρ, F, fps, S, ?_⟩
  unfold xOf at h
  cases ef : f ρ with
  | exc _ => rw [ef] at h; exact h.elim
  | bad => rw [ef] at h; exact h.elim
  | ok x =>
    rw [ef] at h
    have hx : XPost K F H fps.flatten ρ σ Q (x.1, x.2, ρ) := h
    intro v F1 H1 fx g1 o1 n1 k1
    refine hx v F1 H1 fps fx g1.evo (S.grow g1) (PinE.refl _) o1 n1 fun e b hb => ⟨fun hz => ?_, .inr (k1 e b hb)⟩
    exact (S.zone b hz).2 (k1 e b hb)
def sDrop (g : SemX) : SemS := fun ρ => match g ρ with | .ok (_, _, ρ') => .next ρ' | .exc c => .exc c ρ | .bad => .bad
theorem sv_drop {g : SemX} (h : sv K W (sDrop g) D' σ H) : tDrop (tx K W g) D' σ H := by
  obtain ⟨ρ, F, fps, S, h⟩ := h
  refine ⟨ρ, F, fps, S, ?_⟩
  unfold sDrop at h
  cases e : g ρ with
  | ok x =>
    rw [e] at h
    exact fun v F1 H1 fps1 fp e1 S1 p1 o1 n1 k1 => h σ F1 H1 fps1 e1 S1 p1.pins
  | exc c => rw [e] at h; exact h
  | bad => rw [e] at h; exact h.elim
def sRet (g : SemX) : SemS := fun ρ => match g ρ with
  | .ok (d, fr, ρ') => if fr || d.calm then .ret d ρ' else .bad
  | .exc c => .exc c ρ | .bad => .bad
theorem sv_ret {g : SemX} (h : sv K W (sRet g) D' σ H) : tRet (tx K W g) D' σ H := by
  obtain ⟨ρ, F, fps, S, h⟩ := h
  refine ⟨ρ, F, fps, S, ?_⟩
  unfold sRet at h
  cases e : g ρ with
  | ok x =>
    obtain ⟨d, fr, ρ'⟩ := x
    rw [e] at h
    intro v F1 H1 fps1 fp e1 S1 p1 o1 n1 k1
    have h : SPost K W F H fps.flatten ρ σ D' (if (fr || d.calm) = true then .ret d ρ' else .bad) := h
    by_cases hc : (fr || d.calm) = true
    · rw [if_pos hc] at h
      refine h v σ F1 H1 fps1 fp e1 S1 p1.pins o1 n1 fun b hb => ?_
      cases ef : fr with
      | true => exact k1 ef b hb
      | false =>
        rw [ef, Bool.false_or] at hc
        rw [Own.fp_nil d hc o1] at hb; cases hb
    · rw [if_neg hc] at h; exact h.elim
  | exc c => rw [e] at h; exact h
  | bad => rw [e] at h; exact h.elim
theorem flatten_set_nodup {fps : List (List Addr)} {i : Nat} {fp : List Addr} (n : fps.flatten.Nodup) (nf : fp.Nodup) (dj : ∀ b ∈ fp, b ∉ fps.flatten) : (fps.set i fp).flatten.Nodup := by
  induction fps generalizing i with
  | nil => simp
  | cons f r ih =>
    rw [List.flatten_cons] at n dj
    obtain ⟨n1, n2, n3⟩ := List.nodup_append.mp n
    cases i with
    | zero =>
      rw [List.set_cons_zero, List.flatten_cons]
      exact List.nodup_append.mpr ⟨nf, n2, fun a ha b hb z => dj a ha (List.mem_append_right _ (z ▸ hb))⟩
    | succ i =>
      rw [List.set_cons_succ, List.flatten_cons]
      refine List.nodup_append.mpr ⟨n1, ih n2 fun b hb hr => dj b hb (List.mem_append_right _ hr), fun a ha b hb z => ?_⟩
      subst z
      obtain ⟨l, hl, hal⟩ := List.mem_flatten.mp hb
      rcases List.mem_or_eq_of_mem_set hl with hl | rfl
      · exact n3 a ha a (List.mem_flatten.mpr ⟨l, hl, hal⟩) rfl
      · exact dj a hal (List.mem_append_left _ ha)
theorem mem_flatten_set {fps : List (List Addr)} {i : Nat} {fp : List Addr} {b : Addr} (h : b ∈ (fps.set i fp).flatten) : b ∈ fps.flatten ∨ b ∈ fp := by
  obtain ⟨l, hl, hb⟩ := List.mem_flatten.mp h
  rcases List.mem_or_eq_of_mem_set hl with hl | rfl
  · exact .inl (List.mem_flatten.mpr ⟨l, hl, hb⟩)
  · exact .inr hb
theorem Sim.store {fps : List (List Addr)} {i : Nat} {d : D} {v : V} {fp : List Addr} (S : Sim K F H σ ρ fps) (o : Own K F H d v fp) (n : fp.Nodup) (dj : ∀ b ∈ fp, b ∉ fps.flatten) : Sim K F H (σ.set i (some v)) (ρ.set i (.val d)) (fps.set i fp) := by
  refine ⟨S.same, by simp [S.ls], by simp [S.lf], fun j s c e1 e2 => ?_, flatten_set_nodup S.nd n dj, fun a ha => ?_⟩
  · by_cases hj : i = j
    · subst hj
      have hi : i < ρ.length := by
        rcases Nat.lt_or_ge i ρ.length with h | h
        · exact h
        · rw [List.getElem?_eq_none_iff.mpr (by simpa using h)] at e1; cases e1
      rw [List.getElem?_set_self (by exact hi)] at e1
      cases e1; cases e2
      refine ⟨v, fp, List.getElem?_set_self (by rw [S.ls]; exact hi), List.getElem?_set_self (by rw [S.lf]; exact hi), o⟩
    · rw [List.getElem?_set_ne hj] at e1
      obtain ⟨w, f, h1, h2, h3⟩ := S.at_ j s c e1 e2
      exact ⟨w, f, by rw [List.getElem?_set_ne hj]; exact h1, by rw [List.getElem?_set_ne hj]; exact h2, h3⟩
  · rcases mem_flatten_set ha with h | h
    · exact S.zone a h
    · obtain ⟨h1, xs, h2⟩ := Own.zone d o a h
      exact ⟨h1, by rw [h2]; simp⟩
def free (ρ : Env) (i : Nat) : Bool := match ρ[i]? with | some (.pin _) => false | some _ => true | none => false
theorem pins_set {i : Nat} {d : D} {x : Option V} (h : free ρ i = true) : Pins ρ σ (ρ.set i (.val d)) (σ.set i x) := fun j c e => by
  have hj : i ≠ j := by
    rintro rfl
    unfold free at h
    rw [e] at h; cases h
  exact ⟨⟨c, by rw [List.getElem?_set_ne hj]; exact e⟩, by rw [List.getElem?_set_ne hj]⟩
def bindD (i : Nat) (d : D) (ρ : Env) : Option Env := if free ρ i then some (ρ.set i (.val d)) else none
def sSet (i : Nat) (g : SemX) : SemS := fun ρ => match g ρ with
  | .ok (d, fr, ρ') => if (fr || d.calm) && free ρ' i then .next (ρ'.set i (.val d)) else .bad
  | .exc c => .exc c ρ | .bad => .bad
theorem evo_set {fps1 : List (List Addr)} {i : Nat} {fp : List Addr} (e : Evo F H Z F' H' fps1.flatten) (k : ∀ b ∈ fp, b ∈ Z ∨ H b = none) : Evo F H Z F' H' (fps1.set i fp).flatten :=
  ⟨e.fr, e.keep, e.dom, e.new, fun b hb => (mem_flatten_set hb).elim (e.zone b) (k b)⟩
theorem sv_set {i : Nat} {g : SemX} (h : sv K W (sSet i g) D' σ H) : tAsg (tx K W g) (gName i) D' σ H := by
  obtain ⟨ρ, F, fps, S, h⟩ := h
  refine ⟨ρ, F, fps, S, ?_⟩
  unfold sSet at h
  cases e : g ρ with
  | ok x =>
    obtain ⟨d, fr, ρ'⟩ := x
    rw [e] at h
    intro v F1 H1 fps1 fp e1 S1 p1 o1 n1 k1
    have h : SPost K W F H fps.flatten ρ σ D' (if ((fr || d.calm) && free ρ' i) = true then .next (ρ'.set i (.val d)) else .bad) := h
    by_cases hc : ((fr || d.calm) && free ρ' i) = true
    · rw [if_pos hc] at h
      rw [Bool.and_eq_true] at hc
      have k2 : ∀ b ∈ fp, b ∉ fps1.flatten ∧ (b ∈ fps.flatten ∨ H b = none) := fun b hb => by
        cases ef : fr with
        | true => exact k1 ef b hb
        | false =>
          have := hc.1
          rw [ef, Bool.false_or] at this
          rw [Own.fp_nil d this o1] at hb; cases hb
      exact h _ F1 H1 _ (evo_set e1 fun b hb => (k2 b hb).2) (S1.store o1 n1 fun b hb => (k2 b hb).1) (p1.pins.trans (pins_set hc.2))
    · rw [if_neg hc] at h; exact h.elim
  | exc c => rw [e] at h; exact h
  | bad => rw [e] at h; exact h.elim
def bindDs : List Nat → List D → Env → Option Env
  | [], [], ρ => some ρ
  | i :: is, d :: ds, ρ => if d.calm then (bindD i d ρ).bind (bindDs is ds) else none
  | _, _, _ => none
def gNames : List Nat → TGs
  | [] => gNil
  | i :: is => gCons (gName i) (gNames is)
theorem bind_names : ∀ (is : List Nat) {ds : List D} {vs : List V} {ρ ρ' : Env} {σ : St} {fps : List (List Addr)} {P : St → Hp → Prop}, bindDs is ds ρ = some ρ' → Sim K F H σ ρ fps → Owns K F H ds vs [] →
    (∀ σ' fps', Sim K F H σ' ρ' fps' → Pins ρ σ ρ' σ' → (∀ b ∈ fps'.flatten, b ∈ fps.flatten) → P σ' H) → gNames is vs σ H P
  | [], [], vs, ρ, ρ', σ, fps, P, e, S, o, h => by
    unfold bindDs at e; cases e
    unfold Owns at o
    exact ⟨o.1, h σ fps S (Pins.refl _ _) fun _ hb => hb⟩
  | i :: is, d :: ds, vs, ρ, ρ', σ, fps, P, e, S, o, h => by
    unfold bindDs at e
    by_cases hc : d.calm = true
    · rw [if_pos hc] at e
      unfold bindD at e
      by_cases hf : free ρ i = true
      · rw [if_pos hf] at e
        have e : bindDs is ds (ρ.set i (.val d)) = some ρ' := e
        unfold Owns at o
        obtain ⟨v, r, f1, f2, e1, o1, o2, e2⟩ := o
        have ef := List.append_eq_nil_iff.mp e2.symm
        rw [ef.1] at o1; rw [ef.2] at o2
        refine ⟨v, r, e1, ?_⟩
        refine bind_names is e (S.store (i := i) o1 List.nodup_nil fun b hb => by cases hb) o2 fun σ' fps' S' p' k' => ?_
        refine h σ' fps' S' ((pins_set hf).trans p') fun b hb => ?_
        rcases mem_flatten_set (k' b hb) with q | q
        · exact q
        · cases q
      · rw [if_neg hf] at e; cases e
    · rw [if_neg hc] at e; cases e
  | [], d :: ds, vs, ρ, ρ', σ, fps, P, e, S, o, h => by unfold bindDs at e; cases e
  | i :: is, [], vs, ρ, ρ', σ, fps, P, e, S, o, h => by unfold bindDs at e; cases e
def sUnpack (is : List Nat) (g : SemX) : SemS := fun ρ => match g ρ with
  | .ok (.tup ds, _, ρ') => (match bindDs is ds ρ' with | some ρ2 => .next ρ2 | none => .bad)
  | .ok _ => .bad | .exc c => .exc c ρ | .bad => .bad
theorem bindDs_len : ∀ (is : List Nat) {ds : List D} {ρ ρ' : Env}, bindDs is ds ρ = some ρ' → ds.length = is.length
  | [], [], _, _, _ => rfl
  | i :: is, d :: ds, ρ, ρ', e => by
    unfold bindDs at e
    by_cases hc : d.calm = true
    · rw [if_pos hc] at e
      cases q : bindD i d ρ with
      | none => rw [q] at e; cases e
      | some ρ1 =>
        rw [q] at e
        rw [List.length_cons, List.length_cons, bindDs_len is (show bindDs is ds ρ1 = some ρ' from e)]
    · rw [if_neg hc] at e; cases e
  | [], _ :: _, _, _, e => by unfold bindDs at e; cases e
  | _ :: _, [], _, _, e => by unfold bindDs at e; cases e
theorem sv_unpack {is : List Nat} {g : SemX} {n : Nat} (hn : is.length = n) (h : sv K W (sUnpack is g) D' σ H) : tAsg (tx K W g) (gTup K n (gNames is)) D' σ H := by
  obtain ⟨ρ, F, fps, S, h⟩ := h
  refine ⟨ρ, F, fps, S, ?_⟩
  unfold sUnpack at h
  cases e : g ρ with
  | ok x =>
    obtain ⟨d, fr, ρ'⟩ := x
    rw [e] at h
    intro v F1 H1 fps1 fp e1 S1 p1 o1 n1 k1
    cases d <;> try exact h.elim
    rename_i ds
    obtain ⟨a, xs, ev, q, o2, e2⟩ := Own.tup S1.same o1
    have h : SPost K W F H fps.flatten ρ σ D' (match bindDs is ds ρ' with | some ρ2 => .next ρ2 | none => .bad) := h
    cases eb : bindDs is ds ρ' with
    | none => rw [eb] at h; exact h.elim
    | some ρ2 =>
      rw [eb] at h
      refine ⟨a, xs, ev, q, ?_, ?_⟩
      · rw [← Owns.length ds o2, bindDs_len is eb, hn]
      · refine bind_names is eb S1 o2 fun σ' fps' S' p' k' => ?_
        exact h σ' F1 H1 fps' ⟨e1.fr, e1.keep, e1.dom, e1.new, fun b hb => e1.zone b (k' b hb)⟩ S' (p1.pins.trans p')
  | exc c => rw [e] at h; exact h
  | bad => rw [e] at h; exact h.elim
def loopOut (o : Out) (again : Env → Out) : Out := match o with
  | .next ρ => again ρ | .cont ρ => again ρ | .brk ρ => .next ρ | o => o
def whileN (c : SemT) (b : SemS) : Nat → SemS
  | 0, _ => .bad
  | n + 1, ρ => match c ρ with
    | .ok true => loopOut (b ρ) (whileN c b n)
    | .ok false => .next ρ
    | .exc _ => .bad | .bad => .bad
theorem sv_while {n : Nat} {c : SemT} {b : SemS} (h : sv K W (whileN c b n) D' σ H) : tWhile (tvT K c) (sv K W b) D' σ H := by
  refine ⟨fun m σ H => sv K W (whileN c b m) D' σ H, ⟨n, h⟩, ?_⟩
  rintro m σ H ⟨ρ, F, fps, S, h⟩
  refine ⟨ρ, F, fps, S, ?_⟩
  cases m with
  | zero => exact h.elim
  | succ m =>
    unfold whileN at h
    cases e : c ρ with
    | exc _ => rw [e] at h; exact h.elim
    | bad => rw [e] at h; exact h.elim
    | ok k =>
      rw [e] at h
      intro F1 H1 g1
      cases k with
      | false =>
        rw [if_neg Bool.false_ne_true]
        exact h σ F1 H1 fps g1.evo (S.grow g1) (Pins.refl _ _)
      | true =>
        rw [if_pos rfl]
        refine ⟨fun σ' H' => sv K W (whileN c b m) D' σ' H', fun σ' H' q => ⟨m, Nat.lt_succ_self m, q⟩, ρ, F1, fps, S.grow g1, ?_⟩
        have h : SPost K W F H fps.flatten ρ σ D' (loopOut (b ρ) (whileN c b m)) := h
        have h := SPost.lift (g1.evo (Z := fps.flatten)) (Pins.refl ρ σ) h
        cases eb : b ρ with
        | next ρ' =>
          rw [eb] at h
          exact fun σ' F' H' fps' e' S' p' => ⟨ρ', F', fps', S', SPost.lift e' p' h⟩
        | cont ρ' =>
          rw [eb] at h
          exact fun σ' F' H' fps' e' S' p' => ⟨ρ', F', fps', S', SPost.lift e' p' h⟩
        | brk ρ' => rw [eb] at h; exact h
        | ret d ρ' => rw [eb] at h; exact h
        | exc _ _ => rw [eb] at h; exact h
        | bad => rw [eb] at h; exact h
abbrev SemI := Env → R (List D)
def IterOf (K : FG) (F : Hp) (ds : List D) (J : It) : Prop :=
  (∀ i H', Same F H' → ds.length ≤ i → J.stop i H') ∧
  ∀ i d, ds[i]? = some d → ∀ F' H', Same F F' → Same F' H' → J.go i H' ∧ ∀ x H2, J.yld i H' x H2 → ∃ F2, Grow F' H' F2 H2 ∧ Own K F2 H2 d x []
def IPost (K : FG) (F H : Hp) (R' : It → Hp → Prop) (ds : List D) : Prop := ∀ J F' H', Grow F H F' H' → IterOf K F' ds J → R' J H'
def iv (K : FG) (f : SemI) : TI := fun σ H R' => ∃ ρ F fps, Sim K F H σ ρ fps ∧ (f ρ).holds (IPost K F H R')
def forL (set : D → Env → Option Env) (b : SemS) : List D → SemS
  | [], ρ => .next ρ
  | d :: ds, ρ => match set d ρ with
    | none => .bad
    | some ρ1 => loopOut (b ρ1) (forL set b ds)
def Tgt (K : FG) (set : D → Env → Option Env) (g : TG) : Prop :=
  ∀ (F H : Hp) (d : D) (v : V) (ρ ρ' : Env) (σ : St) (fps : List (List Addr)) (P : St → Hp → Prop), Sim K F H σ ρ fps → Own K F H d v [] → set d ρ = some ρ' →
    (∀ σ' fps', Sim K F H σ' ρ' fps' → Pins ρ σ ρ' σ' → (∀ b ∈ fps'.flatten, b ∈ fps.flatten) → P σ' H) → g v σ H P
theorem tgt_name {i : Nat} : Tgt K (bindD i) (gName i) := by
  intro F H d v ρ ρ' σ fps P S o e h
  unfold bindD at e
  by_cases hf : free ρ i = true
  · rw [if_pos hf] at e; cases e
    refine h _ _ (S.store o List.nodup_nil fun b hb => by cases hb) (pins_set hf) fun b hb => ?_
    rcases mem_flatten_set hb with q | q
    · exact q
    · cases q
  · rw [if_neg hf] at e; cases e
def bindT (is : List Nat) : D → Env → Option Env := fun d ρ => match d with | .tup ds => bindDs is ds ρ | _ => none
theorem tgt_tup {is : List Nat} {n : Nat} (hn : is.length = n) : Tgt K (bindT is) (gTup K n (gNames is)) := by
  intro F H d v ρ ρ' σ fps P S o e h
  unfold bindT at e
  cases d <;> try cases e
  rename_i ds
  obtain ⟨a, xs, ev, q, o2, e2⟩ := Own.tup S.same o
  refine ⟨a, xs, ev, q, ?_, bind_names is e S o2 h⟩
  rw [← Owns.length ds o2, bindDs_len is e, hn]
def sFor (f : SemI) (set : D → Env → Option Env) (b : SemS) : SemS := fun ρ => match f ρ with
  | .ok ds => forL set b ds ρ | .exc _ => .bad | .bad => .bad
theorem sv_for {f : SemI} {set : D → Env → Option Env} {g : TG} {b : SemS} (ht : Tgt K set g) (h : sv K W (sFor f set b) D' σ H) : tFor (iv K f) g (sv K W b) D' σ H := by
  obtain ⟨ρ, F, fps, S, h⟩ := h
  refine ⟨ρ, F, fps, S, ?_⟩
  unfold sFor at h
  cases e : f ρ with
  | exc _ => rw [e] at h; exact h.elim
  | bad => rw [e] at h; exact h.elim
  | ok ds =>
    rw [e] at h
    intro J F0 H0 g0 hJ
    have h := SPost.lift (g0.evo (Z := fps.flatten)) (Pins.refl ρ σ) h
    refine ⟨fun i m σ' H' => i ≤ ds.length ∧ m = ds.length - i ∧ ∃ ρ' F' fps', Same F0 F' ∧ Sim K F' H' σ' ρ' fps' ∧ SPost K W F' H' fps'.flatten ρ' σ' D' (forL set b (ds.drop i) ρ'),
      ⟨ds.length, Nat.zero_le _, rfl, ρ, F0, fps, Same.refl _, S.grow g0, h⟩, ?_⟩
    rintro i m σ1 H1 ⟨hi, rfl, ρ1, F1, fps1, s1, S1, h1⟩
    by_cases hlt : i < ds.length
    · refine .inr ?_
      obtain ⟨d, hd⟩ : ∃ d, ds[i]? = some d := ⟨ds[i], by simp [hlt]⟩
      have hdrop : ds.drop i = d :: ds.drop (i + 1) := by
        rw [List.drop_eq_getElem_cons hlt]
        congr 1
        rw [List.getElem?_eq_getElem hlt] at hd; exact Option.some.inj hd
      rw [hdrop] at h1
      obtain ⟨go, yl⟩ := hJ.2 i d hd F1 H1 s1 S1.same
      refine ⟨go, fun σ' H' => ∃ ρ' F' fps', Same F0 F' ∧ Sim K F' H' σ' ρ' fps' ∧ SPost K W F' H' fps'.flatten ρ' σ' D' (forL set b (ds.drop (i + 1)) ρ'), fun σ' H' q => ⟨ds.length - (i + 1), by omega, by omega, rfl, q⟩, fun x H2 hy => ?_⟩
      obtain ⟨F2, g2, o2⟩ := yl x H2 hy
      have h1 : SPost K W F1 H1 fps1.flatten ρ1 σ1 D' (match set d ρ1 with | none => .bad | some ρ2 => loopOut (b ρ2) (forL set b (ds.drop (i + 1)))) := h1
      have h1 := SPost.lift (g2.evo (Z := fps1.flatten)) (Pins.refl ρ1 σ1) h1
      cases es : set d ρ1 with
      | none => rw [es] at h1; exact h1.elim
      | some ρ2 =>
        rw [es] at h1
        refine ht F2 H2 d x ρ1 ρ2 σ1 fps1 _ (S1.grow g2) o2 es fun σ2 fps2 S2 p2 k2 => ?_
        have ev2 : Evo F2 H2 fps1.flatten F2 H2 fps2.flatten := ⟨Same.refl _, fun _ _ e _ => e, fun _ e => e, fun _ _ e => .inl e, fun b hb => .inl (k2 b hb)⟩
        have h2 : SPost K W F2 H2 fps2.flatten ρ2 σ2 D' (loopOut (b ρ2) (forL set b (ds.drop (i + 1)))) := SPost.lift ev2 p2 h1
        refine ⟨ρ2, F2, fps2, S2, ?_⟩
        have s2 : Same F0 F2 := s1.trans g2.fr
        cases eb : b ρ2 with
        | next ρ3 =>
          rw [eb] at h2
          exact fun σ' F' H' fps' e' S' p' => ⟨ρ3, F', fps', s2.trans e'.fr, S', SPost.lift e' p' h2⟩
        | cont ρ3 =>
          rw [eb] at h2
          exact fun σ' F' H' fps' e' S' p' => ⟨ρ3, F', fps', s2.trans e'.fr, S', SPost.lift e' p' h2⟩
        | brk ρ3 => rw [eb] at h2; exact h2
        | ret d ρ3 => rw [eb] at h2; exact h2
        | exc _ _ => rw [eb] at h2; exact h2
        | bad => rw [eb] at h2; exact h2
    · refine .inl ⟨hJ.1 i H1 (s1.trans S1.same) (by omega), ?_⟩
      rw [List.drop_eq_nil_of_le (by omega)] at h1
      exact h1 σ1 F1 H1 fps1 .refl S1 (Pins.refl _ _)
def iSeqT (f : SemE) : SemI := fun ρ => (f ρ).bind fun x => match x.1 with
  | .tup ds => .ok ds | _ => .bad
theorem iv_tup {f : SemE} {R' : It → Hp → Prop} (h : iv K (iSeqT f) σ H R') : iTup K (tv K f) σ H R' := by
  obtain ⟨ρ, F, fps, S, h⟩ := h
  refine ⟨ρ, F, fps, S, R.holds_mono (R.holds_bind.mp h) fun x hx v F1 H1 fx g1 o1 n1 k1 => ?_⟩
  obtain ⟨x, b⟩ := x
  cases x <;> try exact hx.elim
  rename_i ds
  unfold Own at o1
  obtain ⟨_, a, xs, ev, q, r⟩ := o1
  refine ⟨a, ev, ⟨xs, Same.seqT g1.inn q⟩, hx _ F1 H1 g1 ⟨fun i H' hs hl => ?_, fun i d hd F' H' s1 s2 => ?_⟩⟩
  · exact ⟨xs, Same.seqT hs q, by rw [← Owns.length ds r]; exact hl⟩
  · obtain ⟨u, f, q1, q2, q3⟩ := Owns.get ds r hd
    refine ⟨⟨xs, u, Same.seqT (s1.trans s2) q, q1⟩, fun y H2 hy => ?_⟩
    obtain ⟨e, hy⟩ := hy
    subst e
    have ey := hy xs (Same.seqT (s1.trans s2) q)
    rw [q1] at ey; cases ey
    have : f = [] := List.sublist_nil.mp q3
    subst this
    exact ⟨F', Grow.refl s2, Own.keep s1 d (fun a ha => by cases ha) q2⟩
def rangeD (lo : Int) (n : Nat) : List D := (List.range n).map fun (i : Nat) => D.int (lo + (i : Int))
def small62 (i : Int) : Bool := decide (-(2 ^ 62) ≤ i) && decide (i < 2 ^ 62)
def iR1 (g : SemA) : SemI := fun ρ => (g ρ).bind fun xs => match xs with
  | [(.int j, _)] => if small62 j then .ok (rangeD 0 j.toNat) else .bad | _ => .bad
theorem iter_range {lo : Int} {n : Nat} : IterOf K F (rangeD lo n) (Itr lo n) := by
  refine ⟨fun i H' _ hl => ?_, fun i d hd F' H' s1 s2 => ?_⟩
  · unfold rangeD at hl
    show n ≤ i
    simpa using hl
  · unfold rangeD at hd
    rw [List.getElem?_map] at hd
    have hi : i < n := by
      rcases Nat.lt_or_ge i n with h | h
      · exact h
      · rw [List.getElem?_eq_none_iff.mpr (by simpa using h)] at hd; cases hd
    rw [List.getElem?_range hi] at hd
    cases hd
    refine ⟨hi, fun y H2 hy => ?_⟩
    obtain ⟨e1, e2⟩ := hy
    subst e1; subst e2
    exact ⟨F', Grow.refl s2, own_scal rfl⟩
theorem iv_range1 {g : SemA} {R' : It → Hp → Prop} (h : iv K (iR1 g) σ H R') : iRng1 (tvA K g) σ H R' := by
  obtain ⟨ρ, F, fps, S, h⟩ := h
  refine ⟨ρ, F, fps, S, R.holds_mono (R.holds_bind.mp h) fun xs hx vs F1 H1 fa g1 o1 n1 k1 => ?_⟩
  match xs, hx, o1 with
  | [(.int j, b)], hx, o1 =>
    have hx : (if small62 j = true then R.ok (rangeD 0 j.toNat) else R.bad).holds (IPost K F H R') := hx
    by_cases hc : small62 j = true
    · rw [if_pos hc] at hx
      unfold small62 at hc
      rw [Bool.and_eq_true, decide_eq_true_iff, decide_eq_true_iff] at hc
      unfold Args at o1
      obtain ⟨v, r, fp, f2, e, o, n, t, w⟩ := o1
      unfold Args at t; unfold Own at o
      rw [e, t.1, o.1]
      exact ⟨j, rfl, hc.1, hc.2, hx _ F1 H1 g1 iter_range⟩
    · rw [if_neg hc] at hx; exact hx.elim
end
end VL
end
section
namespace VL
open PySem L2
section
variable {K : FG} {W : XW} {F H F' H' F1 H1 : Hp} {Z Z' Z1 : List Addr} {σ σ1 : St} {ρ ρ1 : Env} {D' : Ends}
theorem flatten_swap_nodup {fps : List (List Addr)} {i : Nat} {fp f : List Addr} (n : fps.flatten.Nodup) (e : fps[i]? = some f) (nf : fp.Nodup) (dj : ∀ b ∈ fp, b ∈ f ∨ b ∉ fps.flatten) : (fps.set i fp).flatten.Nodup := by
  induction fps generalizing i with
  | nil => simp
  | cons g r ih =>
    rw [List.flatten_cons] at n dj
    obtain ⟨n1, n2, n3⟩ := List.nodup_append.mp n
    cases i with
    | zero =>
      simp at e; subst e
      rw [List.set_cons_zero, List.flatten_cons]
      refine List.nodup_append.mpr ⟨nf, n2, fun a ha b hb z => ?_⟩
      subst z
      rcases dj a ha with h | h
      · exact n3 a h a hb rfl
      · exact h (List.mem_append_right _ hb)
    | succ i =>
      have e : r[i]? = some f := by simpa using e
      rw [List.set_cons_succ, List.flatten_cons]
      refine List.nodup_append.mpr ⟨n1, ih n2 e fun b hb => (dj b hb).imp_right fun h hr => h (List.mem_append_right _ hr), fun a ha b hb z => ?_⟩
      subst z
      rcases mem_flatten_set hb with h | h
      · exact n3 a ha a h rfl
      · rcases dj a h with q | q
        · exact n3 a ha a (List.mem_flatten.mpr ⟨f, List.mem_of_getElem? e, q⟩) rfl
        · exact q (List.mem_append_left _ ha)
theorem apart {fps : List (List Addr)} {i j : Nat} {f g : List Addr} {a : Addr} (n : fps.flatten.Nodup) (hi : fps[i]? = some f) (hj : fps[j]? = some g) (ne : i ≠ j) (ha : a ∈ f) : a ∉ g := by
  induction fps generalizing i j with
  | nil => simp at hi
  | cons h r ih =>
    rw [List.flatten_cons] at n
    obtain ⟨n1, n2, n3⟩ := List.nodup_append.mp n
    cases i with
    | zero =>
      simp at hi; subst hi
      cases j with
      | zero => exact absurd rfl ne
      | succ j =>
        have hj : r[j]? = some g := by simpa using hj
        exact fun hb => n3 a ha a (List.mem_flatten.mpr ⟨g, List.mem_of_getElem? hj, hb⟩) rfl
    | succ i =>
      have hi : r[i]? = some f := by simpa using hi
      cases j with
      | zero =>
        simp at hj; subst hj
        exact fun hb => n3 a hb a (List.mem_flatten.mpr ⟨f, List.mem_of_getElem? hi, ha⟩) rfl
      | succ j => exact ih n2 hi (by simpa using hj) fun z => ne (by rw [z])
theorem Own.other {d : D} {v : V} {f : List Addr} {a : Addr} {o : HO} (h : Own K F H d v f) (ha : a ∉ f) : Own K F (upd H a o) d v f := by
  refine Own.keep (Same.refl _) d (fun b hb => ⟨(Own.zone d h b hb).1, ?_⟩) h
  exact upd_ne fun z => ha (z ▸ hb)
theorem Owns.other {d : List D} {v : List V} {f : List Addr} {a : Addr} {o : HO} (h : Owns K F H d v f) (ha : a ∉ f) : Owns K F (upd H a o) d v f := by
  refine Owns.keep (Same.refl _) d (fun b hb => ⟨(Owns.zone d h b hb).1, ?_⟩) h
  exact upd_ne fun z => ha (z ▸ hb)
def getD (ρ : Env) (i : Nat) : Option D := (ρ[i]?).bind Slot.d?
def putD (ρ : Env) (i : Nat) (d : D) : Env := match ρ[i]? with
  | some (.pin _) => ρ.set i (.pin d) | some (.val _) => ρ.set i (.val d) | _ => ρ
theorem Sim.get {fps : List (List Addr)} (S : Sim K F H σ ρ fps) {i : Nat} {d : D} (e : getD ρ i = some d) : ∃ v fp, σ[i]? = some (some v) ∧ fps[i]? = some fp ∧ Own K F H d v fp := by
  unfold getD at e
  cases q : ρ[i]? with
  | none => rw [q] at e; cases e
  | some s => rw [q] at e; exact S.at_ i s d q e
theorem putD_get {i j : Nat} {d : D} {s : Slot} {c : D} (e : (putD ρ i d)[j]? = some s) (e2 : s.d? = some c) (hi : (getD ρ i).isSome = true) : (i = j ∧ c = d) ∨ (i ≠ j ∧ ρ[j]? = some s) := by
  unfold getD at hi
  unfold putD at e
  cases q : ρ[i]? with
  | none => rw [q] at hi; cases hi
  | some t =>
    have hlt : i < ρ.length := (List.getElem?_eq_some_iff.mp q).1
    rw [q] at e hi
    cases t with
    | un => cases hi
    | val _ =>
      by_cases hj : i = j
      · subst hj
        have e : (ρ.set i (.val d))[i]? = some s := e
        rw [List.getElem?_set_self hlt] at e; cases e; cases e2; exact .inl ⟨rfl, rfl⟩
      · have e : (ρ.set i (.val d))[j]? = some s := e
        rw [List.getElem?_set_ne hj] at e; exact .inr ⟨hj, e⟩
    | pin _ =>
      by_cases hj : i = j
      · subst hj
        have e : (ρ.set i (.pin d))[i]? = some s := e
        rw [List.getElem?_set_self hlt] at e; cases e; cases e2; exact .inl ⟨rfl, rfl⟩
      · have e : (ρ.set i (.pin d))[j]? = some s := e
        rw [List.getElem?_set_ne hj] at e; exact .inr ⟨hj, e⟩
theorem putD_len {i : Nat} {d : D} : (putD ρ i d).length = ρ.length := by
  unfold putD
  split <;> simp
theorem putD_pin {i : Nat} {d : D} : PinE ρ (putD ρ i d) := fun j c e => by
  unfold putD
  cases q : ρ[i]? with
  | none => exact ⟨c, e⟩
  | some t =>
    have hlt : i < ρ.length := (List.getElem?_eq_some_iff.mp q).1
    cases t with
    | un => exact ⟨c, e⟩
    | val _ =>
      refine ⟨c, ?_⟩
      show (ρ.set i (.val d))[j]? = _
      have hj : i ≠ j := by rintro rfl; rw [q] at e; cases e
      rw [List.getElem?_set_ne hj]; exact e
    | pin _ =>
      by_cases hj : i = j
      · subst hj
        exact ⟨d, by show (ρ.set i (.pin d))[i]? = _; rw [List.getElem?_set_self hlt]⟩
      · exact ⟨c, by show (ρ.set i (.pin d))[j]? = _; rw [List.getElem?_set_ne hj]; exact e⟩
theorem Sim.mutate {fps : List (List Addr)} (S : Sim K F H σ ρ fps) {i : Nat} {d d' : D} {v : V} {fp fp' : List Addr} {a : Addr} {xs : List V} (e : getD ρ i = some d) (es : σ[i]? = some (some v)) (ef : fps[i]? = some fp)
    (ha : a ∈ fp) (o : Own K F (upd H a (.lst xs)) d' v fp') (n : fp'.Nodup) (dj : ∀ b ∈ fp', b ∈ fp ∨ (b ∉ fps.flatten)) :
    Sim K F (upd H a (.lst xs)) σ (putD ρ i d') (fps.set i fp') := by
  have hz : a ∈ fps.flatten := List.mem_flatten.mpr ⟨fp, List.mem_of_getElem? ef, ha⟩
  have fa := (S.zone a hz).1
  refine ⟨fun b u q => ?_, by rw [putD_len]; exact S.ls, by rw [putD_len, List.length_set]; exact S.lf, fun j s c e1 e2 => ?_, flatten_swap_nodup S.nd ef n dj, fun b hb => ?_⟩
  · rw [upd_ne (ne_of_none q fa)]; exact S.same b u q
  · rcases putD_get e1 e2 (by rw [e]; rfl) with ⟨rfl, rfl⟩ | ⟨hj, e3⟩
    · exact ⟨v, fp', es, List.getElem?_set_self (List.getElem?_eq_some_iff.mp ef).1, o⟩
    · obtain ⟨w, f, h1, h2, h3⟩ := S.at_ j s c e3 e2
      exact ⟨w, f, h1, by rw [List.getElem?_set_ne hj]; exact h2, h3.other (apart S.nd ef h2 hj ha)⟩
  · rcases mem_flatten_set hb with h | h
    · refine ⟨(S.zone b h).1, ?_⟩
      by_cases hba : b = a
      · subst hba; rw [upd_same]; simp
      · rw [upd_ne hba]; exact (S.zone b h).2
    · obtain ⟨q1, ys, q2⟩ := Own.zone d' o b h
      exact ⟨q1, by rw [q2]; simp⟩
theorem evo_upd {a : Addr} {o : HO} (ha : a ∈ Z) (k : ∀ b ∈ Z', b ∈ Z) : Evo F H Z F (upd H a o) Z' := by
  refine ⟨Same.refl _, fun b u e hb => ?_, fun b e => ?_, fun _ _ e => .inl e, fun b hb => .inl (k b hb)⟩
  · exact (upd_ne (fun z : b = a => hb (by rw [z]; exact ha))).trans e
  · by_cases hba : b = a
    · subst hba; rw [upd_same] at e; cases e
    · rw [upd_ne hba] at e; exact e
theorem Grow.evoZ (g : Grow F H F' H') (k : ∀ b ∈ Z', b ∈ Z ∨ H b = none) : Evo F H Z F' H' Z' :=
  ⟨g.fr, fun b o e _ => g.all b o e, fun _ e => g.all.free e, fun b o e => (g.new b o e).elim .inl fun h => .inr (.inl h), k⟩
theorem Owns.replace : ∀ (ds : List D) {xs : List V} {fq : List Addr} {j : Nat} {dj : D}, Owns K F H ds xs fq → fq.Nodup → ds[j]? = some dj → ∃ vj fj, xs[j]? = some vj ∧ Own K F H dj vj fj ∧ (∀ b ∈ fj, b ∈ fq) ∧ fj.Nodup ∧
    ∀ (H' : Hp) (dj' : D) (vj' : V) (fj' : List Addr), (∀ b ∈ fq, b ∉ fj → H' b = H b) → Own K F H' dj' vj' fj' → ∃ fq', Owns K F H' (ds.set j dj') (xs.set j vj') fq' ∧ (∀ b ∈ fq', b ∈ fj' ∨ (b ∈ fq ∧ b ∉ fj)) ∧ (fj'.Nodup → (∀ b ∈ fj', b ∈ fj ∨ b ∉ fq) → fq'.Nodup)
  | [], _, _, _, _, _, _, e => by simp at e
  | c :: ds, xs, fq, 0, dj, h, n, e => by
    unfold Owns at h
    obtain ⟨v, r, f1, f2, e1, h1, h2, e2⟩ := h
    simp at e; subst e; subst e1; subst e2
    obtain ⟨n1, n2, n3⟩ := List.nodup_append.mp n
    refine ⟨v, f1, rfl, h1, fun b hb => List.mem_append_left _ hb, n1, fun H' dj' vj' fj' k o => ?_⟩
    have h2' : Owns K F H' ds r f2 := Owns.keep (Same.refl _) ds (fun b hb => ⟨(Owns.zone ds h2 b hb).1, k b (List.mem_append_right _ hb) fun z => n3 b z b hb rfl⟩) h2
    refine ⟨fj' ++ f2, Owns.cons o h2', fun b hb => ?_, fun n4 k4 => ?_⟩
    · rcases List.mem_append.mp hb with hb | hb
      · exact .inl hb
      · exact .inr ⟨List.mem_append_right _ hb, fun z => n3 b z b hb rfl⟩
    · refine List.nodup_append.mpr ⟨n4, n2, fun a ha b hb z => ?_⟩
      subst z
      rcases k4 a ha with q | q
      · exact n3 a q a hb rfl
      · exact q (List.mem_append_right _ hb)
  | c :: ds, xs, fq, j + 1, dj, h, n, e => by
    unfold Owns at h
    obtain ⟨v, r, f1, f2, e1, h1, h2, e2⟩ := h
    subst e1; subst e2
    obtain ⟨n1, n2, n3⟩ := List.nodup_append.mp n
    obtain ⟨vj, fj, q1, q2, q3, q5, q4⟩ := Owns.replace ds (j := j) h2 n2 (by simpa using e)
    refine ⟨vj, fj, by simpa using q1, q2, fun b hb => List.mem_append_right _ (q3 b hb), q5, fun H' dj' vj' fj' k o => ?_⟩
    obtain ⟨fq', p1, p2, p3⟩ := q4 H' dj' vj' fj' (fun b hb hn => k b (List.mem_append_right _ hb) hn) o
    have h1' : Own K F H' c v f1 := Own.keep (Same.refl _) c (fun b hb => ⟨(Own.zone c h1 b hb).1, k b (List.mem_append_left _ hb) fun z => n3 b hb b (q3 b z) rfl⟩) h1
    refine ⟨f1 ++ fq', Owns.cons h1' p1, fun b hb => ?_, fun n4 k4 => ?_⟩
    · rcases List.mem_append.mp hb with hb | hb
      · exact .inr ⟨List.mem_append_left _ hb, fun z => n3 b hb b (q3 b z) rfl⟩
      · exact (p2 b hb).imp_right fun z => ⟨List.mem_append_right _ z.1, z.2⟩
    · refine List.nodup_append.mpr ⟨n1, p3 n4 fun b hb => (k4 b hb).imp_right fun z y => z (List.mem_append_right _ y), fun a ha b hb z => ?_⟩
      subst z
      rcases p2 a hb with q | q
      · rcases k4 a q with q | q
        · exact n3 a ha a (q3 a q) rfl
        · exact q (List.mem_append_left _ ha)
      · exact n3 a ha a q.1 rfl
theorem Own.opened {ds : List D} {v : V} {fp : List Addr} (h : Own K F H (.lst true ds) v fp) : ∃ a xs fq, v = .ref a ∧ Owns K F H ds xs fq ∧ F a = none ∧ H a = some (.lst xs) ∧ fp = a :: fq := by
  unfold Own at h
  obtain ⟨a, xs, fq, e, r, w⟩ := h
  rcases w with ⟨_, w1, w2, w3⟩ | ⟨w, _⟩
  · exact ⟨a, xs, fq, e, r, w1, w2, w3⟩
  · cases w
theorem Own.closed {ds : List D} {a : Addr} {xs : List V} {fq : List Addr} (r : Owns K F H ds xs fq) (h1 : F a = none) (h2 : H a = some (.lst xs)) : Own K F H (.lst true ds) (.ref a) (a :: fq) := by
  unfold Own
  exact ⟨a, xs, fq, rfl, r, .inl ⟨rfl, h1, h2, rfl⟩⟩
theorem Sim.zone1 {fps : List (List Addr)} {i : Nat} {fp : List Addr} {a : Addr} (S : Sim K F H σ ρ fps) (h2 : fps[i]? = some fp) (ha : a ∈ fp) : F a = none :=
  (S.zone a (List.mem_flatten.mpr ⟨_, List.mem_of_getElem? h2, ha⟩)).1
theorem Sim.nofps {fps : List (List Addr)} {fu : List Addr} (S : Sim K F H σ ρ fps) (k3 : ∀ b ∈ fu, H b = none) : ∀ b ∈ fu, b ∉ fps.flatten := fun b hb hz => (S.zone b hz).2 (k3 b hb)
theorem NPost.mut {fps : List (List Addr)} {P : St → Hp → Prop} {i : Nat} {d d' : D} {v : V} {fp fp' fu : List Addr} {a : Addr} {xs : List V} (h : NPost K F H fps.flatten ρ σ P (putD ρ i d')) (S : Sim K F H σ ρ fps) (g2 : Grow F H F1 H1) (k3 : ∀ b ∈ fu, H b = none)
    (eg : getD ρ i = some d) (h1 : σ[i]? = some (some v)) (h2 : fps[i]? = some fp) (ha : a ∈ fp) (o : Own K F1 (upd H1 a (.lst xs)) d' v fp') (n : fp'.Nodup) (dj : ∀ b ∈ fp', b ∈ fp ∨ b ∈ fu) : P σ (upd H1 a (.lst xs)) := by
  have S3 := (S.grow g2).mutate eg h1 h2 ha o n fun b hb => (dj b hb).imp_right (S.nofps k3 b)
  have ez : Evo F H fps.flatten F1 H1 (fps.flatten ++ fu) := g2.evoZ fun b hb => (List.mem_append.mp hb).imp_right (k3 b)
  have hz : ∀ b ∈ fp, b ∈ fps.flatten := fun b hb => List.mem_flatten.mpr ⟨_, List.mem_of_getElem? h2, hb⟩
  refine h σ F1 _ _ (ez.trans (evo_upd (List.mem_append_left _ (hz a ha)) fun b hb => ?_)) S3 (putD_pin.pins)
  rcases mem_flatten_set hb with q | q
  · exact List.mem_append_left _ q
  · rcases dj b q with q | q
    · exact List.mem_append_left _ (hz b q)
    · exact List.mem_append_right _ q
def kApp (d0 : D) (x : D × Bool) : Option D := match d0 with
  | .lst true ds => if keepable x && decide (ds.length < 1000000) then some (.lst true (ds ++ [x.1])) else none | _ => none
def sAppend (i : Nat) (f : SemE) : SemS := fun ρ => match f ρ with
  | .ok x => (match (getD ρ i).bind fun d => kApp d x with | some d => .next (putD ρ i d) | none => .bad)
  | .exc _ => .bad | .bad => .bad
theorem size_lt {n : Nat} (h : n < 1000000) : n < sizeLine := Nat.lt_of_lt_of_le h (by decide)
theorem keep_fp {x : D × Bool} {v : V} {fp : List Addr} (k : keepable x = true) (o : Own K F H x.1 v fp) (h : x.2 = true → ∀ b ∈ fp, H1 b = none) : ∀ b ∈ fp, H1 b = none := fun b hb => by
  unfold keepable at k
  cases e : x.2 with
  | true => exact h e b hb
  | false =>
    rw [e, Bool.false_or] at k
    rw [Own.fp_nil x.1 k o] at hb; cases hb
theorem sv_append {i : Nat} {f : SemE} (h : sv K W (sAppend i f) D' σ H) : tDrop (tBM K "list" rAppend (tVar i) (tCons (tv K f) tNil)) D' σ H := by
  obtain ⟨ρ, F, fps, S, h⟩ := h
  unfold sAppend at h
  cases ef : f ρ with
  | exc _ => rw [ef] at h; exact h.elim
  | bad => rw [ef] at h; exact h.elim
  | ok x =>
    rw [ef] at h
    have h : SPost K W F H fps.flatten ρ σ D' (match (getD ρ i).bind fun d => kApp d x with | some d => .next (putD ρ i d) | none => .bad) := h
    cases eg : getD ρ i with
    | none => rw [eg] at h; exact h.elim
    | some d0 =>
      rw [eg] at h
      have h : SPost K W F H fps.flatten ρ σ D' (match kApp d0 x with | some d => .next (putD ρ i d) | none => .bad) := h
      cases ek : kApp d0 x with
      | none => rw [ek] at h; exact h.elim
      | some d1 =>
        rw [ek] at h
        unfold kApp at ek
        split at ek <;> try cases ek
        rename_i ds
        by_cases hc : (keepable x && decide (ds.length < 1000000)) = true
        · rw [if_pos hc] at ek; cases ek
          rw [Bool.and_eq_true, decide_eq_true_iff] at hc
          obtain ⟨v, fp, h1, h2, h3⟩ := S.get eg
          obtain ⟨a, xs, fq, ev, r, w1, w2, w3⟩ := Own.opened h3
          subst ev; subst w3
          have nfp := S.sub h2
          refine ⟨.ref a, h1, .inl ⟨rfl, xs, SqL.of w2⟩, ρ, F, fps, S, ?_⟩
          rw [ef]
          intro u F2 H2 fu g2 o2 n2 k2
          have k3 := keep_fp hc.1 o2 k2
          have S2 := S.grow g2
          have w2' := g2.all a _ w2
          refine ⟨a, xs, u, rfl, rfl, w2', size_lt (by rw [← Owns.length ds r]; exact hc.2), ?_⟩
          have w1' := S2.zone1 h2 List.mem_cons_self
          have hau : a ∉ fu := fun z => by have := k3 a z; rw [w2] at this; cases this
          have haq : a ∉ fq := (List.nodup_cons.mp nfp).1
          have r2 : Owns K F2 (upd H2 a (.lst (xs ++ [u]))) (ds ++ [x.1]) (xs ++ [u]) (fq ++ fu) := Owns.append ds ((r.grow g2).other haq) (Owns.one (o2.other hau))
          have hn : (a :: (fq ++ fu)).Nodup := by
            refine List.nodup_cons.mpr ⟨fun z => (List.mem_append.mp z).elim haq hau, List.nodup_append.mpr ⟨(List.nodup_cons.mp nfp).2, n2, fun p hp q hq z => ?_⟩⟩
            subst z
            exact S.nofps k3 p hq (List.mem_flatten.mpr ⟨_, List.mem_of_getElem? h2, List.mem_cons_of_mem _ hp⟩)
          refine NPost.mut h S g2 k3 eg h1 h2 List.mem_cons_self (Own.closed r2 w1' upd_same) hn fun b hb => ?_
          rcases List.mem_cons.mp hb with rfl | hb
          · exact .inl List.mem_cons_self
          · exact (List.mem_append.mp hb).imp_left fun z => List.mem_cons_of_mem _ z
        · rw [if_neg hc] at ek; cases ek
def kSet (d0 : D) (k : Int) (x : D × Bool) : Option D := match d0 with
  | .lst true ds => if keepable x then (ixN ds.length k).map fun j => .lst true (ds.set j x.1) else none | _ => none
def sSetItem (i : Nat) (h f : SemE) : SemS := fun ρ => match f ρ with
  | .ok x => (match h ρ with
    | .ok (.int k, _) => (match (getD ρ i).bind fun d => kSet d k x with | some d => .next (putD ρ i d) | none => .bad)
    | .ok _ => .bad | .exc _ => .bad | .bad => .bad)
  | .exc _ => .bad | .bad => .bad
theorem ixN_lt {n : Nat} {k : Int} {j : Nat} (e : ixN n k = some j) : j < n := by
  unfold ixN at e
  split at e
  · split at e
    · cases e; omega
    · cases e
  · split at e
    · cases e; omega
    · cases e
theorem set_own {ds : List D} {xs : List V} {fq fu : List Addr} {a : Addr} {j : Nat} {d : D} {u : V} (r : Owns K F H ds xs fq) (n : (a :: fq).Nodup) (hj : j < ds.length) (w1 : F a = none) (o : Own K F H d u fu) (nu : fu.Nodup) (hau : a ∉ fu) (dju : ∀ b ∈ fu, b ∉ fq) :
    ∃ fq', Own K F (upd H a (.lst (xs.set j u))) (.lst true (ds.set j d)) (.ref a) (a :: fq') ∧ (a :: fq').Nodup ∧ ∀ b ∈ fq', b ∈ fq ∨ b ∈ fu := by
  obtain ⟨na, nq⟩ := List.nodup_cons.mp n
  obtain ⟨dj, hdj⟩ : ∃ dj, ds[j]? = some dj := ⟨ds[j], by simp [hj]⟩
  obtain ⟨vj, fj, q1, q2, q3, _, q4⟩ := Owns.replace ds (r.other (a := a) (o := .lst (xs.set j u)) na) nq hdj
  obtain ⟨fq', p1, p2, p3⟩ := q4 _ d u fu (fun b _ _ => rfl) (o.other hau)
  have k : ∀ b ∈ fq', b ∈ fq ∨ b ∈ fu := fun b hb => (p2 b hb).elim .inr fun z => .inl z.1
  refine ⟨fq', Own.closed p1 w1 upd_same, List.nodup_cons.mpr ⟨fun z => (k a z).elim na hau, p3 nu fun b hb => .inr (dju b hb)⟩, k⟩
theorem sv_setItem {i : Nat} {h f : SemE} (hh : sv K W (sSetItem i h f) D' σ H) : tAsg (tv K f) (gSub (tVar i) (tv K h) rSetL) D' σ H := by
  obtain ⟨ρ, F, fps, S, hh⟩ := hh
  unfold sSetItem at hh
  cases ef : f ρ with
  | exc _ => rw [ef] at hh; exact hh.elim
  | bad => rw [ef] at hh; exact hh.elim
  | ok x =>
    rw [ef] at hh
    dsimp only at hh
    cases eh : h ρ with
    | exc _ => rw [eh] at hh; exact hh.elim
    | bad => rw [eh] at hh; exact hh.elim
    | ok y =>
      rw [eh] at hh
      obtain ⟨y, by'⟩ := y
      cases y <;> try exact hh.elim
      rename_i k
      dsimp only at hh
      cases eg : getD ρ i with
      | none => rw [eg] at hh; exact hh.elim
      | some d0 =>
        rw [eg] at hh
        dsimp only [Option.bind] at hh
        cases ek : kSet d0 k x with
        | none => rw [ek] at hh; exact hh.elim
        | some d1 =>
          rw [ek] at hh
          unfold kSet at ek
          split at ek <;> try cases ek
          rename_i ds
          by_cases hc : keepable x = true
          · rw [if_pos hc] at ek
            cases ej : ixN ds.length k with
            | none => rw [ej] at ek; cases ek
            | some j =>
              rw [ej] at ek; cases ek
              refine ⟨ρ, F, fps, S, ?_⟩
              rw [ef]
              intro u F2 H2 fu g2 o2 n2 k2
              have k3 := keep_fp hc o2 k2
              have S2 := S.grow g2
              obtain ⟨v, fp, h1, h2, h3⟩ := S2.get eg
              refine ⟨v, h1, ρ, F2, fps, S2, ?_⟩
              rw [eh]
              intro w F3 H3 fw g3 o3 n3 k4
              unfold Own at o3
              obtain ⟨a, xs, fq, ev, r, w1, w2, w3⟩ := Own.opened (h3.grow g3)
              subst ev; subst w3
              have nfp := S.sub h2
              refine ⟨a, xs, k, j, rfl, o3.1, w2, by rw [← Owns.length ds r]; exact ej, ?_⟩
              have hz : ∀ b ∈ a :: fq, b ∈ fps.flatten := fun b hb => List.mem_flatten.mpr ⟨_, List.mem_of_getElem? h2, hb⟩
              have nf := S.nofps k3
              obtain ⟨fq', p1, p2, p3⟩ := set_own r nfp (ixN_lt ej) w1 (o2.grow g3) n2 (fun z => nf a z (hz a List.mem_cons_self)) fun b hb z => nf b hb (hz b (List.mem_cons_of_mem _ z))
              refine NPost.mut hh S (g2.trans g3) k3 eg h1 h2 List.mem_cons_self p1 p2 fun b hb => ?_
              rcases List.mem_cons.mp hb with rfl | hb
              · exact .inl List.mem_cons_self
              · exact (p3 b hb).imp_left fun z => List.mem_cons_of_mem _ z
          · rw [if_neg hc] at ek; cases ek
def frz1 (ρ : Env) (i : Nat) : Env := match getD ρ i with | some d => putD ρ i d.frz | none => ρ
def sFrz (is : List Nat) (g : SemS) : SemS := fun ρ => g (is.foldl frz1 ρ)
theorem Sim.frz1 {fps : List (List Addr)} (S : Sim K F H σ ρ fps) (i : Nat) : ∃ F' fps', Sim K F' H σ (VL.frz1 ρ i) fps' ∧ Evo F H fps.flatten F' H fps'.flatten ∧ PinE ρ (VL.frz1 ρ i) := by
  unfold VL.frz1
  cases e : getD ρ i with
  | none => exact ⟨F, fps, S, .refl, PinE.refl _⟩
  | some d =>
    obtain ⟨v, fp, h1, h2, h3⟩ := S.get e
    have hz : ∀ b ∈ fp, b ∈ fps.flatten := fun b hb => List.mem_flatten.mpr ⟨_, List.mem_of_getElem? h2, hb⟩
    have z : ∀ b ∈ fp, F b = none := fun b hb => (S.zone b (hz b hb)).1
    have hsub : ∀ b ∈ (fps.set i []).flatten, b ∈ fps.flatten ∧ b ∉ fp := by
      intro b hb
      refine ⟨(mem_flatten_set hb).elim id (fun q => by cases q), fun q => ?_⟩
      obtain ⟨l, hl, hbl⟩ := List.mem_flatten.mp hb
      obtain ⟨j, hj⟩ := List.mem_iff_getElem?.mp hl
      by_cases hij : i = j
      · subst hij
        rw [List.getElem?_set_self (List.getElem?_eq_some_iff.mp h2).1] at hj; cases hj; cases hbl
      · rw [List.getElem?_set_ne hij] at hj
        exact apart S.nd h2 hj hij q hbl
    refine ⟨frzH F H fp, fps.set i [], ⟨frzH_in S.same, by rw [putD_len]; exact S.ls, by rw [putD_len, List.length_set]; exact S.lf, fun j s c e1 e2 => ?_, flatten_swap_nodup S.nd h2 List.nodup_nil (fun b hb => by cases hb), fun b hb => ?_⟩, ⟨frzH_same z, fun _ _ e _ => e, fun _ e => e, fun b o e => ?_, fun b hb => .inl (hsub b hb).1⟩, putD_pin⟩
    · rcases putD_get e1 e2 (by rw [e]; rfl) with ⟨rfl, rfl⟩ | ⟨hj, e3⟩
      · exact ⟨v, [], h1, List.getElem?_set_self (List.getElem?_eq_some_iff.mp h2).1, Own.freeze z d (fun a ha => ha) h3⟩
      · obtain ⟨w, f, q1, q2, q3⟩ := S.at_ j s c e3 e2
        refine ⟨w, f, q1, by rw [List.getElem?_set_ne hj]; exact q2, Own.keep (frzH_same z) c (fun a ha => ⟨?_, rfl⟩) q3⟩
        unfold frzH
        rw [if_neg fun q => apart S.nd h2 q2 hj q ha]
        exact (Own.zone c q3 a ha).1
    · obtain ⟨q1, q2⟩ := hsub b hb
      refine ⟨?_, (S.zone b q1).2⟩
      unfold frzH; rw [if_neg q2]; exact (S.zone b q1).1
    · unfold frzH at e
      split at e
      · rename_i hb; exact .inr (.inr (hz b hb))
      · exact .inl e
theorem Sim.frzs (is : List Nat) : ∀ {ρ : Env} {F : Hp} {fps : List (List Addr)}, Sim K F H σ ρ fps → ∃ F' fps', Sim K F' H σ (is.foldl VL.frz1 ρ) fps' ∧ Evo F H fps.flatten F' H fps'.flatten ∧ PinE ρ (is.foldl VL.frz1 ρ) := by
  induction is with
  | nil => intro ρ F fps S; exact ⟨F, fps, S, .refl, PinE.refl _⟩
  | cons i is ih =>
    intro ρ F fps S
    obtain ⟨F1, fps1, S1, e1, p1⟩ := S.frz1 i
    obtain ⟨F2, fps2, S2, e2, p2⟩ := ih S1
    exact ⟨F2, fps2, S2, e1.trans e2, p1.trans p2⟩
theorem sv_frz {is : List Nat} {g : SemS} (h : sv K W (sFrz is g) D' σ H) : sv K W g D' σ H := by
  obtain ⟨ρ, F, fps, S, h⟩ := h
  obtain ⟨F1, fps1, S1, e1, p1⟩ := Sim.frzs is S
  exact ⟨_, F1, fps1, S1, SPost.lift e1 p1.pins h⟩
def sRetV (i : Nat) : SemS := fun ρ => match ρ[i]? with
  | some (.val d) => .ret d (ρ.set i .un) | some (.pin d) => if d.calm then .ret d ρ else .bad | _ => .bad
theorem sv_retV {i : Nat} (h : sv K W (sRetV i) D' σ H) : tRet (tVar i) D' σ H := by
  obtain ⟨ρ, F, fps, S, h⟩ := h
  unfold sRetV at h
  cases e : ρ[i]? with
  | none => rw [e] at h; exact h.elim
  | some s =>
    rw [e] at h
    cases s with
    | un => exact h.elim
    | pin d =>
      have h : SPost K W F H fps.flatten ρ σ D' (if d.calm = true then .ret d ρ else .bad) := h
      by_cases hc : d.calm = true
      · rw [if_pos hc] at h
        obtain ⟨v, fp, h1, h2, h3⟩ := S.at_ i _ d e rfl
        have := Own.fp_nil d hc h3
        subst this
        exact ⟨v, h1, h v σ F H fps [] .refl S (Pins.refl _ _) h3 List.nodup_nil fun b hb => by cases hb⟩
      · rw [if_neg hc] at h; exact h.elim
    | val d =>
      obtain ⟨v, fp, h1, h2, h3⟩ := S.at_ i _ d e rfl
      have hz : ∀ b ∈ fp, b ∈ fps.flatten := fun b hb => List.mem_flatten.mpr ⟨_, List.mem_of_getElem? h2, hb⟩
      have hlt : i < ρ.length := (List.getElem?_eq_some_iff.mp e).1
      have hsub : ∀ b ∈ (fps.set i []).flatten, b ∈ fps.flatten ∧ b ∉ fp := by
        intro b hb
        refine ⟨(mem_flatten_set hb).elim id (fun q => by cases q), fun q => ?_⟩
        obtain ⟨l, hl, hbl⟩ := List.mem_flatten.mp hb
        obtain ⟨j, hj⟩ := List.mem_iff_getElem?.mp hl
        by_cases hij : i = j
        · subst hij
          rw [List.getElem?_set_self (List.getElem?_eq_some_iff.mp h2).1] at hj; cases hj; cases hbl
        · rw [List.getElem?_set_ne hij] at hj
          exact apart S.nd h2 hj hij q hbl
      refine ⟨v, h1, h v σ F H (fps.set i []) fp ⟨Same.refl _, fun _ _ e _ => e, fun _ e => e, fun _ _ e => .inl e, fun b hb => .inl (hsub b hb).1⟩ ⟨S.same, by simp [S.ls], by simp [S.lf], fun j s c e1 e2 => ?_, flatten_swap_nodup S.nd h2 List.nodup_nil (fun b hb => by cases hb), fun b hb => S.zone b (hsub b hb).1⟩ (fun j c e1 => ?_) h3 (S.sub h2) fun b hb => ⟨fun q => (hsub b q).2 hb, .inl (hz b hb)⟩⟩
      · by_cases hij : i = j
        · subst hij
          rw [List.getElem?_set_self hlt] at e1; cases e1; cases e2
        · rw [List.getElem?_set_ne hij] at e1
          obtain ⟨w, f, q1, q2, q3⟩ := S.at_ j s c e1 e2
          exact ⟨w, f, q1, by rw [List.getElem?_set_ne hij]; exact q2, q3⟩
      · have hij : i ≠ j := by rintro rfl; rw [e] at e1; cases e1
        exact ⟨⟨c, by rw [List.getElem?_set_ne hij]; exact e1⟩, rfl⟩
end
end VL
end
section
namespace VL
open PySem L2
section
variable {K : FG} {W : XW} {F H F' H' F1 H1 : Hp} {Z Z' Z1 : List Addr} {σ σ1 : St} {ρ ρ1 : Env} {D' : Ends}
abbrev Fn := List D → R (D × List D)
def OwnL (K : FG) (F H : Hp) (ds : List D) (vs : List V) (fps : List (List Addr)) : Prop :=
  ds.length = vs.length ∧ fps.length = ds.length ∧ ∀ (i : Nat) (d : D), ds[i]? = some d → ∃ v fp, vs[i]? = some v ∧ fps[i]? = some fp ∧ Own K F H d v fp
def FPost (K : FG) (F H : Hp) (vs : List V) (Z : List Addr) (Q : VK) (x : D × List D) : Prop :=
  ∀ r F' H' fps' fr, Evo F H Z F' H' fps'.flatten → Same F' H' → OwnL K F' H' x.2 vs fps' → fps'.flatten.Nodup → Own K F' H' x.1 r fr → fr.Nodup → (∀ b ∈ fr, b ∉ fps'.flatten ∧ (b ∈ Z ∨ H b = none)) → Q r H'
def ClsOf (K : FG) (c : Str) (C : Addr) : Prop := PySem.W.nsIn K mainGlobals c = some (some (.ref C))
def FX (K : FG) (F H : Hp) (Z : List Addr) (E : XK) (c : Str) : Prop :=
  ∀ F' H' Z', Evo F H Z F' H' Z' → Same F' H' → ∀ C, ClsOf K c C → E (.ref C) none H'
def wOf (K : FG) (E : XK) : XW := fun c _ H' => ∀ C, ClsOf K c C → E (.ref C) none H'
def spV (K : FG) (n : Nat) (fn : Fn) : Sp := fun vs H Q E => vs.length = n ∧ ∃ F ds fps, Same F H ∧ OwnL K F H ds vs fps ∧ fps.flatten.Nodup ∧ (∀ b ∈ fps.flatten, F b = none ∧ H b ≠ none) ∧ (fn ds).hx (FPost K F H vs fps.flatten Q) (FX K F H fps.flatten E)
def entry (n : Nat) (ds : List D) : Env := ds.map (fun d => if d.calm then Slot.val d else .pin d) ++ List.replicate (n - ds.length) .un
def outs : List D → Env → List D
  | [], _ => []
  | d :: ds, s :: ρ => (if d.calm then d else match s with | .pin d' => d' | _ => d) :: outs ds ρ
  | d :: ds, [] => d :: outs ds []
def fnOf (n : Nat) (body : SemS) : Fn := fun ds => match body (entry n ds) with
  | .ret d ρ' => .ok (d, outs ds ρ') | .next ρ' => .ok (.non, outs ds ρ') | .exc c _ => .exc c | _ => .bad
theorem outs_get : ∀ (ds : List D) (ρ : Env) (i : Nat) (d : D), (outs ds ρ)[i]? = some d → ∃ c, ds[i]? = some c ∧ d = (if c.calm then c else match ρ[i]? with | some (.pin d') => d' | _ => c)
  | [], _, _, _, e => by simp [outs] at e
  | c :: ds, s :: ρ, 0, d, e => by
    simp [outs] at e
    refine ⟨c, rfl, ?_⟩
    subst e
    cases c.calm <;> cases s <;> rfl
  | c :: ds, s :: ρ, i + 1, d, e => by
    simp [outs] at e
    obtain ⟨c', h1, h2⟩ := outs_get ds ρ i d e
    exact ⟨c', by simpa using h1, by simpa using h2⟩
  | c :: ds, [], 0, d, e => by
    simp [outs] at e
    refine ⟨c, rfl, ?_⟩
    subst e
    cases c.calm <;> rfl
  | c :: ds, [], i + 1, d, e => by
    simp [outs] at e
    obtain ⟨c', h1, h2⟩ := outs_get ds [] i d e
    exact ⟨c', by simpa using h1, by simpa using h2⟩
theorem outs_len : ∀ (ds : List D) (ρ : Env), (outs ds ρ).length = ds.length
  | [], _ => rfl
  | d :: ds, s :: ρ => by simp [outs, outs_len ds ρ]
  | d :: ds, [] => by simp [outs, outs_len ds []]
theorem entry_get {n : Nat} {ds : List D} {i : Nat} {s : Slot} {d : D} (e : (entry n ds)[i]? = some s) (e2 : s.d? = some d) : ds[i]? = some d ∧ (s = if d.calm then Slot.val d else .pin d) := by
  unfold entry at e
  by_cases hi : i < ds.length
  · rw [List.getElem?_append_left (by simpa using hi), List.getElem?_map] at e
    rw [List.getElem?_eq_getElem hi] at e ⊢
    have e : (if (ds[i]).calm = true then Slot.val ds[i] else .pin ds[i]) = s := Option.some.inj e
    subst e
    cases hc : (ds[i]).calm
    · rw [hc] at e2; cases e2; exact ⟨rfl, by rw [hc]⟩
    · rw [hc] at e2; cases e2; exact ⟨rfl, by rw [hc]⟩
  · rw [List.getElem?_append_right (by simpa using hi), List.getElem?_replicate] at e
    split at e
    · cases e; cases e2
    · cases e
theorem OwnL.sim {n : Nat} {N : List Str} {ds : List D} {vs : List V} {fps : List (List Addr)} (hN : N.length = n) (hn : vs.length ≤ n) (hs : Same F H) (o : OwnL K F H ds vs fps) (nd : fps.flatten.Nodup) (zo : ∀ b ∈ fps.flatten, F b = none ∧ H b ≠ none) :
    Sim K F H (L2.start N vs) (entry n ds) (fps ++ List.replicate (n - ds.length) []) := by
  obtain ⟨l1, l2, h⟩ := o
  have hfl : (fps ++ List.replicate (n - ds.length) ([] : List Addr)).flatten = fps.flatten := by simp
  refine ⟨hs, ?_, ?_, fun i s d e1 e2 => ?_, by rw [hfl]; exact nd, fun b hb => by rw [hfl] at hb; exact zo b hb⟩
  · unfold L2.start entry; simp; omega
  · unfold entry; simp; omega
  · obtain ⟨e3, _⟩ := entry_get e1 e2
    obtain ⟨v, fp, q1, q2, q3⟩ := h i d e3
    have hi : i < vs.length := (List.getElem?_eq_some_iff.mp q1).1
    refine ⟨v, fp, ?_, ?_, q3⟩
    · unfold L2.start
      rw [List.getElem?_append_left (by simpa using hi), List.getElem?_map, q1]; rfl
    · rw [List.getElem?_append_left (by omega)]; exact q2
theorem fn_end {n : Nat} {N : List Str} {ds : List D} {vs : List V} {fps fps' : List (List Addr)} {σ' : St} {ρ' : Env} (hn : vs.length ≤ n) (o : OwnL K F H ds vs fps)
    (ev : Evo F H fps.flatten F' H' fps'.flatten) (S : Sim K F' H' σ' ρ' fps') (p : Pins (entry n ds) (L2.start N vs) ρ' σ') :
    ∃ fps2, OwnL K F' H' (outs ds ρ') vs fps2 ∧ fps2.flatten.Sublist fps'.flatten := by
  obtain ⟨l1, l2, h⟩ := o
  have pick : ∀ (k : Nat), k ≤ ds.length → ∃ fps2 : List (List Addr), fps2.length = k ∧ fps2.flatten.Sublist (fps'.take k).flatten ∧ ∀ (i : Nat) (c : D), i < k → ds[i]? = some c → fps2[i]? = some (if c.calm then [] else (fps'[i]?).getD []) := by
    intro k
    induction k with
    | zero => intro _; exact ⟨[], rfl, by simp, fun i c hi => by omega⟩
    | succ k ih =>
      intro hk
      obtain ⟨f2, e1, e2, e3⟩ := ih (by omega)
      obtain ⟨c, hc⟩ : ∃ c, ds[k]? = some c := ⟨ds[k], by simp⟩
      refine ⟨f2 ++ [if c.calm then [] else (fps'[k]?).getD []], by simp [e1], ?_, fun i c' hi hc' => ?_⟩
      · rw [List.flatten_append, List.take_add_one, List.flatten_append]
        refine List.Sublist.append e2 ?_
        cases hcc : c.calm
        · cases q : fps'[k]? <;> simp
        · simp
      · by_cases hik : i < k
        · rw [List.getElem?_append_left (by omega)]; exact e3 i c' hik hc'
        · have : i = k := by omega
          subst this
          rw [hc] at hc'; cases hc'
          rw [List.getElem?_append_right (by omega), e1]; simp
  obtain ⟨f2, e1, e2, e3⟩ := pick ds.length (Nat.le_refl _)
  refine ⟨f2, ⟨by rw [outs_len]; exact l1, by rw [outs_len]; exact e1, fun i d hd => ?_⟩, e2.trans ?_⟩
  · obtain ⟨c, hc, hd2⟩ := outs_get ds ρ' i d hd
    obtain ⟨v, fp, q1, q2, q3⟩ := h i c hc
    have hi : i < ds.length := (List.getElem?_eq_some_iff.mp hc).1
    refine ⟨v, _, q1, e3 i c hi hc, ?_⟩
    cases hcc : c.calm with
    | true =>
      rw [hcc] at hd2
      simp only [if_true] at hd2 ⊢
      subst hd2
      have := Own.fp_nil d hcc q3
      subst this
      exact Own.keep ev.fr d (fun a ha => by cases ha) q3
    | false =>
      rw [hcc] at hd2
      have en : (entry n ds)[i]? = some (.pin c) := by
        unfold entry
        rw [List.getElem?_append_left (by simpa using hi), List.getElem?_map, hc]
        show some (if c.calm = true then Slot.val c else .pin c) = _
        rw [hcc]; rfl
      obtain ⟨⟨d', hp⟩, es⟩ := p i c en
      rw [hp] at hd2
      simp only [Bool.false_eq_true, if_false] at hd2 ⊢
      subst hd2
      obtain ⟨w, f, s1, s2, s3⟩ := S.at_ i _ d hp rfl
      rw [s2]
      have ew : (L2.start N vs)[i]? = some (some v) := by
        unfold L2.start
        have hiv : i < vs.length := (List.getElem?_eq_some_iff.mp q1).1
        rw [List.getElem?_append_left (by simpa using hiv), List.getElem?_map, q1]; rfl
      rw [es, ew] at s1
      cases s1
      exact s3
  · have e : fps'.flatten = (fps'.take ds.length).flatten ++ (fps'.drop ds.length).flatten := by rw [← List.flatten_append, List.take_append_drop]
    rw [e]; exact List.sublist_append_left _ _
theorem fn_sv {n : Nat} {N : List Str} {body : SemS} {vs : List V} {k : Nat} {Q : VK} {E : XK} (hN : N.length = n) (hk : k ≤ n) (h : spV K k (fnOf n body) vs H Q E) : sv K (wOf K E) body { nx := fun _ H' => Q .non H', rt := Q } (L2.start N vs) H := by
  obtain ⟨lk, F, ds, fps, hs, o, nd, zo, h⟩ := h
  have hn : vs.length ≤ n := by omega
  have hfl : (fps ++ List.replicate (n - ds.length) ([] : List Addr)).flatten = fps.flatten := by simp
  refine ⟨entry n ds, F, _, o.sim hN hn hs nd zo, ?_⟩
  rw [hfl]
  unfold fnOf at h
  cases e : body (entry n ds) with
  | next ρ' =>
    rw [e] at h
    intro σ' F' H' fps' ev S p
    obtain ⟨f2, o2, sb⟩ := fn_end hn o ev S p
    have hz : ∀ b ∈ f2.flatten, b ∈ fps'.flatten := fun b hb => sb.subset hb
    exact h .non F' H' f2 [] ⟨ev.fr, ev.keep, ev.dom, ev.new, fun b hb => ev.zone b (hz b hb)⟩ S.same o2 (sb.nodup S.nd) (own_scal rfl) List.nodup_nil fun b hb => by cases hb
  | ret d ρ' =>
    rw [e] at h
    intro r σ' F' H' fps' fr ev S p od nr kr
    obtain ⟨f2, o2, sb⟩ := fn_end hn o ev S p
    have hz : ∀ b ∈ f2.flatten, b ∈ fps'.flatten := fun b hb => sb.subset hb
    exact h r F' H' f2 fr ⟨ev.fr, ev.keep, ev.dom, ev.new, fun b hb => ev.zone b (hz b hb)⟩ S.same o2 (sb.nodup S.nd) od nr fun b hb => ⟨fun z => (kr b hb).1 (hz b z), (kr b hb).2⟩
  | brk _ => rw [e] at h; exact h.elim
  | cont _ => rw [e] at h; exact h.elim
  | exc c ρ' =>
    rw [e] at h
    exact fun σ' F' H' fps' ev S p => h F' H' fps'.flatten ev S.same
  | bad => rw [e] at h; exact h.elim
theorem Args.ice : ∀ (xs : List (D × Bool)) {vs : List V} {fa : List Addr}, Args K F H xs vs fa → ∃ U : List Addr, (∀ b ∈ U, F b = none) ∧ (xs.all keepable = true → ∀ b ∈ U, b ∈ fa) ∧ ∀ U' : List Addr, (∀ b ∈ U, b ∈ U') → (∀ b ∈ U', F b = none) → Owns K (frzH F H U') H (D.frzs (xs.map (·.1))) vs []
  | [], vs, fa, h => by
    unfold Args at h
    refine ⟨[], by simp, by simp, fun U' _ _ => ?_⟩
    rw [h.1]; exact Owns.nil
  | x :: xs, vs, fa, h => by
    unfold Args at h
    obtain ⟨v, r, fp, f2, e, o, n, t, w⟩ := h
    obtain ⟨U, u1, u2, u3⟩ := Args.ice xs t
    refine ⟨fp ++ U, fun b hb => (List.mem_append.mp hb).elim (fun z => (Own.zone x.1 o b z).1) (u1 b), fun hk b hb => ?_, fun U' s1 s2 => ?_⟩
    · rw [List.all_cons, Bool.and_eq_true] at hk
      have k2 := u2 hk.2
      rcases w with ⟨_, w⟩ | ⟨e2, w⟩
      · subst w
        exact (List.mem_append.mp hb).elim (fun z => List.mem_append_left _ z) fun z => List.mem_append_right _ (k2 b z)
      · subst w
        have hc : x.1.calm = true := by have := hk.1; unfold keepable at this; rw [e2] at this; exact this
        rw [Own.fp_nil x.1 hc o] at hb
        exact k2 b hb
    · rw [e, List.map_cons, D.frzs]
      have a := Own.freeze s2 x.1 (fun b hb => s1 b (List.mem_append_left _ hb)) o
      have b := u3 U' (fun b hb => s1 b (List.mem_append_right _ hb)) s2
      exact Owns.cons a b
theorem replicate_nil {ds : List D} {vs : List V} (o : Owns K F H ds vs []) : OwnL K F H ds vs (List.replicate ds.length []) := by
  refine ⟨Owns.length ds o, by simp, fun i d hd => ?_⟩
  obtain ⟨v, f, q1, q2, q3⟩ := Owns.get ds o hd
  have : f = [] := List.sublist_nil.mp q3
  subst this
  exact ⟨v, [], q1, by rw [List.getElem?_replicate, if_pos (List.getElem?_eq_some_iff.mp hd).1], q2⟩
def isScal (d : D) : Bool := (scalD d).isSome
def vCall (fn : Fn) (g : SemA) : SemE := fun ρ => (g ρ).bind fun xs => (fn (D.frzs (xs.map (·.1)))).bind fun y => if xs.all keepable || isScal y.1 then .ok (y.1, true) else .bad
theorem tv_call {fn : Fn} {g : SemA} {n : Nat} {Q : VK} (hl : ∀ ρ xs, g ρ = .ok xs → xs.length = n) (h : tv K (vCall fn g) σ H Q) : tCall (spV K n fn) [] E0 (tvA K g) σ H Q := by
  obtain ⟨ρ, F, fps, S, h⟩ := h
  unfold vCall at h
  refine ⟨ρ, F, fps, S, ?_⟩
  cases eg : g ρ with
  | exc _ => rw [eg] at h; exact h.elim
  | bad => rw [eg] at h; exact h.elim
  | ok xs =>
    rw [eg] at h
    have h := R.holds_bind.mp h
    have h := R.holds_bind.mp (show ((fn (D.frzs (xs.map (·.1)))).bind _).holds _ from h)
    intro vs F1 H1 fa g1 a1 n1 k1
    obtain ⟨U, u1, u2, u3⟩ := Args.ice xs a1
    have o := u3 U (fun b hb => hb) u1
    have len : vs.length = n := by rw [← Args.length xs a1]; exact hl ρ xs eg
    rw [List.append_nil]
    refine ⟨len, frzH F1 H1 U, _, _, frzH_in g1.inn, replicate_nil o, by simp, by simp, R.hx_of (R.holds_mono h fun y hy r F2 H2 fps2 fr ev hs2 o2 nd2 or nr kr => ?_)⟩
    have same : Same H1 H2 := fun b o e => ev.keep b o e (by simp)
    by_cases hk : xs.all keepable = true
    · have hfa := u2 hk
      rw [hk, Bool.true_or, if_pos rfl] at hy
      have gU : Grow F H (frzH F1 H1 U) H1 := g1.frz (fun b hb => k1 b (hfa b hb)) u1
      have g2 : Grow (frzH F1 H1 U) H1 F2 H2 := ⟨ev.fr, same, hs2, fun b o e => (ev.new b o e).elim .inl fun q => q.elim .inr fun q => by simp at q⟩
      refine hy r F2 H2 fr (gU.trans g2) or nr fun _ b hb => ?_
      rcases (kr b hb).2 with q | q
      · simp at q
      · exact g1.all.free q
    · by_cases hsc : isScal y.1 = true
      · rw [hsc, Bool.or_true, if_pos rfl] at hy
        unfold isScal at hsc
        cases es : scalD y.1 with
        | none => rw [es] at hsc; cases hsc
        | some v =>
          obtain ⟨e1, e2⟩ := of_scal es or
          subst e1
          have gS : Grow F1 H1 F1 H2 := ⟨Same.refl _, same, g1.inn.trans same, fun _ _ e => .inl e⟩
          exact EPost.scalG (g1.trans gS) hy es
      · have : (xs.all keepable || isScal y.1) = false := by
          rw [Bool.eq_false_iff]; intro z
          rcases Bool.or_eq_true _ _ ▸ z with z | z
          · exact hk z
          · exact hsc z
        rw [this] at hy; exact hy.elim
def wE (K : FG) (W : XW) (σ : St) : XK := fun v _ H' => ∃ c C, v = .ref C ∧ ClsOf K c C ∧ W c σ H'
def tCallX (sp : Sp) (E : St → XK) (t : TA) : TE := fun σ H Q => t σ H fun vs H1 => sp (vs ++ []) H1 Q (E σ)
def xCall (fn : Fn) (g : SemA) : SemX := fun ρ => match g ρ with
  | .ok xs => (match fn (D.frzs (xs.map (·.1))) with
    | .ok y => if xs.all keepable || isScal y.1 then .ok (y.1, true, ρ) else .bad
    | .exc c => .exc c | .bad => .bad)
  | _ => .bad
theorem tx_call {fn : Fn} {g : SemA} {n : Nat} {Q : VK} (hl : ∀ ρ xs, g ρ = .ok xs → xs.length = n) (h : tx K W (xCall fn g) σ H Q) : tCallX (spV K n fn) (wE K W) (tvA K g) σ H Q := by
  obtain ⟨ρ, F, fps, S, h⟩ := h
  unfold xCall at h
  refine ⟨ρ, F, fps, S, ?_⟩
  cases eg : g ρ with
  | exc _ => rw [eg] at h; exact h.elim
  | bad => rw [eg] at h; exact h.elim
  | ok xs =>
    rw [eg] at h
    dsimp only at h
    intro vs F1 H1 fa g1 a1 n1 k1
    obtain ⟨U, u1, u2, u3⟩ := Args.ice xs a1
    have o := u3 U (fun b hb => hb) u1
    have len : vs.length = n := by rw [← Args.length xs a1]; exact hl ρ xs eg
    rw [List.append_nil]
    refine ⟨len, frzH F1 H1 U, _, _, frzH_in g1.inn, replicate_nil o, by simp, by simp, ?_⟩
    cases ef : fn (D.frzs (xs.map (·.1))) with
    | bad => rw [ef] at h; exact h.elim
    | exc c =>
      rw [ef] at h
      have h : NPost K F H fps.flatten ρ σ (W c) ρ := h
      intro F2 H2 Z2 ev hs2 C hC
      have same : Same H1 H2 := fun b o e => ev.keep b o e (by simp)
      have gS : Grow F1 H1 F1 H2 := ⟨Same.refl _, same, g1.inn.trans same, fun _ _ e => .inl e⟩
      exact ⟨c, C, rfl, hC, h σ F1 H2 fps (g1.trans gS).evo (S.grow (g1.trans gS)) (Pins.refl _ _)⟩
    | ok y =>
      rw [ef] at h
      have h : ((if (xs.all keepable || isScal y.1) = true then R.ok (y.1, true, ρ) else R.bad) : R (D × Bool × Env)).hx (XPost K F H fps.flatten ρ σ Q) (fun c => NPost K F H fps.flatten ρ σ (W c) ρ) := h
      intro r F2 H2 fps2 fr ev hs2 o2 nd2 or nr kr
      have same : Same H1 H2 := fun b o e => ev.keep b o e (by simp)
      by_cases hk : xs.all keepable = true
      · have hfa := u2 hk
        rw [hk, Bool.true_or, if_pos rfl] at h
        have hy : XPost K F H fps.flatten ρ σ Q (y.1, true, ρ) := h
        have gU : Grow F H (frzH F1 H1 U) H1 := g1.frz (fun b hb => k1 b (hfa b hb)) u1
        have g2 : Grow (frzH F1 H1 U) H1 F2 H2 := ⟨ev.fr, same, hs2, fun b o e => (ev.new b o e).elim .inl fun q => q.elim .inr fun q => by simp at q⟩
        have g3 := gU.trans g2
        refine hy r F2 H2 fps fr g3.evo (S.grow g3) (PinE.refl _) or nr fun _ b hb => ?_
        have hn : H b = none := by
          rcases (kr b hb).2 with q | q
          · simp at q
          · exact g1.all.free q
        exact ⟨fun hz => (S.zone b hz).2 hn, .inr hn⟩
      · by_cases hsc : isScal y.1 = true
        · rw [hsc, Bool.or_true, if_pos rfl] at h
          have hy : XPost K F H fps.flatten ρ σ Q (y.1, true, ρ) := h
          unfold isScal at hsc
          cases es : scalD y.1 with
          | none => rw [es] at hsc; cases hsc
          | some v =>
            obtain ⟨e1, e2⟩ := of_scal es or
            subst e1
            have gS : Grow F1 H1 F1 H2 := ⟨Same.refl _, same, g1.inn.trans same, fun _ _ e => .inl e⟩
            exact hy _ F1 H2 fps [] (g1.trans gS).evo (S.grow (g1.trans gS)) (PinE.refl _) (own_scal es) List.nodup_nil fun _ b hb => by cases hb
        · have : (xs.all keepable || isScal y.1) = false := by
            rw [Bool.eq_false_iff]; intro z
            rcases Bool.or_eq_true _ _ ▸ z with z | z
            · exact hk z
            · exact hsc z
          rw [this] at h; exact h.elim
end
end VL
end
section
namespace VL
open PySem L2
section
variable {K : FG} {F H F' H' F1 H1 : Hp} {σ : St} {Q : VK}
def rCatR (K : FG) : R2 := fun x y H Q => ∃ l b xs zs, x = .ref l ∧ y = .ref b ∧ Rd H l (.lst xs) ∧ Rd H b (.lst zs) ∧ xs.length + zs.length ≤ sizeLine ∧ ∀ p, H p = none → Q (.ref p) (upd H p (.lst (xs ++ zs)))
def kCat : D × Bool → D × Bool → R (D × Bool) := fun x y => match x.1, y.1 with
  | .lst _ ds, .lst _ es => if D.calms ds && D.calms es && decide (ds.length + es.length ≤ 1000000) then .ok (.lst true (ds ++ es), true) else .bad
  | _, _ => .bad
theorem EPost.newL {F0 H0 : Hp} {ds : List D} {xs : List V} {p : Addr} (g : Grow F0 H0 F H) (h : EPost K F0 H0 Q (.lst true ds, true)) (hp : H p = none) (o : Owns K F H ds xs []) : Q (.ref p) (upd H p (.lst xs)) :=
  h (.ref p) F _ [p] (g.trans (Grow.one g.inn hp)) (own_new g.inn hp o) (by simp) fun _ b hb => by
    have : b = p := by simpa using hb
    subst this; exact g.all.free hp
theorem EPost.newT {F0 H0 : Hp} {ds : List D} {xs : List V} {p : Addr} {b : Bool} (g : Grow F0 H0 F H) (h : EPost K F0 H0 Q (.tup ds, b)) (hp : H p = none) (o : Owns K F H ds xs []) : Q (.ref p) (upd H p (.tup xs)) := by
  have g2 : Grow F H (upd F p (.tup xs)) (upd H p (.tup xs)) := Grow.both g.inn hp
  refine h (.ref p) _ _ [] (g.trans g2) ?_ List.nodup_nil fun _ b hb => by cases hb
  unfold Own
  exact ⟨rfl, p, xs, rfl, SqT.of upd_same, o.grow g2⟩
theorem op2_cat : Op2 K kCat (rCatR K) := by
  intro F0 H0 F H x y v u fx fy Q gr o1 n1 k1 o2 n2 k2 h
  obtain ⟨x, bx⟩ := x
  obtain ⟨y, by'⟩ := y
  cases x <;> try exact h.elim
  cases y <;> try exact h.elim
  rename_i o ds o' es
  have h : (if (D.calms ds && D.calms es && decide (ds.length + es.length ≤ 1000000)) = true then R.ok (D.lst true (ds ++ es), true) else R.bad).holds (EPost K F0 H0 Q) := h
  by_cases hc : (D.calms ds && D.calms es && decide (ds.length + es.length ≤ 1000000)) = true
  · rw [if_pos hc] at h
    simp only [Bool.and_eq_true, decide_eq_true_iff] at hc
    obtain ⟨a, xs, fq, e1, q1, r1, _⟩ := Own.lstR gr.inn o1
    obtain ⟨b, zs, fr, e2, q2, r2, _⟩ := Own.lstR gr.inn o2
    have := Owns.fp_nil ds hc.1.1 r1
    subst this
    have := Owns.fp_nil es hc.1.2 r2
    subst this
    refine ⟨a, b, xs, zs, e1, e2, q1, q2, ?_, fun p hp => EPost.newL gr h hp (Owns.append ds r1 r2)⟩
    rw [← Owns.length ds r1, ← Owns.length es r2]; exact size_ok hc.2
  · rw [if_neg hc] at h; exact h.elim
def kCatT : D × Bool → D × Bool → R (D × Bool) := fun x y => match x.1, y.1 with
  | .tup (d :: ds), .tup es => if decide (ds.length + 1 + es.length ≤ 1000000) then .ok (.tup (d :: ds ++ es), true) else .bad
  | _, _ => .bad
theorem op2_catT : Op2 K kCatT (rCatT K) := by
  intro F0 H0 F H x y v u fx fy Q gr o1 n1 k1 o2 n2 k2 h
  obtain ⟨x, bx⟩ := x
  obtain ⟨y, by'⟩ := y
  cases x <;> try exact h.elim
  rename_i ds
  cases ds with
  | nil => exact h.elim
  | cons d ds =>
    cases y <;> try exact h.elim
    rename_i es
    have h : (if decide (ds.length + 1 + es.length ≤ 1000000) = true then R.ok (D.tup (d :: ds ++ es), true) else R.bad).holds (EPost K F0 H0 Q) := h
    by_cases hc : decide (ds.length + 1 + es.length ≤ 1000000) = true
    · rw [if_pos hc] at h
      rw [decide_eq_true_iff] at hc
      obtain ⟨a, xs, e1, q1, r1, _⟩ := Own.tup gr.inn o1
      obtain ⟨b, zs, e2, q2, r2, _⟩ := Own.tup gr.inn o2
      have l1 := Owns.length _ r1
      have l2 := Owns.length _ r2
      refine ⟨a, b, xs, zs, e1, e2, q1, q2, fun z => by rw [z] at l1; simp at l1, ?_, fun z => ?_, fun _ p hp => EPost.newT gr h hp (Owns.append _ r1 r2)⟩
      · rw [← l1, ← l2]; exact size_ok (by simpa using hc)
      · have : es = [] := by rw [z] at l2; exact List.length_eq_zero_iff.mp l2
        subst this
        have h : EPost K F0 H0 Q (D.tup (d :: ds ++ []), true) := h
        rw [List.append_nil] at h
        refine e1 ▸ h v F H [] gr ?_ List.nodup_nil fun _ b hb => by cases hb
        obtain ⟨_, _, _, _, _, ef⟩ := Own.tup gr.inn o1
        rw [ef] at o1; exact o1
    · rw [if_neg hc] at h; exact h.elim
theorem Owns.rep {ds : List D} {xs : List V} (o : Owns K F H ds xs []) : ∀ k : Nat, Owns K F H (List.replicate k ds).flatten (List.replicate k xs).flatten []
  | 0 => Owns.nil
  | k + 1 => by
    rw [List.replicate_succ, List.replicate_succ, List.flatten_cons, List.flatten_cons]
    exact Owns.append ds o (Owns.rep o k)
def cutD (xs : List D) (lo hi : Option Int) : List D := (xs.drop (HT.sIx xs.length 0 lo)).take (HT.sIx xs.length xs.length hi - HT.sIx xs.length 0 lo)
abbrev SemO := Env → R (Option Int)
def OPost (F H : Hp) (Q : Option Int → Hp → Prop) (x : Option Int) : Prop := ∀ F' H', Grow F H F' H' → Q x H'
def tvO (K : FG) (f : SemO) : TO := fun σ H Q => ∃ ρ F fps, Sim K F H σ ρ fps ∧ (f ρ).holds (OPost F H Q)
def oNone : SemO := fun _ => .ok none
def oInt (f : SemE) : SemO := fun ρ => (f ρ).bind fun x => match x.1 with | .int i => .ok (some i) | _ => .bad
theorem tvO_none {Q : Option Int → Hp → Prop} (h : tvO K oNone σ H Q) : tNoPart σ H Q := by
  obtain ⟨ρ, F, fps, S, h⟩ := h
  exact h F H (Grow.refl S.same)
theorem tvO_int {f : SemE} {Q : Option Int → Hp → Prop} (h : tvO K (oInt f) σ H Q) : tPart (tv K f) σ H Q := by
  obtain ⟨ρ, F, fps, S, h⟩ := h
  refine ⟨ρ, F, fps, S, R.holds_mono (R.holds_bind.mp h) fun x hx v F1 H1 fx g1 o1 n1 k1 => ?_⟩
  obtain ⟨x, b⟩ := x
  cases x <;> try exact hx.elim
  rename_i i
  unfold Own at o1
  exact ⟨i, o1.1, hx F1 H1 g1⟩
def kSl (x : D × Bool) (lo hi : Option Int) : R (D × Bool) := match x.1 with
  | .lst _ ds => if D.calms ds then .ok (.lst true (cutD ds lo hi), true) else .bad
  | _ => .bad
def vSl (f : SemE) (lo hi : SemO) : SemE := fun ρ => (f ρ).bind fun x => (lo ρ).bind fun l => (hi ρ).bind fun u => kSl x l u
theorem Owns.cut {ds : List D} {xs : List V} (o : Owns K F H ds xs []) (lo hi : Option Int) : Owns K F H (cutD ds lo hi) (cutV xs lo hi) [] := by
  have hl := Owns.length ds o
  unfold cutD cutV
  rw [hl]
  refine Owns.of_get _ (by simp [hl]) fun i d v e1 e2 => ?_
  rw [List.getElem?_take] at e1 e2
  split at e1
  · rename_i h
    rw [if_pos h] at e2
    rw [List.getElem?_drop] at e1 e2
    exact Owns.get0 o e1 e2
  · cases e1
theorem tv_sl {f : SemE} {lo hi : SemO} (h : tv K (vSl f lo hi) σ H Q) : tSl (rSlL K) (tv K f) (tvO K lo) (tvO K hi) σ H Q := by
  obtain ⟨ρ, F, fps, S, h⟩ := h
  refine ⟨ρ, F, fps, S, R.holds_mono (R.holds_bind.mp h) fun x hx v F1 H1 fx g1 o1 n1 k1 => ?_⟩
  refine ⟨ρ, F1, fps, S.grow g1, R.holds_mono (R.holds_bind.mp hx) fun l hl F2 H2 g2 => ?_⟩
  refine ⟨ρ, F2, fps, (S.grow g1).grow g2, R.holds_mono (R.holds_bind.mp hl) fun u hu F3 H3 g3 => ?_⟩
  obtain ⟨x, b⟩ := x
  cases x <;> try exact hu.elim
  rename_i o ds
  have hu : (if D.calms ds = true then R.ok (D.lst true (cutD ds l u), true) else R.bad).holds (EPost K F H Q) := hu
  by_cases hc : D.calms ds = true
  · rw [if_pos hc] at hu
    have g := (g1.trans g2).trans g3
    obtain ⟨a, xs, fq, e1, q1, r1, _⟩ := Own.lst g.inn (o1.grow (g2.trans g3))
    have := Owns.fp_nil ds hc r1
    subst this
    exact ⟨a, xs, e1, q1, fun p hp => EPost.newL g hu hp (Owns.cut r1 l u)⟩
  · rw [if_neg hc] at hu; exact hu.elim
def isNon : D → Bool
  | .non => true | _ => false
def kIsN (neg : Bool) : D × Bool → D × Bool → R (D × Bool) := fun x y => match y.1 with
  | .non => .ok (.bl (if neg then !isNon x.1 else isNon x.1), true) | _ => .bad
theorem isNon_of {d : D} {v : V} {fp : List Addr} (o : Own K F H d v fp) : decide (v = .non) = isNon d := by
  cases d <;> unfold Own at o
  · rw [o.1]; rfl
  · rw [o.1]; rfl
  · rw [o.1]; rfl
  · rw [o.1]; rfl
  · obtain ⟨_, a, xs, e, _⟩ := o; rw [e]; rfl
  · obtain ⟨a, xs, fq, e, _⟩ := o; rw [e]; rfl
  · obtain ⟨a, u, e, _⟩ := o; rw [e]; rfl
theorem op2_isN : Op2 K (kIsN false) (fun x y H Q => y = .non ∧ Q (.bl (decide (x = .non))) H) := by
  intro F0 H0 F H x y v u fx fy Q gr o1 n1 k1 o2 n2 k2 h
  obtain ⟨y, by'⟩ := y
  cases y <;> try exact h.elim
  unfold Own at o2
  rw [isNon_of o1]
  exact ⟨o2.1, EPost.scalG gr h rfl⟩
theorem op2_notN : Op2 K (kIsN true) (fun x y H Q => y = .non ∧ Q (.bl (!decide (x = .non))) H) := by
  intro F0 H0 F H x y v u fx fy Q gr o1 n1 k1 o2 n2 k2 h
  obtain ⟨y, by'⟩ := y
  cases y <;> try exact h.elim
  unfold Own at o2
  rw [isNon_of o1]
  exact ⟨o2.1, EPost.scalG gr h rfl⟩
def kLen : List (D × Bool) → R (D × Bool)
  | [(.lst _ ds, _)] => .ok (.int ds.length, true) | [(.tup ds, _)] => .ok (.int ds.length, true) | _ => .bad
theorem opA_len : OpA K kLen (fun xs H Q => ∃ p ys, xs = [.ref p] ∧ (SqL K H p ys ∨ SqT K H p ys) ∧ Q (.int ys.length) H) := by
  intro F0 H0 F H xs vs fa Q gr a n k h
  match xs, h, a with
  | [(.lst o ds, b)], h, a =>
    unfold Args at a
    obtain ⟨v, r, fp, f2, e, o1, n1, t, w⟩ := a
    unfold Args at t
    obtain ⟨p, ys, fq, e1, q1, r1, _⟩ := Own.lst gr.inn o1
    refine ⟨p, ys, by rw [e, t.1, e1], .inl q1, ?_⟩
    rw [← Owns.length ds r1]; exact EPost.scalG gr h rfl
  | [(.tup ds, b)], h, a =>
    unfold Args at a
    obtain ⟨v, r, fp, f2, e, o1, n1, t, w⟩ := a
    unfold Args at t
    obtain ⟨p, ys, e1, q1, r1, _⟩ := Own.tup gr.inn o1
    refine ⟨p, ys, by rw [e, t.1, e1], .inr q1, ?_⟩
    rw [← Owns.length ds r1]; exact EPost.scalG gr h rfl
def kList : List (D × Bool) → R (D × Bool)
  | [(.lst _ ds, _)] => if D.calms ds then .ok (.lst true ds, true) else .bad | [(.tup ds, _)] => .ok (.lst true ds, true) | _ => .bad
theorem opA_list : OpA K kList (fun xs H Q => ∃ p ys, xs = [.ref p] ∧ (SqL K H p ys ∨ SqT K H p ys) ∧ ∀ l, H l = none → Q (.ref l) (upd H l (.lst ys))) := by
  intro F0 H0 F H xs vs fa Q gr a n k h
  match xs, h, a with
  | [(.lst o ds, b)], h, a =>
    unfold Args at a
    obtain ⟨v, r, fp, f2, e, o1, n1, t, w⟩ := a
    unfold Args at t
    obtain ⟨p, ys, fq, e1, q1, r1, _⟩ := Own.lst gr.inn o1
    have h : (if D.calms ds = true then R.ok (D.lst true ds, true) else R.bad).holds (EPost K F0 H0 Q) := h
    by_cases hc : D.calms ds = true
    · rw [if_pos hc] at h
      have := Owns.fp_nil ds hc r1
      subst this
      exact ⟨p, ys, by rw [e, t.1, e1], .inl q1, fun l hl => EPost.newL gr h hl r1⟩
    · rw [if_neg hc] at h; exact h.elim
  | [(.tup ds, b)], h, a =>
    unfold Args at a
    obtain ⟨v, r, fp, f2, e, o1, n1, t, w⟩ := a
    unfold Args at t
    obtain ⟨p, ys, e1, q1, r1, _⟩ := Own.tup gr.inn o1
    exact ⟨p, ys, by rw [e, t.1, e1], .inr q1, fun l hl => EPost.newL gr h hl r1⟩
def kTuple : List (D × Bool) → R (D × Bool)
  | [(.lst _ ds, _)] => if D.calms ds then .ok (.tup ds, true) else .bad | [(.tup ds, _)] => .ok (.tup ds, true) | _ => .bad
theorem opA_tuple : OpA K kTuple (fun xs H Q => ∃ p ys, xs = [.ref p] ∧ ((SqL K H p ys ∧ ∀ l, H l = none → Q (.ref l) (upd H l (.tup ys))) ∨ (SqT K H p ys ∧ Q (.ref p) H))) := by
  intro F0 H0 F H xs vs fa Q gr a n k h
  match xs, h, a with
  | [(.lst o ds, b)], h, a =>
    unfold Args at a
    obtain ⟨v, r, fp, f2, e, o1, n1, t, w⟩ := a
    unfold Args at t
    obtain ⟨p, ys, fq, e1, q1, r1, _⟩ := Own.lst gr.inn o1
    have h : (if D.calms ds = true then R.ok (D.tup ds, true) else R.bad).holds (EPost K F0 H0 Q) := h
    by_cases hc : D.calms ds = true
    · rw [if_pos hc] at h
      have := Owns.fp_nil ds hc r1
      subst this
      exact ⟨p, ys, by rw [e, t.1, e1], .inl ⟨q1, fun l hl => EPost.newT gr h hl r1⟩⟩
    · rw [if_neg hc] at h; exact h.elim
  | [(.tup ds, b)], h, a =>
    unfold Args at a
    obtain ⟨v, r, fp, f2, e, o1, n1, t, w⟩ := a
    unfold Args at t
    obtain ⟨p, ys, e1, q1, r1, ef⟩ := Own.tup gr.inn o1
    subst ef
    refine ⟨p, ys, by rw [e, t.1, e1], .inr ⟨q1, ?_⟩⟩
    rw [← e1]
    exact h v F H [] gr o1 List.nodup_nil fun _ b hb => by cases hb
def truD : D → Bool
  | .non => false | .bl b => b | .int i => i != 0 | .str _ => false | .tup ds => !ds.isEmpty | .lst _ ds => !ds.isEmpty | .ext _ _ => false
def truOk : D → Bool
  | .str _ => false | .ext _ _ => false | _ => true
def tTru (f : SemE) : SemT := fun ρ => (f ρ).bind fun x => if truOk x.1 then .ok (truD x.1) else .bad
theorem Owns.empty {ds : List D} {xs : List V} {fp : List Addr} (o : Owns K F H ds xs fp) : ds.isEmpty = xs.isEmpty := by
  have := Owns.length ds o
  cases ds <;> cases xs <;> simp at this ⊢
theorem tvT_tru {f : SemE} {Q : Bool → Hp → Prop} (h : tvT K (tTru f) σ H Q) : tv K f σ H fun x H' => ∃ k, TruV K x H' k ∧ Q k H' := by
  obtain ⟨ρ, F, fps, S, h⟩ := h
  refine ⟨ρ, F, fps, S, R.holds_mono (R.holds_bind.mp h) fun x hx v F1 H1 fx g1 o1 n1 k1 => ?_⟩
  obtain ⟨x, b⟩ := x
  cases x with
  | str z => exact hx.elim
  | ext _ _ => exact hx.elim
  | non => unfold Own at o1; rw [o1.1]; exact ⟨false, rfl, hx F1 H1 g1⟩
  | bl b => unfold Own at o1; rw [o1.1]; exact ⟨b, rfl, hx F1 H1 g1⟩
  | int i => unfold Own at o1; rw [o1.1]; exact ⟨_, rfl, hx F1 H1 g1⟩
  | tup ds =>
    obtain ⟨a, xs, e1, q1, r1, _⟩ := Own.tup g1.inn o1
    rw [e1]
    exact ⟨!ds.isEmpty, .inr (.inl ⟨xs, q1, by rw [Owns.empty r1]⟩), hx F1 H1 g1⟩
  | lst o ds =>
    obtain ⟨a, xs, fq, e1, q1, r1, _⟩ := Own.lst g1.inn o1
    rw [e1]
    exact ⟨!ds.isEmpty, .inl ⟨xs, q1, by rw [Owns.empty r1]⟩, hx F1 H1 g1⟩
def vChain (p q : Int → Int → Bool) (f g h : SemE) : SemE := fun ρ => (f ρ).bind fun x => (g ρ).bind fun y => match x.1, y.1 with
  | .int i, .int j => if p i j then (h ρ).bind fun z => (match z.1 with | .int k => .ok (.bl (q j k), true) | _ => .bad) else .ok (.bl false, true)
  | _, _ => .bad
theorem tv_chain {p q : Int → Int → Bool} {f g h : SemE} (hh : tv K (vChain p q f g h) σ H Q) : tChain (rI0 fun i j => .bl (p i j)) (rI0 fun i j => .bl (q i j)) (tv K f) (tv K g) (tv K h) σ H Q := by
  obtain ⟨ρ, F, fps, S, hh⟩ := hh
  refine ⟨ρ, F, fps, S, R.holds_mono (R.holds_bind.mp hh) fun x hx v F1 H1 fx g1 o1 n1 k1 => ?_⟩
  refine ⟨ρ, F1, fps, S.grow g1, R.holds_mono (R.holds_bind.mp hx) fun y hy u F2 H2 fy g2 o2 n2 k2 => ?_⟩
  obtain ⟨x, bx⟩ := x
  obtain ⟨y, by'⟩ := y
  cases x <;> try exact hy.elim
  cases y <;> try exact hy.elim
  rename_i i j
  unfold Own at o1 o2
  refine ⟨i, j, o1.1, o2.1, p i j, rfl, ?_⟩
  have hy : (if p i j = true then (h ρ).bind fun z => (match z.1 with | .int k => R.ok (D.bl (q j k), true) | _ => .bad) else .ok (.bl false, true)).holds (EPost K F H Q) := hy
  by_cases hc : p i j = true
  · rw [if_pos hc] at hy ⊢
    refine ⟨ρ, F2, fps, (S.grow g1).grow g2, R.holds_mono (R.holds_bind.mp hy) fun z hz w F3 H3 fz g3 o3 n3 k3 => ?_⟩
    obtain ⟨z, bz⟩ := z
    cases z <;> try exact hz.elim
    rename_i k
    unfold Own at o3
    exact ⟨j, k, o2.1, o3.1, EPost.scalG ((g1.trans g2).trans g3) hz rfl⟩
  · rw [if_neg hc] at hy ⊢
    exact EPost.scalG (g1.trans g2) hy rfl
end
end VL
end
section
namespace VL
open PySem PySem.Spec PyProof.Rows L2
def CX1 (P : Program) (w : World) : CXT := fun outer H s E v s' => ∃ e C H' B a0, v = .ref e ∧ s'.os = s.os ∧ AllBare s'.gens ∧ Un (frs outer) [] H H' s.heap s'.heap ∧ HOk P w H' s'.heap ∧ Heap.FlyingW B outer e (.ref C) a0 s'.heap ∧
  (∀ b o, s.heap.get? b = some o → b ∉ frs outer → ∃ o', B.get? b = some o') ∧ (∀ b u, H' b = some u → ∃ o', B.get? b = some o') ∧ E (.ref C) none H'
section
variable {P : Program} {w : World} {H H' : Hp} {h h0 h1 h2 B : Heap} {fs : List Addr}
theorem ObjOk.there {a : Addr} {o : HO} (x : ObjOk P w H h a o) : ∃ ob, h.get? a = some ob := by
  cases o with
  | lst xs => obtain ⟨_, _, _, _, e⟩ := x; exact ⟨_, e⟩
  | tup xs => obtain ⟨_, _, _, o, e, _⟩ := x; exact ⟨_, e⟩
  | dK kvs => obtain ⟨_, _, _, _, o, _, _, e, _⟩ := x; exact ⟨_, e⟩
  | dT kvs => obtain ⟨_, _, _, _, o, _, _, e, _⟩ := x; exact ⟨_, e⟩
  | set S n => obtain ⟨o, _, _, _, e, _⟩ := x; exact ⟨_, e⟩
  | ins C dx fs => obtain ⟨_, _, _, e, _⟩ := x; exact ⟨_, e⟩
  | own y => obtain ⟨_, e⟩ := x; exact ⟨_, e⟩
  | xd fs => obtain ⟨_, ⟨_, _, _, e, _⟩, _⟩ := x; exact ⟨_, e⟩
  | rng lo hi => obtain ⟨_, _, _, e⟩ := x; exact ⟨_, e⟩
  | frz ob u => obtain ⟨e, _⟩ := x; exact ⟨_, e⟩
  | tbl ps => exact ⟨_, (show h.get? a = some _ from x)⟩
  | met f y => exact ⟨_, (show h.get? a = some _ from x)⟩
  | ext φ => obtain ⟨_, ⟨_, e⟩, _⟩ := x; exact ⟨_, e⟩
theorem fly_un (U : Un fs [] H H' h0 h1) (hok : HOk P w H' h1) (hS : B.StaysIn h1) (hT : B.StaysIn h2) (hin : ∀ b o, h0.get? b = some o → b ∉ fs → ∃ o', B.get? b = some o') (trk : ∀ b u, H' b = some u → ∃ o', B.get? b = some o')
    (up : h1.UpToSlots h2) (fr : ∀ b o, h0.get? b = some o → b ∈ fs → H b = none ∧ ∀ vs, o.data ≠ .fields vs) : Un fs [] H H' h0 h2 ∧ HOk P w H' h2 := by
  have inn : ∀ b o, (∃ o', B.get? b = some o') → h1.get? b = some o → h2.get? b = some o := fun b o ⟨o', q⟩ e => by
    have z := hS b o' q
    rw [e] at z; cases z
    exact hT b _ q
  have sl : ∀ b o, h0.get? b = some o → H b = none → b ∈ fs → ∃ sl, h2.get? b = some { o with slots := sl } := fun b o e n hb => by
    obtain ⟨sl, q⟩ := U.slot b o e n hb (by simp)
    obtain ⟨sl', q'⟩ := up b _ q (fr b o e hb).2
    exact ⟨sl', q'⟩
  refine ⟨⟨fun b o e n hb hx => inn b o (hin b o e hb) (U.keep b o e n hb hx), fun b o e n hb _ => sl b o e n hb, U.free, fun b o e hx => ?_, U.tups, U.frzs, U.tbls⟩, fun a o e => ?_⟩
  · by_cases hb : b ∈ fs
    · obtain ⟨s', q⟩ := sl b o e (fr b o e hb).1 hb
      exact ⟨_, q⟩
    · obtain ⟨o', q⟩ := hin b o e hb
      exact ⟨o', hT b o' q⟩
  · refine (hok a o e).stay (fun b u hb q => inn b u ?_ q) (fun _ q => q) fun _ _ q => q
    rcases hb with rfl | hb
    · exact trk _ _ e
    · exact trk _ _ hb
end
section
variable {X : Cx} {pins : List (Addr × Obj)} {σ : L2.St} {H H' : Hp} {s s' : Shared} {W : XW}
theorem stk_fr (I : L2.Inv X pins σ H s) : ∀ b o, s.heap.get? b = some o → b ∈ frs X.stack → H b = none ∧ ∀ vs, o.data ≠ .fields vs := fun b o e hb => by
  obtain ⟨_, o', e', d⟩ := I.stack.mem hb
  rw [e] at e'; cases e'
  exact ⟨I.stkFree b hb, d⟩
theorem s0_fr (I : L2.Inv X pins σ H s) : ∀ b o, X.s₀.heap.get? b = some o → b ∈ X.fs → X.H₀ b = none ∧ ∀ vs, o.data ≠ .fields vs := fun b o e hb => by
  obtain ⟨_, o', e', d⟩ := I.ok.funs.mem hb
  rw [e] at e'; cases e'
  exact ⟨I.ok.frf b hb, d⟩
theorem nostk (I : L2.Inv X pins σ H s) {b : Addr} {o : Obj} (e : X.s₀.heap.get? b = some o) (hb : b ∉ X.fs) : b ∉ frs X.stack := fun z => by
  rcases List.mem_cons.mp (I.stkSub b z) with z | z
  · exact absurd (Nat.lt_of_lt_of_le (Heap.lt_size e) I.ok.above) (by rw [z]; exact Nat.lt_irrefl _)
  · exact hb z
structure Lk (X : Cx) (W : XW) : Prop where
  call : ∀ (pins : List (Addr × Obj)) (σ : L2.St) (H : Hp) (s : Shared) (v : Value) (s' : Shared), L2.Inv X pins σ H s → CX1 X.prog X.w X.stack H s (wE X.K W σ) v s' → X.xe v s'
  own : PassesOwn (model X.prog X.w) X.A X.env X.xe
structure LkF (X : Cx) (W : XW) : Prop where
  fresh : ∀ (pins : List (Addr × Obj)) (σ : L2.St) (H : Hp) (s : Shared) (h' : Heap) (e C : Addr) (c : Str) (args : List Value), L2.Inv X pins σ H s → ClsOf X.K c C → Heap.MadeExcOf s.heap h' e (.ref C) args → W c σ H → X.xe (.ref e) { s with heap := h' }
end
section
variable {P : Program} {w : World} {K : FG} {mg : Str → Option Value} {base : Heap} {N : List Str} {qual : Str} {scope : Scope} {f : Addr} {cd : Value} {A : Around} {outer : List PySem.Env} {s0 : Shared} {H0 : Hp} {E : XK}
theorem lkf_fn : LkF (cxOf (CX1 P w) P w K mg base N qual scope f cd A outer s0 H0 E) (wOf K E) := by
  refine ⟨fun pins σ H s h' e C c args I hC hx hW => ?_⟩
  have hin : ∀ env ∈ (cxOf (CX1 P w) P w K mg base N qual scope f cd A outer s0 H0 E).stack, ∀ b, env.frame = some b → b ∈ frs (cxOf (CX1 P w) P w K mg base N qual scope f cd A outer s0 H0 E).stack := fun env he b hb => List.mem_filterMap.mpr ⟨env, he, hb⟩
  show wpAny _ _ (leaving _ (.ref e)) _ _ _
  refine wpAny_leaves_madeW (base := PySem.W.hideAll s.heap (frs (cxOf (CX1 P w) P w K mg base N qual scope f cd A outer s0 H0 E).stack)) (h := s.heap) (L := s0.heap.objs.size) I.ok.frames rfl (fun b o q => PySem.W.of_hideAll _ q) (PySem.W.funFrames_hide I.stack hin) hx fun h2 t x1 x2 x3 x4 => ?_
  have up : s.heap.UpToSlots h2 := (Heap.UpToSlots.of_keeps hx.keeps).trans x4
  have hin2 : ∀ b o, s0.heap.get? b = some o → b ∉ frs outer → ∃ o', (PySem.W.hideAll s.heap (frs (cxOf (CX1 P w) P w K mg base N qual scope f cd A outer s0 H0 E).stack)).get? b = some o' := fun b o q n => by
    obtain ⟨o', e'⟩ := I.base.there b o q (by intro z; exact absurd (show b ∈ ([] : List Addr) from z) (by simp))
    exact ⟨o', PySem.W.hideAll_get _ e' (nostk I q n)⟩
  have trk : ∀ b u, H b = some u → ∃ o', (PySem.W.hideAll s.heap (frs (cxOf (CX1 P w) P w K mg base N qual scope f cd A outer s0 H0 E).stack)).get? b = some o' := fun b u q => by
    obtain ⟨ob, e'⟩ := ObjOk.there (I.hok b u q)
    exact ⟨ob, PySem.W.hideAll_get _ e' fun z => by rw [I.stkFree b z] at q; cases q⟩
  obtain ⟨u, ok⟩ := fly_un (fs := frs outer) (H := H0) (h0 := s0.heap) I.base I.hok (fun b o q => PySem.W.of_hideAll _ q) x1.1 hin2 trk up (s0_fr I)
  exact ⟨e, C, H, _, _, rfl, I.os, I.bare, u, ok, x1, hin2, trk, hW C hC⟩
theorem lk_fn : Lk (cxOf (CX1 P w) P w K mg base N qual scope f cd A outer s0 H0 E) (wOf K E) := by
  refine ⟨fun pins σ H s v s' I h => ?_, PassesOwn.leaving⟩
  obtain ⟨e, C, H', B, a0, rfl, os, bare, un, hok, fl, inB, trk, hE⟩ := h
  obtain ⟨c, C', eC, hC, hW⟩ := hE
  cases eC
  have I' : L2.Inv (cxOf (CX1 P w) P w K mg base N qual scope f cd A outer s0 H0 E) pins σ H' s' := I.call' (ch := []) os un hok bare (fun b z => absurd z (by simp))
  show wpAny _ _ (leaving _ (.ref e)) _ _ _
  refine wpAny_leaves_onW (L := s0.heap.objs.size) I.ok.frames rfl fl fun h2 x1 x2 => ?_
  have hin2 : ∀ b o, s0.heap.get? b = some o → b ∉ frs outer → ∃ o', B.get? b = some o' := fun b o q n => by
    obtain ⟨o', e'⟩ := I.base.there b o q (by intro z; exact absurd (show b ∈ ([] : List Addr) from z) (by simp))
    exact inB b o' e' (nostk I q n)
  obtain ⟨u, ok⟩ := fly_un (fs := frs outer) (H := H0) (h0 := s0.heap) I'.base I'.hok fl.1 x1.1 hin2 trk x2 (s0_fr I)
  exact ⟨e, C, H', B, a0, rfl, I'.os, bare, u, ok, x1, hin2, trk, hW C hC⟩
end
end VL
end
section
namespace VL
open PySem PySem.Spec PyProof.Rows L2
abbrev SE (X : Cx) (e : Expr) (f : SemE) : Prop := PE X e (tv X.K f)
abbrev ST (X : Cx) (e : Expr) (f : SemT) : Prop := PT X e (tvT X.K f)
abbrev SW (X : Cx) (e : Expr) (f : SemT) : Prop := PW X e (tvT X.K f)
abbrev SA (X : Cx) (es : List Expr) (f : SemA) : Prop := PA X es (tvA X.K f)
abbrev SO (X : Cx) (e : Option Expr) (f : SemO) : Prop := PO X e (tvO X.K f)
abbrev SI (X : Cx) (tg it : Expr) (f : SemI) : Prop := PI X tg it (iv X.K f)
abbrev SX (X : Cx) (W : XW) (e : Expr) (f : SemX) : Prop := PE X e (tx X.K W f)
abbrev SS (X : Cx) (W : XW) (st : Stmt) (g : SemS) : Prop := PS X st (sv X.K W g)
abbrev SSs (X : Cx) (W : XW) (st : List Stmt) (g : SemS) : Prop := PSs X st (sv X.K W g)
section
variable {X : Cx} {W : XW} {e a b c : Expr} {es : List Expr} {st : Stmt} {sts : List Stmt} {pos : Pos}
theorem _root_.L2.PE.imp {t t' : TE} (h : PE X e t) (k : ∀ σ H Q, t' σ H Q → t σ H Q) : PE X e t' := fun pins s σ H Q I q => h pins s σ H Q I (k σ H Q q)
theorem _root_.L2.PT.imp {t t' : TT} (h : PT X e t) (k : ∀ σ H Q, t' σ H Q → t σ H Q) : PT X e t' := fun pins s σ H Q I q => h pins s σ H Q I (k σ H Q q)
theorem _root_.L2.PW.imp {t t' : TT} (h : PW X e t) (k : ∀ σ H Q, t' σ H Q → t σ H Q) : PW X e t' := fun w pins s σ H Q I q => h w pins s σ H Q I (k σ H Q q)
theorem _root_.L2.PA.imp {t t' : TA} (h : PA X es t) (k : ∀ σ H Q, t' σ H Q → t σ H Q) : PA X es t' := fun p pins s σ H Q I q => h p pins s σ H Q I (k σ H Q q)
theorem _root_.L2.PO.imp {o : Option Expr} {t t' : TO} (h : PO X o t) (k : ∀ σ H Q, t' σ H Q → t σ H Q) : PO X o t' := fun pins s σ H Q I q => h pins s σ H Q I (k σ H Q q)
theorem _root_.L2.PI.imp {tg it : Expr} {t t' : TI} (h : PI X tg it t) (k : ∀ σ H Q, t' σ H Q → t σ H Q) : PI X tg it t' := fun pins s σ H Q I q => h pins s σ H Q I (k σ H Q q)
theorem _root_.L2.PS.imp {t t' : TS} (h : PS X st t) (k : ∀ D σ H, t' D σ H → t D σ H) : PS X st t' := fun pins s σ H D I q => h pins s σ H D I (k D σ H q)
theorem _root_.L2.PSs.imp {t t' : TS} (h : PSs X sts t) (k : ∀ D σ H, t' D σ H → t D σ H) : PSs X sts t' := fun pins s σ H D I q => h pins s σ H D I (k D σ H q)
theorem se_var (i : Nat) {x : Str} (hN : X.N[i]? = some x := by rfl) (hv : Vis X.env.scope x := by first | exact Or.inl rfl | exact Or.inr (Or.inl rfl) | exact Or.inr (Or.inr rfl)) (hd : (x == ("__debug__" : Str)) = false := by decide)
    (hcd : (x == ("__classdict__" : Str)) = false := by decide) : SE X (.Name x pos) (vVar i) := (pe_var hN hv hd hcd).imp fun _ _ _ h => tv_var h
theorem se_int {i j} : SE X (.Constant (.int i) j pos) (vC (.int i)) := pe_int.imp fun _ _ _ h => tv_c rfl h
theorem se_bl {i j} : SE X (.Constant (.bool i) j pos) (vC (.bl i)) := pe_bl.imp fun _ _ _ h => tv_c rfl h
theorem se_non {j} : SE X (.Constant .none j pos) (vC .non) := pe_non.imp fun _ _ _ h => tv_c rfl h
theorem se_str {i j} : SE X (.Constant (.str i) j pos) (vC (.str i)) := pe_str.imp fun _ _ _ h => tv_c rfl h
theorem se_glob {x : Str} {i : Int} {t : Tok} (hm : X.mg x = some (.int i t)) (hg : Gl X x := by rfl) (hd : (x == ("__debug__" : Str)) = false := by decide) : SE X (.Name x pos) (vC (.int i)) :=
  (pe_glob (v := .int i) hg hm ⟨t, rfl⟩ hd).imp fun _ _ _ h => tv_c rfl h
theorem se_op {op : Operator} {k : D × Bool → D × Bool → R (D × Bool)} {r : R2} {f g : SemE} (ho : OpR X (binaryOp op) r) (hk : Op2 X.K k r) (ha : SE X a f) (hb : SE X b g) : SE X (.BinOp a op b pos) (v2 k f g) :=
  (pe_op ho ha hb).imp fun _ _ _ h => tv_op hk h
abbrev kAdd := kI fun i j => .int (i + j)
abbrev kSub := kI fun i j => .int (i - j)
abbrev kMod := kIc (fun _ j => decide (0 < j)) fun i j => .int (i % j)
theorem se_sub {f g : SemE} (ha : SE X a f) (hb : SE X b g) : SE X (.BinOp a .Sub b pos) (v2 kSub f g) := se_op op_sub (op2_I fun _ _ => rfl) ha hb
theorem se_mod {f g : SemE} (ha : SE X a f) (hb : SE X b g) : SE X (.BinOp a .Mod b pos) (v2 kMod f g) := se_op op_mod (op2_Ic (fun _ _ => rfl) fun i j h => by
  rw [decide_eq_true_iff] at h; exact h) ha hb
theorem op_catR : OpR X (binaryOp .Add) (rCatR X.K) := by
  intro pins s σ H x y v u Q I rx ry h
  obtain ⟨l, b, xs, zs, rfl, rfl, hH, hB, hz, q⟩ := h
  cases rx
  cases ry
  obtain ⟨z, its, n, r, e⟩ := hH.ok I.hok
  obtain ⟨z2, its2, n2, r2, e2⟩ := hB.ok I.hok
  have hl := r.length
  have hl2 := r2.length
  refine PySem.P.add_list e e2 ?_ (by rw [List.size_toArray, List.size_toArray]; omega)
  have ea : its.toArray ++ its2.toArray = (its ++ its2).toArray := by simp
  rw [ea]
  exact ⟨.ref _, _, I.lnew (t' := s.toks) (r.append r2) (by rw [List.length_append]; omega), rfl, q _ I.fresh⟩
theorem se_neg {f : SemE} (ha : SE X a f) : SE X (.UnaryOp .USub a pos) (v1 (kU fun i => .int (-i)) f) := (pe_un un_neg ha).imp fun _ _ _ h => tv_un (op1_U fun _ => rfl) h
theorem se_cmp {op : CmpOp} {k : D × Bool → D × Bool → R (D × Bool)} {r : R2} {f g : SemE} (ho : OpR X (compareOp op) r) (hk : Op2 X.K k r) (ha : SE X a f) (hb : SE X b g) (hm : behindInMarks op b = false) : SE X (.Compare a [op] [b] pos) (v2 k f g) :=
  (pe_cmpR ho ha hb hm).imp fun _ _ _ h => tv_op hk h
theorem tTest_mono {t t' : TE} (k : ∀ σ H Q, t' σ H Q → t σ H Q) {σ : L2.St} {H : Hp} {Q : Bool → Hp → Prop} (h : tTest t' σ H Q) : tTest t σ H Q := k _ _ _ h
theorem st_cmp {op : CmpOp} {k : D × Bool → D × Bool → R (D × Bool)} {r : R2} {f g : SemE} (ho : OpR X (compareOp op) r) (hk : Op2 X.K k r) (ha : SE X a f) (hb : SE X b g) (hm : behindInMarks op b = false) : ST X (.Compare a [op] [b] pos) (tBool (v2 k f g)) :=
  (pt_cmpR ho ha hb hm).imp fun _ _ _ h => tTest_mono (fun _ _ _ q => tv_op hk q) (tvT_test h)
abbrev kLt := kI fun i j => .bl (decide (i < j))
abbrev kGt := kI fun i j => .bl (decide (j < i))
theorem o2_lt {K : FG} : Op2 K kLt (rI0 fun i j => .bl (decide (i < j))) := op2_I fun _ _ => rfl
theorem o2_gt {K : FG} : Op2 K kGt (rI0 fun i j => .bl (decide (j < i))) := op2_I fun _ _ => rfl
theorem se_chain {op op' : CmpOp} {p q : Int → Int → Bool} {f g h : SemE} (ho : OpR X (compareOp op) (rI0 fun i j => .bl (p i j))) (ho' : OpR X (compareOp op') (rI0 fun i j => .bl (q i j))) (ha : SE X a f) (hb : SE X b g) (hc : SE X c h)
    (hm : lastMarks [op, op'] [b, c] = false := by with_unfolding_all rfl) : SE X (.Compare a [op, op'] [b, c] pos) (vChain p q f g h) := (pe_chain ho ho' ha hb hc hm).imp fun _ _ _ h => tv_chain h
theorem st_tru {f : SemE} (ha : SE X a f) (he : ∀ whole, isTrue a X.env whole = (do let v ← whole; standAt a.pos; holding [v] (truthy v)) := by intro _; rfl) : ST X a (tTru f) := (pt_truth ha he).imp fun _ _ _ h => tvT_tru h
theorem sw_and1 {f : SemT} (ha : ST X a f) : SW X (.BoolOp .And [a] pos) f := pw_and1 ha
theorem sw_or1 {f : SemT} (ha : ST X a f) : SW X (.BoolOp .Or [a] pos) f := pw_or1 ha
theorem sw_and {f g : SemT} {rest : List Expr} (ha : ST X a f) (hb : SW X (.BoolOp .And (b :: rest) pos) g) : SW X (.BoolOp .And (a :: b :: rest) pos) (tAndD f g) := (pw_and ha hb).imp fun _ _ _ h => tvT_and h
theorem sw_or {f g : SemT} {rest : List Expr} (ha : ST X a f) (hb : SW X (.BoolOp .Or (b :: rest) pos) g) : SW X (.BoolOp .Or (a :: b :: rest) pos) (tOrD f g) := (pw_or ha hb).imp fun _ _ _ h => tvT_or h
theorem st_w {f : SemT} (h : SW X a f) : ST X a f := h.pt
theorem st_not {f : SemT} (ha : ST X a f) : ST X (.UnaryOp .Not a pos) (tNotD f) := (pt_not ha).imp fun _ _ _ h => tvT_not h
theorem se_and {f g : SemE} {rest : List Expr} (ha : SE X a f) (hb : SE X (.BoolOp .And (b :: rest) pos) g) : SE X (.BoolOp .And (a :: b :: rest) pos) (vAnd f g) := (pe_and ha hb).imp fun _ _ _ h => tv_and h
theorem se_one {op} {f : SemE} (ha : SE X a f) : SE X (.BoolOp op [a] pos) f := pe_one ha
theorem se_not {f : SemE} (ha : SE X a f) : SE X (.UnaryOp .Not a pos) (v1 kNot f) := (pe_not ha).imp fun _ _ _ h => tv_not h
theorem se_if {t : SemT} {f g : SemE} (hc : ST X c t) (ha : SE X a f) (hb : SE X b g) : SE X (.IfExp c a b pos) (vIf t f g) := (pe_ifExp hc ha hb).imp fun _ _ _ h => tv_if h
theorem sa_nil : SA X [] aNil := pa_nil.imp fun _ _ _ h => tvA_nil h
theorem sa_cons {f : SemE} {g : SemA} (ha : SE X e f) (hr : SA X es g) (hs : starEach (e :: es) X.env = (false, eval e X.env) :: starEach es X.env := by rfl) : SA X (e :: es) (aCons f g) := (pa_cons ha hr hs).imp fun _ _ _ h => tvA_cons h
theorem se_lst {g : SemA} (h : SA X es g) : SE X (.List es pos) (vLst g) := (pe_lst h).imp fun _ _ _ h => tv_lst h
theorem se_tup {g : SemA} {k} (h : SA X es g) : SE X (.Tuple es k pos) (vTup g) := (pe_tup h).imp fun _ _ _ h => tv_tup h
theorem se_ix {f g : SemE} (ha : SE X a f) (hb : SE X b g) (hs : PlainIx b := by intro _ _; rfl) : SE X (.Subscript a b pos) (v2 kIx f g) := (pe_ix (ix_list.or ix_tup) ha hb hs).imp fun _ _ _ h => tv_op op2_ix h
theorem so_none : SO X none oNone := (po_none).imp fun _ _ _ h => tvO_none h
theorem so_int {f : SemE} (ha : SE X a f) : SO X (some a) (oInt f) := (po_some ha).imp fun _ _ _ h => tvO_int h
theorem se_sl {f : SemE} {lo hi : Option Expr} {l h : SemO} {p2 : Pos} (ha : SE X a f) (hl : SO X lo l) (hh : SO X hi h) : SE X (.Subscript a (.Slice lo hi none p2) pos) (vSl f l h) := (pe_slice sl_list ha hl hh).imp fun _ _ _ h => tv_sl h
theorem se_cb {id : String} {x : Str} {p : Pos} {k : List (D × Bool) → R (D × Bool)} {r : List V → Hp → VK → Prop} {g : SemA} (hc : CallR X (.builtin id) r) (hk : OpA X.K k r) (hm : X.mg x = none) (hv : bootBuiltins x = some (.builtin id)) (ha : SA X (e :: es) g) (hg : Gl X x := by rfl)
    (hn : x ≠ "__name__" := by decide) (hdb : (x == ("__debug__" : Str)) = false := by decide) (he : starEach (e :: es) X.env = (false, eval e X.env) :: starEach es X.env := by rfl) (hpl : (backTo pos (starEach es X.env)).any (·.1) = false := by rfl) : SE X (.Call (.Name x p) (e :: es) [] pos) (vCB k g) :=
  (pe_callB hc hg hm hv ha hn hdb he hpl).imp fun _ _ _ h => tv_cb hk h
theorem se_cty {T : String} {x : Str} {p : Pos} {k : List (D × Bool) → R (D × Bool)} {r : List V → Hp → VK → Prop} {g : SemA} (hc : CallR X (.type T) r) (hk : OpA X.K k r) (hm : X.mg x = none) (hv : bootBuiltins x = some (.type T)) (ha : SA X (e :: es) g) (hg : Gl X x := by rfl)
    (hn : x ≠ "__name__" := by decide) (hdb : (x == ("__debug__" : Str)) = false := by decide) (he : starEach (e :: es) X.env = (false, eval e X.env) :: starEach es X.env := by rfl) (hpl : (backTo pos (starEach es X.env)).any (·.1) = false := by rfl) : SE X (.Call (.Name x p) (e :: es) [] pos) (vCB k g) :=
  (pe_callTy hc hg hm hv ha hn hdb he hpl).imp fun _ _ _ h => tv_cb hk h
structure Kn (P : Program) (w : World) (K : FG) (mg : Str → Option Value) (base : Heap) (k : Nat) (x : Str) (n : Nat) (fn : Fn) : Prop where
  ex : ∃ (f : Addr) (fd : FuncData) (ps : List Str), FnOk P w K mg base (CX1 P w) k f fd ps (spV K n fn) ∧ mg x = some (.ref f) ∧ PySem.W.keepIn K (.ref f) = true ∧ Binds K fd ps []
def alen (n : Nat) (g : SemA) : Prop := ∀ ρ xs, g ρ = .ok xs → xs.length = n
theorem alen_nil : alen 0 aNil := fun _ _ e => by cases e; rfl
theorem alen_cons {n : Nat} {f : SemE} {g : SemA} (h : alen n g) : alen (n + 1) (aCons f g) := fun ρ xs e => by
  unfold aCons at e
  cases ef : f ρ with
  | exc _ => rw [ef] at e; cases e
  | bad => rw [ef] at e; cases e
  | ok x =>
    rw [ef] at e
    cases eg : g ρ with
    | exc _ => rw [eg] at e; cases e
    | bad => rw [eg] at e; cases e
    | ok ys =>
      rw [eg] at e
      have e : R.ok (x :: ys) = R.ok xs := e
      cases e
      rw [List.length_cons, h ρ ys eg]
theorem se_call {k n : Nat} {x : Str} {fn : Fn} {g : SemA} {p : Pos} (F : Kn X.prog X.w X.K X.mg X.base k x n fn) (hr : Room k X.A) (ha : SA X (e :: es) g) (hl : alen n g) (hg : Gl X x := by rfl) (hdb : (x == ("__debug__" : Str)) = false := by decide)
    (he : starEach (e :: es) X.env = (false, eval e X.env) :: starEach es X.env := by rfl) (hpl : (backTo pos (starEach es X.env)).any (·.1) = false := by rfl) : SE X (.Call (.Name x p) (e :: es) [] pos) (vCall fn g) := by
  obtain ⟨f, fd, ps, F, hm, hk, hb⟩ := F.ex
  exact (pe_call F hr hg hm hk hb .nil (fun _ _ _ _ _ _ _ h => by obtain ⟨_, _, _, _, _, _, _, _, _, _, _, _, _, z⟩ := h; exact z.elim) ha hdb he hpl).imp fun _ _ _ h => tv_call hl h
theorem sx_of {f : SemE} (h : SE X e f) : SX X W e (xOf f) := L2.PE.imp h fun _ _ _ h => tx_of h
theorem ss_nil : SSs X W [] sNext := pss_nil.imp fun _ _ _ h => sv_next h
theorem ss_cons {f g : SemS} {rest : List Stmt} (h1 : SS X W st f) (h2 : SSs X W rest g) : SSs X W (st :: rest) (sSeq f g) := (pss_cons h1 h2).imp fun _ _ _ h => sv_seq h
theorem ss_one {f : SemS} (h1 : SS X W st f) : SSs X W [st] f := pss_one h1
theorem ss_frz (is : List Nat) {f : SemS} (h : SS X W st f) : SS X W st (sFrz is f) := L2.PS.imp h fun _ _ _ h => sv_frz h
def sBad : SemS := fun _ => .bad
theorem ss_expr {g : SemX} (h : SX X W e g) (hs : swapsWith e none pos.line X.env = pure false := by rfl) : SS X W (.Expr e pos) (sDrop g) := (ps_expr h hs).imp fun _ _ _ h => sv_drop h
theorem ss_ret {g : SemX} (h : SX X W e g) : SS X W (.Return (some e) pos) (sRet g) := (ps_ret h).imp fun _ _ _ h => sv_ret h
theorem ss_retV (i : Nat) {x : Str} {p : Pos} (hN : X.N[i]? = some x := by rfl) (hv : Vis X.env.scope x := by first | exact Or.inl rfl | exact Or.inr (Or.inl rfl) | exact Or.inr (Or.inr rfl)) (hd : (x == ("__debug__" : Str)) = false := by decide)
    (hcd : (x == ("__classdict__" : Str)) = false := by decide) : SS X W (.Return (some (.Name x p)) pos) (sRetV i) := (ps_ret (pe_var hN hv hd hcd)).imp fun _ _ _ h => sv_retV h
theorem ss_if {t : SemT} {f g : SemS} {xs ys : List Stmt} (hc : ST X c t) (ha : SSs X W xs f) (hb : SSs X W ys g) : SS X W (.If c xs ys pos) (sIf t f g) := (ps_if hc ha hb).imp fun _ _ _ h => sv_if h
theorem ss_set (i : Nat) {x : Str} {g : SemX} {pos' : Pos} (nd : X.N.Nodup) (h : SX X W e g) (hi : X.N[i]? = some x := by rfl) (hx : Loc X.env.scope x := by first | exact Or.inl rfl | exact Or.inr rfl) (hs : swapsWith e (some (.Name x pos')) pos.line X.env = pure false := by rfl)
    (hf : X.fn x = true ∨ X.env.scope.names.lookup x = some .local := by first | exact .inl rfl | exact .inr rfl) : SS X W (.Assign [.Name x pos'] e pos) (sSet i g) := (ps_set nd hi hx h hs hf).imp fun _ _ _ h => sv_set h
theorem pg_n (i : Nat) {x : Str} (nd : X.N.Nodup) (hi : X.N[i]? = some x := by rfl) (hx : Loc X.env.scope x := by first | exact Or.inl rfl | exact Or.inr rfl) (hf : X.fn x = true ∨ X.env.scope.names.lookup x = some .local := by first | exact .inl rfl | exact .inr rfl) : PG X (.Name x pos) (gName i) := pg_name nd hi hx hf
theorem pgs_n {i : Nat} {is : List Nat} (h1 : PG X e (gName i)) (h2 : PGs X es (gNames is)) (hs : (assignEach (e :: es) X.env).map (·.2) = assign e X.env :: (assignEach es X.env).map (·.2) := by rfl) : PGs X (e :: es) (gNames (i :: is)) := pgs_cons h1 h2 hs
theorem pgs_0 : PGs X [] (gNames []) := pgs_nil
theorem ss_unpack {is : List Nat} {g : SemX} {k n : Nat} {tp : Pos} (hc : X.calm = true) (h : SX X W e g) (hg : PGs X es (gNames is)) (hn' : is.length = n) (hn : (assignEach es X.env).length = n := by rfl) (hst : (assignEach es X.env).findIdx? (·.1) = none := by rfl)
    (hs : swapsWithSole [.Tuple es k tp] e pos.line X.env = pure false := by rfl) (hw : swappedStores [.Tuple es k tp] e X.env = pure none := by rfl) (h1 : (assignEach [.Tuple es k tp] X.env).map (·.2) = [assign (.Tuple es k tp) X.env] := by rfl) :
    SS X W (.Assign [.Tuple es k tp] e pos) (sUnpack is g) := (ps_asg h (pg_tup hc hg hn hst) hs hw h1).imp fun _ _ _ h => sv_unpack hn' h
theorem ss_setItem (i : Nat) {x : Str} {f g : SemE} {p tp : Pos} (hi : SE X b g) (he : SE X e f) (hN : X.N[i]? = some x := by rfl) (hv : Vis X.env.scope x := by first | exact Or.inl rfl | exact Or.inr (Or.inl rfl) | exact Or.inr (Or.inr rfl)) (hd : (x == ("__debug__" : Str)) = false := by decide)
    (hcd : (x == ("__classdict__" : Str)) = false := by decide)
    (ha : ∀ v, assign (.Subscript (.Name x p) b tp) X.env v = (do
      let ov ← holding [v] (eval (.Name x p) X.env)
      let iv ← holding [v, ov] (eval b X.env)
      standAt tp
      holding [v, ov, iv] (setItem ov iv v)
      release [v, ov, iv] []) := by intro _; rfl)
    (hs : swapsWithSole [.Subscript (.Name x p) b tp] e pos.line X.env = pure false := by rfl) (hw : swappedStores [.Subscript (.Name x p) b tp] e X.env = pure none := by rfl) (h1 : (assignEach [.Subscript (.Name x p) b tp] X.env).map (·.2) = [assign (.Subscript (.Name x p) b tp) X.env] := by rfl) :
    SS X W (.Assign [.Subscript (.Name x p) b tp] e pos) (sSetItem i g f) := (ps_asg he (pg_sub (pe_var hN hv hd hcd) hi set_list ha) hs hw h1).imp fun _ _ _ h => sv_setItem h
theorem ss_while (n : Nat) {t : SemT} {f : SemS} {xs : List Stmt} (hp : PassesOwn (model X.prog X.w) X.A X.env X.xe) (hc : ST X c t) (hb : SSs X W xs f) : SS X W (.While c xs [] pos) (whileN t f n) := (ps_while hp hc hb).imp fun _ _ _ h => sv_while h
theorem ss_for {tg it : Expr} {f : SemI} {set : D → Env → Option Env} {g : TG} {b' : SemS} {xs : List Stmt} (hp : PassesOwn (model X.prog X.w) X.A X.env X.xe) (hc : X.calm = true) (hi : SI X tg it f) (hg : PG X tg g) (ht : Tgt X.K set g) (hb : SSs X W xs b')
    (hs : ∀ x, foldedSetIterable it X.env x = pure x := by intro _; rfl) : SS X W (.For tg it xs [] pos) (sFor f set b') := (ps_for hp hc hi hg hb hs).imp fun _ _ _ h => sv_for ht h
theorem si_range1 {tg : Expr} {g : SemA} {p : Pos} (hm : X.mg "range" = none) (ha : SA X [a] g) (hg : Gl X "range" := by rfl) (hs : starEach [a] X.env = [(false, eval a X.env)] := by rfl) : SI X tg (.Call (.Name "range" p) [a] [] pos) (iR1 g) :=
  (pi_range1 hg hm ha hs).imp fun _ _ _ h => iv_range1 h
end
end VL
end
section
namespace VL
open PySem PySem.Spec PyProof.Rows L2
abbrev SemZ := Env → Option Nat
def ZPost (F H : Hp) (Q : VK) (n : Nat) : Prop := ∀ (z : Str) F' H', Grow F H F' H' → z.length ≤ n → Q (.str z) H'
def tz (K : FG) (f : SemZ) : TE := fun σ H Q => ∃ ρ F fps, Sim K F H σ ρ fps ∧ ∃ n, f ρ = some n ∧ ZPost F H Q n
abbrev SZ (X : Cx) (e : Expr) (f : SemZ) : Prop := PE X e (tz X.K f)
def SZs (X : Cx) (es : List Expr) (f : SemZ) : Prop := ∀ (pins : List (Addr × Obj)) (s : Shared) (σ : L2.St) (H : Hp) (acc : Str) (Q : VK), L2.Inv X pins σ H s →
  (∃ ρ F fps, Sim X.K F H σ ρ fps ∧ ∃ n, f ρ = some n ∧ acc.length + n ≤ 1000000 ∧ ZPost F H Q (acc.length + n)) →
  Joins (model X.prog X.w) X.A X.xe (evalEach es X.env) acc (fun out s1 => out.length ≤ sizeLine ∧ EP X pins σ Q (.str out s1.toks) { s1 with toks := s1.toks + 1 }) s
section
variable {X : Cx} {W : XW} {e v1 v2 : Expr} {es : List Expr} {pos : Pos}
theorem sz_str {i j} : SZ X (.Constant (.str i) j pos) (fun _ => some i.length) := pe_str.imp fun σ H Q h => by
  obtain ⟨ρ, F, fps, S, n, en, h⟩ := h
  cases en
  exact h i F H (Grow.refl S.same) (Nat.le_refl _)
def zInt (g : SemE) : SemZ := fun ρ => match g ρ with | .ok (.int a, _) => if a.natAbs ≤ 100000 then some 100002 else none | _ => none
theorem log_small {a : Int} (h : a.natAbs ≤ 100000) : a.natAbs.log2 < 1920 := by
  by_cases h0 : a.natAbs = 0
  · rw [h0]; decide
  · exact (Nat.log2_lt h0).mpr (Nat.lt_of_le_of_lt h (Nat.lt_of_lt_of_le (by decide : 100000 < 2 ^ 17) (Nat.pow_le_pow_right (by decide) (by decide))))
theorem sz_fint {g : SemE} (h : SE X e g) : SZ X (.FormattedValue e (-1) none pos) (zInt g) := by
  intro pins s σ H Q I q
  obtain ⟨ρ, F, fps, S, n, en, q⟩ := q
  unfold zInt at en
  refine FormattedValue_plain (thn (h pins s σ H (fun v H' => ∃ a, v = .int a ∧ a.natAbs ≤ 100000 ∧ ∀ z : Str, z.length ≤ 100002 → Q (.str z) H') I ⟨ρ, F, fps, S, ?_⟩) fun u s1 ⟨v, H1, I1, r, a, ev, ha, hq⟩ => ?_)
  · cases eg : g ρ with
    | exc _ => rw [eg] at en; cases en
    | bad => rw [eg] at en; cases en
    | ok x =>
      rw [eg] at en
      obtain ⟨x, b⟩ := x
      cases x <;> try cases en
      rename_i a
      dsimp only at en
      by_cases ha : a.natAbs ≤ 100000
      · rw [if_pos ha] at en; cases en
        intro v F1 H1 fx g1 o1 n1 k1
        unfold Own at o1
        exact ⟨a, o1.1, ha, fun z hz => q z F1 H1 g1 hz⟩
      · rw [if_neg ha] at en; cases en
  · subst ev
    obtain ⟨t, rfl⟩ := r
    have hl : ((Str.ofString (toString a)).length : Int) ≤ a.natAbs + 2 := len_str_of_int a
    exact formatField_int_small (log_small ha) ⟨.str (Str.ofString (toString a)), H1, I1.tok _, ⟨_, rfl⟩, hq _ (by omega)⟩
theorem szs_nil : SZs X [] (fun _ => some 0) := by
  intro pins s σ H acc Q I q
  obtain ⟨ρ, F, fps, S, n, en, hn, q⟩ := q
  cases en
  exact ⟨size_ok hn, .str acc, H, I.tok _, ⟨_, rfl⟩, q acc F H (Grow.refl S.same) (Nat.le_refl _)⟩
def zAdd (f g : SemZ) : SemZ := fun ρ => (f ρ).bind fun a => (g ρ).map fun b => a + b
theorem szs_cons {f g : SemZ} (h1 : SZ X e f) (h2 : SZs X es g) (he : evalEach (e :: es) X.env = eval e X.env :: evalEach es X.env := by rfl) : SZs X (e :: es) (zAdd f g) := by
  intro pins s σ H acc Q I q
  obtain ⟨ρ, F, fps, S, n, en, hn, q⟩ := q
  unfold zAdd at en
  cases ef : f ρ with
  | none => rw [ef] at en; cases en
  | some a =>
    rw [ef] at en
    cases eg : g ρ with
    | none => rw [eg] at en; cases en
    | some b =>
      rw [eg] at en
      have en : some (a + b) = some n := en
      cases en
      rw [he]
      refine thn (h1 pins s σ H (fun v H' => ∃ z : Str, v = .str z ∧ z.length ≤ a ∧ ∃ F', Grow F H F' H') I ⟨ρ, F, fps, S, a, ef, fun z F' H' g1 hz => ⟨z, rfl, hz, F', g1⟩⟩) fun u s1 ⟨v, H1, I1, r, z, ev, hz, F1, g1⟩ => ?_
      subst ev
      obtain ⟨t, rfl⟩ := r
      have hl : (acc ++ z).length = acc.length + z.length := strLen_append _ _
      refine ⟨z, t, rfl, size_ok (by omega), h2 pins s1 σ H1 (acc ++ z) Q I1 ⟨ρ, F1, fps, S.grow g1, b, eg, by omega, fun y F' H' g2 hy => q y F' H' (g1.trans g2) (by omega)⟩⟩
def zTop (f : SemZ) : SemZ := fun ρ => (f ρ).bind fun n => if n ≤ 1000000 then some n else none
theorem sz_join {f : SemZ} (h : SZs X (v1 :: v2 :: es) f) : SZ X (.JoinedStr (v1 :: v2 :: es) pos) (zTop f) := by
  intro pins s σ H Q I q
  obtain ⟨ρ, F, fps, S, n, en, q⟩ := q
  unfold zTop at en
  cases ef : f ρ with
  | none => rw [ef] at en; cases en
  | some a =>
    rw [ef] at en
    dsimp only [Option.bind] at en
    by_cases ha : a ≤ 1000000
    · rw [if_pos ha] at en; cases en
      have e0 : (Str.empty).length = 0 := rfl
      refine PySem.wpAny_JoinedStr (h pins s σ H Str.empty Q I ⟨ρ, F, fps, S, n, ef, by rw [e0]; omega, ?_⟩)
      rw [e0, Nat.zero_add]; exact q
    · rw [if_neg ha] at en; cases en
def sRaise (c : Str) (f : SemZ) : SemS := fun ρ => match f ρ with | some _ => .exc c ρ | none => .bad
def bmV : List Value := [.type "ValueError", .type "Exception", .type "BaseException", .type "object"]
theorem ss_raise {c : Str} {C : Addr} {f : SemZ} {np cpos : Pos} (L : LkF X W) (hcalm : X.calm = true) (hC : ClsOf X.K c C) (hx : PySem.W.excIn X.K C bmV "ValueError.__new__" = true) (hm : X.mg c = some (.ref C)) (ha : SZ X e f) (hg : Gl X c := by rfl) (hd : (c == ("__debug__" : Str)) = false := by decide)
    (he : starEach [e] X.env = (false, eval e X.env) :: starEach [] X.env := by rfl) (hpl : (backTo cpos (starEach [e] X.env)).any (·.1) = false := by rfl) :
    SS X W (.Raise (some (.Call (.Name c np) [e] [] cpos)) none pos) (sRaise c f) := by
  intro pins s σ H D I h
  obtain ⟨ρ, F, fps, S, h⟩ := h
  unfold sRaise at h
  cases ef : f ρ with
  | none => rw [ef] at h; exact h.elim
  | some n =>
    rw [ef] at h
    have h : NPost X.K F H fps.flatten ρ σ (W c) ρ := h
    have O : ∃ bm N nm q bs hdct sn sub ab col dd k0 k1 k2 k3 k5 mN, X.base.get? C = some (excClassObj nm q C N bs bm hdct sn sub ab col dd k0 k1 k2 k3 k5 "ValueError.__new__") ∧ X.base.Ns N mN ∧ mN "__init__" = none ∧ OwnTail X.base bmV bm := by
      have KX := I.ok.mod.kin
      have q := hx
      unfold PySem.W.excIn at q
      split at q
      · rename_i dd cd sl ho
        split at q
        · rename_i C' bm k0 k1 k2 k3 n k5 hm hs
          simp only [Bool.and_eq_true, beq_iff_eq, Bool.not_eq_true'] at q
          obtain ⟨⟨⟨⟨⟨rfl, rfl⟩, hdel⟩, ht⟩, hok⟩, hni⟩ := q
          obtain ⟨nm, bs, mro, ns, qn, hd, sn, sub, ab, col, del⟩ := cd
          dsimp only at hm hdel hok hni
          subst hm hdel
          have hsl : sl = #[k0, k1, k2, k3, some (.builtin "ValueError.__new__"), k5] := by
            obtain ⟨l⟩ := sl
            simp only at hs
            rw [hs]
          subst hsl
          exact ⟨bm, ns, nm, qn, bs, hd, sn, sub, ab, col, dd, k0, k1, k2, k3, k5, _, KX _ _ ho, .of_isNs (PySem.W.isNs_of_in KX hok), PySem.W.nsMap_none_of_in KX hok hni, PySem.W.tail_of_in KX ht⟩
        · cases q
      · cases q
    obtain ⟨bm, Nn, nm, q, bs, hdct, sn, sub, ab, col, dd, k0, k1, k2, k3, k5, mN, o1, o2, o3, o4⟩ := O
    refine wpAny_Raise_call_subT (C := C) (nm := nm) (q := q) (N := Nn) (bs := bs) (bm := bm) (hdct := hdct) (sn := sn) (sub := sub) (ab := ab) (col := col) (dd := dd) (k0 := k0) (k1 := k1) (k2 := k2) (k3 := k3) (k5 := k5)
      PySem.F.excBase_ValueError (mN := mN) (o4.hasType PySem.F.excBase_ValueError.hasBase) (I.ok.hd hcalm) hpl o3 (ld_glob I hg hm ⟨rfl, ?_⟩ hd)
    rw [he]
    show wpAny _ _ (evalArgs _ true ((false, eval e X.env) :: backTo cpos (starEach [] X.env)) []) _ _ s
    exact Calls.evalArgs_plain (Calls.spliced_cons (thn (ha pins s σ H (fun v H' => ∃ F', Grow F H F' H') I ⟨ρ, F, fps, S, n, ef, fun z F' H' g1 _ => ⟨F', g1⟩⟩) fun u s1 ⟨v, H1, I1, r, F1, g1⟩ => Calls.spliced_nil ⟨rfl, by show 1 ≤ sizeLine; decide, I1.bk _ _ o1, o2.keeps I1.bk, o4.keeps I1.bk, fun h' e' hx => L.fresh pins σ H1 s1 h' e' C c _ I1 hC hx (h σ F1 H1 fps g1.evo (S.grow g1) (Pins.refl _ _))⟩))
end
end VL
end
section
namespace VL
open PySem PySem.Spec PyProof.Rows L2
section
variable {X : Cx} {pins pins' : List (Addr × Obj)} {σ : L2.St} {H H' : Hp} {s s' : Shared} {W : XW}
theorem goes_ok {M : Model} {A : Around} {E : Value → Shared → Prop} {i : Nat} {x : Str} {pos : Pos} {Q : Unit → Shared → Prop} (I : L2.Inv X pins σ H s) (hN : X.N.Nodup) (hi : X.N[i]? = some x) (hk : X.env.scope.names.lookup x = some .local)
    (h : ∀ s', L2.Inv X pins (σ.set i none) H s' → Q () s') : wpAny M A (do bindName X.env x .none; unbindBehindTheSuite X.env x pos) Q E s := by
  obtain ⟨m, hn, hl⟩ := id I.loc
  have hcls : (X.env.scope.kind == .class || (X.env.scope.kind == .module && X.env.locals != X.env.globals)) = false := by rw [I.ok.kind]; rfl
  have hiσ : i < σ.length := by rw [I.len]; exact (List.getElem?_eq_some_iff.mp hi).1
  have cne := I.cne
  refine wpAny_nameGoes_keeps hk hn hcls fun h' v hn' hs => ?_
  have tracked : HOk X.prog X.w H h' := fun b ob e => by
    refine (I.hok b ob e).stay (fun c w' hc q => (hs.2 c ?_).trans q) (fun _ q => q) fun _ _ q => q
    rintro rfl
    rcases hc with hc | hc
    · rw [← hc, I.free] at e; cases e
    · rw [I.free] at hc; cases hc
  refine h _ ⟨I.ok, I.os, I.bare, ⟨fun b o e n hb hx => ?_, fun b o e n hb hx => ?_, I.base.free, fun b o e hx => ?_, I.base.tups, I.base.frzs, I.base.tbls⟩, ⟨_, hn', fun j y v' e1 e2 e3 => ?_⟩, fun y c e => ?_, I.free, I.freeC, fun p hp => ?_, tracked, by simpa using I.len⟩
  · exact (hs.2 b (Nat.ne_of_lt (Nat.lt_of_lt_of_le (Heap.lt_size e) I.ok.above))).trans (I.base.keep b o e n hb hx)
  · obtain ⟨sl, e1⟩ := I.base.slot b o e n hb hx
    exact ⟨sl, (hs.2 b (Nat.ne_of_lt (Nat.lt_of_lt_of_le (Heap.lt_size e) I.ok.above))).trans e1⟩
  · obtain ⟨o', e1⟩ := I.base.there b o e hx
    exact ⟨o', (hs.2 b (Nat.ne_of_lt (Nat.lt_of_lt_of_le (Heap.lt_size e) I.ok.above))).trans e1⟩
  · by_cases hj : j = i
    · subst hj
      rw [List.getElem?_set_self hiσ] at e2
      cases e2
    · rw [List.getElem?_set_ne (Ne.symm hj)] at e2
      obtain ⟨u', r', q⟩ := hl j y v' e1 e2 e3
      refine ⟨u', r', ?_⟩
      rcases q with ⟨k, e⟩ | ⟨k, c, e, z⟩
      · refine .inl ⟨k, ?_⟩
        have : y ≠ x := fun e => hj (nodup_ix hN e1 (e ▸ hi))
        simp [this, e]
      · exact .inr ⟨k, c, e, z.sameBut hs (cne y c e)⟩
  · obtain ⟨w', z⟩ := I.cell y c e
    exact ⟨w', z.sameBut hs (cne y c e)⟩
  · obtain ⟨e, n, ne, nf, d⟩ := I.pin p hp
    exact ⟨(hs.2 p.1 ne).trans e, n, ne, nf, d⟩
theorem inv_track {a : Addr} {u : HO} (I : L2.Inv X pins σ H s) (hn : H a = none) (h0 : X.s₀.heap.get? a = none) (hL : a ≠ X.env.locals) (hc : ∀ x c, X.env.cells.lookup x = some c → c ≠ a) (hp : ∀ p ∈ X.pn ++ pins, p.1 ≠ a)
    (new : ObjOk X.prog X.w (upd H a u) s.heap a u) : L2.Inv X pins σ (upd H a u) s := by
  have ne : ∀ b w, H b = some w → b ≠ a := fun b w e z => by rw [z, hn] at e; cases e
  refine ⟨I.ok, I.os, I.bare, ⟨I.base.keep, I.base.slot, fun b o e n hx => ?_, I.base.there, fun b xs e => ?_, fun b o w e => ?_, fun b ps e => ?_⟩, I.loc, I.cell, ?_, fun x c e => ?_, fun p hp' => ?_, fun b w e => ?_, I.len⟩
  · have hb : b ≠ a := fun z => by rw [z, h0] at e; cases e
    rw [upd_ne hb]; exact I.base.free b o e n hx
  · have q := I.base.tups b xs e
    rw [upd_ne (ne _ _ q)]; exact q
  · have q := I.base.frzs b o w e
    rw [upd_ne (ne _ _ q)]; exact q
  · obtain ⟨m, q⟩ := I.base.tbls b ps e
    exact ⟨m, by rw [upd_ne (ne _ _ q)]; exact q⟩
  · rw [upd_ne (Ne.symm hL)]; exact I.free
  · rw [upd_ne (hc x c e)]; exact I.freeC x c e
  · obtain ⟨e, n, r⟩ := I.pin p hp'
    exact ⟨e, by rw [upd_ne (hp p hp')]; exact n, r⟩
  · by_cases hb : b = a
    · subst hb
      rw [upd_same] at e; cases e
      exact new
    · rw [upd_ne hb] at e
      exact (I.hok b w e).stay (fun _ _ _ q => q) (fun c q => by rw [upd_ne (ne _ _ q)]; exact q) fun c ys q => by rw [upd_ne (ne _ _ q)]; exact q
theorem inv_pn {E1 : Value → Shared → Prop} (I : L2.Inv X pins σ H s) : L2.Inv { X with xe := E1, pn := X.pn ++ pins } [] σ H s :=
  ⟨⟨I.ok.mod, I.ok.kind, I.ok.glob, I.ok.blt, I.ok.above, I.ok.inj, I.ok.has, I.ok.cab, I.ok.hd, I.ok.frames, I.ok.stk, I.ok.exf, I.ok.bs, I.ok.bsz, I.ok.noex, I.ok.exfs, I.ok.funs, I.ok.frf⟩, I.os, I.bare, I.base, I.loc, I.cell, I.free, I.freeC, fun p hp => I.pin p (by simpa using hp), I.hok, I.len⟩
theorem inv_np {E1 : Value → Shared → Prop} (I : L2.Inv { X with xe := E1, pn := X.pn ++ pins } pins' σ H s) : L2.Inv X pins σ H s :=
  ⟨⟨I.ok.mod, I.ok.kind, I.ok.glob, I.ok.blt, I.ok.above, I.ok.inj, I.ok.has, I.ok.cab, I.ok.hd, I.ok.frames, I.ok.stk, I.ok.exf, I.ok.bs, I.ok.bsz, I.ok.noex, I.ok.exfs, I.ok.funs, I.ok.frf⟩, I.os, I.bare, I.base, I.loc, I.cell, I.free, I.freeC, fun p hp => I.pin p (List.mem_append_left _ hp), I.hok, I.len⟩
abbrev inX (X : Cx) (e : Addr) (E2 : Value → Shared → Prop) : Cx := { X with A := X.A.mark (some (.ref e)), calm := false, xe := E2 }
theorem inv_in {e : Addr} {E2 : Value → Shared → Prop} (I : L2.Inv X pins σ H s) : L2.Inv (inX X e E2) pins σ H s :=
  ⟨⟨I.ok.mod, I.ok.kind, I.ok.glob, I.ok.blt, I.ok.above, I.ok.inj, I.ok.has, I.ok.cab, (fun z => by cases z), I.ok.frames, I.ok.stk, I.ok.exf, I.ok.bs, I.ok.bsz, I.ok.noex, I.ok.exfs, I.ok.funs, I.ok.frf⟩, I.os, I.bare, I.base, I.loc, I.cell, I.free, I.freeC, I.pin, I.hok, I.len⟩
theorem inv_out {e : Addr} {E2 : Value → Shared → Prop} (hd : X.calm = true → X.A.handled = none) (I : L2.Inv (inX X e E2) pins σ H s) : L2.Inv X pins σ H s :=
  ⟨⟨I.ok.mod, I.ok.kind, I.ok.glob, I.ok.blt, I.ok.above, I.ok.inj, I.ok.has, I.ok.cab, hd, I.ok.frames, I.ok.stk, I.ok.exf, I.ok.bs, I.ok.bsz, I.ok.noex, I.ok.exfs, I.ok.funs, I.ok.frf⟩, I.os, I.bare, I.base, I.loc, I.cell, I.free, I.freeC, I.pin, I.hok, I.len⟩
def sTail (ie : Nat) (ct : Str → Bool) (h : SemS) (c : Str) : SemS := fun ρ => if ct c && free ρ ie then (match h (ρ.set ie (.val (.ext false (.exc c)))) with | .next ρ2 => (match ρ2[ie]? with | some (.val _) => .next (ρ2.set ie .un) | _ => .bad) | _ => .bad) else .bad
def sTry (ie : Nat) (ct : Str → Bool) (b h : SemS) : SemS := fun ρ => match b ρ with
  | .exc c ρ' => sTail ie ct h c ρ' | o => o
theorem exc_ok {P : Program} {w : World} {Hx : Hp} {h : Heap} {a C : Addr} {o : Obj} {vs : Array Value} (e : h.get? a = some o) (c : o.cls = .ref C) (d : o.data = .fields vs) : ObjOk P w Hx h a (ExcAt a C) := by
  refine ⟨⟨o, vs, e, c, d⟩, ⟨o, e⟩, fun h1 h2 ⟨o1, vs1, e1, c1, d1⟩ k => ⟨o1, vs1, k o1 e1, c1, d1⟩⟩
theorem Sim.drop {K : FG} {F H : Hp} {σ : L2.St} {ρ : Env} {fps : List (List Addr)} (S : Sim K F H σ ρ fps) (i : Nat) : Sim K F H (σ.set i none) (ρ.set i .un) (fps.set i []) := by
  have hsub : ∀ b ∈ (fps.set i []).flatten, b ∈ fps.flatten := fun b hb => (mem_flatten_set hb).elim id (fun q => by cases q)
  refine ⟨S.same, by simp [S.ls], by simp [S.lf], fun j s d e1 e2 => ?_, flatten_set_nodup S.nd List.nodup_nil (fun b hb => by cases hb), fun a ha => S.zone a (hsub a ha)⟩
  by_cases hj : i = j
  · subst hj
    have hi : i < ρ.length := by
      have := (List.getElem?_eq_some_iff.mp e1).1
      simpa using this
    rw [List.getElem?_set_self hi] at e1; cases e1; cases e2
  · rw [List.getElem?_set_ne hj] at e1
    obtain ⟨v, f, q1, q2, q3⟩ := S.at_ j s d e1 e2
    exact ⟨v, f, by rw [List.getElem?_set_ne hj]; exact q1, by rw [List.getElem?_set_ne hj]; exact q2, q3⟩
end
section
variable {X : Cx} {W : XW} {pos hpos np : Pos}
theorem ss_try {ie : Nat} {ct : Str → Bool} {cn n : Str} {Cn : Addr} {body : List Stmt} {b₀ : Stmt} {suite : List Stmt} {b h : SemS} (nd : X.N.Nodup) (hex : X.ex = []) (hstk : X.stack = X.env :: X.outer) (hfrm : X.env.frame = some X.env.locals) (hie : X.N[ie]? = some n) (hn : X.env.scope.names.lookup n = some .local)
    (hcn : ClsOf X.K cn Cn) (hcg : Gl X cn) (hcm : X.mg cn = some (.ref Cn)) (hcd : (cn == ("__debug__" : Str)) = false)
    (hct : ∀ c C, ct c = true → ClsOf X.K c C → PySem.W.exmOne X.K (.ref C) (.ref Cn) = some true)
    (hb : ∀ (E1 : Value → Shared → Prop) (pn1 : List (Addr × Obj)) (W1 : XW), Lk { X with xe := E1, pn := pn1 } W1 → SSs { X with xe := E1, pn := pn1 } W1 body b)
    (hh : ∀ (e : Addr) (E2 : Value → Shared → Prop), SSs (inX X e E2) (fun _ _ _ => False) (b₀ :: suite) h) :
    SS X W (.Try body [.ExceptHandler (some (.Name cn np)) (some n) (b₀ :: suite) hpos] [] [] pos) (sTry ie ct b h) := by
  intro pins s σ H D I hD
  obtain ⟨ρ, F, fps, S, hD⟩ := hD
  let E1 : Value → Shared → Prop := fun v s1 => wpAny (model X.prog X.w) X.A (noteFrame v X.env) (fun _ s2 => wpAny (model X.prog X.w) X.A (setFlight v none) (fun _ s3 => wpAny (model X.prog X.w) X.A (handleBy v X.env [.ExceptHandler (some (.Name cn np)) (some n) (b₀ :: suite) hpos]) (SP X pins D) X.xe s3) X.xe s2) X.xe s1
  let W1 : XW := fun c => sv X.K W (sTail ie ct h c) D
  have hE1 : Lk { X with xe := E1, pn := X.pn ++ pins } W1 := by
    refine ⟨fun pins' σ1 H1 s1 v s' I1 hx => ?_, PassesOwn.looking⟩
    obtain ⟨e, C, H', B, a0, rfl, os, bare, un, hok, fl, inB, trk, c, C', eC, hC, hW⟩ := hx
    cases eC
    have J := inv_np I1
    have un : Un (frs X.stack) [] H1 H' s1.heap s'.heap := un
    have fl : Heap.FlyingW B X.stack e (.ref C) a0 s'.heap := fl
    have inB : ∀ b o, s1.heap.get? b = some o → b ∉ frs X.stack → ∃ o', B.get? b = some o' := inB
    rw [hstk] at fl
    have hfr : X.A.frames = some (X.env :: X.outer) := by rw [← hstk]; exact J.ok.frames
    have e1 : s1.heap.get? e = none := by
      cases q : s1.heap.get? e with
      | none => rfl
      | some o =>
        by_cases hb : e ∈ frs X.stack
        · obtain ⟨_, o', q', d⟩ := fl.2.2.1.mem (show e ∈ (X.env :: X.outer).filterMap (·.frame) by rw [← hstk]; exact hb)
          obtain ⟨oe, ws, q2, _, d2, _⟩ := fl.first
          rw [q'] at q2; cases q2
          exact absurd d2 (d ws)
        · obtain ⟨o', q'⟩ := inB e o q hb
          rw [fl.2.1] at q'; cases q'
    have He : H' e = none := by
      cases q : H' e with
      | none => rfl
      | some u => obtain ⟨o', q'⟩ := trk e u q; rw [fl.2.1] at q'; cases q'
    have after : ∀ (h2 : Heap) (tk : Nat), B.StaysIn h2 → s'.heap.UpToSlots h2 → L2.Inv X pins σ1 H' { s' with heap := h2, toks := tk } := fun h2 tk hT up => by
      obtain ⟨u2, ok2⟩ := fly_un (fs := frs X.stack) un hok fl.1 hT inB trk up (stk_fr J)
      exact J.call' (s' := { s' with heap := h2, toks := tk }) (ch := []) os u2 ok2 bare (fun b z => absurd z (by simp))
    show wpAny _ _ (noteFrame (.ref e) X.env) _ _ s'
    refine wpAny_looks_onW hfr hfrm fl fun h4 held up4 => ?_
    refine wpAny_landsW held fun h5 fl5 up5 => ?_
    have up45 := up4.trans up5
    have I5 := after h5 s'.toks fl5.1 up45
    refine wpAny_handleBy_cons (codeAny_handlers_test (ld_glob (X := inX X e fun _ _ => False) (inv_in I5) hcg hcm ?_ hcd)) (by intro q; cases q)
    obtain ⟨ob, hob, hobc⟩ := fl5.there
    have LT : PySem.W.Looks (model X.prog X.w) h5 (typeOf (.ref e)) (.ref C) := hobc ▸ (PySem.W.Looks.ld hob).andThen .now
    obtain ⟨ρ', F', fps', S', hW⟩ := hW
    by_cases hc : (ct c && free ρ' ie) = true
    · have hc' := hc
      rw [Bool.and_eq_true] at hc'
      refine (PySem.W.exm_one (K := X.K) I5.kIn LT (hct c C hc'.1 hC)).here ?_
      refine codeAny_handlers_suite_as ?_
      refine lands_againW fl5 fun h6 fl6 up6 => ?_
      have I6 := after h6 s'.toks fl6.1 (up45.trans up6)
      obtain ⟨oe, ws, q1, q2, q3, _⟩ := fl6.first
      have I6' : L2.Inv X pins σ1 (upd H' e (ExcAt e C)) { s' with heap := h6 } := by
        refine inv_track I6 He ?_ ?_ (fun x c' ec z => ?_) (fun p hp z => ?_) (exc_ok q1 q2 q3)
        · cases q : X.s₀.heap.get? e with
          | none => rfl
          | some o =>
            by_cases hx : e ∈ X.ex
            · rw [hex] at hx; cases hx
            · obtain ⟨o', q'⟩ := J.base.there e o q hx
              rw [e1] at q'; cases q'
        · intro z
          obtain ⟨m, ⟨oL, _, _, hL, _⟩, _⟩ := J.loc
          rw [← z, e1] at hL; cases hL
        · obtain ⟨v, oc, q, _⟩ := J.cell x c' ec
          rw [z, e1] at q; cases q
        · have q := (J.pin p hp).1
          rw [z, e1] at q; cases q
      have hW : SPost X.K W F' H' fps'.flatten ρ' σ1 D (sTail ie ct h c ρ') := hW
      unfold sTail at hW
      rw [if_pos hc] at hW
      have gE : Grow F' H' (upd F' e (ExcAt e C)) (upd H' e (ExcAt e C)) := Grow.both S'.same He
      have oE : Own X.K (upd F' e (ExcAt e C)) (upd H' e (ExcAt e C)) (.ext false (.exc c)) (.ref e) [] := by
        unfold Own
        exact ⟨e, ExcAt e C, rfl, ⟨C, hC, rfl⟩, .inr ⟨rfl, upd_same, rfl⟩⟩
      have S2 := (S'.grow gE).store (i := ie) oE List.nodup_nil (fun b hb => by cases hb)
      refine store_ok (X := inX X e fun _ _ => False) (inv_in I6') nd hie (.inl hn) (v := .ref e) rfl (fun s7 I7 => ?_) (.inr hn)
      cases eh : h (ρ'.set ie (.val (.ext false (.exc c)))) with
      | next ρ2 =>
        rw [eh] at hW
        dsimp only at hW
        cases e2 : ρ2[ie]? with
        | none => rw [e2] at hW; exact hW.elim
        | some sl =>
          rw [e2] at hW
          cases sl with
          | un => exact hW.elim
          | pin _ => exact hW.elim
          | val dd =>
            have hW : NPost X.K F' H' fps'.flatten ρ' σ1 D.nx (ρ2.set ie .un) := hW
            refine wpAny_mono (hh e (fun _ _ => False) pins s7 _ _ { nx := fun σ8 H8 => ∃ F8 fps8, Sim X.K F8 H8 σ8 ρ2 fps8 ∧ Evo (upd F' e (ExcAt e C)) (upd H' e (ExcAt e C)) (fps'.set ie []).flatten F8 H8 fps8.flatten ∧ Pins (ρ'.set ie (.val (.ext false (.exc c)))) (σ1.set ie (some (.ref e))) ρ2 σ8, rt := fun _ _ => False } I7 ⟨_, _, _, S2, ?_⟩) (fun f s8 q8 => ?_) fun _ _ z => z.elim
            · rw [eh]
              exact fun σ' F8 H8 fps8 ev S8 p8 => ⟨F8, fps8, S8, ev, p8⟩
            · cases f with
              | next =>
                obtain ⟨σ8, H8, I8, F8, fps8, S8, ev8, p8⟩ := q8
                have I8 := inv_out I.ok.hd I8
                refine goes_ok I8 nd hie hn fun s9 I9 => ?_
                refine ⟨_, _, I9, hW _ F8 H8 _ ?_ (S8.drop ie) ?_⟩
                · have hsub : ∀ b ∈ (fps'.set ie []).flatten, b ∈ fps'.flatten := fun b hb => (mem_flatten_set hb).elim id (fun q => by cases q)
                  have hsub8 : ∀ b ∈ (fps8.set ie []).flatten, b ∈ fps8.flatten := fun b hb => (mem_flatten_set hb).elim id (fun q => by cases q)
                  have ev1 : Evo F' H' fps'.flatten (upd F' e (ExcAt e C)) (upd H' e (ExcAt e C)) (fps'.set ie []).flatten := gE.evoZ fun b hb => .inl (hsub b hb)
                  have ev2 := ev1.trans ev8
                  exact ⟨ev2.fr, ev2.keep, ev2.dom, ev2.new, fun b hb => ev2.zone b (hsub8 b hb)⟩
                · intro j d ej
                  have hj : ie ≠ j := by
                    rintro rfl
                    have := hc'.2
                    unfold free at this
                    rw [ej] at this; cases this
                  obtain ⟨⟨d', q1⟩, q2⟩ := p8 j d (by rw [List.getElem?_set_ne hj]; exact ej)
                  exact ⟨⟨d', by rw [List.getElem?_set_ne hj]; exact q1⟩, by rw [List.getElem?_set_ne hj, q2, List.getElem?_set_ne hj]⟩
              | ret _ => obtain ⟨_, _, _, _, _, z⟩ := q8; exact z.elim
              | brk => obtain ⟨_, _, _, z⟩ := q8; exact z.elim
              | cont => obtain ⟨_, _, _, z⟩ := q8; exact z.elim
      | ret _ _ => rw [eh] at hW; exact hW.elim
      | brk _ => rw [eh] at hW; exact hW.elim
      | cont _ => rw [eh] at hW; exact hW.elim
      | exc _ _ => rw [eh] at hW; exact hW.elim
      | bad => rw [eh] at hW; exact hW.elim
    · have hW : SPost X.K W F' H' fps'.flatten ρ' σ1 D (sTail ie ct h c ρ') := hW
      unfold sTail at hW
      rw [if_neg hc] at hW; exact hW.elim
  have hbody := hb E1 (X.pn ++ pins) W1 hE1
  refine wpAny_Try_except (wpAny_mono (hbody [] s σ H D (inv_pn I) ⟨ρ, F, fps, S, ?_⟩) (fun f s1 q => ?_) fun _ _ z => z)
  · unfold sTry at hD
    cases eb : b ρ with
    | next ρ' => rw [eb] at hD; exact hD
    | ret d ρ' => rw [eb] at hD; exact hD
    | brk ρ' => rw [eb] at hD; exact hD
    | cont ρ' => rw [eb] at hD; exact hD
    | bad => rw [eb] at hD; exact hD
    | exc c ρ' =>
      rw [eb] at hD
      exact fun σ' F' H' fps' ev S' p => ⟨ρ', F', fps', S', SPost.lift ev p hD⟩
  · cases f with
    | next => obtain ⟨σ', H', J, q⟩ := q; exact wpAny_execs_nil ⟨σ', H', inv_np J, q⟩
    | ret u => obtain ⟨v, σ', H', J, r, q⟩ := q; exact ⟨v, σ', H', inv_np J, r, q⟩
    | brk => obtain ⟨σ', H', J, q⟩ := q; exact ⟨σ', H', inv_np J, q⟩
    | cont => obtain ⟨σ', H', J, q⟩ := q; exact ⟨σ', H', inv_np J, q⟩
end
end VL
end
section
namespace VL
open PySem L2
section
variable {K : FG} {F H F' H' F1 H1 : Hp} {σ σ1 : St} {ρ ρ1 : Env} {Q : VK}
def capt (ρ : Env) (j : Nat) : Slot := match getD ρ j with | some d => .val d.frz | none => .un
def capOk (ρ : Env) (j : Nat) : Bool := match getD ρ j with | some d => d.calm | none => true
def compL (set : D → Env → Option Env) (c : SemT) (e : SemE) : List D → Env → R (List D)
  | [], _ => .ok []
  | d :: ds, ρ => match set d ρ with
    | none => .bad
    | some ρ1 => (c ρ1).bind fun b => if b = true then (e ρ1).bind fun x => if keepable x then (compL set c e ds ρ1).bind fun r => .ok (x.1 :: r) else .bad else compL set c e ds ρ1
def vComp (f : SemI) (nt : Nat) (js : List Nat) (set : D → Env → Option Env) (c : SemT) (e : SemE) : SemE := fun ρ => (f ρ).bind fun ds =>
  if decide (ds.length ≤ 1000000) then (compL set c e ds (List.replicate nt .un ++ js.map (capt ρ))).bind fun xs => if js.all (capOk ρ) || xs.all isScal then .ok (.lst true xs, true) else .bad else .bad
theorem caps {fps : List (List Addr)} (S : Sim K F H σ ρ fps) : ∀ (js : List Nat), ∃ U : List Addr, (∀ b ∈ U, F b = none) ∧ (js.all (capOk ρ) = true → U = []) ∧
    ∀ U' : List Addr, (∀ b ∈ U, b ∈ U') → (∀ b ∈ U', F b = none) → ∀ (k : Nat) (d : D), (js.map (capt ρ))[k]? = some (.val d) → ∃ v, (js.map fun j => (σ[j]?).join)[k]? = some (some v) ∧ Own K (frzH F H U') H d v []
  | [] => ⟨[], by simp, fun _ => rfl, fun _ _ _ k d e => by simp at e⟩
  | j :: js => by
    obtain ⟨U, u1, u2, u3⟩ := caps S js
    cases eg : getD ρ j with
    | none =>
      refine ⟨U, u1, fun h => u2 (by rw [List.all_cons, Bool.and_eq_true] at h; exact h.2), fun U' s1 s2 k d e => ?_⟩
      cases k with
      | zero =>
        have e : capt ρ j = .val d := by simpa using e
        unfold capt at e
        rw [eg] at e; cases e
      | succ k => simpa using u3 U' s1 s2 k d (by simpa using e)
    | some d0 =>
      obtain ⟨v, fp, h1, h2, h3⟩ := S.get eg
      have hz : ∀ b ∈ fp, b ∈ fps.flatten := fun b hb => List.mem_flatten.mpr ⟨_, List.mem_of_getElem? h2, hb⟩
      refine ⟨fp ++ U, fun b hb => (List.mem_append.mp hb).elim (fun q => (S.zone b (hz b q)).1) (u1 b), fun h => ?_, fun U' s1 s2 k d e => ?_⟩
      · rw [List.all_cons, Bool.and_eq_true] at h
        have hc : d0.calm = true := by have := h.1; unfold capOk at this; rw [eg] at this; exact this
        rw [Own.fp_nil d0 hc h3, u2 h.2]; rfl
      · cases k with
        | zero =>
          have e : capt ρ j = .val d := by simpa using e
          unfold capt at e
          rw [eg] at e; cases e
          exact ⟨v, by simp [h1], Own.freeze s2 d0 (fun b hb => s1 b (List.mem_append_left _ hb)) h3⟩
        | succ k => simpa using u3 U' (fun b hb => s1 b (List.mem_append_right _ hb)) s2 k d (by simpa using e)
theorem Sim.other {fps : List (List Addr)} {a : Addr} {o : HO} (S : Sim K F H σ ρ fps) (fa : F a = none) (ha : a ∉ fps.flatten) : Sim K F (upd H a o) σ ρ fps := by
  refine ⟨fun b u e => ?_, S.ls, S.lf, fun i s d e1 e2 => ?_, S.nd, fun b hb => ?_⟩
  · rw [upd_ne (ne_of_none e fa)]; exact S.same b u e
  · obtain ⟨v, fp, h1, h2, h3⟩ := S.at_ i s d e1 e2
    exact ⟨v, fp, h1, h2, h3.other fun z => ha (List.mem_flatten.mpr ⟨fp, List.mem_of_getElem? h2, z⟩)⟩
  · refine ⟨(S.zone b hb).1, ?_⟩
    have hne : b ≠ a := fun z => ha (z ▸ hb)
    rw [upd_ne hne]; exact (S.zone b hb).2
structure CSt (K : FG) (FB H1 : Hp) (acc : Addr) (F' H' : Hp) (σ' : St) (ρ' : Env) (done : List D) : Prop where
  fr : Same FB F'
  all : ∀ b o, H1 b = some o → H' b = some o
  new : ∀ b o, F' b = some o → FB b = some o ∨ H1 b = none
  sim : ∃ fps', Sim K F' H' σ' ρ' fps' ∧ fps'.flatten = []
  acc_ : F' acc = none
  own : ∃ xs fa, H' acc = some (.lst xs) ∧ Owns K F' H' done xs fa ∧ (acc :: fa).Nodup ∧ ∀ b ∈ fa, H1 b = none
theorem CSt.grow {FB H1 F2 H2 : Hp} {acc : Addr} {σ' : St} {ρ' : Env} {done : List D} (c : CSt K FB H1 acc F' H' σ' ρ' done) (g : Grow F' H' F2 H2) : CSt K FB H1 acc F2 H2 σ' ρ' done := by
  obtain ⟨fps', S, e⟩ := c.sim
  obtain ⟨xs, fa, a1, a2, a3, a4⟩ := c.own
  refine ⟨c.fr.trans g.fr, fun b o q => g.all b o (c.all b o q), fun b o q => ?_, ⟨fps', S.grow g, e⟩, ?_, ⟨xs, fa, g.all _ _ a1, a2.grow g, a3, a4⟩⟩
  · rcases g.new b o q with z | z
    · exact c.new b o z
    · refine .inr ?_
      cases q2 : H1 b with
      | none => rfl
      | some u => rw [c.all b u q2] at z; cases z
  · cases q : F2 acc with
    | none => rfl
    | some o =>
      rcases g.new acc o q with z | z
      · rw [c.acc_] at z; cases z
      · rw [a1] at z; cases z
theorem CSt.push {FB H1 : Hp} {acc : Addr} {σ' : St} {ρ' : Env} {done : List D} {x : D} {v : V} {fx : List Addr} (c : CSt K FB H1 acc F' H' σ' ρ' done) (hacc : H1 acc = none) (o : Own K F' H' x v fx) (n : fx.Nodup) {Hm : Hp} (hm : ∀ b ∈ fx, Hm b = none) (hsub : ∀ b o, H1 b = some o → ∃ o', Hm b = some o') (hdone : ∃ xs fa, H' acc = some (.lst xs) ∧ Owns K F' H' done xs fa ∧ (acc :: fa).Nodup ∧ (∀ b ∈ fa, H1 b = none) ∧ ∀ b ∈ acc :: fa, Hm b ≠ none) :
    ∃ xs, H' acc = some (.lst xs) ∧ xs.length = done.length ∧ CSt K FB H1 acc F' (upd H' acc (.lst (xs ++ [v]))) σ' ρ' (done ++ [x]) := by
  obtain ⟨fps', S, e⟩ := c.sim
  obtain ⟨xs, fa, a1, a2, a3, a4, hd⟩ := hdone
  have nx : ∀ b ∈ acc :: fa, b ∉ fx := fun b hb z => hd b hb (hm b z)
  have nacc := List.nodup_cons.mp a3
  refine ⟨xs, a1, (Owns.length done a2).symm, c.fr, fun b u q => ?_, c.new, ⟨fps', S.other c.acc_ (by rw [e]; simp), e⟩, c.acc_, ⟨xs ++ [v], fa ++ fx, upd_same, Owns.append done (a2.other nacc.1) (Owns.one (o.other (nx acc List.mem_cons_self))), ?_, fun b hb => ?_⟩⟩
  · rw [upd_ne (ne_of_none q hacc)]; exact c.all b u q
  · refine List.nodup_cons.mpr ⟨fun z => (List.mem_append.mp z).elim nacc.1 (nx acc List.mem_cons_self), List.nodup_append.mpr ⟨nacc.2, n, fun p hp q hq z => ?_⟩⟩
    subst z
    exact nx p (List.mem_cons_of_mem _ hp) hq
  · rcases List.mem_append.mp hb with hb | hb
    · exact a4 b hb
    · cases q : H1 b with
      | none => rfl
      | some u =>
        obtain ⟨o', z⟩ := hsub b u q
        rw [hm b hb] at z; cases z
theorem tv_comp {f : SemI} {nt : Nat} {js : List Nat} {set : D → Env → Option Env} {g : TG} {c : SemT} {e : SemE} (ht : Tgt K set g) (h : tv K (vComp f nt js set c e) σ H Q) : tComp (iv K f) nt js g (tvT K c) (tv K e) σ H Q := by
  obtain ⟨ρ, F, fps, S, h⟩ := h
  refine ⟨ρ, F, fps, S, R.holds_mono (R.holds_bind.mp h) fun ds hds J F1 H1 g1 hJ acc hacc => ?_⟩
  by_cases hsz : decide (ds.length ≤ 1000000) = true
  · rw [if_pos hsz] at hds
    rw [decide_eq_true_iff] at hsz
    have hds := R.holds_bind.mp hds
    have S1 := S.grow g1
    obtain ⟨U, u1, u2, u3⟩ := caps S1 js
    have own0 := u3 U (fun b hb => hb) u1
    let FB := frzH F1 H1 U
    have sB : Same F1 FB := frzH_same u1
    have inB : Same FB H1 := frzH_in g1.inn
    let H1' := upd H1 acc (.lst [])
    have gB : Grow FB H1 FB H1' := Grow.one inB hacc
    let σ0 : St := List.replicate nt none ++ js.map fun j => (σ[j]?).join
    let ρ0 : Env := List.replicate nt .un ++ js.map (capt ρ)
    have C0 : CSt K FB H1 acc FB H1' σ0 ρ0 [] := by
      refine ⟨Same.refl _, fun b o q => by show upd H1 acc _ b = _; rw [upd_ne (ne_of_none q hacc)]; exact q, fun b o q => .inl q, ⟨List.replicate ρ0.length [], ⟨gB.inn, ?_, by simp, fun i s d e1 e2 => ?_, by simp, fun a ha => by simp at ha⟩, by simp⟩, inB.free hacc, ⟨[], [], upd_same, Owns.nil, by simp, fun b hb => by cases hb⟩⟩
      · show (List.replicate nt none ++ js.map _).length = (List.replicate nt Slot.un ++ js.map _).length
        simp
      · have e1 : (List.replicate nt Slot.un ++ js.map (capt ρ))[i]? = some s := e1
        by_cases hi : i < nt
        · rw [List.getElem?_append_left (by simpa using hi), List.getElem?_replicate, if_pos hi] at e1
          cases e1; cases e2
        · rw [List.getElem?_append_right (by simpa using hi), List.length_replicate] at e1
          have es : s = .val d := by
            rw [List.getElem?_map] at e1
            cases ej : js[i - nt]? with
            | none => rw [ej] at e1; cases e1
            | some j =>
              rw [ej] at e1
              have e1 : capt ρ j = s := Option.some.inj e1
              unfold capt at e1
              cases eg : getD ρ j with
              | none => rw [eg] at e1; subst e1; cases e2
              | some d0 => rw [eg] at e1; subst e1; cases e2; rfl
          subst es
          obtain ⟨v, q1, q2⟩ := own0 (i - nt) d e1
          refine ⟨v, [], ?_, ?_, q2.grow gB⟩
          · show (List.replicate nt none ++ js.map fun j => (σ[j]?).join)[i]? = _
            rw [List.getElem?_append_right (by simpa using hi), List.length_replicate]; exact q1
          · have hl : i < ρ0.length := by
              have := (List.getElem?_eq_some_iff.mp e1).1
              show i < (List.replicate nt Slot.un ++ js.map (capt ρ)).length
              simp at this ⊢; omega
            rw [List.getElem?_replicate, if_pos hl]
    refine ⟨fun i m σ' H' => i ≤ ds.length ∧ m = ds.length - i ∧ ∃ ρ' F' done, CSt K FB H1 acc F' H' σ' ρ' done ∧ done.length ≤ i ∧
        (compL set c e (ds.drop i) ρ').holds (fun rest => (if js.all (capOk ρ) || (done ++ rest).all isScal then R.ok (D.lst true (done ++ rest), true) else R.bad).holds (EPost K F H Q)),
      ⟨ds.length, Nat.zero_le _, rfl, ρ0, FB, [], C0, Nat.le_refl _, hds⟩, ?_⟩
    rintro i m σ' H' ⟨hi, rfl, ρ', F', done, C, hdl, hrest⟩
    obtain ⟨fps', S', e'⟩ := C.sim
    by_cases hlt : i < ds.length
    · refine .inr ?_
      obtain ⟨d, hd⟩ : ∃ d, ds[i]? = some d := ⟨ds[i], by simp [hlt]⟩
      have hdrop : ds.drop i = d :: ds.drop (i + 1) := by
        rw [List.drop_eq_getElem_cons hlt]
        congr 1
        rw [List.getElem?_eq_getElem hlt] at hd; exact Option.some.inj hd
      rw [hdrop] at hrest
      obtain ⟨go, yl⟩ := hJ.2 i d hd F' H' (sB.trans C.fr) S'.same
      refine ⟨go, fun x H2 hy => ?_⟩
      obtain ⟨F2, g2, o2⟩ := yl x H2 hy
      have C2 := C.grow g2
      unfold compL at hrest
      cases es : set d ρ' with
      | none => rw [es] at hrest; exact hrest.elim
      | some ρ2 =>
        rw [es] at hrest
        have hrest := R.holds_bind.mp hrest
        refine ht F2 H2 d x ρ' ρ2 σ' fps' _ (S'.grow g2) o2 es fun σ2 fps2 S2 p2 k2 => ?_
        have e2' : fps2.flatten = [] := by
          cases q : fps2.flatten with
          | nil => rfl
          | cons b l => have := k2 b (by rw [q]; exact List.mem_cons_self); rw [e'] at this; cases this
        have C2' : CSt K FB H1 acc F2 H2 σ2 ρ2 done := ⟨C2.fr, C2.all, C2.new, ⟨fps2, S2, e2'⟩, C2.acc_, C2.own⟩
        refine ⟨ρ2, F2, fps2, S2, R.holds_mono hrest fun b hb F3 H3 g3 => ?_⟩
        have C3 := C2'.grow g3
        cases b with
        | false =>
          rw [if_neg Bool.false_ne_true] at hb
          show if false = true then _ else _
          rw [if_neg Bool.false_ne_true]
          exact ⟨ds.length - (i + 1), by omega, by omega, rfl, ρ2, F3, done, C3, by omega, hb⟩
        | true =>
          rw [if_pos rfl] at hb
          show if true = true then _ else _
          rw [if_pos rfl]
          obtain ⟨fps3, S3, e3'⟩ := C3.sim
          refine ⟨ρ2, F3, fps3, S3, R.holds_mono (R.holds_bind.mp hb) fun y hy v F4 H4 fy g4 o4 n4 k4 => ?_⟩
          by_cases hk : keepable y = true
          · rw [if_pos hk] at hy
            have hy := R.holds_bind.mp hy
            have k5 := keep_fp hk o4 k4
            have C4 := C3.grow g4
            obtain ⟨xs, a1, a2, C5⟩ := C4.push hacc o4 n4 (Hm := H3) k5 (fun b o q => ⟨o, C3.all b o q⟩) (by
              obtain ⟨ys, fa', b1, b2, b3, b4⟩ := C3.own
              refine ⟨ys, fa', g4.all _ _ b1, b2.grow g4, b3, b4, fun b hb => ?_⟩
              rcases List.mem_cons.mp hb with rfl | hb
              · rw [b1]; simp
              · obtain ⟨_, zs, z⟩ := Owns.zone done b2 b hb
                rw [z]; simp)
            refine ⟨xs, a1, size_lt (by omega), ds.length - (i + 1), by omega, by omega, rfl, ρ2, F4, done ++ [y.1], C5, by simp; omega, R.holds_mono hy fun r hr => ?_⟩
            have hr : (if js.all (capOk ρ) || (done ++ y.1 :: r).all isScal then R.ok (D.lst true (done ++ y.1 :: r), true) else R.bad).holds (EPost K F H Q) := hr
            rw [show done ++ [y.1] ++ r = done ++ y.1 :: r by simp]
            exact hr
          · rw [if_neg hk] at hy; exact hy.elim
    · have hil : i = ds.length := by omega
      refine .inl ⟨hJ.1 i H' (sB.trans (C.fr.trans S'.same)) (by omega), ?_⟩
      rw [List.drop_eq_nil_of_le (by omega)] at hrest
      have hrest : (if js.all (capOk ρ) || (done ++ []).all isScal then R.ok (D.lst true (done ++ []), true) else R.bad).holds (EPost K F H Q) := hrest
      rw [List.append_nil] at hrest
      obtain ⟨xs, fa, a1, a2, a3, a4⟩ := C.own
      have hall : Same H H' := g1.all.trans C.all
      have frsh : ∀ b ∈ acc :: fa, H b = none := fun b hb => by
        rcases List.mem_cons.mp hb with rfl | hb
        · exact g1.all.free hacc
        · exact g1.all.free (a4 b hb)
      by_cases hcap : js.all (capOk ρ) = true
      · rw [hcap, Bool.true_or, if_pos rfl] at hrest
        have hU := u2 hcap
        subst hU
        have eFB : ∀ b, FB b = F1 b := fun b => by show frzH F1 H1 [] b = F1 b; unfold frzH; simp
        refine hrest (.ref acc) F' H' (acc :: fa) ⟨g1.fr.trans (sB.trans C.fr), hall, S'.same, fun b o q => ?_⟩ (Own.closed a2 C.acc_ a1) a3 fun _ b hb => frsh b hb
        rcases C.new b o q with z | z
        · rw [eFB] at z; exact g1.new b o z
        · exact .inr (g1.all.free z)
      · by_cases hsc : done.all isScal = true
        · rw [hsc, Bool.or_true, if_pos rfl] at hrest
          have hfa : fa = [] := by
            refine Owns.fp_nil done ?_ a2
            rw [D.calms_eq]
            rw [List.all_eq_true] at hsc ⊢
            intro x hx
            have := hsc x hx
            unfold isScal at this
            cases x <;> first | rfl | (simp [scalD] at this)
          subst hfa
          have o1 : Owns K F1 H' done xs [] := by
            refine Owns.of_get done (Owns.length done a2) fun k d v e1 e2 => ?_
            have hd : isScal d = true := by rw [List.all_eq_true] at hsc; exact hsc d (List.mem_of_getElem? e1)
            unfold isScal at hd
            cases q : scalD d with
            | none => rw [q] at hd; cases hd
            | some w =>
              have := of_scal q (Owns.get0 a2 e1 e2)
              rw [this.1]; exact own_scal q
          refine hrest (.ref acc) F1 H' [acc] ⟨g1.fr, hall, (sB.trans C.fr).trans S'.same, fun b o q => g1.new b o q⟩ (Own.closed o1 (g1.inn.free hacc) a1) a3 fun _ b hb => frsh b hb
        · have : (js.all (capOk ρ) || done.all isScal) = false := by
            rw [Bool.eq_false_iff]; intro z
            rcases Bool.or_eq_true _ _ ▸ z with z | z
            · exact hcap z
            · exact hsc z
          rw [this] at hrest; exact hrest.elim
  · rw [if_neg hsz] at hds; exact hds.elim
end
end VL
end
section
namespace VL
open PySem PySem.Spec PyProof.Rows L2
def Ite (K : FG) (a : Addr) : It :=
  ⟨fun i H => ∃ xs x, SqL K H a xs ∧ xs[i]? = some x, fun i H x H' => ∃ p y, H p = none ∧ x = .ref p ∧ (∀ xs, SqL K H a xs → xs[i]? = some y) ∧ H' = upd H p (.tup [.int i, y]), fun i H => ∃ xs, SqL K H a xs ∧ xs.length ≤ i⟩
section
variable {X : Cx} {pins : List (Addr × Obj)} {σ : L2.St} {H : Hp} {s : Shared}
theorem enum_inv {e it : Addr} {h' : Heap} {t' : Nat} {xs : List V} {its : List Value} (I : L2.Inv X pins σ H s) (he : FpOk X pins H e) (hi : FpOk X pins H it) (k : ∀ b o, b ≠ e → b ≠ it → s.heap.get? b = some o → h'.get? b = some o)
    (he' : ∃ o, h'.get? e = some o) (hi' : ∃ o, h'.get? it = some o) (r : Vals xs its) (hz : xs.length ≤ sizeLine) (hp : IsTup h' s.heap.objs.size its.toArray) : L2.Inv X pins σ (upd H s.heap.objs.size (.tup xs)) { s with heap := h', toks := t' } := by
  have fr := I.fresh
  have U : Un (frs X.stack) [e, it] H (upd H s.heap.objs.size (.tup xs)) s.heap h' := by
    refine ⟨fun b o q _ _ hx => k b o (fun z => hx (by simp [z])) (fun z => hx (by simp [z])) q, fun b o q _ _ hx => ⟨o.slots, k b o (fun z => hx (by simp [z])) (fun z => hx (by simp [z])) q⟩, fun b o q n _ => by rw [upd_ne (Nat.ne_of_lt (Heap.lt_size q))]; exact n,
      fun b o q hx => ⟨o, k b o (fun z => hx (by simp [z])) (fun z => hx (by simp [z])) q⟩, fun b ys q => by rw [upd_ne (ne_of_none q fr)]; exact q, fun b o u q => by rw [upd_ne (ne_of_none q fr)]; exact q, fun b ps q => ⟨#[], by rw [upd_ne (ne_of_none q fr), q]; simp⟩⟩
  refine I.call' (s' := { s with heap := h', toks := t' }) rfl U (fun b u q => ?_) I.bare fun b hb => ?_
  · by_cases hb : b = s.heap.objs.size
    · subst hb; rw [upd_same] at q; cases q
      exact ⟨hz, its, r, hp⟩
    · rw [upd_ne hb] at q
      refine (I.hok b u q).stay (fun c v hc q' => k c v ?_ ?_ q') (fun c q' => by rw [upd_ne (ne_of_none q' fr)]; exact q') fun c ys q' => by rw [upd_ne (ne_of_none q' fr)]; exact q'
      · rintro rfl
        rcases hc with rfl | hc
        · rw [he.1] at q; cases q
        · rw [he.1] at hc; cases hc
      · rintro rfl
        rcases hc with rfl | hc
        · rw [hi.1] at q; cases q
        · rw [hi.1] at hc; cases hc
  · have : b = e ∨ b = it := by simpa using hb
    rcases this with rfl | rfl
    · exact ⟨he.2.2.2.1, he.2.1, he.2.2.2.2.1, he.2.2.2.2.2⟩
    · exact ⟨hi.2.2.2.1, hi.2.1, hi.2.2.2.2.1, hi.2.2.2.2.2⟩
theorem turn_enum {P : Program} {w : World} {K : FG} {elts : List Expr} {k : Nat} {tp : Pos} (a e it : Addr) (hei : e ≠ it) : Turn P w K (.Tuple elts k tp) (Ite K a) [e, it] e (fun i h => (∃ old, IsEnum h e it i old) ∧ h.IsListIter it a i) where
  mem := by simp
  obj := fun i h st b hb => by
    obtain ⟨⟨old, he⟩, o, ho, c, d⟩ := st
    have : b = e ∨ b = it := by simpa using hb
    rcases this with rfl | rfl
    · exact ⟨_, he, fun v z => by
        have z' : Data.fields _ = Data.cell v := z
        cases z'⟩
    · exact ⟨o, ho, fun v z => by rw [d] at z; cases z⟩
  keep := fun i h h' st kk => by
    obtain ⟨⟨old, he⟩, hit⟩ := st
    exact ⟨⟨old, kk e (by simp) _ he⟩, hit.at fun o x => kk it (by simp) o x⟩
  item := by
    intro X hP hw hK hc i pins s σ H E I hf st hg
    subst hP hw hK
    obtain ⟨xs, x, hq, hx⟩ := hg
    obtain ⟨its, rv, p, hz⟩ := I.list hq
    obtain ⟨u, hu, ru⟩ := rv.get hx
    obtain ⟨⟨old, he⟩, hit⟩ := st
    have fe := hf e (by simp)
    have fi := hf it (by simp)
    refine wpAny_pyNext_enum_item he hit p.isList (x := u) (by simpa using hu) hei fun h' heo hit' ht hsz hk => ⟨_, rfl, ?_⟩
    refine wpAny_letOwnedTupleGo_enum heo fun h2 he2 hs2 => ?_
    have hs2 : Heap.SameBut e h' h2 := hs2
    have hel : e < s.heap.objs.size := Heap.lt_size he
    have hil : it < s.heap.objs.size := by obtain ⟨o, ho, _⟩ := hit; exact Heap.lt_size ho
    have hit2 : h2.IsListIter it a (i + 1) := hit'.at fun o y => (hs2.2 it hei.symm).trans y
    have I2 := enum_inv (h' := h2) (t' := s.toks + 1) (xs := [.int i, x]) (its := [.int i s.toks, u]) I fe fi (fun b o n1 n2 q => (hs2.2 b n1).trans (hk b o n1 n2 q)) ⟨_, he2⟩ (let ⟨o, ho, _⟩ := hit2; ⟨o, ho⟩) (.cons ⟨_, rfl⟩ (.cons ru .nil)) (by show 2 ≤ sizeLine; decide)
      ⟨_, (hs2.2 _ (Nat.ne_of_gt hel)).trans ht, rfl, _, rfl⟩
    refine ⟨.ref s.heap.objs.size, _, I2, rfl, ⟨s.heap.objs.size, x, I.fresh, rfl, fun ys hy => by rw [I.list_inj hy hq]; exact hx, rfl⟩, ⟨⟨u, by simpa using he2⟩, hit2⟩, fun b hb => ?_⟩
    have : b = e ∨ b = it := by simpa using hb
    rcases this with rfl | rfl
    · rw [upd_ne (Nat.ne_of_lt hel)]; exact fe.1
    · rw [upd_ne (Nat.ne_of_lt hil)]; exact fi.1
  done := by
    intro X hP hw hK hc i pins s σ H E I hf st hg
    subst hP hw hK
    obtain ⟨xs, hq, hx⟩ := hg
    obtain ⟨its, rv, p, hz⟩ := I.list hq
    obtain ⟨⟨old, he⟩, hit⟩ := st
    obtain ⟨f0, f1, f2, f3, f4, f5⟩ := hf it (by simp)
    have hl := rv.length
    exact wpAny_pyNext_enum_end (I.ok.hd hc) he hit p.isList (by simp; omega) fun h' eb => ⟨rfl, I.turned (t' := s.toks) (fun b o hb e => eb b o hb e) f0 f1 f3 f4 f5⟩
  self := fun _ _ _ _ _ st h => by
    obtain ⟨⟨old, he⟩, _⟩ := st
    exact wpAny_pyIter_enum he h
def iEnum (K : FG) (ta : TA) : TI := fun σ H R => ta σ H fun vs H1 => ∃ a xs, vs = [.ref a] ∧ Rd H1 a (.lst xs) ∧ R (Ite K a) H1
theorem pi_enum {a : Expr} {ta : TA} {p pos tp : Pos} {elts : List Expr} {k : Nat} (hg : Gl X "enumerate") (hm : X.mg "enumerate" = none) (ha : PA X [a] ta) (hs : starEach [a] X.env = [(false, eval a X.env)] := by rfl) : PI X (.Tuple elts k tp) (.Call (.Name "enumerate" p) [a] [] pos) (iEnum X.K ta) := by
  intro pins s σ H R I h
  refine Call_ (ld_blt I hg hm boot_enumerate (PyProof.Rows.callWith_type1 (thn (ha pos pins s σ H _ I h) fun us s1 ⟨vs, H1, I1, r1, q1⟩ => ?_) hs rfl))
  obtain ⟨l, xs, e, hr, q⟩ := q1
  subst e
  cases r1 with
  | cons r rr =>
    cases rr
    cases r
    obtain ⟨z, its, n, rv, e⟩ := hr.ok I1.hok
    refine call_enumerate_1 e fun h' he hit hsz hk => ?_
    refine wpAny_pyIter_enum he ?_
    have I2 : L2.Inv X pins σ H1 { s1 with heap := h' } := I1.kept (t' := s1.toks) hk
    refine ⟨s1.heap.objs.size + 1, [s1.heap.objs.size + 1, s1.heap.objs.size], _, _, H1, rfl, I2, turn_enum l _ _ (Nat.succ_ne_self _), ⟨⟨_, he⟩, hit⟩, fun b hb => ?_, q⟩
    have hb' : b = s1.heap.objs.size + 1 ∨ b = s1.heap.objs.size := by simpa using hb
    have hle : s1.heap.objs.size ≤ b := by
      rcases hb' with rfl | rfl
      · exact Nat.le_succ _
      · exact Nat.le_refl _
    exact I1.fpOk hle (I1.hok.fresh hle)
end
section
variable {K : FG} {F H : Hp} {σ : L2.St}
def enumD (ds : List D) : List D := ds.zipIdx.map fun p => .tup [.int (p.2 : Nat), p.1]
end
end VL
end
section
namespace VL
open PySem PySem.Spec PyProof.Rows L2
def Itz (a b : Addr) : It :=
  ⟨fun i H => ∃ xs ys x y, Rd H a (.lst xs) ∧ Rd H b (.lst ys) ∧ xs[i]? = some x ∧ ys[i]? = some y,
   fun i H v H' => ∃ p x y, H p = none ∧ v = .ref p ∧ (∀ xs, Rd H a (.lst xs) → xs[i]? = some x) ∧ (∀ ys, Rd H b (.lst ys) → ys[i]? = some y) ∧ H' = upd H p (.tup [x, y]),
   fun i H => ∃ xs ys, Rd H a (.lst xs) ∧ Rd H b (.lst ys) ∧ (xs.length ≤ i ∨ ys.length ≤ i)⟩
section
variable {X : Cx} {pins : List (Addr × Obj)} {σ : L2.St} {H : Hp} {s : Shared}
theorem Rd.inj {a : Addr} {xs ys : List V} (h : Rd H a (.lst xs)) (k : Rd H a (.lst ys)) : xs = ys := by
  rcases h with h | ⟨o, h⟩ <;> rcases k with k | ⟨o', k⟩ <;> rw [h] at k <;> cases k <;> rfl
theorem Rd.some {a : Addr} {u : HO} (h : Rd H a u) : H a ≠ none := by
  rcases h with h | ⟨o, h⟩ <;> rw [h] <;> simp
theorem turn_un {fp : List Addr} {H' : Hp} {h' : Heap} {t' : Nat} (I : L2.Inv X pins σ H s) (hf : ∀ b ∈ fp, FpOk X pins H b) (k : ∀ b o, b ∉ fp → s.heap.get? b = some o → h'.get? b = some o)
    (free : ∀ b o, s.heap.get? b = some o → H b = none → H' b = none) (sub : ∀ b u, H b = some u → H' b = some u) (hok : HOk X.prog X.w H' h') : L2.Inv X pins σ H' { s with heap := h', toks := t' } := by
  have U : Un (frs X.stack) fp H H' s.heap h' := ⟨fun b o q _ _ hx => k b o hx q, fun b o q _ _ hx => ⟨o.slots, k b o hx q⟩, fun b o q n _ => free b o q n, fun b o q hx => ⟨o, k b o hx q⟩, fun b ys q => sub b _ q, fun b o u q => sub b _ q, fun b ps q => ⟨#[], by rw [sub b _ q]; simp⟩⟩
  exact I.call' (s' := { s with heap := h', toks := t' }) rfl U hok I.bare fun b hb => ⟨(hf b hb).2.2.2.1, (hf b hb).2.1, (hf b hb).2.2.2.2.1, (hf b hb).2.2.2.2.2⟩
theorem turn_stay {fp : List Addr} {h' : Heap} {b : Addr} {u : HO} {H' : Hp} (I : L2.Inv X pins σ H s) (hf : ∀ b ∈ fp, FpOk X pins H b) (k : ∀ b o, b ∉ fp → s.heap.get? b = some o → h'.get? b = some o) (sub : ∀ b u, H b = some u → H' b = some u) (q : H b = some u) : ObjOk X.prog X.w H' h' b u := by
  refine (I.hok b u q).stay (fun c v hc q' => k c v (fun z => ?_) q') (fun c q' => sub c _ q') fun c ys q' => sub c _ q'
  rcases hc with hc | hc
  · subst hc; rw [(hf c z).1] at q; cases q
  · rw [(hf c z).1] at hc; cases hc
theorem turn_tup {fp : List Addr} {h' : Heap} {t' : Nat} {xs : List V} {its : List Value} (I : L2.Inv X pins σ H s) (hf : ∀ b ∈ fp, FpOk X pins H b) (k : ∀ b o, b ∉ fp → s.heap.get? b = some o → h'.get? b = some o)
    (r : Vals xs its) (hz : xs.length ≤ sizeLine) (hp : IsTup h' s.heap.objs.size its.toArray) : L2.Inv X pins σ (upd H s.heap.objs.size (.tup xs)) { s with heap := h', toks := t' } := by
  have fr := I.fresh
  have sub : ∀ b u, H b = some u → upd H s.heap.objs.size (.tup xs) b = some u := fun b u q => by rw [upd_ne (ne_of_none q fr)]; exact q
  refine turn_un I hf k (fun b o q n => by rw [upd_ne (Nat.ne_of_lt (Heap.lt_size q))]; exact n) sub fun b u q => ?_
  by_cases hb : b = s.heap.objs.size
  · subst hb; rw [upd_same] at q; cases q
    exact ⟨hz, its, r, hp⟩
  · rw [upd_ne hb] at q
    exact turn_stay I hf k sub q
theorem turn_same {fp : List Addr} {h' : Heap} {t' : Nat} (I : L2.Inv X pins σ H s) (hf : ∀ b ∈ fp, FpOk X pins H b) (k : ∀ b o, b ∉ fp → s.heap.get? b = some o → h'.get? b = some o) : L2.Inv X pins σ H { s with heap := h', toks := t' } :=
  turn_un I hf k (fun _ _ _ n => n) (fun _ _ q => q) fun _ _ q => turn_stay I hf k (fun _ _ q => q) q
theorem lst_at {a : Addr} {xs : List V} (I : L2.Inv X pins σ H s) (h : Rd H a (.lst xs)) : ∃ its, Vals xs its ∧ s.heap.IsList a its.toArray := by
  obtain ⟨its, rv, pl, _⟩ := I.list (.inl h)
  exact ⟨its, rv, pl.isList⟩
theorem turn_zip {P : Program} {w : World} {K : FG} {elts : List Expr} {k : Nat} {tp : Pos} (l1 l2 z TI TO i1 i2 : Addr) (D : TI ≠ z ∧ TO ≠ z ∧ i1 ≠ z ∧ i2 ≠ z ∧ TI ≠ TO ∧ TI ≠ i1 ∧ TI ≠ i2 ∧ TO ≠ i1 ∧ TO ≠ i2 ∧ i1 ≠ i2) :
    Turn P w K (.Tuple elts k tp) (Itz l1 l2) [z, TI, TO, i1, i2] z (fun i h => IsZip h z TI TO .none ∧ IsPair h TI (.ref i1) (.ref i2) ∧ (∃ a b, IsPair h TO a b) ∧ h.IsListIter i1 l1 i ∧ h.IsListIter i2 l2 i) where
  mem := by simp
  obj := fun i h st b hb => by
    obtain ⟨h1, h2, ⟨a, b', h3⟩, ⟨o4, h4, _, d4⟩, ⟨o5, h5, _, d5⟩⟩ := st
    have : b = z ∨ b = TI ∨ b = TO ∨ b = i1 ∨ b = i2 := by simpa using hb
    rcases this with rfl | rfl | rfl | rfl | rfl
    · exact ⟨_, h1, fun v z => by have z' : Data.fields _ = Data.cell v := z; cases z'⟩
    · exact ⟨_, h2, fun v z => by have z' : Data.seq _ _ = Data.cell v := z; cases z'⟩
    · exact ⟨_, h3, fun v z => by have z' : Data.seq _ _ = Data.cell v := z; cases z'⟩
    · exact ⟨o4, h4, fun v z => by rw [d4] at z; cases z⟩
    · exact ⟨o5, h5, fun v z => by rw [d5] at z; cases z⟩
  keep := fun i h h' st kk => by
    obtain ⟨h1, h2, ⟨a, b', h3⟩, h4, h5⟩ := st
    exact ⟨kk z (by simp) _ h1, kk TI (by simp) _ h2, ⟨a, b', kk TO (by simp) _ h3⟩, h4.at fun o x => kk i1 (by simp) o x, h5.at fun o x => kk i2 (by simp) o x⟩
  item := by
    intro X hP hw hK hc i pins s σ H E I hf st hg
    subst hP hw hK
    obtain ⟨xs, ys, x, y, hq1, hq2, hx, hy⟩ := hg
    obtain ⟨its, rv, pl⟩ := lst_at I hq1
    obtain ⟨its2, rv2, pl2⟩ := lst_at I hq2
    obtain ⟨u, hu, ru⟩ := rv.get hx
    obtain ⟨u2, hu2, ru2⟩ := rv2.get hy
    obtain ⟨h1, h2, ⟨a, b', h3⟩, h4, h5⟩ := st
    have ne1 : ∀ b ∈ [z, TI, TO, i1, i2], l1 ≠ b := fun b hb e => Rd.some hq1 (e ▸ (hf b hb).1)
    have ne2 : ∀ b ∈ [z, TI, TO, i1, i2], l2 ≠ b := fun b hb e => Rd.some hq2 (e ▸ (hf b hb).1)
    obtain ⟨d1, d2, d3, d4, d5, d6, d7, d8, d9, d10⟩ := D
    refine wpAny_pyNext_zip_item (x := u) (y := u2) ⟨d1, d2, d3, d4, d5, d6, d7, d8, d9, d10, ne1 z (by simp), ne1 TO (by simp), ne1 i1 (by simp), ne1 i2 (by simp), ne2 z (by simp), ne2 TO (by simp), ne2 i1 (by simp), ne2 i2 (by simp)⟩ h1 h2 h3 h4 h5 pl pl2 (by simpa using hu) (by simpa using hu2) fun h' z1 z2 z3 z4 z5 z6 z7 => ⟨_, rfl, ?_⟩
    refine wpAny_letOwnedTupleGo_zip z1 fun h2' y1 y2 => ?_
    have lt : ∀ b ∈ [z, TI, TO, i1, i2], b < s.heap.objs.size := fun b hb => by
      have : b = z ∨ b = TI ∨ b = TO ∨ b = i1 ∨ b = i2 := by simpa using hb
      obtain ⟨o4, h4', _⟩ := h4
      obtain ⟨o5, h5', _⟩ := h5
      rcases this with rfl | rfl | rfl | rfl | rfl
      · exact Heap.lt_size h1
      · exact Heap.lt_size h2
      · exact Heap.lt_size h3
      · exact Heap.lt_size h4'
      · exact Heap.lt_size h5'
    have kp : ∀ b o, b ∉ [z, TI, TO, i1, i2] → s.heap.get? b = some o → h2'.get? b = some o := fun b o hb q => by
      simp only [List.mem_cons, List.not_mem_nil, or_false, not_or] at hb
      exact (y2.2 b hb.1).trans (z7 b o hb.1 hb.2.2.1 hb.2.2.2.1 hb.2.2.2.2 q)
    have T2 : IsPair h2' TI (.ref i1) (.ref i2) := (y2.2 TI d1).trans (z7 TI _ d1 d5 d6 d7 h2)
    have T3 : IsPair h2' TO u u2 := (y2.2 TO d2).trans z2
    have T4 : h2'.IsListIter i1 l1 (i + 1) := z3.at fun o q => (y2.2 i1 d3).trans q
    have T5 : h2'.IsListIter i2 l2 (i + 1) := z4.at fun o q => (y2.2 i2 d4).trans q
    have I2 := turn_tup (t' := s.toks) (xs := [x, y]) (its := [u, u2]) I hf kp (.cons ru (.cons ru2 .nil)) (by show 2 ≤ sizeLine; decide) ⟨_, (y2.2 _ (Nat.ne_of_gt (lt z (by simp)))).trans z5, rfl, _, rfl⟩
    refine ⟨.ref s.heap.objs.size, _, I2, rfl, ⟨s.heap.objs.size, x, y, I.fresh, rfl, fun ws hw => by rw [Rd.inj hw hq1]; exact hx, fun ws hw => by rw [Rd.inj hw hq2]; exact hy, rfl⟩, ⟨y1, T2, ⟨u, u2, T3⟩, T4, T5⟩, fun b hb => ?_⟩
    rw [upd_ne (Nat.ne_of_lt (lt b hb))]; exact (hf b hb).1
  done := by
    intro X hP hw hK hc i pins s σ H E I hf st hg
    subst hP hw hK
    obtain ⟨xs, ys, hq1, hq2, hx⟩ := hg
    obtain ⟨its, rv, pl⟩ := lst_at I hq1
    obtain ⟨its2, rv2, pl2⟩ := lst_at I hq2
    obtain ⟨h1, h2, ⟨a, b', h3⟩, h4, h5⟩ := st
    have ne1 : ∀ b ∈ [z, TI, TO, i1, i2], l1 ≠ b := fun b hb e => Rd.some hq1 (e ▸ (hf b hb).1)
    have ne2 : ∀ b ∈ [z, TI, TO, i1, i2], l2 ≠ b := fun b hb e => Rd.some hq2 (e ▸ (hf b hb).1)
    obtain ⟨d1, d2, d3, d4, d5, d6, d7, d8, d9, d10⟩ := D
    have e1 := rv.length
    have e2 := rv2.length
    refine wpAny_pyNext_zip_end (I.ok.hd hc) ⟨d1, d2, d3, d4, d5, d6, d7, d8, d9, d10, ne1 z (by simp), ne1 TO (by simp), ne1 i1 (by simp), ne1 i2 (by simp), ne2 z (by simp), ne2 TO (by simp), ne2 i1 (by simp), ne2 i2 (by simp)⟩ h1 h2 h3 h4 h5 pl pl2 (by simp; omega) fun h' kp => ⟨rfl, turn_same (t' := s.toks) I hf fun b o hb q => ?_⟩
    simp only [List.mem_cons, List.not_mem_nil, or_false, not_or] at hb
    exact kp b o hb.1 hb.2.2.1 hb.2.2.2.1 hb.2.2.2.2 q
  self := fun _ _ _ _ _ st h => wpAny_pyIter_zip st.1 h
def iZip (ta : TA) : TI := fun σ H R => ta σ H fun vs H1 => ∃ a b xs ys, vs = [.ref a, .ref b] ∧ Rd H1 a (.lst xs) ∧ Rd H1 b (.lst ys) ∧ R (Itz a b) H1
theorem pi_zip {a b : Expr} {ta : TA} {p pos tp : Pos} {elts : List Expr} {k : Nat} (hg : Gl X "zip") (hm : X.mg "zip" = none) (ha : PA X [a, b] ta) (hs : starEach [a, b] X.env = [(false, eval a X.env), (false, eval b X.env)] := by rfl) (hs2 : starEach [b] X.env = [(false, eval b X.env)] := by rfl) :
    PI X (.Tuple elts k tp) (.Call (.Name "zip" p) [a, b] [] pos) (iZip ta) := by
  intro pins s σ H R I h
  refine Call_ (ld_blt I hg hm boot_zip (PyProof.Rows.callWith_type1 (thn (ha pos pins s σ H _ I h) fun us s1 ⟨vs, H1, I1, r1, q1⟩ => ?_) (by rw [hs, hs2]) (by rw [hs2]; rfl)))
  obtain ⟨l1, l2, xs, ys, e, hr1, hr2, q⟩ := q1
  subst e
  obtain ⟨u, u2, rfl, r, r'⟩ := r1.two
  cases r
  cases r'
  obtain ⟨its, rv, pl⟩ := lst_at I1 hr1
  obtain ⟨its2, rv2, pl2⟩ := lst_at I1 hr2
  refine call_zip_2 pl pl2 fun h' z1 z2 z3 z4 z5 z6 z7 => ?_
  refine wpAny_pyIter_zip z1 ?_
  have I2 : L2.Inv X pins σ H1 { s1 with heap := h' } := I1.kept (t' := s1.toks) z7
  refine ⟨s1.heap.objs.size + 4, [s1.heap.objs.size + 4, s1.heap.objs.size + 2, s1.heap.objs.size + 3, s1.heap.objs.size, s1.heap.objs.size + 1], _, _, H1, rfl, I2, turn_zip l1 l2 _ _ _ _ _ (by refine ⟨?_, ?_, ?_, ?_, ?_, ?_, ?_, ?_, ?_, ?_⟩ <;> (intro z; have z' : (_ : Nat) = (_ : Nat) := z; omega)), ⟨z1, z2, ⟨_, _, z3⟩, z4, z5⟩, fun b hb => ?_, q⟩
  have hle : s1.heap.objs.size ≤ b := by
    simp only [List.mem_cons, List.not_mem_nil, or_false] at hb
    rcases hb with rfl | rfl | rfl | rfl | rfl <;> first | exact Nat.le_refl _ | exact Nat.le_add_right _ _
  exact I1.fpOk hle (I1.hok.fresh hle)
end
section
variable {K : FG} {F H : Hp} {σ : L2.St}
def zipD (ds es : List D) : List D := (ds.zip es).map fun p => .tup [p.1, p.2]
def icyL (x : D × Bool) : R (List D) := match x.1 with
  | .lst _ ds => if keepable x then .ok (D.frzs ds) else .bad
  | _ => .bad
def iZi (f g : SemE) : SemI := fun ρ => (f ρ).bind fun x => (g ρ).bind fun y => (icyL x).bind fun ds => (icyL y).bind fun es => .ok (zipD ds es)
def iEnF (f : SemE) : SemI := fun ρ => (f ρ).bind fun x => (icyL x).bind fun ds => .ok (enumD ds)
def iLiF (f : SemE) : SemI := fun ρ => (f ρ).bind fun x => icyL x
theorem icy {F0 H0 : Hp} {x : D × Bool} {v : V} {fx : List Addr} {ds : List D} (g : Grow F0 H0 F H) (o : Own K F H x.1 v fx) (k : x.2 = true → ∀ b ∈ fx, H0 b = none) (e : icyL x = .ok ds) :
    ∃ a xs F', v = .ref a ∧ Grow F0 H0 F' H ∧ Same F F' ∧ (∀ b u, F' b = some u → F b = some u ∨ b ∈ fx) ∧ Rd F' a (.lst xs) ∧ Owns K F' H ds xs [] := by
  unfold icyL at e
  split at e
  · rename_i w es hx
    by_cases hk : keepable x = true
    · rw [if_pos hk] at e; cases e
      have kf := keep_fp hk o k
      have zo : ∀ b ∈ fx, F b = none := fun b hb => (Own.zone x.1 o b hb).1
      have of_ := Own.freeze (fp := fx) zo x.1 (fun b hb => hb) o
      rw [hx] at of_
      unfold D.frz Own at of_
      obtain ⟨a, xs, fq, ev, r, q⟩ := of_
      rcases q with ⟨q, _⟩ | ⟨_, q, q2, _⟩
      · cases q
      · subst q2
        refine ⟨a, xs, frzH F H fx, ev, g.frz kf zo, frzH_same zo, fun b u q => ?_, q, r⟩
        unfold frzH at q
        split at q
        · exact .inr (by assumption)
        · exact .inl q
    · rw [if_neg hk] at e; cases e
  · cases e
theorem R.holds_ok {α : Type} {x : R α} {P : α → Prop} (h : x.holds P) : ∃ a, x = .ok a ∧ P a := by
  cases x with
  | ok a => exact ⟨a, rfl, h⟩
  | exc _ => exact h.elim
  | bad => exact h.elim
theorem iter_list {F : Hp} {ds : List D} {a : Addr} {xs : List V} (q : Rd F a (.lst xs)) (r : Owns K F H ds xs []) : IterOf K F ds (Itl K a) := by
  have q : SqL K F a xs := .inl q
  refine ⟨fun i H' hs hl => ⟨xs, hs.seq q, by rw [← Owns.length ds r]; exact hl⟩, fun i d hd F' H' s1 s2 => ?_⟩
  obtain ⟨u, f, q1, q2, q3⟩ := Owns.get ds r hd
  refine ⟨⟨xs, u, (s1.trans s2).seq q, q1⟩, fun y H2 hy => ?_⟩
  obtain ⟨e, hy⟩ := hy
  subst e
  have ey := hy xs ((s1.trans s2).seq q)
  rw [q1] at ey; cases ey
  have : f = [] := List.sublist_nil.mp q3
  subst this
  exact ⟨F', Grow.refl s2, Own.keep s1 d (fun a ha => by cases ha) q2⟩
theorem iter_enum {F : Hp} {ds : List D} {a : Addr} {ys : List V} (q : Rd F a (.lst ys)) (rr : Owns K F H ds ys []) : IterOf K F (enumD ds) (Ite K a) := by
  refine ⟨fun i H' hs hl => ?_, fun i d hd F' H' s1 s2 => ?_⟩
  · refine ⟨ys, .inl (Same.rd hs q), ?_⟩
    rw [← Owns.length ds rr]
    unfold enumD at hl
    simpa using hl
  · unfold enumD at hd
    rw [List.getElem?_map, List.getElem?_zipIdx] at hd
    cases ed : ds[i]? with
    | none => rw [ed] at hd; cases hd
    | some d0 =>
      rw [ed] at hd
      have hd : D.tup [.int ((0 + i : Nat) : Int), d0] = d := Option.some.inj hd
      subst hd
      obtain ⟨u, f, q1, q2, q3⟩ := Owns.get ds rr ed
      have : f = [] := List.sublist_nil.mp q3
      subst this
      refine ⟨⟨ys, u, .inl (Same.rd (s1.trans s2) q), q1⟩, fun x H2 hy => ?_⟩
      obtain ⟨p, y, hp, ex, hy, eH⟩ := hy
      subst ex; subst eH
      have ey := hy ys (.inl (Same.rd (s1.trans s2) q))
      rw [q1] at ey; cases ey
      have g2 : Grow F' H' (upd F' p (.tup [.int (i : Int), u])) (upd H' p (.tup [.int (i : Int), u])) := Grow.both s2 hp
      refine ⟨_, g2, ?_⟩
      unfold Own
      refine ⟨rfl, p, [.int (i : Int), u], rfl, SqT.of upd_same, ?_⟩
      have o1 : Own K (upd F' p (.tup [.int (i : Int), u])) (upd H' p (.tup [.int (i : Int), u])) (.int ((0 + i : Nat) : Int)) (.int (i : Int)) [] := own_scal (by rw [Nat.zero_add]; rfl)
      exact Owns.cons o1 (Owns.one ((Own.keep s1 d0 (fun a ha => by cases ha) q2).grow g2))
theorem iter_zip {F : Hp} {ds es : List D} {a b : Addr} {xs ys : List V} (q1 : Rd F a (.lst xs)) (r1 : Owns K F H ds xs []) (q2 : Rd F b (.lst ys)) (r2 : Owns K F H es ys []) : IterOf K F (zipD ds es) (Itz a b) := by
  have l1 := Owns.length ds r1
  have l2 := Owns.length es r2
  refine ⟨fun i H' hs hl => ?_, fun i d hd F' H' s1 s2 => ?_⟩
  · refine ⟨xs, ys, Same.rd hs q1, Same.rd hs q2, ?_⟩
    unfold zipD at hl
    rw [List.length_map, List.length_zip] at hl
    omega
  · unfold zipD at hd
    rw [List.getElem?_map] at hd
    cases ez : (ds.zip es)[i]? with
    | none => rw [ez] at hd; cases hd
    | some p0 =>
      rw [ez] at hd
      have hd : D.tup [p0.1, p0.2] = d := Option.some.inj hd
      subst hd
      obtain ⟨e1, e2⟩ := List.getElem?_zip_eq_some.mp ez
      obtain ⟨u, f, p1, p2, p3⟩ := Owns.get ds r1 e1
      have : f = [] := List.sublist_nil.mp p3
      subst this
      obtain ⟨u', f', p1', p2', p3'⟩ := Owns.get es r2 e2
      have : f' = [] := List.sublist_nil.mp p3'
      subst this
      refine ⟨⟨xs, ys, u, u', Same.rd (s1.trans s2) q1, Same.rd (s1.trans s2) q2, p1, p1'⟩, fun x H2 hy => ?_⟩
      obtain ⟨p, x1, y1, hp, ex, hx1, hy1, eH⟩ := hy
      subst ex; subst eH
      have ey := hx1 xs (Same.rd (s1.trans s2) q1)
      rw [p1] at ey; cases ey
      have ey := hy1 ys (Same.rd (s1.trans s2) q2)
      rw [p1'] at ey; cases ey
      have g2 : Grow F' H' (upd F' p (.tup [u, u'])) (upd H' p (.tup [u, u'])) := Grow.both s2 hp
      refine ⟨_, g2, ?_⟩
      unfold Own
      refine ⟨rfl, p, [u, u'], rfl, SqT.of upd_same, ?_⟩
      exact Owns.cons ((Own.keep s1 p0.1 (fun a ha => by cases ha) p2).grow g2) (Owns.one ((Own.keep s1 p0.2 (fun a ha => by cases ha) p2').grow g2))
theorem iv_zi {f g : SemE} {R' : It → Hp → Prop} (h : iv K (iZi f g) σ H R') : iZip (tCons (tv K f) (tCons (tv K g) tNil)) σ H R' := by
  obtain ⟨ρ, F, fps, S, h⟩ := h
  refine ⟨ρ, F, fps, S, R.holds_mono (R.holds_bind.mp h) fun x hx v F1 H1 fx g1 o1 n1 k1 => ?_⟩
  refine ⟨ρ, F1, fps, S.grow g1, R.holds_mono (R.holds_bind.mp hx) fun y hy u F2 H2 fy g2 o2 n2 k2 => ?_⟩
  obtain ⟨ds, ed, hy⟩ := R.holds_ok (R.holds_bind.mp hy)
  obtain ⟨es, ee, hy⟩ := R.holds_ok (R.holds_bind.mp hy)
  obtain ⟨b, ys, Fb, eb, gb, sb, nb, rb, ob⟩ := icy g2 o2 k2 ee
  have o1' : Own K Fb H2 x.1 v fx := o1.grow gb
  obtain ⟨a, xs, Fa, ea, ga, sa, na, ra, oa⟩ := icy (g1.trans gb) o1' k1 ed
  subst ea; subst eb
  exact ⟨a, b, xs, ys, rfl, Same.rd ga.inn ra, Same.rd ga.inn (Same.rd sa rb), hy _ Fa H2 ga (iter_zip (H := H2) ra oa (Same.rd sa rb) (Owns.keep sa es (fun c hc => by cases hc) ob))⟩
theorem iv_enF {f : SemE} {R' : It → Hp → Prop} (h : iv K (iEnF f) σ H R') : iEnum K (tCons (tv K f) tNil) σ H R' := by
  obtain ⟨ρ, F, fps, S, h⟩ := h
  refine ⟨ρ, F, fps, S, R.holds_mono (R.holds_bind.mp h) fun x hx v F1 H1 fx g1 o1 n1 k1 => ?_⟩
  obtain ⟨ds, ed, hy⟩ := R.holds_ok (R.holds_bind.mp hx)
  obtain ⟨a, xs, Fa, ea, ga, sa, na, ra, oa⟩ := icy g1 o1 k1 ed
  subst ea
  exact ⟨a, xs, rfl, Same.rd ga.inn ra, hy _ Fa H1 ga (iter_enum (H := H1) ra oa)⟩
theorem iv_liF {f : SemE} {R' : It → Hp → Prop} (h : iv K (iLiF f) σ H R') : iList K (tv K f) σ H R' := by
  obtain ⟨ρ, F, fps, S, h⟩ := h
  refine ⟨ρ, F, fps, S, R.holds_mono (R.holds_bind.mp h) fun x hx v F1 H1 fx g1 o1 n1 k1 => ?_⟩
  obtain ⟨ds, ed, hy⟩ := R.holds_ok hx
  obtain ⟨a, xs, Fa, ea, ga, sa, na, ra, oa⟩ := icy g1 o1 k1 ed
  subst ea
  exact ⟨a, rfl, ⟨xs, .inl (Same.rd ga.inn ra)⟩, hy _ Fa H1 ga (iter_list (H := H1) ra oa)⟩
def icyA (x : D × Bool) : R (List D) := match x.1 with
  | .lst _ ds => if keepable x then .ok (D.frzs ds) else .bad
  | .tup ds => .ok ds
  | _ => .bad
def iAny (f : SemE) : SemI := fun ρ => (f ρ).bind icyA
theorem iv_any {f : SemE} {R' : It → Hp → Prop} (h : iv K (iAny f) σ H R') : iList K (tv K f) σ H R' ∨ iTup K (tv K f) σ H R' := by
  obtain ⟨ρ, F, fps, S, h⟩ := h
  unfold iAny at h
  obtain ⟨x, ex, hx⟩ := R.holds_ok (R.holds_bind.mp h)
  obtain ⟨ds, ed, hd⟩ := R.holds_ok hx
  unfold icyA at ed
  split at ed
  · rename_i o es hx'
    refine .inl (iv_liF ⟨ρ, F, fps, S, ?_⟩)
    unfold iLiF
    rw [ex]
    show (icyL x).holds _
    unfold icyL
    rw [hx']
    dsimp only
    rw [ed]; exact hd
  · rename_i es hx'
    cases ed
    refine .inr (iv_tup ⟨ρ, F, fps, S, ?_⟩)
    unfold iSeqT
    rw [ex]
    show (match x.1 with | .tup ds => R.ok ds | _ => .bad).holds _
    rw [hx']; exact hd
  · cases ed
end
end VL
end
section
namespace VL
open PySem PySem.Spec PyProof.Rows L2
mutual
def D.py : D → PyData
  | .non => .none | .bl b => .bool b | .int i => .int i | .str x => .str x
  | .tup ds => .tuple (D.pys ds)
  | .lst _ ds => .list (D.pys ds)
  | .ext _ _ => .none
def D.pys : List D → List PyData
  | [] => []
  | d :: ds => d.py :: D.pys ds
end
mutual
def D.plain : D → Bool
  | .tup ds => D.plains ds
  | .lst _ ds => D.plains ds
  | .ext _ _ => false
  | _ => true
def D.plains : List D → Bool
  | [] => true
  | d :: ds => d.plain && D.plains ds
end
section
variable {X : Cx} {pins : List (Addr × Obj)} {σ : L2.St} {F H : Hp} {s : Shared}
mutual
theorem own_reads (I : L2.Inv X pins σ H s) (hs : Same F H) : ∀ (d : D) {v : V} {fp : List Addr} {u : Value}, d.plain = true → Own X.K F H d v fp → RelV v u → ∃ as, Reads s.heap u d.py as
  | .non, v, fp, u, _, o, r => by unfold Own at o; rw [o.1] at r; cases r; exact ⟨_, .none⟩
  | .bl b, v, fp, u, _, o, r => by unfold Own at o; rw [o.1] at r; cases r; exact ⟨_, .bool b⟩
  | .int i, v, fp, u, _, o, r => by unfold Own at o; rw [o.1] at r; obtain ⟨t, rfl⟩ := r; exact ⟨_, .int i t⟩
  | .str x, v, fp, u, _, o, r => by unfold Own at o; rw [o.1] at r; obtain ⟨t, rfl⟩ := r; exact ⟨_, .str x t⟩
  | .ext _ _, _, _, _, hp, _, _ => by simp [D.plain] at hp
  | .tup ds, v, fp, u, hp, o, r => by
    unfold Own at o
    obtain ⟨_, a, xs, e, q, rr⟩ := o
    rw [e] at r; cases r
    obtain ⟨its, rv, ⟨ob, h1, h2, n, h3⟩, _⟩ := I.tuple (Same.seqT hs q)
    obtain ⟨as, h4⟩ := owns_reads I hs ds (by simpa [D.plain] using hp) rr rv
    exact ⟨_, .tuple h1 h2 h3 (by simpa using h4)⟩
  | .lst w ds, v, fp, u, hp, o, r => by
    obtain ⟨a, xs, fq, e, q, rr, _⟩ := Own.lst hs o
    rw [e] at r; cases r
    obtain ⟨its, rv, ⟨ob, n, h1, h2, _, h3⟩, _⟩ := I.list q
    obtain ⟨as, h4⟩ := owns_reads I hs ds (by simpa [D.plain] using hp) rr rv
    exact ⟨_, .list h1 h2 h3 (by simpa using h4)⟩
theorem owns_reads (I : L2.Inv X pins σ H s) (hs : Same F H) : ∀ (ds : List D) {vs : List V} {fp : List Addr} {us : List Value}, D.plains ds = true → Owns X.K F H ds vs fp → Vals vs us → ∃ as, ReadsAll s.heap us (D.pys ds) as
  | [], vs, fp, us, _, o, r => by unfold Owns at o; rw [o.1] at r; cases r; exact ⟨_, .nil⟩
  | d :: ds, vs, fp, us, hp, o, r => by
    simp only [D.plains, Bool.and_eq_true] at hp
    unfold Owns at o
    obtain ⟨v, vr, f1, f2, e, o1, o2, _⟩ := o
    rw [e] at r
    cases r with
    | cons r1 r2 =>
      obtain ⟨a1, q1⟩ := own_reads I hs d hp.1 o1 r1
      obtain ⟨a2, q2⟩ := owns_reads I hs ds hp.2 o2 r2
      exact ⟨_, .cons q1 q2⟩
end
end
def eqD (x y : D) : Bool := PyData.eqv x.py y.py
def eqOk (x y : D) : Bool := x.plain && y.plain && (x.py.canLay0 && y.py.canLay0 && decide (min x.py.depth y.py.depth ≤ 100))
def rEqD (K : FG) (neg : Bool) : R2 := fun v u H Q => ∃ F x y fx fy, Same F H ∧ Own K F H x v fx ∧ Own K F H y u fy ∧ eqOk x y = true ∧ Q (.bl (if neg then !eqD x y else eqD x y)) H
def kEq (neg : Bool) : D × Bool → D × Bool → R (D × Bool) := fun x y => if eqOk x.1 y.1 then .ok (.bl (if neg then !eqD x.1 y.1 else eqD x.1 y.1), true) else .bad
theorem op2_eq {K : FG} {neg : Bool} : Op2 K (kEq neg) (rEqD K neg) := by
  intro F0 H0 F H x y v u fx fy Q gr o1 n1 k1 o2 n2 k2 h
  unfold kEq at h
  by_cases hc : eqOk x.1 y.1 = true
  · rw [if_pos hc] at h
    exact ⟨F, x.1, y.1, fx, fy, gr.inn, o1, o2, hc, EPost.scalG gr h rfl⟩
  · rw [if_neg hc] at h; exact h.elim
section
variable {X : Cx} {k : Nat}
theorem room_eq (hr : Room k X.A) {n : Nat} (h : n ≤ 100) : X.A.units + 1 + n < cLine := by have := hr.un; omega
theorem op_eqD (hr : Room k X.A) : OpR X (compareOp .Eq) (rEqD X.K false) := by
  intro pins s σ H v u vv uu Q I rx ry h
  obtain ⟨F, x, y, fx, fy, hs, o1, o2, hc, q⟩ := h
  unfold eqOk at hc
  simp only [Bool.and_eq_true, decide_eq_true_iff] at hc
  obtain ⟨_, r1⟩ := own_reads I hs x hc.1.1 o1 rx
  obtain ⟨_, r2⟩ := own_reads I hs y hc.1.2 o2 ry
  exact PySem.SeqAt.compareEq_reads r1 r2 hc.2.1.1 hc.2.1.2 (by have := room_eq hr hc.2.2; omega) ⟨.bl _, H, I, rfl, q⟩
theorem op_neD (hr : Room k X.A) : OpR X (compareOp .NotEq) (rEqD X.K true) := by
  intro pins s σ H v u vv uu Q I rx ry h
  obtain ⟨F, x, y, fx, fy, hs, o1, o2, hc, q⟩ := h
  unfold eqOk at hc
  simp only [Bool.and_eq_true, decide_eq_true_iff] at hc
  obtain ⟨_, r1⟩ := own_reads I hs x hc.1.1 o1 rx
  obtain ⟨_, r2⟩ := own_reads I hs y hc.1.2 o2 ry
  exact PySem.SeqAt.compareNe_reads r1 r2 hc.2.1.1 hc.2.1.2 (by have := room_eq hr hc.2.2; omega) ⟨.bl _, H, I, rfl, q⟩
end
end VL
end
section
namespace VL
open PySem PySem.Spec PyProof.Rows L2
def isiD (T : String) (d : D) : Bool := match d with
  | .non => false | .bl _ => T == "bool" || T == "int" | .int _ => T == "int" | .str _ => T == "str" | .tup _ => T == "tuple" | .lst _ _ => T == "list" | .ext _ _ => false
def notExt : D → Bool
  | .ext _ _ => false | _ => true
def tyNames : List String := ["bool", "int", "str", "tuple", "list"]
section
variable {X : Cx}
theorem kit_ok {K : FG} {T : String} (hT : T ∈ tyNames) : PySem.W.kitOne K (.type "NoneType") (.type T) = some false ∧ PySem.W.kitOne K (.type "bool") (.type T) = some (T == "bool" || T == "int") ∧ PySem.W.kitOne K (.type "int") (.type T) = some (T == "int") ∧
    PySem.W.kitOne K (.type "str") (.type T) = some (T == "str") ∧ PySem.W.kitOne K (.type "tuple") (.type T) = some (T == "tuple") ∧ PySem.W.kitOne K (.type "list") (.type T) = some (T == "list") := by
  have h : T = "bool" ∨ T = "int" ∨ T = "str" ∨ T = "tuple" ∨ T = "list" := by simpa [tyNames] using hT
  rcases h with rfl | rfl | rfl | rfl | rfl <;> refine ⟨?_, ?_, ?_, ?_, ?_, ?_⟩ <;> first | rfl | decide +kernel | kernel_rfl
theorem call_isi {T : String} (hT : T ∈ tyNames) : CallR X (.builtin "isinstance") (fun vs H Q => ∃ F d v fp, Same F H ∧ vs = [v, .ty T] ∧ Own X.K F H d v fp ∧ notExt d = true ∧ Q (.bl (isiD T d)) H) := by
  intro pins s σ H vs us Q I r h
  obtain ⟨F, d, v, fp, hs, e, o, hne, q⟩ := h
  subst e
  obtain ⟨u, u2, rfl, r1, r2⟩ := r.two
  cases r2
  obtain ⟨k1, k2, k3, k4, k5, k6⟩ := kit_ok (K := X.K) hT
  have fin : ∀ b tk, isiD T d = b → EP X pins σ Q (.bool b) { s with toks := tk } := fun b tk e => ⟨.bl b, H, I.tok _, rfl, e ▸ q⟩
  cases d with
  | non => unfold Own at o; rw [o.1] at r1; exact isinst_ok I r1 (.non) k1 fun tk => fin _ tk rfl
  | bl b => unfold Own at o; rw [o.1] at r1; exact isinst_ok I r1 (.bl b) k2 fun tk => fin _ tk rfl
  | int b => unfold Own at o; rw [o.1] at r1; exact isinst_ok I r1 (.int b) k3 fun tk => fin _ tk rfl
  | str b => unfold Own at o; rw [o.1] at r1; exact isinst_ok I r1 (.str b) k4 fun tk => fin _ tk rfl
  | tup ds =>
    unfold Own at o
    obtain ⟨_, a, xs, e, hy, _⟩ := o
    rw [e] at r1
    cases (show u = Value.ref a from r1)
    obtain ⟨its, rv, ⟨ob, h1, h2, _⟩, _⟩ := I.tuple (Same.seqT hs hy)
    exact PySem.W.kia_one PySem.W.kitx_tuple I.kIn ⟨ob, h1, h2⟩ k5 (fun z => nomatch z) fun tk => fin _ tk rfl
  | ext _ _ => cases hne
  | lst w ds =>
    obtain ⟨a, xs, fq, e, q1, _⟩ := Own.lstR hs o
    rw [e] at r1
    rcases q1 with q1 | ⟨ob, q1⟩
    · exact isinst_ok I r1 (.lst q1) k6 fun tk => fin _ tk rfl
    · exact isinst_ok I r1 (.frz q1) k6 fun tk => fin _ tk rfl
def kIsi (T : String) : D × Bool → R (D × Bool) := fun x => if notExt x.1 then .ok (.bl (isiD T x.1), true) else .bad
theorem se_isi {T : Str} {T' : String} {a : Expr} {f : SemE} {p q pos : Pos} (hT : T' ∈ tyNames) (ha : SE X a f) (hm : X.mg "isinstance" = none) (hm2 : X.mg T = none) (hv : bootBuiltins T = some (.type T')) (hg : Gl X "isinstance" := by rfl) (hg2 : Gl X T := by rfl) (hn : T ≠ "__name__" := by decide) (hd : (T == ("__debug__" : Str)) = false := by decide)
    (hs1 : starEach [a, .Name T q] X.env = (false, eval a X.env) :: starEach [.Name T q] X.env := by rfl) (hs2 : starEach [.Name T q] X.env = (false, eval (.Name T q) X.env) :: starEach [] X.env := by rfl)
    (hpl : (backTo pos (starEach [.Name T q] X.env)).any (·.1) = false := by rfl) : SE X (.Call (.Name "isinstance" p) [a, .Name T q] [] pos) (v1 (kIsi T') f) :=
  (pe_callB (call_isi hT) hg hm PyProof.Rows.boot_isinstance (pa_cons ha (pa_cons (pe_bltn (v := .ty T') hg2 hm2 hv rfl hn hd) pa_nil hs2) hs1) (by decide) (by decide) hs1 hpl).imp fun σ H Q h => by
    obtain ⟨ρ, F, fps, S, h⟩ := h
    refine ⟨ρ, F, fps, S, R.holds_mono (R.holds_bind.mp h) fun x hx v F1 H1 fx g1 o1 n1 k1 => ?_⟩
    unfold kIsi at hx
    by_cases hc : notExt x.1 = true
    · rw [if_pos hc] at hx
      exact ⟨F1, x.1, v, fx, g1.inn, rfl, o1, hc, EPost.scalG g1 hx rfl⟩
    · rw [if_neg hc] at hx; exact hx.elim
def intsD : List D → Option (List Int)
  | [] => some []
  | .int i :: ds => (intsD ds).map (i :: ·)
  | _ => none
theorem intsD_vals {K : FG} {F H : Hp} : ∀ (ds : List D) {ns : List Int} {xs : List V} {fp : List Addr}, intsD ds = some ns → Owns K F H ds xs fp → xs = ns.map V.int
  | [], ns, xs, fp, e, o => by unfold intsD at e; cases e; unfold Owns at o; exact o.1
  | d :: ds, ns, xs, fp, e, o => by
    cases d <;> try (unfold intsD at e; cases e; done)
    rename_i i
    unfold intsD at e
    cases q : intsD ds with
    | none => rw [q] at e; cases e
    | some ms =>
      rw [q] at e
      have e : some (i :: ms) = some ns := e
      cases e
      unfold Owns at o
      obtain ⟨v, r, f1, f2, e1, o1, o2, _⟩ := o
      unfold Own at o1
      rw [e1, o1.1, intsD_vals ds q o2]; rfl
theorem call_sumI (hc : X.calm = true) : CallR X (.builtin "sum") (fun xs H Q => ∃ (p : Addr) (ns : List Int), xs = [.ref p] ∧ SqL X.K H p (ns.map V.int) ∧ Q (.int ns.sum) H) := by
  intro pins s σ H xs us Q I r h
  obtain ⟨p, ns, rfl, hq, q⟩ := h
  obtain ⟨u, rfl, ru⟩ := vals1 r
  cases ru
  obtain ⟨its, rv, pl, _⟩ := I.list hq
  have hi : IntsAre its ns := intsAre_of rv
  obtain ⟨ys, hx⟩ := hi.allInts.items
  have hl' : s.heap.IsList p (intItems ys) := hx ▸ pl.isList
  refine sum_intListG (I.ok.hd hc) hl' fun h' tk t' hk => ?_
  have e1 : ns = ys.toList.map (·.1) := by
    rw [← nums_intItems, ← hx]
    exact (show numsOf its.toArray.toList = ns from hi.numsOf).symm
  have e2 : preSum (numAt ys) ys.size = ns.sum := by
    rw [preSum_eq, List.take_of_length_le (by simp), e1]
  rw [e2]
  exact ⟨.int _, H, I.kept hk, ⟨_, rfl⟩, q⟩
def kSum : List (D × Bool) → R (D × Bool)
  | [(.lst _ ds, _)] => (match intsD ds with | some ns => .ok (.int ns.sum, true) | none => .bad) | _ => .bad
theorem opA_sum {K : FG} : OpA K kSum (fun xs H Q => ∃ (p : Addr) (ns : List Int), xs = [.ref p] ∧ SqL K H p (ns.map V.int) ∧ Q (.int ns.sum) H) := by
  intro F0 H0 F H xs vs fa Q gr a n k h
  match xs, h, a with
  | [(.lst o ds, b)], h, a =>
    unfold Args at a
    obtain ⟨v, r, fp, f2, e, o1, n1, t, w⟩ := a
    unfold Args at t
    obtain ⟨p, ys, fq, e1, q1, r1, _⟩ := Own.lst gr.inn o1
    have h : (match intsD ds with | some ns => R.ok (D.int ns.sum, true) | none => R.bad).holds (EPost K F0 H0 Q) := h
    cases q : intsD ds with
    | none => rw [q] at h; exact h.elim
    | some ns =>
      rw [q] at h
      rw [intsD_vals ds q r1] at q1
      exact ⟨p, ns, by rw [e, t.1, e1], q1, EPost.scalG gr h rfl⟩
def k2i (g : Int → Int → Int) : List (D × Bool) → R (D × Bool)
  | [(.int i, _), (.int j, _)] => .ok (.int (g i j), true) | _ => .bad
theorem opA_2i {K : FG} {g : Int → Int → Int} : OpA K (k2i g) (fun xs H Q => ∃ i j, xs = [.int i, .int j] ∧ Q (.int (g i j)) H) := by
  intro F0 H0 F H xs vs fa Q gr a n k h
  match xs, h, a with
  | [(.int i, b), (.int j, b')], h, a =>
    unfold Args at a
    obtain ⟨v, r, fp, f2, e, o1, n1, t, w⟩ := a
    unfold Args at t
    obtain ⟨v', r', fp', f2', e', o1', n1', t', w'⟩ := t
    unfold Args at t'
    unfold Own at o1 o1'
    exact ⟨i, j, by rw [e, e', t'.1, o1.1, o1'.1], EPost.scalG gr h rfl⟩
end
end VL
end
section
namespace VL
open PySem PySem.Spec PyProof.Rows L2
section
variable {X : Cx} {W : XW} {e a b c : Expr} {es : List Expr} {st : Stmt} {pos : Pos}
def fits (i : Int) : Bool := decide (-(2 ^ 200) < i) && decide (i < 2 ^ 200)
theorem fits_abs {i : Int} (h : fits i = true) : i.natAbs < 2 ^ 200 := by
  unfold fits at h
  rw [Bool.and_eq_true, decide_eq_true_iff, decide_eq_true_iff] at h
  have e : (2 : Int) ^ 200 = ((2 ^ 200 : Nat) : Int) := by norm_cast
  rw [e] at h
  omega
theorem fits_log {i : Int} (h : fits i = true) : i.natAbs.log2 < 200 := by
  by_cases h0 : i.natAbs = 0
  · rw [h0]; decide
  · exact (Nat.log2_lt h0).mpr (fits_abs h)
def CDivB (i j : Int) : Prop := 0 < j ∧ fits j = true
theorem op_fdivB : OpR X (binaryOp .FloorDiv) (rI CDivB fun i j => .int (i / j)) := opI fun i j _ _ _ _ _ hc q => by
  have h1 : (0 : Int) < j := hc.1
  exact floordiv_int (by omega) (by rw [Int.fdiv_eq_ediv_of_nonneg i (by omega)]; exact q) (.inl (PyProof.noPylong_of_log2 (Nat.lt_trans (fits_log hc.2) (by decide))))
abbrev kDivB := kIc (fun _ j => decide (0 < j) && fits j) fun i j => .int (i / j)
theorem se_divB {f g : SemE} (ha : SE X a f) (hb : SE X b g) : SE X (.BinOp a .FloorDiv b pos) (v2 kDivB f g) := se_op op_fdivB (op2_Ic (fun _ _ => rfl) fun i j h => by
  rw [Bool.and_eq_true, decide_eq_true_iff] at h; exact h) ha hb
theorem Op2.or {K : FG} {k k1 k2 : D × Bool → D × Bool → R (D × Bool)} {r1 r2 : R2} (h1 : Op2 K k1 r1) (h2 : Op2 K k2 r2) (hk : ∀ x y, k x y = k1 x y ∨ k x y = k2 x y) : Op2 K k (fun x y H Q => r1 x y H Q ∨ r2 x y H Q) := by
  intro F0 H0 F H x y v u fx fy Q gr o1 n1 q1 o2 n2 q2 h
  rcases hk x y with e | e
  · rw [e] at h; exact .inl (h1 F0 H0 F H x y v u fx fy Q gr o1 n1 q1 o2 n2 q2 h)
  · rw [e] at h; exact .inr (h2 F0 H0 F H x y v u fx fy Q gr o1 n1 q1 o2 n2 q2 h)
def kPlus : D × Bool → D × Bool → R (D × Bool) := fun x y => match x.1 with
  | .int _ => kAdd x y | .lst _ _ => kCat x y | .tup _ => kCatT x y | _ => .bad
theorem kPlus_or (x y : D × Bool) : kPlus x y = kAdd x y ∨ (kPlus x y = kCat x y ∨ kPlus x y = kCatT x y) := by
  obtain ⟨x, bx⟩ := x
  cases x <;> first | exact .inl rfl | exact .inr (.inl rfl) | exact .inr (.inr rfl)
theorem Op2.eqv {K : FG} {k k1 k2 k3 : D × Bool → D × Bool → R (D × Bool)} {r1 r2 r3 : R2} (h1 : Op2 K k1 r1) (h2 : Op2 K k2 r2) (h3 : Op2 K k3 r3) (hk : ∀ x y, k x y = k1 x y ∨ (k x y = k2 x y ∨ k x y = k3 x y)) : Op2 K k (fun x y H Q => r1 x y H Q ∨ (r2 x y H Q ∨ r3 x y H Q)) := by
  intro F0 H0 F H x y v u fx fy Q gr o1 n1 q1 o2 n2 q2 h
  rcases hk x y with e | e | e
  · rw [e] at h; exact .inl (h1 F0 H0 F H x y v u fx fy Q gr o1 n1 q1 o2 n2 q2 h)
  · rw [e] at h; exact .inr (.inl (h2 F0 H0 F H x y v u fx fy Q gr o1 n1 q1 o2 n2 q2 h))
  · rw [e] at h; exact .inr (.inr (h3 F0 H0 F H x y v u fx fy Q gr o1 n1 q1 o2 n2 q2 h))
theorem se_plus {f g : SemE} (ha : SE X a f) (hb : SE X b g) : SE X (.BinOp a .Add b pos) (v2 kPlus f g) :=
  se_op (op_add.or (op_catR.or op_catT)) (Op2.eqv (op2_I fun _ _ => rfl) op2_cat op2_catT kPlus_or) ha hb
def CMulB (i j : Int) : Prop := fits i = true ∧ fits j = true
theorem intBits_le {i : Int} (h : fits i = true) : Builtin.Int.intBits i ≤ 2 ^ 20 := by
  unfold Builtin.Int.intBits
  have := fits_log h
  split <;> omega
theorem op_mulB : OpR X (binaryOp .Mult) (rI CMulB fun i j => .int (i * j)) := opI fun i j _ _ _ _ _ hc q => mul_int q (.of_bits (intBits_le hc.1) (intBits_le hc.2))
abbrev kMulB := kIc (fun i j => fits i && fits j) fun i j => .int (i * j)
theorem op2_mulB {K : FG} : Op2 K kMulB (rI CMulB fun i j => .int (i * j)) := op2_Ic (fun _ _ => rfl) fun i j h => by
  rw [Bool.and_eq_true] at h; exact h
def kRepO : D × Bool → D × Bool → R (D × Bool) := fun x y => match x.1, y.1 with
  | .lst true ds, .int k => if D.calms ds && decide (k < 1000000) && decide (-1000000 < k) && decide (ds.length * k.toNat ≤ 1000000) then .ok (.lst true (List.replicate k.toNat ds).flatten, true) else .bad
  | _, _ => .bad
theorem op2_repO {K : FG} : Op2 K kRepO rRep := by
  intro F0 H0 F H x y v u fx fy Q gr o1 n1 k1 o2 n2 k2 h
  obtain ⟨x, bx⟩ := x
  obtain ⟨y, by'⟩ := y
  cases x <;> try exact h.elim
  rename_i o ds
  cases o
  · cases y <;> exact h.elim
  · cases y <;> try exact h.elim
    rename_i k
    have h : (if (D.calms ds && decide (k < 1000000) && decide (-1000000 < k) && decide (ds.length * k.toNat ≤ 1000000)) = true then R.ok (D.lst true (List.replicate k.toNat ds).flatten, true) else R.bad).holds (EPost K F0 H0 Q) := h
    by_cases hc : (D.calms ds && decide (k < 1000000) && decide (-1000000 < k) && decide (ds.length * k.toNat ≤ 1000000)) = true
    · rw [if_pos hc] at h
      simp only [Bool.and_eq_true, decide_eq_true_iff] at hc
      obtain ⟨a, xs, fq, e1, r1, q0, q1, _⟩ := Own.opened o1
      unfold Own at o2
      have := Owns.fp_nil ds hc.1.1.1 r1
      subst this
      refine ⟨a, k, xs, e1, o2.1, q1, by omega, by omega, ?_, fun p hp => EPost.newL gr h hp (Owns.rep r1 _)⟩
      rw [← Owns.length ds r1]; exact size_ok hc.2
    · rw [if_neg hc] at h; exact h.elim
def kTimes : D × Bool → D × Bool → R (D × Bool) := fun x y => match x.1 with
  | .int _ => kMulB x y | .lst _ _ => kRepO x y | _ => .bad
theorem se_times {f g : SemE} (ha : SE X a f) (hb : SE X b g) : SE X (.BinOp a .Mult b pos) (v2 kTimes f g) :=
  se_op (op_mulB.or op_rep) (Op2.or op2_mulB op2_repO fun x y => by
    obtain ⟨x, bx⟩ := x
    cases x <;> first | exact .inl rfl | exact .inr rfl) ha hb
theorem se_eq {k : Nat} {f g : SemE} (hr : Room k X.A) (ha : SE X a f) (hb : SE X b g) : SE X (.Compare a [.Eq] [b] pos) (v2 (kEq false) f g) := se_cmp (op_eqD hr) op2_eq ha hb (nomark _)
theorem st_eq {k : Nat} {f g : SemE} (hr : Room k X.A) (ha : SE X a f) (hb : SE X b g) : ST X (.Compare a [.Eq] [b] pos) (tBool (v2 (kEq false) f g)) := st_cmp (op_eqD hr) op2_eq ha hb (nomark _)
theorem st_ne {k : Nat} {f g : SemE} (hr : Room k X.A) (ha : SE X a f) (hb : SE X b g) : ST X (.Compare a [.NotEq] [b] pos) (tBool (v2 (kEq true) f g)) := st_cmp (op_neD hr) op2_eq ha hb (nomark _)
theorem st_isN {f g : SemE} (ha : SE X a f) (hb : SE X b g) : ST X (.Compare a [.Is] [b] pos) (tBool (v2 (kIsN false) f g)) := st_cmp op_isN op2_isN ha hb (nomark _)
theorem st_notN {f g : SemE} (ha : SE X a f) (hb : SE X b g) : ST X (.Compare a [.IsNot] [b] pos) (tBool (v2 (kIsN true) f g)) := st_cmp op_notN op2_notN ha hb (nomark _)
theorem se_lt {f g : SemE} (ha : SE X a f) (hb : SE X b g) : SE X (.Compare a [.Lt] [b] pos) (v2 kLt f g) := se_cmp op_lt o2_lt ha hb (nomark _)
theorem se_gt {f g : SemE} (ha : SE X a f) (hb : SE X b g) : SE X (.Compare a [.Gt] [b] pos) (v2 kGt f g) := se_cmp op_gt o2_gt ha hb (nomark _)
theorem st_lt {f g : SemE} (ha : SE X a f) (hb : SE X b g) : ST X (.Compare a [.Lt] [b] pos) (tBool (v2 kLt f g)) := st_cmp op_lt o2_lt ha hb (nomark _)
theorem st_gt {f g : SemE} (ha : SE X a f) (hb : SE X b g) : ST X (.Compare a [.Gt] [b] pos) (tBool (v2 kGt f g)) := st_cmp op_gt o2_gt ha hb (nomark _)
theorem se_globT {x : Str} {p : Addr} {ns : List Int} {its : Array Value} {o : Obj} {n : Nat} (hm : X.mg x = some (.ref p)) (hl : X.K.lookup p = some o) (hc : o.cls = .type "tuple") (hd : o.data = .seq its n) (hi : IntsAre its.toList ns) (hz : ns.length ≤ 1000000) (hg : Gl X x := by rfl) (hdb : (x == ("__debug__" : Str)) = false := by decide) : SE X (.Name x pos) (vC (.tup (ns.map D.int))) :=
  (pe_glob (v := .ref p) hg hm rfl hdb).imp fun σ H Q h => by
    obtain ⟨ρ, F, fps, S, h⟩ := h
    refine h (.ref p) F H [] (Grow.refl S.same) ?_ List.nodup_nil fun _ b hb => by cases hb
    unfold Own
    refine ⟨rfl, p, ns.map V.int, rfl, .inr ⟨o, its, n, hl, hc, hd, ?_, vals_ints hi⟩, ?_⟩
    · have := hi.length
      rw [Array.length_toList] at this
      rw [this]; exact size_ok hz
    · refine Owns.of_get _ (by simp) fun i d v e1 e2 => ?_
      rw [List.getElem?_map] at e1 e2
      cases q : ns[i]? with
      | none => rw [q] at e1; cases e1
      | some z => rw [q] at e1 e2; cases e1; cases e2; exact own_scal rfl
theorem ss_append (i : Nat) {x : Str} {f : SemE} {p ap cp pos' : Pos} (he : SE X e f) (hN : X.N[i]? = some x := by rfl) (hv : Vis X.env.scope x := by first | exact Or.inl rfl | exact Or.inr (Or.inl rfl) | exact Or.inr (Or.inr rfl)) (hd : (x == ("__debug__" : Str)) = false := by decide)
    (hcd : (x == ("__classdict__" : Str)) = false := by decide) (hs : swapsWith (.Call (.Attribute (.Name x p) "append" ap) [e] [] cp) none pos'.line X.env = pure false := by rfl)
    (hbase : attributeBase (.Name x p) "append" X.env (eval (.Name x p) X.env) = eval (.Name x p) X.env := by rfl)
    (hfew : ((backTo cp (starEach [e] X.env)).all (fun x => !x.1) && (backToKw cp (keywordEach [] X.env)).all (fun x => x.1.isSome)
      && decide (([e] : List Expr).length + ([] : List Keyword).length + (if ([] : List Keyword).isEmpty then 0 else 1) < 30)) = true := by rfl)
    (hline : (ap.endLine == cp.line) = true := by rfl) (hst : starEach [e] X.env = (false, eval e X.env) :: starEach [] X.env := by rfl) (hplain : (backTo cp (starEach [] X.env)).any (·.1) = false := by rfl) :
    SS X W (.Expr (.Call (.Attribute (.Name x p) "append" ap) [e] [] cp) pos') (sAppend i f) :=
  (ps_expr (pe_bm PySem.F.plainAttrs_list PySem.F.slot_list_append PySem.F.type_list_append mt_append (pe_var hN hv hd hcd) (pa_cons he pa_nil hst) hbase hfew hline hst hplain) hs).imp fun _ _ _ h => sv_append h
theorem get_list : PGet X (rIxL X.K) := by
  intro pins s σ H o i ov iv Q I rx ry h
  obtain ⟨p, xs, i, z, rfl, rfl, hq, he, q⟩ := h
  cases rx
  obtain ⟨t, rfl⟩ := ry
  obtain ⟨its, r, pl, hz⟩ := I.list hq
  obtain ⟨j, h1, h2, h3, h4, h5⟩ := atI_get he
  obtain ⟨w, ew, rw'⟩ := r.get h2
  have hl := r.length
  have hn := line63
  have fin : EP X pins σ Q w s := ⟨z, H, I, rw', q⟩
  by_cases h0 : 0 ≤ i
  · have hj : i.toNat = j := by
      rw [seqIndex_of h0 h5] at h1
      exact Option.some.inj h1
    exact wpAny_getItem_list pl.isList h0 (by omega) (by rw [hj]; simpa using ew) fin
  · have hj : (i + (its.toArray.size : Int)).toNat = j := by
      rw [seqIndex_neg (by omega) h4] at h1
      rw [List.size_toArray, ← hl]
      exact Option.some.inj h1
    exact wpAny_getItem_list_neg pl.isList (by omega) (by rw [List.size_toArray] <;> omega) (by omega) (by rw [hj]; simpa using ew) fin
def sAugItem (i : Nat) (op : Int → Int → Int) (h f : SemE) : SemS := fun ρ => match h ρ with
  | .ok (.int k, _) => (match getD ρ i with
    | some (.lst true ds) => (match atI ds k with
      | some (.int a) => (match f ρ with
        | .ok (.int b, _) => (match ixN ds.length k with | some j => .next (putD ρ i (.lst true (ds.set j (.int (op a b))))) | none => .bad)
        | _ => .bad)
      | _ => .bad)
    | _ => .bad)
  | _ => .bad
theorem sv_augItem {K : FG} {D' : Ends} {σ : L2.St} {H : Hp} {i : Nat} {op : Int → Int → Int} {h f : SemE} (hh : sv K W (sAugItem i op h f) D' σ H) : tAugS (tVar i) (tv K h) (tv K f) (rIxL K) (ipI op) rSetL D' σ H := by
  obtain ⟨ρ, F, fps, S, hh⟩ := hh
  unfold sAugItem at hh
  split at hh
  · rename_i k bk eh
    split at hh
    · rename_i ds eg
      split at hh
      · rename_i a ea
        split at hh
        · rename_i b bb ef
          split at hh
          · rename_i j ej
            obtain ⟨v, fp, h1, h2, h3⟩ := S.get eg
            refine ⟨v, h1, ρ, F, fps, S, ?_⟩
            rw [eh]
            intro w F2 H2 fw g2 o2 n2 k2
            unfold Own at o2
            obtain ⟨p, xs, fq, ev, r, w1, w2, w3⟩ := Own.opened (h3.grow g2)
            subst ev; subst w3
            have nfp := S.sub h2
            have S2 := S.grow g2
            obtain ⟨z, fz, q1, q2, q3⟩ := Owns.atI r ea
            unfold Own at q2
            refine ⟨p, xs, k, z, rfl, o2.1, SqL.of w2, q1, ρ, F2, fps, S2, ?_⟩
            rw [ef]
            intro u F3 H3 fu g3 o3 n3 k3
            unfold Own at o3
            refine ⟨a, b, q2.1, o3.1, ?_⟩
            have w2' := g3.all _ _ w2
            have hl := Owns.length ds r
            refine ⟨p, xs, k, j, rfl, o2.1, w2', by rw [← hl]; exact ej, ?_⟩
            obtain ⟨fq', p1, p2, p3⟩ := set_own (fu := []) (u := V.int (op a b)) (d := .int (op a b)) (r.grow g3) nfp (ixN_lt ej) ((S2.grow g3).zone1 h2 List.mem_cons_self) (own_scal rfl) List.nodup_nil (by simp) (by simp)
            refine NPost.mut (fu := []) hh S (g2.trans g3) (by simp) eg h1 h2 List.mem_cons_self p1 p2 fun c hc => ?_
            rcases List.mem_cons.mp hc with rfl | hc
            · exact .inl List.mem_cons_self
            · exact (p3 c hc).imp_left fun z => List.mem_cons_of_mem _ z
          · exact hh.elim
        · exact hh.elim
      · exact hh.elim
    · exact hh.elim
  · exact hh.elim
theorem ss_augItem (i : Nat) {x : Str} {f g : SemE} {op : Operator} {o : Int → Int → Int} {p tp : Pos} (ho : PIp X op (ipI o)) (hi : SE X b g) (he : SE X e f) (hN : X.N[i]? = some x := by rfl) (hv : Vis X.env.scope x := by first | exact Or.inl rfl | exact Or.inr (Or.inl rfl) | exact Or.inr (Or.inr rfl)) (hd : (x == ("__debug__" : Str)) = false := by decide)
    (hcd : (x == ("__classdict__" : Str)) = false := by decide) (ha : ∀ ov iv new, augStore b ov iv new = (do holding [new, ov, iv] (setItem ov iv new); release [new, ov, iv] []; pure .next) := by intros; rfl) :
    SS X W (.AugAssign (.Subscript (.Name x p) b tp) op e pos) (sAugItem i o g f) :=
  (ps_augS (pe_var hN hv hd hcd) hi get_list he ho set_list ha).imp fun _ _ _ h => sv_augItem h
theorem se_comp {elt iter tg : Expr} {ifs : List Expr} {scope : Scope} {f : SemI} {N : List Str} {nt : Nat} {js : List Nat} {set : D → Env → Option Env} {g : TG} {tc : SemT} {te : SemE}
    (hc : X.calm = true) (hi : SI X tg iter f) (ht : Tgt X.K set g) (hkind : scope.kind = .function) (hcell : ∀ y ∈ scope.names, y.2 ≠ .cell) (hnames : ∀ y ∈ scope.names, y.2 = .local → scope.names.lookup y.1 = some .local)
    (hfr : ∀ y ∈ scope.names, y.2 = .free → X.env.kindOf y.1 = some .cell ∨ X.env.kindOf y.1 = some .free)
    (hlen : nt + js.length = N.length)
    (hjs : ∀ (k : Nat) (j : Nat), js[k]? = some j → ∃ x, N[nt + k]? = some x ∧ X.N[j]? = some x ∧ scope.names.lookup x = some .free)
    (hb : ∀ cl s3 H3 fp, PG (blk X scope cl N s3 H3 fp) tg g ∧ PTs (blk X scope cl N s3 H3 fp) ifs (tvT X.K tc) ∧ SE (blk X scope cl N s3 H3 fp) elt te)
    (hs : ∀ x, foldedSetIterable iter X.env x = pure x := by intro _; rfl) : SE X (.ListComp elt [⟨tg, iter, ifs, 0⟩] scope pos) (vComp f nt js set tc te) :=
  (pe_comp hc hi hkind hcell hnames hfr hlen hjs hb hs).imp fun _ _ _ h => tv_comp ht h
def tTrue : SemT := fun _ => .ok true
theorem pts0 {Y : Cx} : PTs Y [] (tvT Y.K tTrue) := fun pins s σ H Q I h => pts_nil pins s σ H Q I (by
  obtain ⟨ρ, F, fps, S, h⟩ := h
  exact h F H (Grow.refl S.same))
theorem se_len {f : SemE} {p : Pos} (hm : X.mg "len" = none) (ha : SE X a f) (hg : Gl X "len" := by rfl) (hs : starEach [a] X.env = (false, eval a X.env) :: starEach [] X.env := by rfl) : SE X (.Call (.Name "len" p) [a] [] pos) (vCB kLen (aCons f aNil)) :=
  se_cb call_len_seq opA_len hm PySem.boot_len (sa_cons ha sa_nil hs) hg (by decide) (by decide) hs
theorem se_list {f : SemE} {p : Pos} (hm : X.mg "list" = none) (ha : SE X a f) (hg : Gl X "list" := by rfl) (hs : starEach [a] X.env = (false, eval a X.env) :: starEach [] X.env := by rfl) (hv : bootBuiltins "list" = some (.type "list") := by decide +kernel) : SE X (.Call (.Name "list" p) [a] [] pos) (vCB kList (aCons f aNil)) :=
  se_cty call_list_of opA_list hm hv (sa_cons ha sa_nil hs) hg (by decide) (by decide) hs
theorem se_tuple {f : SemE} {p : Pos} (hm : X.mg "tuple" = none) (ha : SE X a f) (hg : Gl X "tuple" := by rfl) (hs : starEach [a] X.env = (false, eval a X.env) :: starEach [] X.env := by rfl) (hv : bootBuiltins "tuple" = some (.type "tuple") := by decide +kernel) : SE X (.Call (.Name "tuple" p) [a] [] pos) (vCB kTuple (aCons f aNil)) :=
  se_cty call_tuple_of opA_tuple hm hv (sa_cons ha sa_nil hs) hg (by decide) (by decide) hs
theorem se_sum {f : SemE} {p : Pos} (hc : X.calm = true) (hm : X.mg "sum" = none) (ha : SE X a f) (hg : Gl X "sum" := by rfl) (hs : starEach [a] X.env = (false, eval a X.env) :: starEach [] X.env := by rfl) (hv : bootBuiltins "sum" = some (.builtin "sum") := by decide +kernel) : SE X (.Call (.Name "sum" p) [a] [] pos) (vCB kSum (aCons f aNil)) :=
  se_cb (call_sumI hc) opA_sum hm hv (sa_cons ha sa_nil hs) hg (by decide) (by decide) hs
theorem se_max2 {f g : SemE} {p : Pos} (hc : X.calm = true) (hm : X.mg "max" = none) (ha : SE X a f) (hb : SE X b g) (hg : Gl X "max" := by rfl) (hs : starEach [a, b] X.env = (false, eval a X.env) :: starEach [b] X.env := by rfl) (hs2 : starEach [b] X.env = (false, eval b X.env) :: starEach [] X.env := by rfl) (hv : bootBuiltins "max" = some (.builtin "max") := by decide +kernel)
    (hpl : (backTo pos (starEach [b] X.env)).any (·.1) = false := by rfl) : SE X (.Call (.Name "max" p) [a, b] [] pos) (vCB (k2i fun i j => if j > i then j else i) (aCons f (aCons g aNil))) :=
  se_cb (call_max2 hc) opA_2i hm hv (sa_cons ha (sa_cons hb sa_nil hs2) hs) hg (by decide) (by decide) hs hpl
def kAbs : List (D × Bool) → R (D × Bool)
  | [(.int i, _)] => .ok (.int (if i < 0 then -i else i), true) | _ => .bad
theorem opA_abs {K : FG} : OpA K kAbs (fun xs H Q => ∃ i, xs = [.int i] ∧ Q (.int (if i < 0 then -i else i)) H) := by
  intro F0 H0 F H xs vs fa Q gr a n k h
  match xs, h, a with
  | [(.int i, b)], h, a =>
    unfold Args at a
    obtain ⟨v, r, fp, f2, e, o1, n1, t, w⟩ := a
    unfold Args at t
    unfold Own at o1
    exact ⟨i, by rw [e, t.1, o1.1], EPost.scalG gr h rfl⟩
theorem se_abs {f : SemE} {p : Pos} (hm : X.mg "abs" = none) (ha : SE X a f) (hg : Gl X "abs" := by rfl) (hs : starEach [a] X.env = (false, eval a X.env) :: starEach [] X.env := by rfl) (hv : bootBuiltins "abs" = some (.builtin "abs") := by decide +kernel) : SE X (.Call (.Name "abs" p) [a] [] pos) (vCB kAbs (aCons f aNil)) :=
  se_cb call_abs opA_abs hm hv (sa_cons ha sa_nil hs) hg (by decide) (by decide) hs
def boolsD : List D → Option (List Bool)
  | [] => some []
  | .bl i :: ds => (boolsD ds).map (i :: ·)
  | _ => none
theorem boolsD_vals {K : FG} {F H : Hp} : ∀ (ds : List D) {ns : List Bool} {xs : List V} {fp : List Addr}, boolsD ds = some ns → Owns K F H ds xs fp → xs = ns.map V.bl
  | [], ns, xs, fp, e, o => by unfold boolsD at e; cases e; unfold Owns at o; exact o.1
  | d :: ds, ns, xs, fp, e, o => by
    cases d <;> try (unfold boolsD at e; cases e; done)
    rename_i i
    unfold boolsD at e
    cases q : boolsD ds with
    | none => rw [q] at e; cases e
    | some ms =>
      rw [q] at e
      have e : some (i :: ms) = some ns := e
      cases e
      unfold Owns at o
      obtain ⟨v, r, f1, f2, e1, o1, o2, _⟩ := o
      unfold Own at o1
      rw [e1, o1.1, boolsD_vals ds q o2]; rfl
theorem all_range {ns : List Bool} : ((List.range ns.length).all fun i => ns.getD i true) = ns.all id := by
  induction ns with
  | nil => rfl
  | cons n r ih =>
    rw [List.length_cons, List.range_succ_eq_map, List.all_cons, List.all_map, List.all_cons, ← ih]
    rfl
theorem call_allB (hc : X.calm = true) : CallR X (.builtin "all") (fun xs H Q => ∃ (p : Addr) (ns : List Bool), xs = [.ref p] ∧ SqL X.K H p (ns.map V.bl) ∧ Q (.bl (ns.all id)) H) := by
  intro pins s σ H xs us Q I r h
  obtain ⟨p, ns, rfl, hq, q⟩ := h
  obtain ⟨u, rfl, ru⟩ := vals1 r
  cases ru
  obtain ⟨its, rv, pl, _⟩ := I.list hq
  have hl := rv.length
  rw [List.length_map] at hl
  refine call_all_walk (wpAny_pyIter_list pl.isList ?_)
  have hne : p ≠ s.heap.objs.size := fun z => by
    obtain ⟨o, ho, _⟩ := pl.isList
    exact absurd (Heap.lt_size ho) (by rw [z]; exact Nat.lt_irrefl _)
  refine ⟨s.heap.objs.size, _, _, its.toArray.size, _, _, fun i => ns.getD i true, rfl, Walks.list (A := X.A.in1) (show X.A.in1.handled = none from I.ok.hd hc) s.heap.objs.size p hne its.toArray, ⟨⟨_, Heap.get?_push_size _ rfl, rfl, rfl⟩, pl.isList.push _⟩, fun i v s' Q' E' hP hQ => ?_, fun h' tk hk => ?_⟩
  · have hP : its[i]? = some v := by simpa using hP
    have hi : i < ns.length := by rw [hl]; exact (List.getElem?_eq_some_iff.mp hP).1
    obtain ⟨u', e', ru'⟩ := rv.get (i := i) (x := V.bl ns[i]) (by rw [List.getElem?_map, List.getElem?_eq_getElem hi]; rfl)
    rw [hP] at e'; cases e'
    cases ru'
    have : ns.getD i true = ns[i] := by simp [List.getD, List.getElem?_eq_getElem hi]
    have hQ : Q' (ns.getD i true) s' := hQ
    rw [this] at hQ
    exact wpAny_truthy_bool hQ
  · rw [List.size_toArray, ← hl, all_range]
    refine ⟨.bl _, H, ?_, rfl, q⟩
    refine I.kept (t' := tk) fun b o e => hk b o (fun z => ?_) (Heap.get?_push_of_some _ e)
    have z' : b = s.heap.objs.size := by simpa using z
    exact absurd (Heap.lt_size e) (by rw [z']; exact Nat.lt_irrefl _)
def kAll : List (D × Bool) → R (D × Bool)
  | [(.lst _ ds, _)] => (match boolsD ds with | some ns => .ok (.bl (ns.all id), true) | none => .bad) | _ => .bad
theorem opA_all {K : FG} : OpA K kAll (fun xs H Q => ∃ (p : Addr) (ns : List Bool), xs = [.ref p] ∧ SqL K H p (ns.map V.bl) ∧ Q (.bl (ns.all id)) H) := by
  intro F0 H0 F H xs vs fa Q gr a n k h
  match xs, h, a with
  | [(.lst o ds, b)], h, a =>
    unfold Args at a
    obtain ⟨v, r, fp, f2, e, o1, n1, t, w⟩ := a
    unfold Args at t
    obtain ⟨p, ys, fq, e1, q1, r1, _⟩ := Own.lst gr.inn o1
    have h : (match boolsD ds with | some ns => R.ok (D.bl (ns.all id), true) | none => R.bad).holds (EPost K F0 H0 Q) := h
    cases q : boolsD ds with
    | none => rw [q] at h; exact h.elim
    | some ns =>
      rw [q] at h
      rw [boolsD_vals ds q r1] at q1
      exact ⟨p, ns, by rw [e, t.1, e1], q1, EPost.scalG gr h rfl⟩
theorem se_all {f : SemE} {p : Pos} (hc : X.calm = true) (hm : X.mg "all" = none) (ha : SE X a f) (hg : Gl X "all" := by rfl) (hs : starEach [a] X.env = (false, eval a X.env) :: starEach [] X.env := by rfl) (hv : bootBuiltins "all" = some (.builtin "all") := by decide +kernel) : SE X (.Call (.Name "all" p) [a] [] pos) (vCB kAll (aCons f aNil)) :=
  se_cb (call_allB hc) opA_all hm hv (sa_cons ha sa_nil hs) hg (by decide) (by decide) hs
theorem _root_.L2.PI.or {tg it : Expr} {t t' : TI} (h : PI X tg it t) (h' : PI X tg it t') : PI X tg it (fun σ H R => t σ H R ∨ t' σ H R) := by
  intro pins s σ H R I q
  rcases q with q | q
  · exact h pins s σ H R I q
  · exact h' pins s σ H R I q
theorem si_any {tg : Expr} {f : SemE} (h : SE X e f) : SI X tg e (iAny f) := ((pi_list h).or (pi_tup h)).imp fun _ _ _ h => iv_any h
theorem si_enum {f : SemE} {p tp : Pos} {elts : List Expr} {k : Nat} (hm : X.mg "enumerate" = none) (ha : SE X a f) (hg : Gl X "enumerate" := by rfl) (hs : starEach [a] X.env = [(false, eval a X.env)] := by rfl) (hs1 : starEach [a] X.env = (false, eval a X.env) :: starEach [] X.env := by rfl) : SI X (.Tuple elts k tp) (.Call (.Name "enumerate" p) [a] [] pos) (iEnF f) :=
  (pi_enum hg hm (pa_cons ha pa_nil hs1) hs).imp fun _ _ _ h => iv_enF h
theorem si_zip {f g : SemE} {p tp : Pos} {elts : List Expr} {k : Nat} (hm : X.mg "zip" = none) (ha : SE X a f) (hb : SE X b g) (hg : Gl X "zip" := by rfl) (hs : starEach [a, b] X.env = [(false, eval a X.env), (false, eval b X.env)] := by rfl) (hs2 : starEach [b] X.env = [(false, eval b X.env)] := by rfl)
    (hs3 : starEach [a, b] X.env = (false, eval a X.env) :: starEach [b] X.env := by rfl) (hs4 : starEach [b] X.env = (false, eval b X.env) :: starEach [] X.env := by rfl) : SI X (.Tuple elts k tp) (.Call (.Name "zip" p) [a, b] [] pos) (iZi f g) :=
  (pi_zip hg hm (pa_cons ha (pa_cons hb pa_nil hs4) hs3) hs hs2).imp fun _ _ _ h => iv_zi h
end
end VL
end
section
namespace VL
open PySem PySem.Spec PyProof.Rows L2
structure FnAt (K : FG) (x : Str) (st : Stmt) : Prop where
  ex : ∃ (f : Addr) (fd : FuncData), PySem.W.nsIn K mainGlobals x = some (some (.ref f)) ∧ Fun K x x st f fd
theorem fnAt_mk {K : FG} {x : Str} {st : Stmt} {f : Addr} {oc : Value} {od an : Option Addr} {osl : Array (Option Value)} {kV doc pm cdv ct : Value} (a : PySem.W.nsIn K mainGlobals x = some (some (.ref f))) (l : K.lookup f = some ⟨oc, od, .func (PySem.W.fnOf x x (defArgs st) (defBody st) (defScope st) .none kV doc pm an cdv ct), osl⟩)
    (c : PySem.W.codeIn K cdv x = true) (k : PySem.W.keepIn K (.ref f) = true) : FnAt K x st := ⟨f, _, a, fun_mk l c k⟩
section
variable {P : Program} {w : World} {K : FG} {mg : Str → Option Value} {base : Heap}
theorem kn_mk {x : Str} {st : Stmt} {N ps : List Str} {k n np : Nat} {body : SemS} (F : FnAt K x st) (kb : K.In base) (nb : base.Ns mainGlobals mg) (S : FnScope N ps (defScope st)) (hN : N.length = n) (hnp : ps.length = np) (hk : np ≤ n)
    (hb : ∀ (kV doc pm : Value) (an : Option Addr) (cdv ct : Value) (us : List Value), us.length = ps.length → bindArgs (PySem.W.fnOf x x (defArgs st) (defBody st) (defScope st) .none kV doc pm an cdv ct) ⟨us, []⟩ = pure (ps.zip us))
    (hbody : ∀ (f : Addr) (cdv : Value) (A : Around) (outer : List PySem.Env) (s : Shared) (H : Hp) (E : XK), Room k (A.deeper (envOfC x (defScope st) s.heap.objs.size f cdv)) →
      SSs (cxOf (CX1 P w) P w K mg base N x (defScope st) f cdv A outer s H E) (wOf K E) (defBody st) body) : Kn P w K mg base (k + 1) x np (fnOf n body) := by
  obtain ⟨f, fd, hf, F⟩ := F.ex
  refine ⟨f, fd, ps, ?_, PySem.W.mg_of kb nb hf, F.kp, F.binds hb⟩
  obtain ⟨oc, od, kV, doc, pm, an, cdv, ct, osl, rfl, lk, hcd⟩ := F.ex
  refine fn_of lk hcd S (fun vs H Q E h => h.1.trans hnp.symm) fun A outer s H vs Q E hr hsp => ?_
  exact ⟨_, hbody f cdv A outer s H E hr, fn_sv hN hk hsp⟩
end
def compOk (scope sc : Scope) (N XN : List Str) (nt : Nat) (js : List Nat) : Bool :=
  (scope.kind == .function) && (scope.names.all fun y => y.2 != .cell) && (scope.names.all fun y => y.2 != .local || scope.names.lookup y.1 == some .local) &&
  (scope.names.all fun y => y.2 != .free || (sc.names.lookup y.1 == some .cell || sc.names.lookup y.1 == some .free)) && (nt + js.length == N.length) &&
  (js.zipIdx.all fun p => match N[nt + p.2]?, XN[p.1]? with | some x, some y => x == y && scope.names.lookup x == some .free | _, _ => false)
section
variable {X : Cx} {pos : Pos}
theorem se_compB {elt iter tg : Expr} {ifs : List Expr} {scope : Scope} {f : SemI} (sc : Scope) (XN N : List Str) (nt : Nat) (js : List Nat) {set : D → Env → Option Env} {g : TG} {tc : SemT} {te : SemE}
    (hc : X.calm = true) (hsc : X.env.scope = sc) (hXN : X.N = XN) (hi : SI X tg iter f) (ht : Tgt X.K set g) (hok : compOk scope sc N XN nt js = true)
    (hb : ∀ cl s3 H3 fp, PG (blk X scope cl N s3 H3 fp) tg g ∧ PTs (blk X scope cl N s3 H3 fp) ifs (tvT X.K tc) ∧ SE (blk X scope cl N s3 H3 fp) elt te)
    (hs : ∀ x, foldedSetIterable iter X.env x = pure x := by intro _; rfl) : SE X (.ListComp elt [⟨tg, iter, ifs, 0⟩] scope pos) (vComp f nt js set tc te) := by
  subst hsc; subst hXN
  unfold compOk at hok
  simp only [Bool.and_eq_true, List.all_eq_true, Bool.or_eq_true, bne_iff_ne, beq_iff_eq, ne_eq] at hok
  obtain ⟨⟨⟨⟨⟨h1, h2⟩, h3⟩, h4⟩, h5⟩, h6⟩ := hok
  refine se_comp hc hi ht h1 h2 (fun y hy e => (h3 y hy).resolve_left fun z => z e) (fun y hy e => (h4 y hy).resolve_left fun z => z e) h5 (fun k j e => ?_) hb hs
  have hm : (j, k) ∈ js.zipIdx := by
    rw [List.mem_iff_getElem?]
    exact ⟨k, by rw [List.getElem?_zipIdx, e]; simp⟩
  have := h6 (j, k) hm
  dsimp only at this
  split at this
  · rename_i x y e1 e2
    rw [Bool.and_eq_true, beq_iff_eq, beq_iff_eq] at this
    exact ⟨x, e1, by rw [e2, this.1], this.2⟩
  · cases this
theorem ss_setCompB (i : Nat) {y : Str} {py spos : Pos} {W : XW} {elt iter tg : Expr} {ifs : List Expr} {scope : Scope} {f : SemI} (nd : X.N.Nodup) (sc : Scope) (XN N : List Str) (nt : Nat) (js : List Nat) {set : D → Env → Option Env} {g : TG} {tc : SemT} {te : SemE}
    (hc : X.calm = true) (hsc : X.env.scope = sc) (hXN : X.N = XN) (hi : SI X tg iter f) (ht : Tgt X.K set g) (hok : compOk scope sc N XN nt js = true)
    (hb : ∀ cl s3 H3 fp, PG (blk X scope cl N s3 H3 fp) tg g ∧ PTs (blk X scope cl N s3 H3 fp) ifs (tvT X.K tc) ∧ SE (blk X scope cl N s3 H3 fp) elt te)
    (hi0 : X.N[i]? = some y := by rfl) (hx : X.env.scope.names.lookup y = some .local := by rfl) (hsw : swapsWith (.ListComp elt [⟨tg, iter, ifs, 0⟩] scope pos) (some (.Name y py)) spos.line X.env = pure true := by rfl)
    (hs : ∀ x, foldedSetIterable iter X.env x = pure x := by intro _; rfl) : SS X W (.Assign [.Name y py] (.ListComp elt [⟨tg, iter, ifs, 0⟩] scope pos) spos) (sSet i (xOf (vComp f nt js set tc te))) := by
  subst hsc; subst hXN
  unfold compOk at hok
  simp only [Bool.and_eq_true, List.all_eq_true, Bool.or_eq_true, bne_iff_ne, beq_iff_eq, ne_eq] at hok
  obtain ⟨⟨⟨⟨⟨h1, h2⟩, h3⟩, h4⟩, h5⟩, h6⟩ := hok
  refine (ps_setComp nd hi0 hx hsw hc hi h1 h2 (fun y hy e => (h3 y hy).resolve_left fun z => z e) (fun y hy e => (h4 y hy).resolve_left fun z => z e) h5 (fun k j e => ?_) hb hs).imp fun _ _ _ h => tv_comp ht (tx_of (sv_set h))
  have hm : (j, k) ∈ js.zipIdx := by
    rw [List.mem_iff_getElem?]
    exact ⟨k, by rw [List.getElem?_zipIdx, e]; simp⟩
  have := h6 (j, k) hm
  dsimp only at this
  split at this
  · rename_i x y e1 e2
    rw [Bool.and_eq_true, beq_iff_eq, beq_iff_eq] at this
    exact ⟨x, e1, by rw [e2, this.1], this.2⟩
  · cases this
end
end VL
end
section
namespace VL
open PySem PySem.Spec PyProof.Rows L2
section
variable {P : Program} {w : World} {K : FG} {mg : Str → Option Value} {h : Heap}
theorem top_mk {x : Str} {st : Stmt} {N ps : List Str} {k n np : Nat} {body : SemS} (F : FnAt K x st) (kb : K.In h) (nb : h.Ns mainGlobals mg) (S : FnScope N ps (defScope st)) (hN : N.length = n) (hnp : ps.length = np) (hk : np ≤ n)
    (hb : ∀ (kV doc pm : Value) (an : Option Addr) (cdv ct : Value) (us : List Value), us.length = ps.length → bindArgs (PySem.W.fnOf x x (defArgs st) (defBody st) (defScope st) .none kV doc pm an cdv ct) ⟨us, []⟩ = pure (ps.zip us))
    (hbody : ∀ base : Heap, K.In base → base.Ns mainGlobals mg → ∀ (f : Addr) (cdv : Value) (A : Around) (outer : List PySem.Env) (s : Shared) (H : Hp) (E : XK), Room k (A.deeper (envOfC x (defScope st) s.heap.objs.size f cdv)) →
      SSs (cxOf (CX1 P w) P w K mg base N x (defScope st) f cdv A outer s H E) (wOf K E) (defBody st) body) :
    ∃ (f : Addr) (fd : FuncData), mg x = some (.ref f) ∧ (∀ (s : Shared) (us : List Value), us.length = ps.length → BindsTo s fd ⟨us, []⟩ (ps.zip us)) ∧
      ∀ base : Heap, K.In base → base.Ns mainGlobals mg → FnOk P w K mg base (CX1 P w) (k + 1) f fd ps (spV K np (fnOf n body)) := by
  obtain ⟨f, fd, hf, F⟩ := F.ex
  obtain ⟨oc, od, kV, doc, pm, an, cdv, ct, osl, rfl, lk, hcd⟩ := F.ex
  refine ⟨f, _, PySem.W.mg_of kb nb hf, fun s us hl => .of_eq (hb kV doc pm an cdv ct us hl), fun base kb' nb' => ?_⟩
  refine fn_of lk hcd S (fun vs H Q E h => h.1.trans hnp.symm) fun A outer s H vs Q E hr hsp => ?_
  exact ⟨_, hbody base kb' nb' f cdv A outer s H E hr, fn_sv hN hk hsp⟩
end
def lstO (o : Obj) : Bool := match o.data, o.cls with
  | .seq _ _, .type t => t == "list"
  | _, _ => false
def noListK (K : FG) : Bool := K.all fun q => !lstO q.2
theorem mem_lk : ∀ {K : FG} {a : Addr} {o : Obj}, K.lookup a = some o → (a, o) ∈ K
  | [], _, _, e => by cases e
  | (b, u) :: K, a, o, e => by
    rw [List.lookup_cons] at e
    cases q : a == b with
    | true =>
      rw [q] at e
      have hb : a = b := by simpa using q
      cases e; rw [hb]; exact List.mem_cons_self
    | false => rw [q] at e; exact List.mem_cons_of_mem _ (mem_lk e)
theorem noListK_of {K : FG} (h : noListK K = true) {a : Addr} {o : Obj} (e : K.lookup a = some o) : lstO o = false := by
  unfold noListK at h
  rw [List.all_eq_true] at h
  have := h (a, o) (mem_lk e)
  simpa using this
theorem sq_rd {K : FG} (h : noListK K = true) {H : Hp} {a : Addr} {xs : List V} (s : SqL K H a xs) : Rd H a (.lst xs) := by
  rcases s with s | ⟨o, its, n, e, c, d, e2, r⟩
  · exact s
  · have := noListK_of h e
    unfold lstO at this
    rw [e2, c] at this
    have this : (("list" : String) == "list") = false := this
    simp at this
theorem owns_int {K : FG} {F H : Hp} : ∀ ns : List Int, Owns K F H (ns.map D.int) (ns.map V.int) []
  | [] => ⟨rfl, rfl⟩
  | n :: ns => ⟨.int n, ns.map V.int, [], [], rfl, ⟨rfl, rfl⟩, owns_int ns, rfl⟩
theorem sp_true {K : FG} (hn : noListK K = true) {fn : Fn} {ns : List Int} (hf : ∃ os, fn [.lst false (ns.map D.int)] = .ok (.bl true, os)) {H : Hp} {a : Addr} (s : SqL K H a (ns.map V.int)) : spV K 1 fn [.ref a] H (fun v _ => v = .bl true) fun _ _ _ => False := by
  obtain ⟨os, hf⟩ := hf
  refine ⟨rfl, H, [.lst false (ns.map D.int)], [[]], Same.refl _, ⟨rfl, rfl, fun i d e => ?_⟩, by simp, by simp, ?_⟩
  · cases i with
    | zero =>
      have e : D.lst false (ns.map D.int) = d := by simpa using e
      subst e
      refine ⟨.ref a, [], rfl, rfl, ?_⟩
      unfold Own
      exact ⟨a, ns.map V.int, [], rfl, owns_int ns, .inr ⟨rfl, sq_rd hn s, rfl, rfl⟩⟩
    | succ i => simp at e
  · rw [hf]
    intro r F' H' fps' fr _ _ _ _ o _ _
    unfold Own at o
    exact o.1
theorem cx_false {P : Program} {w : World} {H : Hp} {s : Shared} {e : Value} {s' : Shared} (h : CX1 P w [] H s (fun _ _ _ => False) e s') : False := by
  obtain ⟨_, _, _, _, _, _, _, _, _, _, _, _, _, z⟩ := h
  exact z
end VL
end
section
namespace Smx
def sm : Nat → (Nat → Int) → Int
  | 0, _ => 0
  | n + 1, f => sm n f + f n
theorem sm_congr {n : Nat} {f g : Nat → Int} (h : ∀ j, j < n → f j = g j) : sm n f = sm n g := by
  induction n with
  | zero => rfl
  | succ n ih => rw [sm, sm, ih fun j hj => h j (by omega), h n (by omega)]
theorem sm_add {n : Nat} {f g : Nat → Int} : sm n (fun j => f j + g j) = sm n f + sm n g := by
  induction n with
  | zero => rfl
  | succ n ih => rw [sm, sm, sm, ih]; omega
theorem sm_mul {n : Nat} {f : Nat → Int} {a : Int} : sm n (fun j => a * f j) = a * sm n f := by
  induction n with
  | zero => simp [sm]
  | succ n ih => rw [sm, sm, ih, Int.mul_add]
theorem sm_mulr {n : Nat} {f : Nat → Int} {a : Int} : sm n (fun j => f j * a) = sm n f * a := by
  induction n with
  | zero => simp [sm]
  | succ n ih => rw [sm, sm, ih, Int.add_mul]
theorem sm_zero {n : Nat} {f : Nat → Int} (h : ∀ j, j < n → f j = 0) : sm n f = 0 := by
  induction n with
  | zero => rfl
  | succ n ih => rw [sm, ih fun j hj => h j (by omega), h n (by omega)]; rfl
theorem sm_nonneg {n : Nat} {f : Nat → Int} (h : ∀ j, j < n → 0 ≤ f j) : 0 ≤ sm n f := by
  induction n with
  | zero => exact Int.le_refl _
  | succ n ih => rw [sm]; have := ih fun j hj => h j (by omega); have := h n (by omega); omega
theorem sm_le {n : Nat} {f g : Nat → Int} (h : ∀ j, j < n → f j ≤ g j) : sm n f ≤ sm n g := by
  induction n with
  | zero => exact Int.le_refl _
  | succ n ih => rw [sm, sm]; have := ih fun j hj => h j (by omega); have := h n (by omega); omega
theorem sm_one {n k : Nat} {f : Nat → Int} (hk : k < n) (h : ∀ j, j < n → j ≠ k → f j = 0) : sm n f = f k := by
  induction n with
  | zero => omega
  | succ n ih =>
    rw [sm]
    by_cases e : k = n
    · subst e
      rw [sm_zero fun j hj => h j (by omega) (by omega)]; omega
    · rw [ih (by omega) fun j hj hne => h j (by omega) hne, h n (by omega) (by omega)]; omega
theorem sm_swap {n m : Nat} {f : Nat → Nat → Int} : sm n (fun i => sm m (fun j => f i j)) = sm m (fun j => sm n (fun i => f i j)) := by
  induction n with
  | zero => exact (sm_zero fun _ _ => rfl).symm
  | succ n ih => rw [sm, ih, ← sm_add]; rfl
def pd : Nat → (Nat → Int) → Int
  | 0, _ => 1
  | n + 1, f => pd n f * f n
theorem pd_pos {n : Nat} {f : Nat → Int} (h : ∀ j, j < n → 0 < f j) : 0 < pd n f := by
  induction n with
  | zero => show (0 : Int) < 1; decide
  | succ n ih => rw [pd]; exact Int.mul_pos (ih fun j hj => h j (by omega)) (h n (by omega))
def pdx (n : Nat) (f : Nat → Int) (k : Nat) : Int := pd n fun j => if j = k then 1 else f j
theorem pdx_mul {n k : Nat} {f : Nat → Int} (hk : k < n) : f k * pdx n f k = pd n f := by
  unfold pdx
  induction n with
  | zero => omega
  | succ n ih =>
    rw [pd, pd]
    by_cases e : k = n
    · subst e
      have : pd k (fun j => if j = k then 1 else f j) = pd k f := by
        have go : ∀ m, m ≤ k → pd m (fun j => if j = k then 1 else f j) = pd m f := by
          intro m
          induction m with
          | zero => intro _; rfl
          | succ m ih2 => intro hm; rw [pd, pd, ih2 (by omega), if_neg (by omega)]
        exact go k (Nat.le_refl _)
      rw [this, if_pos rfl, Int.mul_one, Int.mul_comm]
    · rw [if_neg (by omega : ¬ n = k), ← Int.mul_assoc, ih (by omega)]
theorem pdx_pos {n k : Nat} {f : Nat → Int} (h : ∀ j, j < n → 0 < f j) : 0 < pdx n f k := pd_pos fun j hj => by
  by_cases e : j = k
  · rw [if_pos e]; decide
  · rw [if_neg e]; exact h j hj
abbrev Tb := Nat → Nat → Int
def Null (m N : Nat) (T : Tb) (v : Nat → Int) : Prop := ∀ i, i < m → sm N (fun j => T i j * v j) = T i N * v N
structure Ok (m N : Nat) (T : Tb) (B : Nat → Nat) : Prop where
  lt : ∀ i, i < m → B i < N
  pos : ∀ i, i < m → 0 < T i (B i)
  zero : ∀ i k, i < m → k < m → i ≠ k → T i (B k) = 0
structure Step (m N : Nat) (T : Tb) (B : Nat → Nat) (T' : Tb) (B' : Nat → Nat) (r c : Nat) : Prop where
  hr : r < m
  hc : c < N
  neg : T r N < 0
  negc : T r c < 0
  row : ∀ i, i < m → T i N < 0 → B r ≤ B i
  col : ∀ j, j < c → 0 ≤ T r j
  trn : ∀ j, j ≤ N → T' r j = -T r j
  oth : ∀ i, i < m → i ≠ r → ∃ g : Int, 0 < g ∧ ∀ j, j ≤ N → g * T' i j = T i j * (-T r c) + T i c * T r j
  bas : B' r = c
  bso : ∀ i, i < m → i ≠ r → B' i = B i
section
variable {m N : Nat} {T T' : Tb} {B B' : Nat → Nat} {r c : Nat}
theorem Ok.inj (o : Ok m N T B) {i k : Nat} (hi : i < m) (hk : k < m) (e : B i = B k) : i = k := by
  rcases Nat.decEq i k with h | h
  · have := o.zero i k hi hk h
    have p := o.pos i hi
    rw [e, this] at p; omega
  · exact h
theorem Step.ok (s : Step m N T B T' B' r c) (o : Ok m N T B) : Ok m N T' B' := by
  refine ⟨fun i hi => ?_, fun i hi => ?_, fun i k hi hk ne => ?_⟩
  · by_cases e : i = r
    · subst e; rw [s.bas]; exact s.hc
    · rw [s.bso i hi e]; exact o.lt i hi
  · by_cases e : i = r
    · subst e; rw [s.bas, s.trn c (Nat.le_of_lt s.hc)]; have := s.negc; omega
    · rw [s.bso i hi e]
      obtain ⟨g, hg, h⟩ := s.oth i hi e
      have h1 := h (B i) (Nat.le_of_lt (o.lt i hi))
      rw [o.zero r i s.hr hi (Ne.symm e), Int.mul_zero, Int.add_zero] at h1
      have h2 : 0 < T i (B i) * (-T r c) := Int.mul_pos (o.pos i hi) (by have := s.negc; omega)
      rw [← h1] at h2
      rw [Int.mul_comm] at h2
      exact Int.pos_of_mul_pos_left h2 hg
  · by_cases ei : i = r
    · subst ei
      rw [s.bso k hk (Ne.symm ne), s.trn _ (Nat.le_of_lt (o.lt k hk)), o.zero i k hi hk ne]; rfl
    · obtain ⟨g, hg, h⟩ := s.oth i hi ei
      by_cases ek : k = r
      · subst ek
        rw [s.bas]
        have h1 := h c (Nat.le_of_lt s.hc)
        have h2 : T i c * (-T k c) + T i c * T k c = 0 := by rw [← Int.mul_add, Int.add_left_neg, Int.mul_zero]
        rw [h2] at h1
        rcases Int.mul_eq_zero.mp h1 with z | z
        · omega
        · exact z
      · rw [s.bso k hk ek]
        have h1 := h (B k) (Nat.le_of_lt (o.lt k hk))
        rw [o.zero i k hi hk ne, o.zero r k s.hr hk (Ne.symm ek), Int.zero_mul, Int.mul_zero, Int.add_zero] at h1
        rcases Int.mul_eq_zero.mp h1 with z | z
        · omega
        · exact z
theorem Step.null (s : Step m N T B T' B' r c) (v : Nat → Int) : Null m N T v ↔ Null m N T' v := by
  have tr : sm N (fun j => T' r j * v j) = -(sm N fun j => T r j * v j) := by
    have : sm N (fun j => T' r j * v j) = sm N (fun j => (-1) * (T r j * v j)) := sm_congr fun j hj => by
      rw [s.trn j (Nat.le_of_lt hj), Int.neg_mul]; omega
    rw [this, sm_mul]; omega
  have trN : T' r N * v N = -(T r N * v N) := by rw [s.trn N (Nat.le_refl _), Int.neg_mul]
  have ot : ∀ i, i < m → i ≠ r → ∃ g : Int, 0 < g ∧ g * sm N (fun j => T' i j * v j) = (-T r c) * sm N (fun j => T i j * v j) + T i c * sm N (fun j => T r j * v j) ∧ g * (T' i N * v N) = (-T r c) * (T i N * v N) + T i c * (T r N * v N) := fun i hi ne => by
    obtain ⟨g, hg, h⟩ := s.oth i hi ne
    refine ⟨g, hg, ?_, ?_⟩
    · rw [← sm_mul, ← sm_mul, ← sm_mul, ← sm_add]
      refine sm_congr fun j hj => ?_
      rw [← Int.mul_assoc, h j (Nat.le_of_lt hj), Int.add_mul, Int.mul_assoc, Int.mul_assoc, Int.mul_left_comm]
    · rw [← Int.mul_assoc, h N (Nat.le_refl _), Int.add_mul, Int.mul_assoc, Int.mul_assoc, Int.mul_left_comm]
  constructor
  · intro h i hi
    by_cases e : i = r
    · subst e; rw [tr, trN, h i hi]
    · obtain ⟨g, hg, h1, h2⟩ := ot i hi e
      rw [h i hi, h r s.hr, ← h2] at h1
      exact Int.eq_of_mul_eq_mul_left (by omega) h1
  · intro h i hi
    have hr : sm N (fun j => T r j * v j) = T r N * v N := by
      have := h r s.hr
      rw [tr, trN] at this; omega
    by_cases e : i = r
    · subst e; exact hr
    · obtain ⟨g, hg, h1, h2⟩ := ot i hi e
      rw [h i hi, h2, hr] at h1
      have h3 : (-T r c) * (T i N * v N) = (-T r c) * sm N (fun j => T i j * v j) := by omega
      have := s.negc
      exact (Int.eq_of_mul_eq_mul_left (by omega) h3).symm
def piv (T : Tb) (B : Nat → Nat) : Nat → Int := fun i => T i (B i)
def sol (m N : Nat) (T : Tb) (B : Nat → Nat) (j : Nat) : Int := if j = N then pd m (piv T B) else sm m fun i => if B i = j then T i N * pdx m (piv T B) i else 0
theorem sol_N : sol m N T B N = pd m (piv T B) := by unfold sol; rw [if_pos rfl]
theorem sol_B (o : Ok m N T B) {i : Nat} (hi : i < m) : sol m N T B (B i) = T i N * pdx m (piv T B) i := by
  unfold sol
  rw [if_neg (Nat.ne_of_lt (o.lt i hi)), sm_one hi fun k hk ne => ?_]
  · rw [if_pos rfl]
  · rw [if_neg fun e => ne (o.inj hk hi e)]
theorem sol_0 {j : Nat} (hj : j < N) (h : ∀ i, i < m → B i ≠ j) : sol m N T B j = 0 := by
  unfold sol
  rw [if_neg (Nat.ne_of_lt hj)]
  exact sm_zero fun i hi => if_neg (h i hi)
theorem sol_null (o : Ok m N T B) : Null m N T (sol m N T B) := fun i hi => by
  rw [sol_N, sm_one (k := B i) (o.lt i hi) fun j hj ne => ?_]
  · show T i (B i) * _ = _
    rw [sol_B o hi, ← pdx_mul (f := piv T B) hi]
    show T i (B i) * (T i N * _) = T i N * (T i (B i) * _)
    rw [Int.mul_left_comm]
  · by_cases h : ∃ k, k < m ∧ B k = j
    · obtain ⟨k, hk, e⟩ := h
      subst e
      rw [o.zero i k hi hk fun z => ne (by rw [z]), Int.zero_mul]
    · rw [sol_0 hj fun k hk e => h ⟨k, hk, e⟩, Int.mul_zero]
theorem sol_pos (o : Ok m N T B) : 0 < sol m N T B N := by rw [sol_N]; exact pd_pos fun i hi => o.pos i hi
end
structure Run (m N K : Nat) (T : Nat → Tb) (B : Nat → Nat → Nat) (r c : Nat → Nat) : Prop where
  ok : Ok m N (T 0) (B 0)
  st : ∀ k, k < K → Step m N (T k) (B k) (T (k + 1)) (B (k + 1)) (r k) (c k)
section
variable {m N K : Nat} {T : Nat → Tb} {B : Nat → Nat → Nat} {r c : Nat → Nat}
theorem Run.oks (R : Run m N K T B r c) : ∀ k, k ≤ K → Ok m N (T k) (B k)
  | 0, _ => R.ok
  | k + 1, h => (R.st k (by omega)).ok (R.oks k (by omega))
theorem Run.nulls (R : Run m N K T B r c) (v : Nat → Int) : ∀ k, k ≤ K → (Null m N (T 0) v ↔ Null m N (T k) v)
  | 0, _ => Iff.rfl
  | k + 1, h => (R.nulls v k (by omega)).trans ((R.st k (by omega)).null v)
def inB (m : Nat) (B : Nat → Nat) (j : Nat) : Prop := ∃ i, i < m ∧ B i = j
theorem Run.enter (R : Run m N K T B r c) {k : Nat} (hk : k < K) : ¬ inB m (B k) (c k) := fun ⟨i, hi, e⟩ => by
  have s := R.st k hk
  have o := R.oks k (by omega)
  by_cases h : i = r k
  · subst h
    have p := o.pos _ hi
    have n := s.negc
    rw [e] at p; omega
  · have z := o.zero (r k) i s.hr hi (Ne.symm h)
    have n := s.negc
    rw [e] at z; omega
theorem Run.inB_next (R : Run m N K T B r c) {k j : Nat} (hk : k < K) : inB m (B (k + 1)) j ↔ j = c k ∨ (inB m (B k) j ∧ j ≠ B k (r k)) := by
  have s := R.st k hk
  have o := R.oks k (by omega)
  constructor
  · rintro ⟨i, hi, e⟩
    by_cases h : i = r k
    · subst h; rw [s.bas] at e; exact .inl e.symm
    · rw [s.bso i hi h] at e
      exact .inr ⟨⟨i, hi, e⟩, fun z => h (o.inj hi s.hr (e.trans z))⟩
  · rintro (e | ⟨⟨i, hi, e⟩, ne⟩)
    · exact ⟨r k, s.hr, by rw [s.bas, e]⟩
    · have h : i ≠ r k := fun z => ne (by rw [← e, z])
      exact ⟨i, hi, by rw [s.bso i hi h, e]⟩
theorem Run.back (R : Run m N K T B r c) {p q j : Nat} (hq : q ≤ K) (h : ∀ k, p ≤ k → k < q → c k ≠ j) : ∀ b, p ≤ b → b ≤ q → inB m (B b) j → inB m (B p) j := by
  intro b hb
  induction b with
  | zero => intro _ x; have : p = 0 := by omega
            subst this; exact x
  | succ b ih =>
    intro hbq x
    by_cases e : p = b + 1
    · subst e; exact x
    · rcases (R.inB_next (by omega)).mp x with z | z
      · exact absurd z.symm (h b (by omega) (by omega))
      · exact ih (by omega) (by omega) z.1
theorem Run.forth (R : Run m N K T B r c) {q j : Nat} (hq : q ≤ K) : ∀ (d b : Nat), b + d = q → (∀ k, b ≤ k → k < q → B k (r k) ≠ j) → inB m (B b) j → inB m (B q) j
  | 0, b, e, _, x => by have : b = q := by omega
                        subst this; exact x
  | d + 1, b, e, h, x => R.forth hq d (b + 1) (by omega) (fun k hk => h k (by omega)) ((R.inB_next (by omega)).mpr (.inr ⟨x, fun z => h b (Nat.le_refl _) (by omega) z.symm⟩))
theorem max_at (f : Nat → Nat) (p : Nat) : ∀ n, ∃ k, p ≤ k ∧ k < p + n + 1 ∧ ∀ l, p ≤ l → l < p + n + 1 → f l ≤ f k
  | 0 => ⟨p, Nat.le_refl _, by omega, fun l h1 h2 => Nat.le_of_eq (congrArg f (by omega))⟩
  | n + 1 => by
    obtain ⟨k, h1, h2, h3⟩ := max_at f p n
    by_cases h : f k ≤ f (p + n + 1)
    · exact ⟨p + n + 1, by omega, by omega, fun l l1 l2 => by
        by_cases e : l = p + n + 1
        · rw [e]; exact Nat.le_refl _
        · exact Nat.le_trans (h3 l l1 (by omega)) h⟩
    · exact ⟨k, h1, by omega, fun l l1 l2 => by
        by_cases e : l = p + n + 1
        · rw [e]; omega
        · exact h3 l l1 (by omega)⟩
theorem Run.noCircle (R : Run m N K T B r c) {p q : Nat} (hpq : p < q) (hq : q ≤ K) (same : ∀ j, inB m (B p) j ↔ inB m (B q) j) : False := by
  obtain ⟨k1, a1, a2, a3⟩ := max_at c p (q - p - 1)
  have a2 : k1 < q := by omega
  have a3 : ∀ l, p ≤ l → l < q → c l ≤ c k1 := fun l h1 h2 => a3 l h1 (by omega)
  have lv : ∀ k, p ≤ k → k < q → B k (r k) ≤ c k1 := fun k h1 h2 => by
    by_cases h : ∃ l, p ≤ l ∧ l < q ∧ c l = B k (r k)
    · obtain ⟨l, l1, l2, l3⟩ := h
      rw [← l3]; exact a3 l l1 l2
    · have nev : ∀ l, p ≤ l → l < q → c l ≠ B k (r k) := fun l l1 l2 e => h ⟨l, l1, l2, e⟩
      have st : inB m (B k) (B k (r k)) := ⟨r k, (R.st k (by omega)).hr, rfl⟩
      have at_p := R.back (q := q) hq nev k h1 (by omega) st
      have at_q := (same _).mp at_p
      have at_k1 := R.back (p := k + 1) (q := q) hq (fun l l1 l2 => nev l (by omega) l2) q (by omega) (Nat.le_refl _) at_q
      rcases (R.inB_next (by omega)).mp at_k1 with z | z
      · exact absurd z.symm (nev k h1 h2)
      · exact absurd rfl z.2
  obtain ⟨k2, b1, b2, b3⟩ : ∃ k2, p ≤ k2 ∧ k2 < q ∧ B k2 (r k2) = c k1 := by
    refine Classical.byContradiction fun h => ?_
    have nev : ∀ l, p ≤ l → l < q → B l (r l) ≠ c k1 := fun l l1 l2 e => h ⟨l, l1, l2, e⟩
    have nx : inB m (B (k1 + 1)) (c k1) := (R.inB_next (by omega)).mpr (.inl rfl)
    have at_q := R.forth (q := q) hq (q - (k1 + 1)) (k1 + 1) (by omega) (fun l l1 l2 => nev l (by omega) l2) nx
    have at_p := (same _).mpr at_q
    have at_k := R.forth (q := k1) (by omega) (k1 - p) p (by omega) (fun l l1 l2 => nev l l1 (by omega)) at_p
    exact R.enter (by omega) at_k
  have s1 := R.st k1 (by omega)
  have s2 := R.st k2 (by omega)
  have o1 := R.oks k1 (by omega)
  have o2 := R.oks k2 (by omega)
  have nl := ((R.nulls (sol m N (T k2) (B k2)) k1 (by omega)).symm.trans (R.nulls _ k2 (by omega))).mpr (sol_null o2)
  have e1 := nl (r k1) s1.hr
  have neg : T k1 (r k1) N * sol m N (T k2) (B k2) N < 0 := Int.mul_neg_of_neg_of_pos s1.neg (sol_pos o2)
  have nn : 0 ≤ sm N fun j => T k1 (r k1) j * sol m N (T k2) (B k2) j := by
    refine sm_nonneg fun j hj => ?_
    by_cases hb : ∃ i, i < m ∧ B k2 i = j
    · obtain ⟨i, hi, e⟩ := hb
      have es : sol m N (T k2) (B k2) j = T k2 i N * pdx m (piv (T k2) (B k2)) i := by rw [← e]; exact sol_B o2 hi
      have pp : 0 < pdx m (piv (T k2) (B k2)) i := pdx_pos fun l hl => o2.pos l hl
      rw [es]
      rcases Nat.lt_trichotomy j (c k1) with lt | eq | gt
      ·
        have t1 := s1.col j lt
        have t2 : 0 ≤ T k2 i N := by
          refine Int.not_lt.mp fun z => ?_
          have := s2.row i hi z
          rw [b3, e] at this; omega
        exact Int.mul_nonneg t1 (Int.mul_nonneg t2 (Int.le_of_lt pp))
      · have ei : i = r k2 := o2.inj hi s2.hr (by rw [e, b3]; exact eq)
        subst ei
        have t1 := s1.negc
        rw [← eq] at t1
        have t2 : T k2 (r k2) N * pdx m (piv (T k2) (B k2)) (r k2) < 0 := Int.mul_neg_of_neg_of_pos s2.neg pp
        exact Int.le_of_lt (Int.mul_pos_of_neg_of_neg t1 t2)
      ·
        have nev1 : ∀ l, p ≤ l → l < q → c l ≠ j := fun l l1 l2 z => by have := a3 l l1 l2; omega
        have nev2 : ∀ l, p ≤ l → l < q → B l (r l) ≠ j := fun l l1 l2 z => by have := lv l l1 l2; omega
        have at_p := R.back (q := q) hq nev1 k2 b1 (by omega) ⟨i, hi, e⟩
        obtain ⟨i', hi', e'⟩ := R.forth (q := k1) (by omega) (k1 - p) p (by omega) (fun l l1 l2 => nev2 l l1 (by omega)) at_p
        have ne : r k1 ≠ i' := fun z => nev2 k1 a1 a2 (by rw [z]; exact e')
        have := o1.zero (r k1) i' s1.hr hi' ne
        rw [e'] at this
        rw [this, Int.zero_mul]; exact Int.le_refl _
    · rw [sol_0 hj fun i hi e => hb ⟨i, hi, e⟩, Int.mul_zero]; exact Int.le_refl _
  rw [e1] at nn
  omega
def code (n : Nat) (P : Nat → Bool) : Nat := match n with
  | 0 => 0
  | n + 1 => code n P + (if P n then 2 ^ n else 0)
theorem code_lt (P : Nat → Bool) : ∀ n, code n P < 2 ^ n
  | 0 => Nat.zero_lt_one
  | n + 1 => by
    have := code_lt P n
    rw [code, Nat.pow_succ]
    split <;> omega
theorem code_inj (P Q : Nat → Bool) : ∀ n, code n P = code n Q → ∀ j, j < n → P j = Q j
  | 0, _, j, hj => by omega
  | n + 1, e, j, hj => by
    rw [code, code] at e
    have l1 := code_lt P n
    have l2 := code_lt Q n
    have hn : P n = Q n := by
      cases h1 : P n <;> cases h2 : Q n <;> rw [h1, h2] at e <;> simp at e <;> first | rfl | omega
    by_cases h : j = n
    · rw [h]; exact hn
    · refine code_inj P Q n ?_ j (by omega)
      rw [hn] at e; omega
theorem pigeon : ∀ (n : Nat) (f : Nat → Nat), (∀ k, k ≤ n → f k < n) → ∃ p q, p < q ∧ q ≤ n ∧ f p = f q
  | 0, f, h => by have := h 0 (Nat.le_refl _); omega
  | n + 1, f, h => by
    by_cases hd : ∃ p, p < n + 1 ∧ f p = f (n + 1)
    · obtain ⟨p, hp, e⟩ := hd
      exact ⟨p, n + 1, hp, Nat.le_refl _, e⟩
    ·
      obtain ⟨p, q, h1, h2, h3⟩ := pigeon n (fun k => if f k = n then f (n + 1) else f k) fun k hk => by
        have a := h k (by omega)
        have b := h (n + 1) (Nat.le_refl _)
        split
        · rename_i e
          have : f (n + 1) ≠ n := fun z => hd ⟨k, by omega, by rw [e, z]⟩
          omega
        · omega
      refine ⟨p, q, h1, by omega, ?_⟩
      split at h3 <;> split at h3
      · rename_i e1 e2; rw [e1, e2]
      · rename_i e1 e2; exact absurd ⟨q, by omega, h3.symm⟩ hd
      · rename_i e1 e2; exact absurd ⟨p, by omega, h3⟩ hd
      · exact h3
open Classical in
theorem Run.short (R : Run m N K T B r c) : K < 2 ^ N := by
  refine Nat.not_le.mp fun h => ?_
  obtain ⟨p, q, h1, h2, h3⟩ := pigeon (2 ^ N) (fun k => code N fun j => decide (inB m (B k) j)) fun k _ => code_lt _ N
  have e := code_inj _ _ N h3
  refine R.noCircle h1 (by omega) fun j => ?_
  by_cases hj : j < N
  · have := e j hj
    exact decide_eq_decide.mp this
  · constructor
    · rintro ⟨i, hi, z⟩
      have := (R.oks p (by omega)).lt i hi; omega
    · rintro ⟨i, hi, z⟩
      have := (R.oks q (by omega)).lt i hi; omega
end
end Smx
end
section
namespace VL
open PySem PySem.Spec PyProof.Rows L2
open Sem (wp)
section
variable {prog : Program} {w : World} {A : Around} {E : Value → Shared → Prop} {s : Shared}
theorem nextOf_tup_item {it t : Addr} {i : Nat} {items : Array Value} {x : Value} {Q : Value → Shared → Prop} (hit : s.heap.IsTupleIter it t i) (ht : s.heap.IsTuple t items) (hx : items[i]? = some x)
    (hQ : ∀ h', h'.IsTupleIter it t (i + 1) → Heap.SameBut it s.heap h' → Q x { s with heap := h' }) : wpAny (model prog w) A (Builtin.SmallTypes.nextOf (.ref it)) Q E s := by
  obtain ⟨o, ho, hc, hd⟩ := id hit
  obtain ⟨ol, hol, _, nl, hdl⟩ := ht
  unfold Builtin.SmallTypes.nextOf
  refine wpAny_bind (wpAny_callSpecial?_slot (name := Str.ofString "__next__") hit.typeIs F.slot_tuple_iterator_next (wpAny_call_entry F.slot_tuple_iterator_next hit.typeIs F.entry_tuple_iterator_next ?_ (F.args_tuple_iterator_next_1 _)))
  show wpAny _ _ (field (.ref it) 0 >>= _) _ _ s
  refine wpAny_bind (wpAny_field ho hd (x := .ref t) rfl ?_)
  show wpAny _ _ (if (Value.ref t == Value.none) = true then _ else _) _ _ s
  rw [if_neg (show ¬ ((Value.ref t == Value.none) = true) from Bool.false_ne_true)]
  show wpAny _ _ (field (.ref it) 1 >>= _) _ _ s
  refine wpAny_bind (wpAny_field ho hd (x := .int i 0) rfl ?_)
  show wpAny _ _ (seqItems? (.ref t) >>= _) _ _ s
  refine wpAny_bind (wpAny_seqItems hol hdl ?_)
  simp only [Int.toNat_natCast, hx]
  refine wpAny_bind (wpAny_setField ho hd (by simp) (wpAny_pure ⟨x, rfl, wpAny_pure (hQ _ ?_ (Heap.SameBut.update ..))⟩))
  exact ⟨_, Heap.get?_update_self _ ho (Obj.isFreed_of_fields (Obj.data_mapFields hd _)), (Obj.cls_mapFields ..).trans hc, by rw [Obj.data_mapFields hd]; simp [rawInt]⟩
theorem nextOf_tup_end {it t : Addr} {i : Nat} {items : Array Value} {Q : Value → Shared → Prop} (hh : A.handled = none) (hit : s.heap.IsTupleIter it t i) (ht : s.heap.IsTuple t items) (hx : items[i]? = none)
    (hE : ∀ h' e, Heap.ExtBut it s.heap h' → (∃ o, h'.get? e = some o ∧ o.cls = .type "StopIteration") → E (.ref e) { s with heap := h' }) : wpAny (model prog w) A (Builtin.SmallTypes.nextOf (.ref it)) Q E s := by
  obtain ⟨o, ho, hc, hd⟩ := id hit
  obtain ⟨ol, hol, _, nl, hdl⟩ := ht
  unfold Builtin.SmallTypes.nextOf
  refine wpAny_bind (wpAny_callSpecial?_slot (name := Str.ofString "__next__") hit.typeIs F.slot_tuple_iterator_next (wpAny_call_entry F.slot_tuple_iterator_next hit.typeIs F.entry_tuple_iterator_next ?_ (F.args_tuple_iterator_next_1 _)))
  show wpAny _ _ (field (.ref it) 0 >>= _) _ _ s
  refine wpAny_bind (wpAny_field ho hd (x := .ref t) rfl ?_)
  show wpAny _ _ (if (Value.ref t == Value.none) = true then _ else _) _ _ s
  rw [if_neg (show ¬ ((Value.ref t == Value.none) = true) from Bool.false_ne_true)]
  show wpAny _ _ (field (.ref it) 1 >>= _) _ _ s
  refine wpAny_bind (wpAny_field ho hd (x := .int i 0) rfl ?_)
  show wpAny _ _ (seqItems? (.ref t) >>= _) _ _ s
  refine wpAny_bind (wpAny_seqItems hol hdl ?_)
  simp only [Int.toNat_natCast, hx]
  refine wpAny_bind (wpAny_rule (wpAny_bind (wpAny_setField ho hd (by simp) ?_)))
  show wpAny _ _ (newExc (.type "StopIteration") [] >>= _) _ _ _
  refine wpAny_bind ?_
  simp only [newExc, newTuple]
  refine wpAny_bind (wpAny_newObj_type ?_ (by size_fits))
  refine wpAny_bind (m := firstArgMember _ _) (wpAny_of_eq (a := Value.none) (by first | rfl | (simp only [firstArgMember]; rfl)) ?_)
  refine wpAny_newObj_type ?_ (by size_fits)
  simp only [raiseNew]
  refine wpAny_bind (wpAny_handled ?_)
  first | rw [show A.in1.handled = none from hh] | rw [hh]
  refine wpAny_bind (wpAny_pure (wpAny_throw ?_))
  exact hE _ _ (((Heap.SameBut.update ..).extBut.push _).push _) ⟨_, Heap.get?_push_size _ rfl, rfl⟩
theorem zt_item {z TI TO i1 i2 l1 l2 : Addr} {k1 k2 : Nat} {xs ys : Array Value} {x y a b : Value} {Q : Value → Shared → Prop} (D : ZipApart z TI TO i1 i2 l1 l2)
    (hz : IsZip s.heap z TI TO .none) (hTI : IsPair s.heap TI (.ref i1) (.ref i2)) (hTO : IsPair s.heap TO a b)
    (h1 : s.heap.IsListIter i1 l1 k1) (h2 : s.heap.IsTupleIter i2 l2 k2) (hl1 : s.heap.IsList l1 xs) (hl2 : s.heap.IsTuple l2 ys) (hx : xs[k1]? = some x) (hy : ys[k2]? = some y)
    (hQ : ∀ h', IsZip h' z TI TO (rawInt s.heap.objs.size) → IsPair h' TO x y → h'.IsListIter i1 l1 (k1 + 1) → h'.IsTupleIter i2 l2 (k2 + 1) → IsPair h' s.heap.objs.size x y → h'.objs.size = s.heap.objs.size + 1 →
      (∀ c o, c ≠ z → c ≠ TO → c ≠ i1 → c ≠ i2 → s.heap.get? c = some o → h'.get? c = some o) → Q (.ref s.heap.objs.size) { s with heap := h' }) :
    wpAny (model prog w) A (Builtin.«zip.__next__» ⟨[.ref z], []⟩) (fun fin s' => ∃ v, fin = .done (.ret v) ∧ Q v s') E s := by
  show wpAny _ _ (field (.ref z) 2 >>= _) _ _ _
  refine wpAny_bind (wpAny_field hz rfl (x := .bool false) rfl ?_)
  show wpAny _ _ (field (.ref z) 3 >>= _) _ _ _
  refine wpAny_bind (wpAny_field hz rfl (x := .ref TI) rfl ?_)
  refine wpAny_bind (wpAny_seqItems hTI rfl ?_)
  show wpAny _ _ (Builtin.SmallTypes.ownedTupleIsFree (.ref z) >>= _) _ _ _
  refine wpAny_bind ?_
  unfold Builtin.SmallTypes.ownedTupleIsFree
  refine wpAny_bind (wpAny_field hz rfl (x := .none) rfl (wpAny_pure ?_))
  simp only [if_true]
  refine wpAny_bind (wpAny_rule ?_)
  refine wpAny_bind (wpAny_field hz rfl (x := .ref TO) rfl ?_)
  refine wpAny_bind (wpAny_setField_rec hz (by simp) fun g1 z1 e1 => ?_)
  replace z1 : IsZip g1 z TI TO .ellipsis := z1
  refine wpAny_bind ?_
  simp only [List.zipIdx_cons, List.zipIdx_nil, List.forIn_cons, List.forIn_nil]
  refine wpAny_bind (wpAny_bind (wpAny_onRaise ?_))
  show wpAny _ _ (Builtin.SmallTypes.nextOf (.ref i1) >>= _) _ _ _
  refine wpAny_bind (wpAny_nextOf_list_item (h1.extBut e1.extBut D.i1z) (hl1.extBut e1.extBut D.l1z) hx fun g2 h12 e2 => wpAny_pure ?_)
  have o2 : IsPair g2 TO a b := e2.extBut _ _ D.TOi1 (e1.extBut _ _ D.TOz hTO)
  refine wpAny_bind (wpAny_seqItems o2 rfl ?_)
  refine wpAny_bind (wpAny_updateSeq_pair o2 fun g3 o3 e3 => ?_)
  replace o3 : IsPair g3 TO x b := o3
  refine wpAny_bind (wpAny_letGo (wpAny_pure ?_))
  refine wpAny_bind (wpAny_bind (wpAny_onRaise ?_))
  show wpAny _ _ (Builtin.SmallTypes.nextOf (.ref i2) >>= _) _ _ _
  refine wpAny_bind (nextOf_tup_item (((h2.extBut e1.extBut D.i2z).extBut e2.extBut D.i12.symm).extBut e3.extBut D.TOi2.symm)
    (((hl2.extBut e1.extBut D.l2z).extBut e2.extBut D.l2i1).extBut e3.extBut D.l2TO) hy fun g4 h24 e4 => wpAny_pure ?_)
  have o4 : IsPair g4 TO x b := e4.extBut _ _ D.TOi2 o3
  refine wpAny_bind (wpAny_seqItems o4 rfl ?_)
  refine wpAny_bind (wpAny_updateSeq_pair o4 fun g5 o5 e5 => ?_)
  replace o5 : IsPair g5 TO x y := o5
  refine wpAny_bind (wpAny_letGo (wpAny_pure (wpAny_pure ?_)))
  refine wpAny_bind (wpAny_seqItems o5 rfl ?_)
  refine wpAny_bind (wpAny_newTuple ?_)
  have hsz : g5.objs.size = s.heap.objs.size := by rw [e5.1, e4.1, e3.1, e2.1, e1.1]
  have z5 : IsZip g5 z TI TO .ellipsis := e5.extBut _ _ D.TOz.symm (e4.extBut _ _ D.i2z.symm (e3.extBut _ _ D.TOz.symm (e2.extBut _ _ D.i1z.symm z1)))
  have k5 : ∀ c o, c ≠ z → c ≠ TO → c ≠ i1 → c ≠ i2 → s.heap.get? c = some o → g5.get? c = some o := fun c o c1 c2 c3 c4 e =>
    e5.extBut _ _ c2 (e4.extBut _ _ c4 (e3.extBut _ _ c2 (e2.extBut _ _ c3 (e1.extBut _ _ c1 e))))
  have h15 : g5.IsListIter i1 l1 (k1 + 1) := ((h12.extBut e3.extBut D.TOi1.symm).extBut e4.extBut D.i12).extBut e5.extBut D.TOi1.symm
  have h25 : g5.IsTupleIter i2 l2 (k2 + 1) := h24.extBut e5.extBut D.TOi2.symm
  have hzlt : z < g5.objs.size := Heap.lt_size z5
  have hTOlt : TO < g5.objs.size := Heap.lt_size o5
  have hi1lt : i1 < g5.objs.size := by obtain ⟨_, e, _⟩ := h15; exact Heap.lt_size e
  have hi2lt : i2 < g5.objs.size := by obtain ⟨_, e, _⟩ := h25; exact Heap.lt_size e
  show wpAny _ _ (Builtin.SmallTypes.ownedTupleHandOut (.ref z) (.ref g5.objs.size) >>= _) _ _ _
  refine wpAny_bind ?_
  unfold Builtin.SmallTypes.ownedTupleHandOut
  have z6 : IsZip (g5.push { cls := .type "tuple", data := .seq #[x, y] }) z TI TO .ellipsis := Heap.get?_push_of_some _ z5
  refine wpAny_bind (wpAny_setField_rec z6 (by simp) fun g7 z7 e7 => ?_)
  replace z7 : IsZip g7 z TI TO (rawInt g5.objs.size) := z7
  refine wpAny_setField_rec z7 (by simp) fun g8 z8 e8 => ?_
  replace z8 : IsZip g8 z TI TO (rawInt g5.objs.size) := z8
  have up : ∀ c o, c ≠ z → g5.get? c = some o → g8.get? c = some o := fun c o c1 e => e8.extBut _ _ c1 (e7.extBut _ _ c1 (Heap.get?_push_of_some _ e))
  have t8 : IsPair g8 g5.objs.size x y := e8.extBut _ _ (Nat.ne_of_gt hzlt) (e7.extBut _ _ (Nat.ne_of_gt hzlt) (Heap.get?_push_size _ rfl))
  have s8 : g8.objs.size = g5.objs.size + 1 := by rw [e8.1, e7.1, Heap.size_push]
  rw [hsz] at z8 t8 s8
  refine wpAny_pure ⟨_, rfl, ?_⟩
  show Q (.ref g5.objs.size) _
  rw [hsz]
  exact hQ g8 z8 (up _ _ D.TOz o5) (h15.at fun o e => up _ o D.i1z e) (h25.at fun o e => up _ o D.i2z e) t8 s8 fun c o c1 c2 c3 c4 e => up c o c1 (k5 c o c1 c2 c3 c4 e)
theorem zt_end {z TI TO i1 i2 l1 l2 : Addr} {k1 k2 : Nat} {xs ys : Array Value} {a b : Value} {Q : Fin → Shared → Prop} (hh : A.handled = none) (D : ZipApart z TI TO i1 i2 l1 l2)
    (hz : IsZip s.heap z TI TO .none) (hTI : IsPair s.heap TI (.ref i1) (.ref i2)) (hTO : IsPair s.heap TO a b)
    (h1 : s.heap.IsListIter i1 l1 k1) (h2 : s.heap.IsTupleIter i2 l2 k2) (hl1 : s.heap.IsList l1 xs) (hl2 : s.heap.IsTuple l2 ys) (hend : xs[k1]? = none ∨ ys[k2]? = none)
    (hE : ∀ h' e, (∀ c o, c ≠ z → c ≠ TO → c ≠ i1 → c ≠ i2 → s.heap.get? c = some o → h'.get? c = some o) → (∃ o, h'.get? e = some o ∧ o.cls = .type "StopIteration") → E (.ref e) { s with heap := h' }) :
    wpAny (model prog w) A (Builtin.«zip.__next__» ⟨[.ref z], []⟩) Q E s := by
  show wpAny _ _ (field (.ref z) 2 >>= _) _ _ _
  refine wpAny_bind (wpAny_field hz rfl (x := .bool false) rfl ?_)
  show wpAny _ _ (field (.ref z) 3 >>= _) _ _ _
  refine wpAny_bind (wpAny_field hz rfl (x := .ref TI) rfl ?_)
  refine wpAny_bind (wpAny_seqItems hTI rfl ?_)
  show wpAny _ _ (Builtin.SmallTypes.ownedTupleIsFree (.ref z) >>= _) _ _ _
  refine wpAny_bind ?_
  unfold Builtin.SmallTypes.ownedTupleIsFree
  refine wpAny_bind (wpAny_field hz rfl (x := .none) rfl (wpAny_pure ?_))
  simp only [if_true]
  refine wpAny_bind (wpAny_rule ?_)
  refine wpAny_bind (wpAny_field hz rfl (x := .ref TO) rfl ?_)
  refine wpAny_bind (wpAny_setField_rec hz (by simp) fun g1 z1 e1 => ?_)
  replace z1 : IsZip g1 z TI TO .ellipsis := z1
  refine wpAny_bind ?_
  simp only [List.zipIdx_cons, List.zipIdx_nil, List.forIn_cons, List.forIn_nil]
  refine wpAny_bind (wpAny_bind (wpAny_onRaise ?_))
  show wpAny _ _ (Builtin.SmallTypes.nextOf (.ref i1) >>= _) _ _ _
  cases hx : xs[k1]? with
  | none =>
    refine wpAny_bind (wpAny_nextOf_list_end hh (h1.extBut e1.extBut D.i1z) (hl1.extBut e1.extBut D.l1z) hx fun g2 e e2 he => ?_)
    obtain ⟨oe, hoe, hce⟩ := he
    have z2 : IsZip g2 z TI TO .ellipsis := e2 _ _ D.i1z.symm z1
    have hez : e ≠ z := fun x => by subst x; rw [z2] at hoe; cases hoe; simp at hce
    exact wpAny_setField_rec z2 (by simp) fun g3 _ e3 => hE g3 e (fun c o c1 _ c3 _ x => e3.extBut _ _ c1 (e2 _ _ c3 (e1.extBut _ _ c1 x))) ⟨oe, e3.extBut _ _ hez hoe, hce⟩
  | some x =>
    have hy : ys[k2]? = none := by rcases hend with h | h; rw [hx] at h; cases h; exact h
    refine wpAny_bind (wpAny_nextOf_list_item (h1.extBut e1.extBut D.i1z) (hl1.extBut e1.extBut D.l1z) hx fun g2 h12 e2 => wpAny_pure ?_)
    have o2 : IsPair g2 TO a b := e2.extBut _ _ D.TOi1 (e1.extBut _ _ D.TOz hTO)
    refine wpAny_bind (wpAny_seqItems o2 rfl ?_)
    refine wpAny_bind (wpAny_updateSeq_pair o2 fun g3 o3 e3 => ?_)
    refine wpAny_bind (wpAny_letGo (wpAny_pure ?_))
    refine wpAny_bind (wpAny_bind (wpAny_onRaise ?_))
    show wpAny _ _ (Builtin.SmallTypes.nextOf (.ref i2) >>= _) _ _ _
    refine wpAny_bind (nextOf_tup_end hh (((h2.extBut e1.extBut D.i2z).extBut e2.extBut D.i12.symm).extBut e3.extBut D.TOi2.symm)
      (((hl2.extBut e1.extBut D.l2z).extBut e2.extBut D.l2i1).extBut e3.extBut D.l2TO) hy fun g4 e e4 he => ?_)
    obtain ⟨oe, hoe, hce⟩ := he
    have z4 : IsZip g4 z TI TO .ellipsis := e4 _ _ D.i2z.symm (e3.extBut _ _ D.TOz.symm (e2.extBut _ _ D.i1z.symm z1))
    have hez : e ≠ z := fun x => by subst x; rw [z4] at hoe; cases hoe; simp at hce
    exact wpAny_setField_rec z4 (by simp) fun g5 _ e5 => hE g5 e (fun c o c1 c2 c3 c4 x => e5.extBut _ _ c1 (e4 _ _ c4 (e3.extBut _ _ c2 (e2.extBut _ _ c3 (e1.extBut _ _ c1 x))))) ⟨oe, e5.extBut _ _ hez hoe, hce⟩
theorem zt_next {z TI TO i1 i2 l1 l2 : Addr} {k1 k2 : Nat} {xs ys : Array Value} {x y a b : Value} {Q : Option Value → Shared → Prop} (D : ZipApart z TI TO i1 i2 l1 l2)
    (hz : IsZip s.heap z TI TO .none) (hTI : IsPair s.heap TI (.ref i1) (.ref i2)) (hTO : IsPair s.heap TO a b)
    (h1 : s.heap.IsListIter i1 l1 k1) (h2 : s.heap.IsTupleIter i2 l2 k2) (hl1 : s.heap.IsList l1 xs) (hl2 : s.heap.IsTuple l2 ys) (hx : xs[k1]? = some x) (hy : ys[k2]? = some y)
    (hQ : ∀ h', IsZip h' z TI TO (rawInt s.heap.objs.size) → IsPair h' TO x y → h'.IsListIter i1 l1 (k1 + 1) → h'.IsTupleIter i2 l2 (k2 + 1) → IsPair h' s.heap.objs.size x y → h'.objs.size = s.heap.objs.size + 1 →
      (∀ c o, c ≠ z → c ≠ TO → c ≠ i1 → c ≠ i2 → s.heap.get? c = some o → h'.get? c = some o) → Q (some (.ref s.heap.objs.size)) { s with heap := h' }) :
    wpAny (model prog w) A (pyNext (.ref z)) Q E s := by
  have hT : s.TypeIs (.ref z) "zip" := ⟨_, hz, rfl⟩
  unfold pyNext
  exact wpAny_bind (wpAny_attempt (wpAny_callSpecial?_slot (name := Str.ofString "__next__") hT F.slot_zip_next
    (wpAny_call_entry F.slot_zip_next hT F.entry_zip_next
      (zt_item D hz hTI hTO h1 h2 hl1 hl2 hx hy fun h' a1 a2 a3 a4 a5 a6 a7 => wpAny_pure (hQ h' a1 a2 a3 a4 a5 a6 a7)) (F.args_zip_next_1 _))))
theorem zt_stop {z TI TO i1 i2 l1 l2 : Addr} {k1 k2 : Nat} {xs ys : Array Value} {a b : Value} {Q : Option Value → Shared → Prop} (hh : A.handled = none) (D : ZipApart z TI TO i1 i2 l1 l2)
    (hz : IsZip s.heap z TI TO .none) (hTI : IsPair s.heap TI (.ref i1) (.ref i2)) (hTO : IsPair s.heap TO a b)
    (h1 : s.heap.IsListIter i1 l1 k1) (h2 : s.heap.IsTupleIter i2 l2 k2) (hl1 : s.heap.IsList l1 xs) (hl2 : s.heap.IsTuple l2 ys) (hend : xs[k1]? = none ∨ ys[k2]? = none)
    (hQ : ∀ h', (∀ c o, c ≠ z → c ≠ TO → c ≠ i1 → c ≠ i2 → s.heap.get? c = some o → h'.get? c = some o) → Q none { s with heap := h' }) : wpAny (model prog w) A (pyNext (.ref z)) Q E s := by
  have hT : s.TypeIs (.ref z) "zip" := ⟨_, hz, rfl⟩
  unfold pyNext
  refine wpAny_bind (wpAny_attempt (wpAny_callSpecial?_slot (name := Str.ofString "__next__") hT F.slot_zip_next
    (wpAny_call_entry F.slot_zip_next hT F.entry_zip_next (zt_end hh D hz hTI hTO h1 h2 hl1 hl2 hend fun h' e hk he => ?_) (F.args_zip_next_1 _))))
  obtain ⟨o, ho, hc⟩ := he
  refine wpAny_bind (wpAny_isInstance (T := "StopIteration") (b := true) ⟨o, ho, hc⟩ isSubtype_stop ?_)
  exact wpAny_pure (hQ _ hk)
end
abbrev ztH2 (h : Heap) (l1 l2 : Addr) : Heap := (zipH1 h l1).push { cls := .type "tuple_iterator", data := .fields #[.ref l2, .int 0 0] }
abbrev ztH3 (h : Heap) (l1 l2 : Addr) : Heap := (ztH2 h l1 l2).push { cls := .type "tuple", data := .seq #[.ref h.objs.size, .ref (zipH1 h l1).objs.size] }
abbrev ztH4 (h : Heap) (l1 l2 : Addr) : Heap := (ztH3 h l1 l2).push { cls := .type "tuple", data := .seq #[.none, .none] }
abbrev ztH5 (h : Heap) (l1 l2 : Addr) : Heap := (ztH4 h l1 l2).push { cls := .type "zip", data := .fields #[.none, .bool false, .bool false, .ref (ztH2 h l1 l2).objs.size, .ref (ztH3 h l1 l2).objs.size] }
theorem meets_zt_new (l1 l2 : Addr) (xs ys : Array Value) :
    Meets (Builtin.«zip.__new__» ⟨[.type "zip", .ref l1, .ref l2], []⟩) (fun _ R s => s.heap.IsList l1 xs ∧ s.heap.IsTuple l2 ys ∧
      R (.ok (.ret (.ref (ztH4 s.heap l1 l2).objs.size))) { s with heap := ztH5 s.heap l1 l2 }) :=
  .of_wp fun prog w A R s h => by
    obtain ⟨hp, g, d, tk, os⟩ := s; obtain ⟨hl1, hl2, h⟩ := h
    have hsub := sub_zip
    have hL1 : Heap.IsList (Shared.heap ⟨hp, g, d, tk, os⟩) l1 xs := hl1
    have hL2 : Heap.IsTuple (Shared.heap ⟨hp.push { cls := .type "list_iterator", data := .fields #[.ref l1, .int 0 0] }, g, d, tk, os⟩) l2 ys := Heap.IsTuple.push hl2 _
    wp_walk using wpAny_pyIter_list hL1, wpAny_pyIter_tuple hL2
    exact ⟨_, rfl, h⟩
section
variable {prog : Program} {w : World} {A : Around} {E : Value → Shared → Prop} {s : Shared}
theorem call_zt {l1 l2 : Addr} {xs ys : Array Value} {Q : Value → Shared → Prop} (hl1 : s.heap.IsList l1 xs) (hl2 : s.heap.IsTuple l2 ys)
    (h : ∀ h', IsZip h' (s.heap.objs.size + 4) (s.heap.objs.size + 2) (s.heap.objs.size + 3) .none → IsPair h' (s.heap.objs.size + 2) (.ref s.heap.objs.size) (.ref (s.heap.objs.size + 1)) →
      IsPair h' (s.heap.objs.size + 3) .none .none → h'.IsListIter s.heap.objs.size l1 0 → h'.IsTupleIter (s.heap.objs.size + 1) l2 0 → h'.objs.size = s.heap.objs.size + 5 →
      (∀ c o, s.heap.get? c = some o → h'.get? c = some o) → Q (.ref (s.heap.objs.size + 4)) { s with heap := h' }) :
    wpAny (model prog w) A (call (.type "zip") [.ref l1, .ref l2]) Q E s := by
  refine callType_new F.called_zip (by decide) (F.typeCall_zip_2 _ _) (F.newCall_zip_2 _ _) (fun obj => F.args_object_init_3 obj _ _) F.entry_zip_new
    (meets_zt_new l1 l2 xs ys) ⟨hl1, hl2, ?_⟩
  have z1 : (zipH1 s.heap l1).objs.size = s.heap.objs.size + 1 := Heap.size_push ..
  have z2 : (ztH2 s.heap l1 l2).objs.size = s.heap.objs.size + 2 := by rw [Heap.size_push, z1]
  have z3 : (ztH3 s.heap l1 l2).objs.size = s.heap.objs.size + 3 := by rw [Heap.size_push, z2]
  have z4 : (ztH4 s.heap l1 l2).objs.size = s.heap.objs.size + 4 := by rw [Heap.size_push, z3]
  have z5 : (ztH5 s.heap l1 l2).objs.size = s.heap.objs.size + 5 := by rw [Heap.size_push, z4]
  have g5 : (ztH5 s.heap l1 l2).get? (ztH4 s.heap l1 l2).objs.size = some _ := Heap.get?_push_size _ rfl
  have g4 : (ztH5 s.heap l1 l2).get? (ztH3 s.heap l1 l2).objs.size = some _ := Heap.get?_push_of_some _ (Heap.get?_push_size _ rfl)
  have g3 : (ztH5 s.heap l1 l2).get? (ztH2 s.heap l1 l2).objs.size = some _ := Heap.get?_push_of_some _ (Heap.get?_push_of_some _ (Heap.get?_push_size _ rfl))
  have g2 : (ztH5 s.heap l1 l2).get? (zipH1 s.heap l1).objs.size = some _ := Heap.get?_push_of_some _ (Heap.get?_push_of_some _ (Heap.get?_push_of_some _ (Heap.get?_push_size _ rfl)))
  have g1 : (ztH5 s.heap l1 l2).get? s.heap.objs.size = some _ := Heap.get?_push_of_some _ (Heap.get?_push_of_some _ (Heap.get?_push_of_some _ (Heap.get?_push_of_some _ (Heap.get?_push_size _ rfl))))
  show _ ∧ _
  rw [z2, z3, z4] at g5
  rw [z1, z2] at g3
  rw [z3] at g4
  rw [z1] at g2
  rw [z4]
  exact ⟨⟨_, g5, rfl⟩, h _ g5 g3 g4 ⟨_, g1, rfl, rfl⟩ ⟨_, g2, rfl, rfl⟩ z5 fun c o x => Heap.get?_push_of_some _ (Heap.get?_push_of_some _ (Heap.get?_push_of_some _ (Heap.get?_push_of_some _ (Heap.get?_push_of_some _ x))))⟩
end
def Itzt (K : FG) (a b : Addr) : It :=
  ⟨fun i H => ∃ xs ys x y, Rd H a (.lst xs) ∧ SqT K H b ys ∧ xs[i]? = some x ∧ ys[i]? = some y,
   fun i H v H' => ∃ p x y, H p = none ∧ v = .ref p ∧ (∀ xs, Rd H a (.lst xs) → xs[i]? = some x) ∧ (∀ ys, SqT K H b ys → ys[i]? = some y) ∧ H' = upd H p (.tup [x, y]),
   fun i H => ∃ xs ys, Rd H a (.lst xs) ∧ SqT K H b ys ∧ (xs.length ≤ i ∨ ys.length ≤ i)⟩
end VL
namespace VL
open PySem PySem.Spec PyProof.Rows L2
section
variable {X : Cx} {pins : List (Addr × Obj)} {σ : L2.St} {H : Hp} {s : Shared}
theorem tup_at {K : FG} {a : Addr} {xs : List V} (hK : X.K = K) (I : L2.Inv X pins σ H s) (h : SqT K H a xs) : ∃ its, Vals xs its ∧ s.heap.IsTuple a its.toArray := by
  subst hK
  obtain ⟨its, rv, pl, _⟩ := I.tuple h
  exact ⟨its, rv, pl⟩
theorem turn_zt {P : Program} {w : World} {K : FG} {elts : List Expr} {k : Nat} {tp : Pos} (l1 l2 z TI TO i1 i2 : Addr) (D : ZipApart z TI TO i1 i2 l1 l2) :
    Turn P w K (.Tuple elts k tp) (Itzt K l1 l2) [z, TI, TO, i1, i2] z (fun i h => IsZip h z TI TO .none ∧ IsPair h TI (.ref i1) (.ref i2) ∧ (∃ a b, IsPair h TO a b) ∧ h.IsListIter i1 l1 i ∧ h.IsTupleIter i2 l2 i) where
  mem := by simp
  obj := fun i h st b hb => by
    obtain ⟨h1, h2, ⟨a, b', h3⟩, ⟨o4, h4, _, d4⟩, ⟨o5, h5, _, d5⟩⟩ := st
    have : b = z ∨ b = TI ∨ b = TO ∨ b = i1 ∨ b = i2 := by simpa using hb
    rcases this with rfl | rfl | rfl | rfl | rfl
    · exact ⟨_, h1, fun v z => by have z' : Data.fields _ = Data.cell v := z; cases z'⟩
    · exact ⟨_, h2, fun v z => by have z' : Data.seq _ _ = Data.cell v := z; cases z'⟩
    · exact ⟨_, h3, fun v z => by have z' : Data.seq _ _ = Data.cell v := z; cases z'⟩
    · exact ⟨o4, h4, fun v z => by rw [d4] at z; cases z⟩
    · exact ⟨o5, h5, fun v z => by rw [d5] at z; cases z⟩
  keep := fun i h h' st kk => by
    obtain ⟨h1, h2, ⟨a, b', h3⟩, h4, h5⟩ := st
    exact ⟨kk z (by simp) _ h1, kk TI (by simp) _ h2, ⟨a, b', kk TO (by simp) _ h3⟩, h4.at fun o x => kk i1 (by simp) o x, h5.at fun o x => kk i2 (by simp) o x⟩
  item := by
    intro X hP hw hK hc i pins s σ H E I hf st hg
    subst hP hw hK
    obtain ⟨xs, ys, x, y, hq1, hq2, hx, hy⟩ := hg
    obtain ⟨its, rv, pl⟩ := lst_at I hq1
    obtain ⟨its2, rv2, pl2⟩ := tup_at rfl I hq2
    obtain ⟨u, hu, ru⟩ := rv.get hx
    obtain ⟨u2, hu2, ru2⟩ := rv2.get hy
    obtain ⟨h1, h2, ⟨a, b', h3⟩, h4, h5⟩ := st
    refine zt_next (x := u) (y := u2) D h1 h2 h3 h4 h5 pl pl2 (by simpa using hu) (by simpa using hu2) fun h' z1 z2 z3 z4 z5 z6 z7 => ⟨_, rfl, ?_⟩
    refine wpAny_letOwnedTupleGo_zip z1 fun h2' y1 y2 => ?_
    have lt : ∀ b ∈ [z, TI, TO, i1, i2], b < s.heap.objs.size := fun b hb => by
      have : b = z ∨ b = TI ∨ b = TO ∨ b = i1 ∨ b = i2 := by simpa using hb
      obtain ⟨o4, h4', _⟩ := h4
      obtain ⟨o5, h5', _⟩ := h5
      rcases this with rfl | rfl | rfl | rfl | rfl
      · exact Heap.lt_size h1
      · exact Heap.lt_size h2
      · exact Heap.lt_size h3
      · exact Heap.lt_size h4'
      · exact Heap.lt_size h5'
    have kp : ∀ b o, b ∉ [z, TI, TO, i1, i2] → s.heap.get? b = some o → h2'.get? b = some o := fun b o hb q => by
      simp only [List.mem_cons, List.not_mem_nil, or_false, not_or] at hb
      exact (y2.2 b hb.1).trans (z7 b o hb.1 hb.2.2.1 hb.2.2.2.1 hb.2.2.2.2 q)
    have T2 : IsPair h2' TI (.ref i1) (.ref i2) := (y2.2 TI D.TIz).trans (z7 TI _ D.TIz D.TITO D.TIi1 D.TIi2 h2)
    have T3 : IsPair h2' TO u u2 := (y2.2 TO D.TOz).trans z2
    have T4 : h2'.IsListIter i1 l1 (i + 1) := z3.at fun o q => (y2.2 i1 D.i1z).trans q
    have T5 : h2'.IsTupleIter i2 l2 (i + 1) := z4.at fun o q => (y2.2 i2 D.i2z).trans q
    have I2 := turn_tup (t' := s.toks) (xs := [x, y]) (its := [u, u2]) I hf kp (.cons ru (.cons ru2 .nil)) (by show 2 ≤ sizeLine; decide) ⟨_, (y2.2 _ (Nat.ne_of_gt (lt z (by simp)))).trans z5, rfl, _, rfl⟩
    refine ⟨.ref s.heap.objs.size, _, I2, rfl, ⟨s.heap.objs.size, x, y, I.fresh, rfl, fun ws hw => by rw [Rd.inj hw hq1]; exact hx, fun ws hw => by rw [I.tuple_inj hw hq2]; exact hy, rfl⟩, ⟨y1, T2, ⟨u, u2, T3⟩, T4, T5⟩, fun b hb => ?_⟩
    rw [upd_ne (Nat.ne_of_lt (lt b hb))]; exact (hf b hb).1
  done := by
    intro X hP hw hK hc i pins s σ H E I hf st hg
    subst hP hw hK
    obtain ⟨xs, ys, hq1, hq2, hx⟩ := hg
    obtain ⟨its, rv, pl⟩ := lst_at I hq1
    obtain ⟨its2, rv2, pl2⟩ := tup_at rfl I hq2
    obtain ⟨h1, h2, ⟨a, b', h3⟩, h4, h5⟩ := st
    have e1 := rv.length
    have e2 := rv2.length
    refine zt_stop (I.ok.hd hc) D h1 h2 h3 h4 h5 pl pl2 (by simp; omega) fun h' kp => ⟨rfl, turn_same (t' := s.toks) I hf fun b o hb q => ?_⟩
    simp only [List.mem_cons, List.not_mem_nil, or_false, not_or] at hb
    exact kp b o hb.1 hb.2.2.1 hb.2.2.2.1 hb.2.2.2.2 q
  self := fun _ _ _ _ _ st h => wpAny_pyIter_zip st.1 h
def iZipT (K : FG) (ta : TA) : TI := fun σ H R => ta σ H fun vs H1 => ∃ a b xs ys, vs = [.ref a, .ref b] ∧ Rd H1 a (.lst xs) ∧ SqT K H1 b ys ∧ R (Itzt K a b) H1
theorem pi_zipT {a b : Expr} {ta : TA} {p pos tp : Pos} {elts : List Expr} {k : Nat} (hg : Gl X "zip") (hm : X.mg "zip" = none) (ha : PA X [a, b] ta) (hs : starEach [a, b] X.env = [(false, eval a X.env), (false, eval b X.env)] := by rfl) (hs2 : starEach [b] X.env = [(false, eval b X.env)] := by rfl) :
    PI X (.Tuple elts k tp) (.Call (.Name "zip" p) [a, b] [] pos) (iZipT X.K ta) := by
  intro pins s σ H R I h
  refine Call_ (ld_blt I hg hm boot_zip (PyProof.Rows.callWith_type1 (thn (ha pos pins s σ H _ I h) fun us s1 ⟨vs, H1, I1, r1, q1⟩ => ?_) (by rw [hs, hs2]) (by rw [hs2]; rfl)))
  obtain ⟨l1, l2, xs, ys, e, hr1, hr2, q⟩ := q1
  subst e
  obtain ⟨u, u2, rfl, r, r'⟩ := r1.two
  cases r
  cases r'
  obtain ⟨its, rv, pl⟩ := lst_at I1 hr1
  obtain ⟨its2, rv2, pl2⟩ := tup_at rfl I1 hr2
  have n1 : l1 < s1.heap.objs.size := by obtain ⟨o, ho, _⟩ := pl; exact Heap.lt_size ho
  have n2 : l2 < s1.heap.objs.size := by obtain ⟨o, ho, _⟩ := pl2; exact Heap.lt_size ho
  refine call_zt pl pl2 fun h' z1 z2 z3 z4 z5 z6 z7 => ?_
  refine wpAny_pyIter_zip z1 ?_
  have I2 : L2.Inv X pins σ H1 { s1 with heap := h' } := I1.kept (t' := s1.toks) z7
  refine ⟨s1.heap.objs.size + 4, [s1.heap.objs.size + 4, s1.heap.objs.size + 2, s1.heap.objs.size + 3, s1.heap.objs.size, s1.heap.objs.size + 1], _, _, H1, rfl, I2, turn_zt l1 l2 _ _ _ _ _ (PyProof.Rows.zipApart_new n1 n2), ⟨z1, z2, ⟨_, _, z3⟩, z4, z5⟩, fun b hb => ?_, q⟩
  have hle : s1.heap.objs.size ≤ b := by
    simp only [List.mem_cons, List.not_mem_nil, or_false] at hb
    rcases hb with rfl | rfl | rfl | rfl | rfl <;> first | exact Nat.le_refl _ | exact Nat.le_add_right _ _
  exact I1.fpOk hle (I1.hok.fresh hle)
end
section
variable {K : FG} {F H : Hp} {σ : L2.St}
theorem iter_zt {F : Hp} {ds es : List D} {a b : Addr} {xs ys : List V} (q1 : Rd F a (.lst xs)) (r1 : Owns K F H ds xs []) (q2 : SqT K F b ys) (r2 : Owns K F H es ys []) : IterOf K F (zipD ds es) (Itzt K a b) := by
  have l1 := Owns.length ds r1
  have l2 := Owns.length es r2
  refine ⟨fun i H' hs hl => ?_, fun i d hd F' H' s1 s2 => ?_⟩
  · refine ⟨xs, ys, Same.rd hs q1, Same.seqT hs q2, ?_⟩
    unfold zipD at hl
    rw [List.length_map, List.length_zip] at hl
    omega
  · unfold zipD at hd
    rw [List.getElem?_map] at hd
    cases ez : (ds.zip es)[i]? with
    | none => rw [ez] at hd; cases hd
    | some p0 =>
      rw [ez] at hd
      have hd : D.tup [p0.1, p0.2] = d := Option.some.inj hd
      subst hd
      obtain ⟨e1, e2⟩ := List.getElem?_zip_eq_some.mp ez
      obtain ⟨u, f, p1, p2, p3⟩ := Owns.get ds r1 e1
      have : f = [] := List.sublist_nil.mp p3
      subst this
      obtain ⟨u', f', p1', p2', p3'⟩ := Owns.get es r2 e2
      have : f' = [] := List.sublist_nil.mp p3'
      subst this
      refine ⟨⟨xs, ys, u, u', Same.rd (s1.trans s2) q1, Same.seqT (s1.trans s2) q2, p1, p1'⟩, fun x H2 hy => ?_⟩
      obtain ⟨p, x1, y1, hp, ex, hx1, hy1, eH⟩ := hy
      subst ex; subst eH
      have ey := hx1 xs (Same.rd (s1.trans s2) q1)
      rw [p1] at ey; cases ey
      have ey := hy1 ys (Same.seqT (s1.trans s2) q2)
      rw [p1'] at ey; cases ey
      have g2 : Grow F' H' (upd F' p (.tup [u, u'])) (upd H' p (.tup [u, u'])) := Grow.both s2 hp
      refine ⟨_, g2, ?_⟩
      unfold Own
      refine ⟨rfl, p, [u, u'], rfl, SqT.of upd_same, ?_⟩
      exact Owns.cons ((Own.keep s1 p0.1 (fun a ha => by cases ha) p2).grow g2) (Owns.one ((Own.keep s1 p0.2 (fun a ha => by cases ha) p2').grow g2))
def iZa (f g : SemE) : SemI := fun ρ => (f ρ).bind fun x => (g ρ).bind fun y => (icyL x).bind fun ds => (icyA y).bind fun es => .ok (zipD ds es)
def isTup : D → Bool
  | .tup _ => true | _ => false
theorem iv_za {f g : SemE} {R' : It → Hp → Prop} (h : iv K (iZa f g) σ H R') : iZip (tCons (tv K f) (tCons (tv K g) tNil)) σ H R' ∨ iZipT K (tCons (tv K f) (tCons (tv K g) tNil)) σ H R' := by
  obtain ⟨ρ, F, fps, S, h⟩ := h
  unfold iZa at h
  obtain ⟨x, ex, hx⟩ := R.holds_ok (R.holds_bind.mp h)
  obtain ⟨y, ey, hy⟩ := R.holds_ok (R.holds_bind.mp hx)
  by_cases ht : isTup y.1 = true
  · refine .inr ?_
    obtain ⟨ds, ed, hd⟩ := R.holds_ok (R.holds_bind.mp hy)
    obtain ⟨es, ee, he⟩ := R.holds_ok (R.holds_bind.mp hd)
    refine ⟨ρ, F, fps, S, ?_⟩
    rw [ex]
    intro v F1 H1 fx g1 o1 n1 k1
    refine ⟨ρ, F1, fps, S.grow g1, ?_⟩
    rw [ey]
    intro u F2 H2 fy g2 o2 n2 k2
    obtain ⟨y, by'⟩ := y
    cases y <;> first | (cases ht; done) | skip
    rename_i ys0
    unfold icyA at ee
    dsimp only at ee
    cases ee
    unfold Own at o2
    obtain ⟨w1, b, ys, eb, rb, ob⟩ := o2
    have o1' : Own K F2 H2 x.1 v fx := o1.grow g2
    obtain ⟨a, xs, Fa, ea, ga, sa, na, ra, oa⟩ := icy (g1.trans g2) o1' k1 ed
    subst ea; subst eb
    exact ⟨a, b, xs, ys, rfl, Same.rd ga.inn ra, Same.seqT ga.inn (Same.seqT sa rb), he _ Fa H2 ga (iter_zt (H := H2) ra oa (Same.seqT sa rb) (Owns.keep sa _ (fun c hc => by cases hc) ob))⟩
  · refine .inl (iv_zi ⟨ρ, F, fps, S, ?_⟩)
    unfold iZi
    rw [ex]
    show ((g ρ).bind fun y => (icyL x).bind fun ds => (icyL y).bind fun es => R.ok (zipD ds es)).holds _
    rw [ey]
    show ((icyL x).bind fun ds => (icyL y).bind fun es => R.ok (zipD ds es)).holds _
    have : icyL y = icyA y := by
      unfold icyL icyA
      obtain ⟨y, by'⟩ := y
      cases y <;> first | rfl | (exact absurd rfl ht)
    rw [this]; exact hy
end
end VL
end
section
namespace VL
open PySem PySem.Spec PyProof.Rows L2
open Sem (wp)
section
variable {X : Cx} {a b e : Expr} {pos : Pos}
def rCat0 (K : FG) : R2 := fun x y H Q => ∃ a b ys, x = .ref a ∧ y = .ref b ∧ SqT K H a [] ∧ SqT K H b ys ∧ Q (.ref b) H
theorem op_cat0 : OpR X (binaryOp .Add) (rCat0 X.K) := by
  intro pins s σ H x y v u Q I rx ry h
  obtain ⟨a, b, ys, rfl, rfl, ha, hb, q⟩ := h
  cases rx
  cases ry
  obtain ⟨its, r1, p1, _⟩ := I.tuple ha
  obtain ⟨its2, r2, p2, _⟩ := I.tuple hb
  have hn : its = [] := r1.nil_iff.mpr rfl
  subst hn
  obtain ⟨⟨cls, dd, data, sl⟩, ho, hc, n, hd⟩ := id p1
  obtain ⟨⟨cls2, dd2, data2, sl2⟩, ho2, hc2, n2, hd2⟩ := id p2
  simp only at hc hd hc2 hd2
  subst hc hd hc2 hd2
  exact concat_meets ⟨_, ho, rfl⟩ ⟨_, ho2, rfl⟩ noFill_tuple_add seq_tuple_add PySem.F.slot_tuple_add PySem.F.entry_tuple_add (PySem.F.args_tuple_add_2 _ _)
    (tuple_addW0 a b _ its2.toArray n n2 dd dd2 sl sl2 (by simp)) ⟨ho, ho2, ⟨.ref b, H, I, rfl, q⟩⟩
def kCat0 : D × Bool → D × Bool → R (D × Bool) := fun x y => match x.1, y.1 with
  | .tup [], .tup es => .ok (.tup es, true)
  | _, _ => .bad
theorem op2_cat0 {K : FG} : Op2 K kCat0 (rCat0 K) := by
  intro F0 H0 F H x y v u fx fy Q gr o1 n1 k1 o2 n2 k2 h
  obtain ⟨x, bx⟩ := x
  obtain ⟨y, by'⟩ := y
  cases x <;> try exact h.elim
  rename_i ds
  cases ds with
  | cons d ds => exact h.elim
  | nil =>
    cases y <;> try exact h.elim
    rename_i es
    obtain ⟨a, xs, e1, q1, r1, _⟩ := Own.tup gr.inn o1
    obtain ⟨b, zs, e2, q2, r2, ef⟩ := Own.tup gr.inn o2
    have l1 := Owns.length _ r1
    have : xs = [] := List.length_eq_zero_iff.mp (by rw [← l1]; rfl)
    subst this
    refine ⟨a, b, zs, e1, e2, q1, q2, e2 ▸ ?_⟩
    have h : EPost K F0 H0 Q (D.tup es, true) := h
    refine h u F H [] gr ?_ List.nodup_nil fun _ b hb => by cases hb
    rw [ef] at o2; exact o2
def kPlusZ : D × Bool → D × Bool → R (D × Bool) := fun x y => match x.1 with
  | .tup [] => kCat0 x y | _ => kPlus x y
theorem se_plusZ {f g : SemE} (ha : SE X a f) (hb : SE X b g) : SE X (.BinOp a .Add b pos) (v2 kPlusZ f g) :=
  se_op ((op_add.or (op_catR.or op_catT)).or op_cat0) (Op2.or (Op2.eqv (op2_I fun _ _ => rfl) op2_cat op2_catT kPlus_or) op2_cat0 fun x y => by
    obtain ⟨x, bx⟩ := x
    cases x <;> first | exact .inl rfl | skip
    rename_i ds
    cases ds <;> first | exact .inr rfl | exact .inl rfl) ha hb
theorem noFill_tuple_mul : fillsNumberSlot (.type "tuple") "mul" = pure false :=
  PySem.fillsNumberSlot_seq (id := "tuple.__mul__") (r := some (.builtin "tuple.__rmul__")) F.slot_tuple_mul.lookup (by decide +kernel) F.slot_tuple_rmul.lookup (by decide +kernel)
theorem repeat_tuple : seqRepeat? (.type "tuple") = pure (some (.builtin "tuple.__mul__")) := by
  unfold seqRepeat?
  rw [PySem.seqSlot_of (T := "tuple") (name := "__mul__") (id := "tuple.__mul__") F.slot_tuple_mul.lookup (by decide +kernel), PySem.seqSlot_of (T := "tuple") (name := "__rmul__") (id := "tuple.__rmul__") F.slot_tuple_rmul.lookup (by decide +kernel)]
  rfl
theorem int_rmul_tuple (a : Int) (t : Tok) (l : Addr) (items : Array Value) (n : Nat) (dd : Option Addr) (sl : Array (Option Value)) :
    Meets (Builtin.«int.__rmul__» ⟨[.int a t, .ref l], []⟩) (fun _ R s => s.heap.get? l = some { cls := .type "tuple", dict := dd, data := .seq items n, slots := sl } ∧ R (.ok (.ret Value.notImplemented)) s) :=
  .of_wp fun prog w A R s h => by obtain ⟨hp, g, d, tk, os⟩ := s; obtain ⟨hl, h⟩ := h; wp_walk; exact ⟨_, rfl, h⟩
theorem iff_f {b : Bool} (h : b = false) : decide (b = true) = false := by rw [h]; rfl
theorem tuple_mul_one (l : Addr) (items : Array Value) (n : Nat) (dd : Option Addr) (sl : Array (Option Value)) (u : Tok) :
    Meets (Builtin.«tuple.__mul__» ⟨[.ref l, .int 1 u], []⟩) (fun _ R s => s.heap.get? l = some { cls := .type "tuple", dict := dd, data := .seq items n, slots := sl } ∧ R (.ok (.ret (Value.ref l))) s) :=
  .of_wp fun prog w A R s h => by
    obtain ⟨hp, g, d, tk, os⟩ := s; obtain ⟨hl, h⟩ := h
    have f1 := AutoSeq1.idx_int
    wp_walk using wpAny_loadPart' hl
    exact ⟨_, rfl, h⟩
theorem tuple_mul_more (l : Addr) (items : Array Value) (n : Nat) (dd : Option Addr) (sl : Array (Option Value)) (x : Int) (u : Tok) (h0 : (decide (x < -(2 ^ 63)) || decide (x ≥ 2 ^ 63)) = false) (h1 : (items.isEmpty || x == 1) = false) (h2 : (decide (x ≤ 0) || items.isEmpty) = false) (h3 : ¬ ((items.size : Int) * x > (2 ^ 63 - 1) / 8)) (h4 : Builtin.Tuple.tupleTooMany ((items.size : Int) * x) = false) (hz : (List.foldl (fun x1 x2 => x1 ++ x2) #[] (List.replicate x.toNat items)).size ≤ sizeLine) :
    Meets (Builtin.«tuple.__mul__» ⟨[.ref l, .int x u], []⟩) (fun _ R s => s.heap.get? l = some { cls := .type "tuple", dict := dd, data := .seq items n, slots := sl } ∧ R (.ok (.ret (Value.ref s.heap.objs.size))) { s with heap := s.heap.push { cls := Value.type "tuple", data := Data.seq (List.foldl (fun x1 x2 => x1 ++ x2) #[] (List.replicate x.toNat items)) } }) :=
  .of_wp fun prog w A R s h => by
    obtain ⟨hp, g, d, tk, os⟩ := s; obtain ⟨hl, h⟩ := h
    have f1 := AutoSeq1.idx_int
    wp_walk using wpAny_loadPart' hl
    refine wpAny_ite_false (iff_f h0) ?_
    wp_walk using wpAny_loadPart' hl
    all_goals try refine wpAny_ite_false (iff_f h1) ?_
    all_goals try wp_walk using wpAny_loadPart' hl
    all_goals try refine wpAny_ite_false (iff_f h2) ?_
    all_goals try wp_walk using wpAny_loadPart' hl
    all_goals try refine wpAny_ite_false (decide_eq_false h3) ?_
    all_goals try wp_walk using wpAny_loadPart' hl
    all_goals try refine wpAny_ite_false (iff_f h4) ?_
    all_goals try wp_walk using wpAny_loadPart' hl
    exact ⟨_, rfl, h⟩
def rRepT (K : FG) : R2 := fun x y H Q => ∃ l k xs, x = .ref l ∧ y = .int k ∧ SqT K H l xs ∧ xs ≠ [] ∧ 1 ≤ k ∧ k ≤ 1000 ∧ xs.length ≤ 1000 ∧ (k = 1 → Q (.ref l) H) ∧
  (k ≠ 1 → ∀ p, H p = none → Q (.ref p) (upd H p (.tup (List.replicate k.toNat xs).flatten)))
theorem op_repT : OpR X (binaryOp .Mult) (rRepT X.K) := by
  intro pins s σ H x y v u Q I rx ry h
  obtain ⟨l, k, xs, rfl, rfl, hH, hne, h1, h2, hz, q1, q2⟩ := h
  cases rx
  obtain ⟨t, rfl⟩ := ry
  obtain ⟨its, r, p1, _⟩ := I.tuple hH
  have hl := r.length
  obtain ⟨⟨cls, dd, data, sl⟩, ho, hc, n, hd⟩ := id p1
  simp only at hc hd
  subst hc hd
  refine wpAny_binaryOp_repeat_ref (T := "tuple") (U := "int") (by decide) ⟨_, ho, rfl⟩ (fun s' => typeIs_int s' k t) noFill_tuple_mul F.fills_int_mul F.slot_int_rmul repeat_tuple F.slot_int_index.lookup
    (call_meets F.slot_int_rmul (typeIs_int s k t) F.entry_int_rmul (F.args_int_rmul_2 _ _) (int_rmul_tuple k t l its.toArray n dd sl) ⟨ho, rfl, ⟨_, ho, rfl⟩, ?_⟩)
  by_cases hk : k = 1
  · subst hk
    exact call_meets F.slot_tuple_mul ⟨_, ho, rfl⟩ F.entry_tuple_mul (F.args_tuple_mul_2 _ _) (tuple_mul_one l its.toArray n dd sl t) ⟨ho, ⟨.ref l, H, I, rfl, q1 rfl⟩⟩
  · have hnew : List.foldl (fun x1 x2 => x1 ++ x2) #[] (List.replicate k.toNat its.toArray) = (List.replicate k.toNat its).flatten.toArray := by
      have := foldl_rep its k.toNat []
      rw [List.nil_append] at this
      exact this
    have hi : its ≠ [] := fun z => hne (r.nil_iff.mp z)
    have hsz : its.length * k.toNat ≤ 1000000 := Nat.le_trans (Nat.mul_le_mul (show its.length ≤ 1000 by omega) (show k.toNat ≤ 1000 by omega)) (by decide)
    have hsi : (its.length : Int) * k ≤ 1000000 := by
      have e : (k.toNat : Int) = k := Int.toNat_of_nonneg (by omega)
      have h : ((its.length * k.toNat : Nat) : Int) ≤ ((1000000 : Nat) : Int) := Int.ofNat_le.mpr hsz
      rw [Int.natCast_mul, e] at h; exact h
    have hsl : (1000000 : Nat) ≤ sizeLine := by decide
    refine call_meets F.slot_tuple_mul ⟨_, ho, rfl⟩ F.entry_tuple_mul (F.args_tuple_mul_2 _ _) (tuple_mul_more l its.toArray n dd sl k t ?_ ?_ ?_ ?_ ?_ ?_) ⟨ho, ?_⟩
    · rw [decide_eq_false (by omega), decide_eq_false (by omega)]; rfl
    · simp [hi, hk]
    · simp [hi]; omega
    · rw [List.size_toArray]; omega
    · unfold Builtin.Tuple.tupleTooMany
      rw [List.size_toArray]
      exact decide_eq_false (by omega)
    · rw [hnew, List.size_toArray, len_rep, Nat.mul_comm]; omega
    · rw [hnew]
      refine ⟨.ref s.heap.objs.size, _, I.laid (t' := s.toks) (o := .tup (List.replicate k.toNat xs).flatten) (fun b ob q => Heap.get?_push_of_some _ q) (Nat.le_refl _) ?_, rfl, q2 hk _ (I.hok.fresh (Nat.le_refl _))⟩
      exact ⟨by rw [len_rep, Nat.mul_comm, hl]; omega, _, r.rep k.toNat, IsTup.new _ _⟩
def kRepT : D × Bool → D × Bool → R (D × Bool) := fun x y => match x.1, y.1 with
  | .tup (d :: ds), .int k => if decide (1 ≤ k) && decide (k ≤ 1000) && decide (ds.length + 1 ≤ 1000) then .ok (.tup (List.replicate k.toNat (d :: ds)).flatten, true) else .bad
  | _, _ => .bad
theorem op2_repT {K : FG} : Op2 K kRepT (rRepT K) := by
  intro F0 H0 F H x y v u fx fy Q gr o1 n1 k1 o2 n2 k2 h
  obtain ⟨x, bx⟩ := x
  obtain ⟨y, by'⟩ := y
  cases x <;> try exact h.elim
  rename_i ds
  cases ds with
  | nil => exact h.elim
  | cons d ds =>
    cases y <;> try exact h.elim
    rename_i k
    have h : (if (decide (1 ≤ k) && decide (k ≤ 1000) && decide (ds.length + 1 ≤ 1000)) = true then R.ok (D.tup (List.replicate k.toNat (d :: ds)).flatten, true) else R.bad).holds (EPost K F0 H0 Q) := h
    by_cases hc : (decide (1 ≤ k) && decide (k ≤ 1000) && decide (ds.length + 1 ≤ 1000)) = true
    · rw [if_pos hc] at h
      simp only [Bool.and_eq_true, decide_eq_true_iff] at hc
      obtain ⟨a, xs, e1, q1, r1, ef⟩ := Own.tup gr.inn o1
      unfold Own at o2
      have l1 := Owns.length _ r1
      refine ⟨a, k, xs, e1, o2.1, q1, fun z => by rw [z] at l1; simp at l1, hc.1.1, hc.1.2, by rw [← l1]; exact hc.2, fun z => ?_, fun _ p hp => EPost.newT gr h hp (Owns.rep r1 _)⟩
      subst z
      have h : EPost K F0 H0 Q (D.tup (List.replicate 1 (d :: ds)).flatten, true) := h
      rw [show (List.replicate 1 (d :: ds)).flatten = d :: ds by simp] at h
      refine e1 ▸ h v F H [] gr ?_ List.nodup_nil fun _ b hb => by cases hb
      rw [ef] at o1; exact o1
    · rw [if_neg hc] at h; exact h.elim
def kTimesZ : D × Bool → D × Bool → R (D × Bool) := fun x y => match x.1 with
  | .tup _ => kRepT x y | _ => kTimes x y
theorem se_timesZ {f g : SemE} (ha : SE X a f) (hb : SE X b g) : SE X (.BinOp a .Mult b pos) (v2 kTimesZ f g) :=
  se_op ((op_mulB.or op_rep).or op_repT) (Op2.or (k1 := kTimes) (Op2.or op2_mulB op2_repO fun x y => by
    obtain ⟨x, bx⟩ := x
    cases x <;> first | exact .inl rfl | exact .inr rfl) op2_repT fun x y => by
    obtain ⟨x, bx⟩ := x
    cases x <;> first | exact .inl rfl | exact .inr rfl) ha hb
def kAnyB : List (D × Bool) → R (D × Bool)
  | [(.lst _ ds, _)] => (match boolsD ds with | some ns => .ok (.bl (ns.any id), true) | none => .bad) | _ => .bad
def kInt : List (D × Bool) → R (D × Bool)
  | [(.int i, _)] => .ok (.int i, true) | [(.bl b, _)] => .ok (.int (if b then 1 else 0), true) | _ => .bad
theorem si_zipA {f g : SemE} {p tp : Pos} {elts : List Expr} {k : Nat} (hm : X.mg "zip" = none) (ha : SE X a f) (hb : SE X b g) (hg : Gl X "zip" := by rfl) (hs : starEach [a, b] X.env = [(false, eval a X.env), (false, eval b X.env)] := by rfl) (hs2 : starEach [b] X.env = [(false, eval b X.env)] := by rfl)
    (hs3 : starEach [a, b] X.env = (false, eval a X.env) :: starEach [b] X.env := by rfl) (hs4 : starEach [b] X.env = (false, eval b X.env) :: starEach [] X.env := by rfl) : SI X (.Tuple elts k tp) (.Call (.Name "zip" p) [a, b] [] pos) (iZa f g) :=
  ((pi_zip hg hm (pa_cons ha (pa_cons hb pa_nil hs4) hs3) hs hs2).or (pi_zipT hg hm (pa_cons ha (pa_cons hb pa_nil hs4) hs3) hs hs2)).imp fun _ _ _ h => iv_za h
def vSlT (f : SemE) (lo hi : SemO) : SemE := fun ρ => (f ρ).bind fun x => (lo ρ).bind fun l => (hi ρ).bind fun u => match x.1 with
  | .tup ds => if HT.sIx ds.length 0 l = 0 ∧ HT.sIx ds.length ds.length u = ds.length then .bad else .ok (.tup (cutD ds l u), true)
  | _ => .bad
theorem tv_slT {K : FG} {σ : L2.St} {H : Hp} {Q : VK} {f : SemE} {lo hi : SemO} (h : tv K (vSlT f lo hi) σ H Q) : tSl (rSlT K) (tv K f) (tvO K lo) (tvO K hi) σ H Q := by
  obtain ⟨ρ, F, fps, S, h⟩ := h
  refine ⟨ρ, F, fps, S, R.holds_mono (R.holds_bind.mp h) fun x hx v F1 H1 fx g1 o1 n1 k1 => ?_⟩
  refine ⟨ρ, F1, fps, S.grow g1, R.holds_mono (R.holds_bind.mp hx) fun l hl F2 H2 g2 => ?_⟩
  refine ⟨ρ, F2, fps, (S.grow g1).grow g2, R.holds_mono (R.holds_bind.mp hl) fun u hu F3 H3 g3 => ?_⟩
  obtain ⟨x, b⟩ := x
  cases x <;> try exact hu.elim
  rename_i ds
  have hu : (if HT.sIx ds.length 0 l = 0 ∧ HT.sIx ds.length ds.length u = ds.length then R.bad else R.ok (D.tup (cutD ds l u), true)).holds (EPost K F H Q) := hu
  by_cases hc : HT.sIx ds.length 0 l = 0 ∧ HT.sIx ds.length ds.length u = ds.length
  · rw [if_pos hc] at hu; exact hu.elim
  · rw [if_neg hc] at hu
    have g := (g1.trans g2).trans g3
    obtain ⟨a, xs, e1, q1, r1, _⟩ := Own.tup g.inn (o1.grow (g2.trans g3))
    have hl := Owns.length ds r1
    refine ⟨a, xs, e1, q1, by rw [← hl]; exact hc, fun p hp => EPost.newT g hu hp (Owns.cut r1 l u)⟩
theorem se_slT {f : SemE} {lo hi : Option Expr} {l h : SemO} {p2 : Pos} (ha : SE X a f) (hl : SO X lo l) (hh : SO X hi h) : SE X (.Subscript a (.Slice lo hi none p2) pos) (vSlT f l h) := (pe_slice sl_tup ha hl hh).imp fun _ _ _ h => tv_slT h
end
end VL
end
section
namespace VL
open PySem PySem.Spec PyProof.Rows L2
section
variable {X : Cx} {W : XW} {e a b : Expr} {es : List Expr} {pos : Pos}
theorem run_fnX {CX : CXT} {k : Nat} {f : Addr} {fd : FuncData} {ps : List Str} {sp : Sp} {dvs : List V} {ds : List Value} {E : XK} {pins : List (Addr × Obj)} {σ : L2.St} {H : Hp} {s : Shared} {Q : VK} {us : List Value} {vs : List V} (F : FnOk X.prog X.w X.K X.mg X.base CX k f fd ps sp) (hr : Room k X.A) (hb : Binds X.K fd ps ds) (hd : Vals dvs ds)
    (hx : ∀ e s', CX X.stack H s E e s' → X.xe e s') (I : L2.Inv X pins σ H s) (r : Vals vs us) (h : sp (vs ++ dvs) H Q E) : wpAny (model X.prog X.w) X.A (call (.ref f) us) (EP X pins σ Q) X.xe s := by
  have r2 : Vals (vs ++ dvs) (us ++ ds) := r.append hd
  have hl : (us ++ ds).length = ps.length := by rw [← r2.length]; exact F.len _ _ _ _ h
  refine wpAny_call (codeAny_mono (F.run X.A X.stack s H ⟨us, []⟩ (us ++ ds) (vs ++ dvs) Q E hr I.env0 (hb s us I.kIn hl) r2 h) fun r s' hq => ?_)
  cases r with
  | error e => exact hx e s' hq
  | ok fl =>
    cases fl with
    | ret u => exact I.after hq
    | next => exact False.elim hq
    | brk => exact False.elim hq
    | cont => exact False.elim hq
theorem pe_callX {k n : Nat} {x : Str} {fn : Fn} {ta : TA} {p : Pos} (L : Lk X W) (F : Kn X.prog X.w X.K X.mg X.base k x n fn) (hr : Room k X.A) (ha : PA X (e :: es) ta) (hg : Gl X x := by rfl) (hdb : (x == ("__debug__" : Str)) = false := by decide)
    (he : starEach (e :: es) X.env = (false, eval e X.env) :: starEach es X.env := by rfl) (hpl : (backTo pos (starEach es X.env)).any (·.1) = false := by rfl) : PE X (.Call (.Name x p) (e :: es) [] pos) (tCallX (spV X.K n fn) (wE X.K W) ta) := by
  obtain ⟨f, fd, ps, F, hm, hk, hb⟩ := F.ex
  intro pins s σ H Q I h
  refine wpAny_Call_Name_kw (ld_glob I hg hm ?_ hdb)
  refine PySem.W.callWith_K (h₀ := X.base) I.ok.mod.kin hk (thn (ha pos pins s σ H _ I h) fun us s1 ⟨vs, H1, I1, r, q⟩ => ⟨I1.kIn, ?_⟩) he hpl
  exact run_fnX F hr hb .nil (fun e s' hq => L.call pins σ H1 s1 e s' I1 hq) I1 r q
theorem sx_call {k n : Nat} {x : Str} {fn : Fn} {g : SemA} {p : Pos} (L : Lk X W) (F : Kn X.prog X.w X.K X.mg X.base k x n fn) (hr : Room k X.A) (ha : SA X (e :: es) g) (hl : alen n g) (hg : Gl X x := by rfl) (hdb : (x == ("__debug__" : Str)) = false := by decide)
    (he : starEach (e :: es) X.env = (false, eval e X.env) :: starEach es X.env := by rfl) (hpl : (backTo pos (starEach es X.env)).any (·.1) = false := by rfl) : SX X W (.Call (.Name x p) (e :: es) [] pos) (xCall fn g) :=
  (pe_callX L F hr ha hg hdb he hpl).imp fun _ _ _ h => tx_call hl h
end
def sForC (fn : Fn) (g : SemA) (set : D → Env → Option Env) (b : SemS) : SemS := fun ρ => match g ρ with
  | .ok xs => (match fn (D.frzs (xs.map (·.1))) with
    | .ok y => if xs.all keepable then (match icyL (y.1, true) with | .ok ds => forL set b (enumD ds) ρ | _ => .bad) else .bad
    | .exc c => .exc c ρ | .bad => .bad)
  | _ => .bad
section
variable {K : FG} {W : XW} {F H : Hp} {σ : L2.St} {ρ : Env} {D' : Ends}
theorem for_core {set : D → Env → Option Env} {g : TG} {b : SemS} {ds : List D} {fps : List (List Addr)} (ht : Tgt K set g) (S : Sim K F H σ ρ fps) (h : SPost K W F H fps.flatten ρ σ D' (forL set b ds ρ)) :
    IPost K F H (fun J H1 => ∃ Wn : Nat → Nat → L2.St → Hp → Prop, (∃ m, Wn 0 m σ H1) ∧ ∀ i m σ H, Wn i m σ H →
      (J.stop i H ∧ D'.nx σ H) ∨ (J.go i H ∧ ∃ N : L2.St → Hp → Prop, (∀ σ' H', N σ' H' → ∃ m', m' < m ∧ Wn (i + 1) m' σ' H') ∧ ∀ x H', J.yld i H x H' → g x σ H' fun σ2 H2 => sv K W b { D' with nx := N, ct := N, bk := D'.nx } σ2 H2)) ds := by
  intro J F0 H0 g0 hJ
  have h := SPost.lift (g0.evo (Z := fps.flatten)) (Pins.refl ρ σ) h
  refine ⟨fun i m σ' H' => i ≤ ds.length ∧ m = ds.length - i ∧ ∃ ρ' F' fps', Same F0 F' ∧ Sim K F' H' σ' ρ' fps' ∧ SPost K W F' H' fps'.flatten ρ' σ' D' (forL set b (ds.drop i) ρ'),
    ⟨ds.length, Nat.zero_le _, rfl, ρ, F0, fps, Same.refl _, S.grow g0, h⟩, ?_⟩
  rintro i m σ1 H1 ⟨hi, rfl, ρ1, F1, fps1, s1, S1, h1⟩
  by_cases hlt : i < ds.length
  · refine .inr ?_
    obtain ⟨d, hd⟩ : ∃ d, ds[i]? = some d := ⟨ds[i], by simp [hlt]⟩
    have hdrop : ds.drop i = d :: ds.drop (i + 1) := by
      rw [List.drop_eq_getElem_cons hlt]
      congr 1
      rw [List.getElem?_eq_getElem hlt] at hd; exact Option.some.inj hd
    rw [hdrop] at h1
    obtain ⟨go, yl⟩ := hJ.2 i d hd F1 H1 s1 S1.same
    refine ⟨go, fun σ' H' => ∃ ρ' F' fps', Same F0 F' ∧ Sim K F' H' σ' ρ' fps' ∧ SPost K W F' H' fps'.flatten ρ' σ' D' (forL set b (ds.drop (i + 1)) ρ'), fun σ' H' q => ⟨ds.length - (i + 1), by omega, by omega, rfl, q⟩, fun x H2 hy => ?_⟩
    obtain ⟨F2, g2, o2⟩ := yl x H2 hy
    have h1 : SPost K W F1 H1 fps1.flatten ρ1 σ1 D' (match set d ρ1 with | none => .bad | some ρ2 => loopOut (b ρ2) (forL set b (ds.drop (i + 1)))) := h1
    have h1 := SPost.lift (g2.evo (Z := fps1.flatten)) (Pins.refl ρ1 σ1) h1
    cases es : set d ρ1 with
    | none => rw [es] at h1; exact h1.elim
    | some ρ2 =>
      rw [es] at h1
      refine ht F2 H2 d x ρ1 ρ2 σ1 fps1 _ (S1.grow g2) o2 es fun σ2 fps2 S2 p2 k2 => ?_
      have ev2 : Evo F2 H2 fps1.flatten F2 H2 fps2.flatten := ⟨Same.refl _, fun _ _ e _ => e, fun _ e => e, fun _ _ e => .inl e, fun b hb => .inl (k2 b hb)⟩
      have h2 : SPost K W F2 H2 fps2.flatten ρ2 σ2 D' (loopOut (b ρ2) (forL set b (ds.drop (i + 1)))) := SPost.lift ev2 p2 h1
      refine ⟨ρ2, F2, fps2, S2, ?_⟩
      have s2 : Same F0 F2 := s1.trans g2.fr
      cases eb : b ρ2 with
      | next ρ3 =>
        rw [eb] at h2
        exact fun σ' F' H' fps' e' S' p' => ⟨ρ3, F', fps', s2.trans e'.fr, S', SPost.lift e' p' h2⟩
      | cont ρ3 =>
        rw [eb] at h2
        exact fun σ' F' H' fps' e' S' p' => ⟨ρ3, F', fps', s2.trans e'.fr, S', SPost.lift e' p' h2⟩
      | brk ρ3 => rw [eb] at h2; exact h2
      | ret d ρ3 => rw [eb] at h2; exact h2
      | exc _ _ => rw [eb] at h2; exact h2
      | bad => rw [eb] at h2; exact h2
  · refine .inl ⟨hJ.1 i H1 (s1.trans S1.same) (by omega), ?_⟩
    rw [List.drop_eq_nil_of_le (by omega)] at h1
    exact h1 σ1 F1 H1 fps1 .refl S1 (Pins.refl _ _)
theorem sv_forC {fn : Fn} {ga : SemA} {n : Nat} {set : D → Env → Option Env} {g : TG} {b : SemS} (ht : Tgt K set g) (hl : alen n ga) (h : sv K W (sForC fn ga set b) D' σ H) : tFor (iEnum K (tCons (tCallX (spV K n fn) (wE K W) (tvA K ga)) tNil)) g (sv K W b) D' σ H := by
  obtain ⟨ρ, F, fps, S, h⟩ := h
  unfold sForC at h
  refine ⟨ρ, F, fps, S, ?_⟩
  cases eg : ga ρ with
  | exc _ => rw [eg] at h; exact h.elim
  | bad => rw [eg] at h; exact h.elim
  | ok xs =>
    rw [eg] at h
    dsimp only at h
    intro vs F1 H1 fa g1 a1 n1 k1
    obtain ⟨U, u1, u2, u3⟩ := Args.ice xs a1
    have o := u3 U (fun b hb => hb) u1
    have len : vs.length = n := by rw [← Args.length xs a1]; exact hl ρ xs eg
    rw [List.append_nil]
    refine ⟨len, frzH F1 H1 U, _, _, frzH_in g1.inn, replicate_nil o, by simp, by simp, ?_⟩
    cases ef : fn (D.frzs (xs.map (·.1))) with
    | bad => rw [ef] at h; exact h.elim
    | exc c =>
      rw [ef] at h
      have h : NPost K F H fps.flatten ρ σ (W c) ρ := h
      intro F2 H2 Z2 ev hs2 C hC
      have same : Same H1 H2 := fun b o e => ev.keep b o e (by simp)
      have gS : Grow F1 H1 F1 H2 := ⟨Same.refl _, same, g1.inn.trans same, fun _ _ e => .inl e⟩
      exact ⟨c, C, rfl, hC, h σ F1 H2 fps (g1.trans gS).evo (S.grow (g1.trans gS)) (Pins.refl _ _)⟩
    | ok y =>
      rw [ef] at h
      intro r F2 H2 fps2 fr ev hs2 o2 nd2 or nr kr
      have same : Same H1 H2 := fun b o e => ev.keep b o e (by simp)
      have h : SPost K W F H fps.flatten ρ σ D' (if xs.all keepable = true then (match icyL (y.1, true) with | .ok ds => forL set b (enumD ds) ρ | _ => .bad) else .bad) := h
      by_cases hk : xs.all keepable = true
      · rw [if_pos hk] at h
        have hfa := u2 hk
        have gU : Grow F H (frzH F1 H1 U) H1 := g1.frz (fun b hb => k1 b (hfa b hb)) u1
        have g2 : Grow (frzH F1 H1 U) H1 F2 H2 := ⟨ev.fr, same, hs2, fun b o e => (ev.new b o e).elim .inl fun q => q.elim .inr fun q => by simp at q⟩
        have g3 := gU.trans g2
        have fresh : (y.1, true).2 = true → ∀ b ∈ fr, H b = none := fun _ b hb => by
          rcases (kr b hb).2 with q | q
          · simp at q
          · exact g1.all.free q
        cases ei : icyL (y.1, true) with
        | exc _ => rw [ei] at h; exact h.elim
        | bad => rw [ei] at h; exact h.elim
        | ok ds =>
          rw [ei] at h
          have core := for_core ht S h
          obtain ⟨a, xs', Fa, ea, ga', sa, na, ra, oa⟩ := icy (x := (y.1, true)) g3 or fresh ei
          subst ea
          exact ⟨a, xs', rfl, Same.rd ga'.inn ra, core _ Fa H2 ga' (iter_enum (H := H2) ra oa)⟩
      · rw [if_neg hk] at h; exact h.elim
end
section
variable {X : Cx} {W : XW} {e a : Expr} {es : List Expr} {pos : Pos}
theorem ss_forC {k n : Nat} {x : Str} {fn : Fn} {ga : SemA} {p p2 cp tp : Pos} {elts : List Expr} {kt : Nat} {set : D → Env → Option Env} {g : TG} {b' : SemS} {xs : List Stmt} (L : Lk X W) (hc : X.calm = true) (hm : X.mg "enumerate" = none) (F : Kn X.prog X.w X.K X.mg X.base k x n fn) (hr : Room k X.A) (ha : SA X (e :: es) ga) (hl : alen n ga)
    (hg : PG X (.Tuple elts kt tp) g) (ht : Tgt X.K set g) (hb : SSs X W xs b') (hgl : Gl X x := by rfl) (hge : Gl X "enumerate" := by rfl) (hdb : (x == ("__debug__" : Str)) = false := by decide)
    (he : starEach (e :: es) X.env = (false, eval e X.env) :: starEach es X.env := by rfl) (hpl : (backTo cp (starEach es X.env)).any (·.1) = false := by rfl) (hs1 : starEach [.Call (.Name x p) (e :: es) [] cp] X.env = (false, eval (.Call (.Name x p) (e :: es) [] cp) X.env) :: starEach [] X.env := by rfl) (hse : starEach [.Call (.Name x p) (e :: es) [] cp] X.env = [(false, eval (.Call (.Name x p) (e :: es) [] cp) X.env)] := by rfl)
    (hs : ∀ y, foldedSetIterable (.Call (.Name "enumerate" p2) [.Call (.Name x p) (e :: es) [] cp] [] pos) X.env y = pure y := by intro _; rfl) {pf : Pos} :
    SS X W (.For (.Tuple elts kt tp) (.Call (.Name "enumerate" p2) [.Call (.Name x p) (e :: es) [] cp] [] pos) xs [] pf) (sForC fn ga set b') :=
  (ps_for L.own hc (pi_enum hge hm (pa_cons (pe_callX L F hr ha hgl hdb he hpl) pa_nil hs1) hse) hg hb hs).imp fun _ _ _ h => sv_forC ht hl h
end
end VL
end
section
namespace VL
open PySem PySem.Spec PyProof.Rows L2 PySem.W PySem.Calls PySem.Builtin.ObjectAttr PySem.Builtin PySem.Builtin.Getset_descriptor
section
variable {prog : Program} {w : World} {A : Around} {E : Value → Shared → Prop} {s : Shared} {K : FG} {x C : Addr} {name : Str}
theorem lf_data {M : Model} {h : Heap} {a g : Value} (X : K.In h) (ha : findIn K (.ref C) name = some (some a)) (hg : specialIn K a "__get__" = some (some g)) (ht : takesIn K a = some true) : Looks M h (find (.ref x) (.ref C) name) (.bind g a) := by
  have L1 := looks_findIn (M := M) X ha
  have L2 : Looks M h (getOf (some a)) (some g) := looks_specialIn X hg
  have L3 := looks_takesIn (M := M) X ht
  exact L1.andThen (L2.andThen ((show Looks M h (dataDescriptor? (some a) (some g)) (some (g, a)) from L3.andThen .now).andThen (Looks.tag .now)))
theorem xi_check {M : Model} {nameV : Value} {Q : Unit → Shared → Prop} (X : K.In s.heap) (L0 : Looks M s.heap (typeOf (.ref x)) (.ref C)) (hb : mroIn K C (.type "BaseException") = some true) (hq : Q () s) : wpAny M A (checkBuiltinCall "BaseException.__getattribute__" ⟨[.ref x, nameV], []⟩) Q E s := by
  have hk : builtinKind "BaseException.__getattribute__" = some .slot := by decide +kernel
  have hsplit : splitId "BaseException.__getattribute__" = some ("BaseException", "__getattribute__") := by decide +kernel
  have ha := F.args_bexc_ga (.ref x) nameV
  have L5 := looks_mroIn (M := M) X hb
  simp only [checkBuiltinCall, hk, hsplit]
  obtain ⟨hh, g, d, t, os⟩ := s
  refine wpAny_bind ?_
  unfold isInstance
  refine wpAny_bind (L0.at (L5.at ?_))
  cases hsig : Manifest.signature? "BaseException.__getattribute__" with
  | none => exact wpAny_pure hq
  | some sig =>
    simp only [argsOk, hsig] at ha
    have h2 : Bind.checkArgs "BaseException.__getattribute__" sig ⟨[.ref x, nameV], []⟩ = pure () := ha
    show wpAny M A (Bind.checkArgs "BaseException.__getattribute__" sig ⟨[.ref x, nameV], []⟩) Q E _
    rw [h2]; exact wpAny_pure hq
theorem xi_class {Q : Option Value → Shared → Prop} (X : K.In s.heap) (L0 : ∀ (h : Heap), (∀ b o, s.heap.get? b = some o → h.get? b = some o) → Looks (model prog w) h (typeOf (.ref x)) (.ref C)) (hg : findIn K (.ref C) "__getattribute__" = some (some (.builtin "BaseException.__getattribute__"))) (hg2 : findIn K (.ref C) "__getattr__" = some none) (ha : findIn K (.ref C) "__class__" = some (some (.builtin "object.__class__")))
    (hn : specialIn K (.builtin "object.__class__") "__get__" = some (some (.builtin "getset_descriptor.__get__"))) (htk : takesIn K (.builtin "object.__class__") = some true) (hm : mroIn K C (.type "object") = some true) (hb : mroIn K C (.type "BaseException") = some true)
    (h : Q (some (.ref C)) { s with toks := s.toks + 1 }) : wpAny (model prog w) A (getAttr? (.ref x) "__class__") Q E s := by
  obtain ⟨hh, g, d, t, os⟩ := s
  have L0 := L0 hh fun _ _ e => e
  have L1 := looks_findIn (M := model prog w) X hg
  have L2 := looks_findIn (M := model prog w) X hg2
  unfold getAttr? getAttrBy? getAttrBy
  refine wpAny_bind (wpAny_mkText (wpAny_bind (wpAny_attempt (wpAny_holding (wpAny_bind (L0.at (wpAny_bind (L1.at ?_))))))))
  show wpAny _ _ (getAttrByItsOwn (.ref x) _ (.ref C) (.builtin "BaseException.__getattribute__") false false) _ _ _
  unfold getAttrByItsOwn
  refine wpAny_bind ?_
  show wpAny _ _ (typeLookup (.ref C) "__getattr__") _ _ _
  refine L2.at (wpAny_bind (wpAny_attempt (wpAny_holding ?_)))
  show wpAny _ _ (boundAndCalled _ _ _) _ _ _
  unfold boundAndCalled
  rw [F.excAttr_ValueError.ga.bind (.ref x)]
  refine wpAny_bind (wpAny_pure (wpAny_call ?_))
  refine codeAny_call_builtin F.excAttr_ValueError.ga.plain F.entry_bexc_ga (xi_check X L0 hb ?_)
  have L3 := lf_data (M := model prog w) (x := x) X ha hn htk
  unfold Builtin.«object.__getattribute__»
  refine wpAny_bind (wpAny_pure (wpAny_bind (wpAny_pure (wpAny_bind (L0.at (wpAny_bind (L3.at ?_)))))))
  show wpAny _ _ (holding [.builtin "object.__class__"] (call (.builtin "getset_descriptor.__get__") [.builtin "object.__class__", .ref x, .ref C]) >>= ret) _ _ _
  refine wpAny_bind (wpAny_holding (wpAny_call ?_))
  have L5 := looks_mroIn (M := model prog w) X hm
  refine codeAny_call_builtin KF.slot_gs.plain KF.entry_gs (KF.slot_gs.check _ _ _ _ _ _ _ _ KF.type_class (KF.args_gs _ _ _) ?_)
  unfold Builtin.«getset_descriptor.__get__» descrGet
  rw [dga_obj]
  refine wpAny_bind (wpAny_pure ?_)
  unfold descrGetter descrCheckInstance descrNameAndClass isInstance
  simp only [KF.owner_class]
  repeat lk
  refine ⟨Code.quiet_builtin _ (by decide +kernel), codeAny_builtin KF.entry_class ?_⟩
  unfold Builtin.«object.__class__» shownTypeOf
  repeat lk
  exact h
structure ExcF (K : FG) (C : Addr) : Prop where
  cls : (clsIn K C).isSome = true
  ga : findIn K (.ref C) "__getattribute__" = some (some (.builtin "BaseException.__getattribute__"))
  gn : findIn K (.ref C) "__getattr__" = some none
  fi : findIn K (.ref C) "__class__" = some (some (.builtin "object.__class__"))
  sp : specialIn K (.builtin "object.__class__") "__get__" = some (some (.builtin "getset_descriptor.__get__"))
  tk : takesIn K (.builtin "object.__class__") = some true
  mro : mroIn K C (.type "object") = some true
  mrb : mroIn K C (.type "BaseException") = some true
theorem kitx_exc (f : ExcF K C) : KitX K (.ref x) (.ref C) (fun h => ∃ o vs, h.get? x = some o ∧ o.cls = .ref C ∧ o.data = .fields vs) where
  ty := fun M h _ p => by
    obtain ⟨o, vs, h1, h2, _⟩ := p
    exact h2 ▸ (Looks.ld h1).andThen .now
  it := fun M h X _ => by
    obtain ⟨cd, hc⟩ := Option.isSome_iff_exists.mp f.cls
    unfold clsIn at hc
    split at hc
    · rename_i c' d' cd' sl' ho
      intro A' Q' E' s' k q
      unfold isType loadHead
      exact wpAny_bind (wpAny_loadPart (k _ _ (X _ _ ho)) (wpAny_pure q))
    · cases hc
  ne := fun h tp dd its n sl X htp => by
    obtain ⟨cd, hc⟩ := Option.isSome_iff_exists.mp f.cls
    refine Bool.eq_false_iff.mpr fun q => ?_
    have e : C = tp := Value.ref.inj (beq_iff_eq.mp q)
    subst e
    unfold clsIn at hc
    split at hc
    · rename_i c' d' cd' sl' ho
      have z := (X _ _ ho).symm.trans htp
      cases z
    · cases hc
  ca := fun {prog w A E Q s} X p k => by
    obtain ⟨o, vs, h1, h2, _⟩ := p
    exact xi_class X (fun h kk => h2 ▸ (Looks.ld (kk _ _ h1)).andThen .now) f.ga f.gn f.fi f.sp f.tk f.mro f.mrb k
end
section
variable {X : Cx}
def kIsX (kn tb : Str → Bool) : D × Bool → R (D × Bool) := fun x => match x.1 with
  | .ext _ (.exc c) => if kn c then .ok (.bl (tb c), true) else .bad
  | _ => .bad
theorem call_isx {cv : V} {cu : Value} {kn tb : Str → Bool} (hcv : ∀ u, RelV cv u → u = cu) (hf : ∀ c C, kn c = true → ClsOf X.K c C → ExcF X.K C ∧ PySem.W.kitOne X.K (.ref C) cu = some (tb c)) :
    CallR X (.builtin "isinstance") (fun vs H Q => ∃ F d v fp c o, Same F H ∧ vs = [v, cv] ∧ d = D.ext o (.exc c) ∧ Own X.K F H d v fp ∧ kn c = true ∧ Q (.bl (tb c)) H) := by
  intro pins s σ H vs us Q I r h
  obtain ⟨F, d, v, fp, c, ow, hs, e, rfl, o, hk, q⟩ := h
  subst e
  obtain ⟨u, u2, rfl, r1, r2⟩ := r.two
  rw [hcv _ r2]
  unfold Own at o
  obtain ⟨a, w, ev, ⟨C, hC, ew⟩, o⟩ := o
  subst ev
  cases (show u = Value.ref a from r1)
  have hH : H a = some (ExcAt a C) := by
    rcases o with ⟨_, _, o, _⟩ | ⟨_, o, _⟩
    · rw [← ew]; exact o
    · rw [← ew]; exact hs a _ o
  obtain ⟨ef, ek⟩ := hf c C hk hC
  have ho : ∃ o vs, s.heap.get? a = some o ∧ o.cls = .ref C ∧ o.data = .fields vs := (I.hok a _ hH).1
  exact PySem.W.kia_one (kitx_exc ef) I.kIn ho ek (fun z => nomatch z) fun tk => ⟨.bl (tb c), H, I.tok _, rfl, q⟩
theorem se_isx {cv : V} {cu : Value} {kn tb : Str → Bool} {a ce : Expr} {f : SemE} {p pos : Pos} (hce : PE X ce fun σ H Q => Q cv H) (hcv : ∀ u, RelV cv u → u = cu) (hf : ∀ c C, kn c = true → ClsOf X.K c C → ExcF X.K C ∧ PySem.W.kitOne X.K (.ref C) cu = some (tb c)) (ha : SE X a f) (hm : X.mg "isinstance" = none) (hg : Gl X "isinstance" := by rfl)
    (hs1 : starEach [a, ce] X.env = (false, eval a X.env) :: starEach [ce] X.env := by rfl) (hs2 : starEach [ce] X.env = (false, eval ce X.env) :: starEach [] X.env := by rfl)
    (hpl : (backTo pos (starEach [ce] X.env)).any (·.1) = false := by rfl) : SE X (.Call (.Name "isinstance" p) [a, ce] [] pos) (v1 (kIsX kn tb) f) :=
  (pe_callB (call_isx hcv hf) hg hm PyProof.Rows.boot_isinstance (pa_cons ha (pa_cons hce pa_nil hs2) hs1) (by decide) (by decide) hs1 hpl).imp fun σ H Q h => by
    obtain ⟨ρ, F, fps, S, h⟩ := h
    refine ⟨ρ, F, fps, S, R.holds_mono (R.holds_bind.mp h) fun x hx v F1 H1 fx g1 o1 n1 k1 => ?_⟩
    unfold kIsX at hx
    split at hx
    · rename_i o c e
      by_cases hc : kn c = true
      · rw [if_pos hc] at hx
        exact ⟨F1, x.1, v, fx, c, o, g1.inn, rfl, e, o1, hc, EPost.scalG g1 hx rfl⟩
      · rw [if_neg hc] at hx; exact hx.elim
    · exact hx.elim
end
end VL
end
section
namespace VL
open PySem PySem.Spec PyProof.Rows L2 PySem.SeqAt
section
variable {X : Cx}
def isB (b : Bool) : Value → Bool
  | .bool y => y == b | _ => false
theorem vals_bools {b : Bool} : ∀ {ns : List Bool} {us : List Value}, Vals (ns.map V.bl) us → us.countP (isB b) = ns.countP (· == b) ∧ ∀ k : Nat, (us[k]?).map (isB b) = (ns[k]?).map (· == b)
  | [], us, r => by rw [List.map_nil] at r; cases r; exact ⟨rfl, fun k => by simp⟩
  | n :: ns, us, r => by
    rw [List.map_cons] at r
    cases r with
    | cons h t =>
      obtain ⟨h1, h2⟩ := vals_bools (b := b) t
      cases h
      refine ⟨?_, fun k => ?_⟩
      · rw [List.countP_cons, List.countP_cons, h1]; rfl
      · cases k with
        | zero => rfl
        | succ k => simpa using h2 k
theorem vals_isB {b : Bool} : ∀ {ns : List Bool} {us : List Value}, Vals (ns.map V.bl) us → ∀ y ∈ us, ∃ c, y = Value.bool c
  | [], us, r, y, hy => by rw [List.map_nil] at r; cases r; cases hy
  | n :: ns, us, r, y, hy => by
    rw [List.map_cons] at r
    cases r with
    | cons h t =>
      rcases List.mem_cons.mp hy with rfl | hy
      · exact ⟨n, h⟩
      · exact vals_isB (b := b) t y hy
def rCnt (K : FG) : V → List V → Hp → VK → Prop := fun x vs H Q => ∃ (p : Addr) (ns : List Bool) (b : Bool), x = .ref p ∧ vs = [.bl b] ∧ SqL K H p (ns.map V.bl) ∧ Q (.int (ns.countP (· == b) : Nat)) H
theorem mt_count : MtM X "list.count" (rCnt X.K) := by
  intro pins s σ H x vs v us Q I rx rv h
  obtain ⟨p, ns, b, rfl, rfl, hq, q⟩ := h
  cases rx
  obtain ⟨u, rfl, ru⟩ := vals1 rv
  cases ru
  obtain ⟨its, r, pl, _⟩ := I.list hq
  obtain ⟨⟨cls, dd, data, sl⟩, ho, hc, n, hd⟩ := pl.isList
  simp only at hc hd
  subst hc hd
  refine call_meets PySem.F.slot_list_count ⟨_, ho, rfl⟩ PySem.F.entry_list_count (PySem.F.args_list_count_2 _ _) (list_countAt p its.toArray n dd sl (.bool b) (isB b)) ⟨ho, fun y hy => ?_, ?_⟩
  · obtain ⟨c, rfl⟩ := vals_isB (b := b) r y (by simpa using hy)
    exact EqAt.bool_bool c b
  · rw [show its.toArray.toList = its from rfl, (vals_bools r).1]
    exact ⟨.int _, H, I.tok _, ⟨_, rfl⟩, q⟩
def rIdx (K : FG) : V → List V → Hp → VK → Prop := fun x vs H Q => ∃ (p : Addr) (ns : List Bool) (b : Bool) (j : Nat), x = .ref p ∧ vs = [.bl b] ∧ SqL K H p (ns.map V.bl) ∧ ns[j]? = some b ∧ (∀ m : Nat, m < j → ns[m]? ≠ some b) ∧ j < 1000000 ∧ Q (.int (j : Nat)) H
theorem mt_index : MtM X "list.index" (rIdx X.K) := by
  intro pins s σ H x vs v us Q I rx rv h
  obtain ⟨p, ns, b, j, rfl, rfl, hq, hj, hno, hjs, q⟩ := h
  cases rx
  obtain ⟨u, rfl, ru⟩ := vals1 rv
  cases ru
  obtain ⟨its, r, pl, _⟩ := I.list hq
  have hlen := r.length
  rw [List.length_map] at hlen
  have hjl : j < ns.length := (List.getElem?_eq_some_iff.mp hj).1
  obtain ⟨⟨cls, dd, data, sl⟩, ho, hc, n, hd⟩ := pl.isList
  simp only at hc hd
  subst hc hd
  have vb := (vals_bools (b := b) r).2
  refine call_meets PySem.F.slot_list_index ⟨_, ho, rfl⟩ PySem.F.entry_list_index (PySem.F.args_list_index_2 _ _) (list_indexAt p its.toArray n dd sl (.bool b) (isB b) j (by rw [List.size_toArray]; omega) (by omega) ?_ ?_) ⟨ho, fun y hy => ?_, ⟨.int _, H, I.tok _, ⟨_, rfl⟩, q⟩⟩
  · have := vb j
    rw [hj, List.getElem?_eq_getElem (by omega)] at this
    have := Option.some.inj this
    simpa using this
  · intro m hm hlt
    have e := vb m
    have hml : m < ns.length := by omega
    rw [List.getElem?_eq_getElem (show m < its.length by omega), List.getElem?_eq_getElem hml] at e
    have e := Option.some.inj e
    have hne := hno m hlt
    rw [List.getElem?_eq_getElem hml] at hne
    have : (ns[m] == b) = false := beq_eq_false_iff_ne.mpr fun z => hne (by rw [z])
    have e : isB b its[m] = (ns[m] == b) := e
    rw [this] at e
    simpa using e
  · obtain ⟨c, rfl⟩ := vals_isB (b := b) r y (by simpa using hy)
    exact EqAt.bool_bool c b
variable {o e : Expr} {ap cp : Pos}
def idxB (b : Bool) : List Bool → Option Nat
  | [] => none
  | n :: ns => if n = b then some 0 else (idxB b ns).map (· + 1)
theorem idxB_ok {b : Bool} : ∀ {ns : List Bool} {j : Nat}, idxB b ns = some j → ns[j]? = some b ∧ ∀ m : Nat, m < j → ns[m]? ≠ some b
  | [], j, e => by cases e
  | n :: ns, j, e => by
    unfold idxB at e
    by_cases h : n = b
    · rw [if_pos h] at e; cases e
      exact ⟨by rw [h]; rfl, fun m hm => absurd hm (Nat.not_lt_zero m)⟩
    · rw [if_neg h] at e
      cases q : idxB b ns with
      | none => rw [q] at e; cases e
      | some i =>
        rw [q] at e
        have e : some (i + 1) = some j := e
        cases e
        obtain ⟨h1, h2⟩ := idxB_ok q
        refine ⟨by simpa using h1, fun m hm => ?_⟩
        cases m with
        | zero => simpa using h
        | succ m => simpa using h2 m (by omega)
def kCount : D × Bool → D × Bool → R (D × Bool) := fun x y => match x.1, y.1 with
  | .lst _ ds, .bl b => (match boolsD ds with | some ns => .ok (.int (ns.countP (· == b) : Nat), true) | none => .bad)
  | _, _ => .bad
def kIndex : D × Bool → D × Bool → R (D × Bool) := fun x y => match x.1, y.1 with
  | .lst _ ds, .bl b => (match (boolsD ds).bind (idxB b) with | some j => if j < 1000000 then .ok (.int (j : Nat), true) else .bad | none => .bad)
  | _, _ => .bad
theorem se_mt2 {id : String} {name : Str} {r : V → List V → Hp → VK → Prop} {k : D × Bool → D × Bool → R (D × Bool)} {f g : SemE} (slot : PySem.Slot "list" name id) (hty : typeOf (.builtin id) = pure (.type "method_descriptor")) (hm : MtM X id r)
    (hl : ∀ x y z, k x y = .ok z → ∃ o ds, x.1 = D.lst o ds) (hk : ∀ (F0 H0 F H : Hp) (x y : D × Bool) (v u : V) (fx fy : List Addr) (Q : VK), Grow F0 H0 F H → Own X.K F H x.1 v fx → Own X.K F H y.1 u fy → (k x y).holds (EPost X.K F0 H0 Q) → r v [u] H Q)
    (ho : SE X o f) (he : SE X e g) (hbase : attributeBase o name X.env (eval o X.env) = eval o X.env := by rfl)
    (hfew : ((backTo cp (starEach [e] X.env)).all (fun x => !x.1) && (backToKw cp (keywordEach [] X.env)).all (fun x => x.1.isSome)
      && decide (([e] : List Expr).length + ([] : List Keyword).length + (if ([] : List Keyword).isEmpty then 0 else 1) < 30)) = true := by rfl)
    (hline : (ap.endLine == cp.line) = true := by rfl) (hst : starEach [e] X.env = (false, eval e X.env) :: starEach [] X.env := by rfl) (hplain : (backTo cp (starEach [] X.env)).any (·.1) = false := by rfl) :
    SE X (.Call (.Attribute o name ap) [e] [] cp) (v2 k f g) :=
  (pe_bm PySem.F.plainAttrs_list slot hty hm ho (pa_cons he pa_nil hst) hbase hfew hline hst hplain).imp fun σ H Q h => by
    obtain ⟨ρ, F, fps, S, h⟩ := h
    refine ⟨ρ, F, fps, S, R.holds_mono (R.holds_bind.mp h) fun x hx v F1 H1 fx g1 o1 n1 k1 => ?_⟩
    obtain ⟨y, ey, hy⟩ := R.holds_ok (R.holds_bind.mp hx)
    obtain ⟨z, ez, hz⟩ := R.holds_ok hy
    obtain ⟨ow, ds, ex⟩ := hl x y z ez
    have o1' := o1
    rw [ex] at o1'
    obtain ⟨p, xs, fq, e1, q1, _⟩ := Own.lst g1.inn o1'
    subst e1
    refine ⟨.inl ⟨rfl, xs, q1⟩, ρ, F1, fps, S.grow g1, ?_⟩
    rw [ey]
    intro u F2 H2 fy g2 o2 n2 k2
    exact hk F H F2 H2 x y _ u fx fy Q (g1.trans g2) (o1.grow g2) o2 hy
theorem se_count {f g : SemE} (ho : SE X o f) (he : SE X e g) (hbase : attributeBase o "count" X.env (eval o X.env) = eval o X.env := by rfl)
    (hfew : ((backTo cp (starEach [e] X.env)).all (fun x => !x.1) && (backToKw cp (keywordEach [] X.env)).all (fun x => x.1.isSome)
      && decide (([e] : List Expr).length + ([] : List Keyword).length + (if ([] : List Keyword).isEmpty then 0 else 1) < 30)) = true := by rfl)
    (hline : (ap.endLine == cp.line) = true := by rfl) (hst : starEach [e] X.env = (false, eval e X.env) :: starEach [] X.env := by rfl) (hplain : (backTo cp (starEach [] X.env)).any (·.1) = false := by rfl) : SE X (.Call (.Attribute o "count" ap) [e] [] cp) (v2 kCount f g) :=
  se_mt2 PySem.F.slot_list_count PySem.F.type_list_count mt_count (fun x y z h => by
    unfold kCount at h
    split at h
    · rename_i ow ds b e1 e2; exact ⟨ow, ds, e1⟩
    · cases h) (fun F0 H0 F H x y v u fx fy Q gr o1 o2 h => by
    unfold kCount at h
    split at h
    · rename_i ow ds b e1 e2
      rw [e1] at o1; rw [e2] at o2
      cases q : boolsD ds with
      | none => rw [q] at h; exact h.elim
      | some ns =>
        rw [q] at h
        obtain ⟨p, ys, fq, e1', q1, r1, _⟩ := Own.lst gr.inn o1
        unfold Own at o2
        rw [boolsD_vals ds q r1] at q1
        exact ⟨p, ns, b, e1', by rw [o2.1], q1, EPost.scalG gr h rfl⟩
    · exact h.elim) ho he hbase hfew hline hst hplain
theorem se_index {f g : SemE} (ho : SE X o f) (he : SE X e g) (hbase : attributeBase o "index" X.env (eval o X.env) = eval o X.env := by rfl)
    (hfew : ((backTo cp (starEach [e] X.env)).all (fun x => !x.1) && (backToKw cp (keywordEach [] X.env)).all (fun x => x.1.isSome)
      && decide (([e] : List Expr).length + ([] : List Keyword).length + (if ([] : List Keyword).isEmpty then 0 else 1) < 30)) = true := by rfl)
    (hline : (ap.endLine == cp.line) = true := by rfl) (hst : starEach [e] X.env = (false, eval e X.env) :: starEach [] X.env := by rfl) (hplain : (backTo cp (starEach [] X.env)).any (·.1) = false := by rfl) : SE X (.Call (.Attribute o "index" ap) [e] [] cp) (v2 kIndex f g) :=
  se_mt2 PySem.F.slot_list_index PySem.F.type_list_index mt_index (fun x y z h => by
    unfold kIndex at h
    split at h
    · rename_i ow ds b e1 e2; exact ⟨ow, ds, e1⟩
    · cases h) (fun F0 H0 F H x y v u fx fy Q gr o1 o2 h => by
    unfold kIndex at h
    split at h
    · rename_i ow ds b e1 e2
      rw [e1] at o1; rw [e2] at o2
      cases q : boolsD ds with
      | none => rw [q] at h; exact h.elim
      | some ns =>
        rw [q] at h
        dsimp only [Option.bind] at h
        cases qi : idxB b ns with
        | none => rw [qi] at h; exact h.elim
        | some j =>
          rw [qi] at h
          dsimp only at h
          by_cases hj : j < 1000000
          · rw [if_pos hj] at h
            obtain ⟨p, ys, fq, e1', q1, r1, _⟩ := Own.lst gr.inn o1
            unfold Own at o2
            rw [boolsD_vals ds q r1] at q1
            obtain ⟨i1, i2⟩ := idxB_ok qi
            exact ⟨p, ns, b, j, e1', by rw [o2.1], q1, i1, i2, hj, EPost.scalG gr h rfl⟩
          · rw [if_neg hj] at h; exact h.elim
    · exact h.elim) ho he hbase hfew hline hst hplain
end
end VL
end
section
namespace VL.PX
open VL PySem
def knF : Str → Bool := fun c => c == "BadForm"
def ttF : Str → Bool := fun _ => true
def ffF : Str → Bool := fun _ => false
def fuel : Nat := 1000
def b_is_whole : SemS := (sRet (xOf (vAnd (v1 (kIsi "int") (vVar 0)) (v1 kNot (v1 (kIsi "bool") (vVar 0))))))
def f_is_whole : Fn := fnOf 1 b_is_whole
def b_is_between : SemS := (sRet (xOf (vAnd (vCall f_is_whole (aCons (vVar 0) aNil)) (vChain (fun i j => decide (i ≤ j)) (fun i j => decide (i ≤ j)) (vVar 1) (vVar 0) (vVar 2)))))
def f_is_between : Fn := fnOf 3 b_is_between
def b_common_divisor : SemS := (sSeq (sSet 0 (xOf (vCB kAbs (aCons (vVar 0) aNil)))) (sSeq (sSet 1 (xOf (vCB kAbs (aCons (vVar 1) aNil)))) (sSeq (whileN (tBool (v2 (kEq true) (vVar 1) (vC (.int 0)))) (sSeq (sSet 2 (xOf (v2 kMod (vVar 0) (vVar 1)))) (sSeq (sSet 0 (xOf (vVar 1))) (sSet 1 (xOf (vVar 2))))) fuel) (sRetV 0))))
def f_common_divisor : Fn := fnOf 3 b_common_divisor
def b_fraction : SemS := (sSeq (sSet 2 (xOf (vCall f_common_divisor (aCons (vVar 0) (aCons (vVar 1) aNil))))) (sRet (xOf (vTup (aCons (v2 kDivB (vVar 0) (vVar 2)) (aCons (v2 kDivB (vVar 1) (vVar 2)) aNil))))))
def f_fraction : Fn := fnOf 3 b_fraction
def b_is_fraction : SemS := (sSeq (sIf (tOrD (tNotD (tTru (v1 (kIsi "tuple") (vVar 0)))) (tBool (v2 (kEq true) (vCB kLen (aCons (vVar 0) aNil)) (vC (.int 2))))) (sRet (xOf (vC (.bl false)))) sNext) (sSeq (sIf (tOrD (tNotD (tTru (vCall f_is_whole (aCons (v2 kIx (vVar 0) (vC (.int 0))) aNil)))) (tNotD (tTru (vCall f_is_whole (aCons (v2 kIx (vVar 0) (vC (.int 1))) aNil))))) (sRet (xOf (vC (.bl false)))) sNext) (sRet (xOf (vAnd (v2 kGt (v2 kIx (vVar 0) (vC (.int 1))) (vC (.int 0))) (v2 (kEq false) (vCall f_common_divisor (aCons (v2 kIx (vVar 0) (vC (.int 0))) (aCons (v2 kIx (vVar 0) (vC (.int 1))) aNil))) (vC (.int 1))))))))
def f_is_fraction : Fn := fnOf 1 b_is_fraction
def b_are_from_nought : SemS := (sSeq (sFor (iAny (vVar 0)) (bindD 1) (sIf (tOrD (tNotD (tTru (vCall f_is_fraction (aCons (vVar 1) aNil)))) (tBool (v2 kLt (v2 kIx (vVar 1) (vC (.int 0))) (vC (.int 0))))) (sRet (xOf (vC (.bl false)))) sNext)) (sRet (xOf (vC (.bl true)))))
def f_are_from_nought : Fn := fnOf 2 b_are_from_nought
def b_is_less : SemS := (sRet (xOf (v2 kLt (v2 kTimes (v2 kIx (vVar 0) (vC (.int 0))) (v2 kIx (vVar 1) (vC (.int 1)))) (v2 kTimes (v2 kIx (vVar 1) (vC (.int 0))) (v2 kIx (vVar 0) (vC (.int 1)))))))
def f_is_less : Fn := fnOf 2 b_is_less
def b_plus : SemS := (sRet (xOf (vCall f_fraction (aCons (v2 kPlus (v2 kTimes (v2 kIx (vVar 0) (vC (.int 0))) (v2 kIx (vVar 1) (vC (.int 1)))) (v2 kTimes (v2 kIx (vVar 1) (vC (.int 0))) (v2 kIx (vVar 0) (vC (.int 1))))) (aCons (v2 kTimes (v2 kIx (vVar 0) (vC (.int 1))) (v2 kIx (vVar 1) (vC (.int 1)))) aNil)))))
def f_plus : Fn := fnOf 2 b_plus
def b_weighed : SemS := (sSeq (sSet 2 (xOf (vC (.tup (([0, 1] : List Int).map D.int))))) (sSeq (sFor (iZa (vVar 0) (vVar 1)) (bindT [3, 4]) (sSet 2 (xOf (vCall f_plus (aCons (vVar 2) (aCons (vTup (aCons (v2 kTimes (v2 kIx (vVar 3) (vC (.int 0))) (vVar 4)) (aCons (v2 kIx (vVar 3) (vC (.int 1))) aNil))) aNil)))))) (sRetV 2)))
def f_weighed : Fn := fnOf 5 b_weighed
def b_look_form : SemS := (sSeq (sIf (tOrD (tNotD (tTru (v1 (kIsi "tuple") (vVar 0)))) (tBool (v2 (kEq true) (vCB kLen (aCons (vVar 0) aNil)) (v2 kPlus (vVar 1) (vC (.int 1)))))) (sRaise "BadForm" (zTop (zAdd (fun _ => some ("a form for " : Str).length) (zAdd (zInt (vVar 1)) (zAdd (fun _ => some (" numbers is a tuple of one more" : Str).length) (fun _ => some 0)))))) sNext) (sFor (iAny (vVar 0)) (bindD 2) (sIf (tNotD (tTru (vCall f_is_between (aCons (vVar 2) (aCons (v1 (kU fun i => .int (-i)) (vC (.int 1000))) (aCons (vC (.int 1000)) aNil)))))) (sRaise "BadForm" (zTop (zAdd (fun _ => some ("a form has a number that is not from -" : Str).length) (zAdd (zInt (vC (.int 1000))) (zAdd (fun _ => some (" to " : Str).length) (zAdd (zInt (vC (.int 1000))) (fun _ => some 0))))))) sNext)))
def f_look_form : Fn := fnOf 3 b_look_form
def b_look_forms : SemS := (sSeq (sIf (tOrD (tNotD (tTru (v1 (kIsi "list") (vVar 0)))) (tNotD (tTru (vCall f_is_between (aCons (vCB kLen (aCons (vVar 0) aNil)) (aCons (vVar 1) (aCons (vVar 2) aNil))))))) (sRaise "BadForm" (zTop (zAdd (fun _ => some ("the forms are a list of " : Str).length) (zAdd (zInt (vVar 1)) (zAdd (fun _ => some (" to " : Str).length) (zAdd (zInt (vVar 2)) (fun _ => some 0))))))) sNext) (sFor (iAny (vVar 0)) (bindD 4) (sDrop (xCall f_look_form (aCons (vVar 4) (aCons (vVar 3) aNil))))))
def f_look_forms : Fn := fnOf 5 b_look_forms
def b_look_deed : SemS := (sSeq (sIf (tOrD (tNotD (tTru (v1 (kIsi "tuple") (vVar 0)))) (tBool (v2 (kEq true) (vCB kLen (aCons (vVar 0) aNil)) (vC (.int 3))))) (sRaise "BadForm" (fun _ => some ("a deed is a triple of guards, changes and cost" : Str).length)) sNext) (sSeq (sDrop (xCall f_look_forms (aCons (v2 kIx (vVar 0) (vC (.int 0))) (aCons (vC (.int 0)) (aCons (vC (.int 4)) (aCons (vVar 1) aNil)))))) (sSeq (sDrop (xCall f_look_forms (aCons (v2 kIx (vVar 0) (vC (.int 1))) (aCons (vVar 1) (aCons (vVar 1) (aCons (vVar 1) aNil)))))) (sDrop (xCall f_look_form (aCons (v2 kIx (vVar 0) (vC (.int 2))) (aCons (vVar 1) aNil)))))))
def f_look_deed : Fn := fnOf 2 b_look_deed
def b_look_lines : SemS := (sSeq (sIf (tOrD (tNotD (tTru (v1 (kIsi "tuple") (vVar 0)))) (tBool (v2 (kEq true) (vCB kLen (aCons (vVar 0) aNil)) (vC (.int 2))))) (sRaise "BadForm" (fun _ => some ("a line machine is a pair of how many numbers and the deeds" : Str).length)) sNext) (sSeq (sIf (tNotD (tTru (vCall f_is_between (aCons (v2 kIx (vVar 0) (vC (.int 0))) (aCons (vC (.int 1)) (aCons (vC (.int 4)) aNil)))))) (sRaise "BadForm" (zTop (zAdd (fun _ => some ("a line machine has 1 to " : Str).length) (zAdd (zInt (vC (.int 4))) (zAdd (fun _ => some (" numbers" : Str).length) (fun _ => some 0)))))) sNext) (sSeq (sIf (tOrD (tNotD (tTru (v1 (kIsi "list") (v2 kIx (vVar 0) (vC (.int 1)))))) (tNotD (tTru (vCall f_is_between (aCons (vCB kLen (aCons (v2 kIx (vVar 0) (vC (.int 1))) aNil)) (aCons (vC (.int 1)) (aCons (vC (.int 8)) aNil))))))) (sRaise "BadForm" (zTop (zAdd (fun _ => some ("a line machine has a list of 1 to " : Str).length) (zAdd (zInt (vC (.int 8))) (zAdd (fun _ => some (" deeds" : Str).length) (fun _ => some 0)))))) sNext) (sFor (iAny (v2 kIx (vVar 0) (vC (.int 1)))) (bindD 1) (sDrop (xCall f_look_deed (aCons (vVar 1) (aCons (v2 kIx (vVar 0) (vC (.int 0))) aNil))))))))
def f_look_lines : Fn := fnOf 2 b_look_lines
def b_look_prices : SemS := (sSeq (sIf (tOrD (tNotD (tTru (v1 (kIsi "list") (vVar 1)))) (tBool (v2 (kEq true) (vCB kLen (aCons (vVar 1) aNil)) (vCB kLen (aCons (v2 kIx (vVar 0) (vC (.int 1))) aNil))))) (sRaise "BadForm" (fun _ => some ("prices are a list of one for each deed" : Str).length)) sNext) (sFor (iAny (vVar 1)) (bindD 2) (sIf (tNotD (tTru (vCall f_is_between (aCons (vVar 2) (aCons (v1 (kU fun i => .int (-i)) (vC (.int 1000))) (aCons (vC (.int 1000)) aNil)))))) (sRaise "BadForm" (zTop (zAdd (fun _ => some ("a price is not from -" : Str).length) (zAdd (zInt (vC (.int 1000))) (zAdd (fun _ => some (" to " : Str).length) (zAdd (zInt (vC (.int 1000))) (fun _ => some 0))))))) sNext)))
def f_look_prices : Fn := fnOf 3 b_look_prices
def b_purse_behind : SemS := (sSeq (sSet 2 (xOf (vLst aNil))) (sSeq (sFor (iR1 (aCons (vCB kLen (aCons (vVar 0) aNil)) aNil)) (bindD 3) (sAppend 2 (vCB kSum (aCons (vComp (iEnF (vVar 1)) 2 [0, 3] (bindT [0, 1]) tTrue (v2 kTimes (v2 kIx (vVar 2) (vVar 0)) (v2 kIx (vVar 1) (vVar 3)))) aNil)))) (sSeq (sAugItem 2 (fun i j => i + j) (v1 (kU fun i => .int (-i)) (vC (.int 1))) (v2 kIx (vVar 0) (v1 (kU fun i => .int (-i)) (vC (.int 1))))) (sRetV 2))))
def f_purse_behind : Fn := fnOf 4 b_purse_behind
def b_left_over : SemS := (sSeq (sSet 3 (xOf (vCall f_purse_behind (aCons (vVar 2) (aCons (v2 kIx (vVar 0) (vC (.int 1))) aNil))))) (sSeq (sFrz [3] (sSet 4 (xOf (vComp (iR1 (aCons (vCB kLen (aCons (vVar 2) aNil)) aNil)) 1 [3, 2, 0] (bindD 0) tTrue (v2 kSub (v2 kSub (v2 kIx (vVar 2) (vVar 0)) (v2 kIx (v2 kIx (vVar 3) (vC (.int 2))) (vVar 0))) (v2 kIx (vVar 1) (vVar 0))))))) (sSeq (sAugItem 4 (fun i j => i + j) (v1 (kU fun i => .int (-i)) (vC (.int 1))) (vVar 1)) (sRetV 4))))
def f_left_over : Fn := fnOf 5 b_left_over
def b_duties_of : SemS := (sSeq (sDrop (xCall f_look_lines (aCons (vVar 0) aNil))) (sSeq (sDrop (xCall f_look_prices (aCons (vVar 0) (aCons (vVar 1) aNil)))) (sSeq (sDrop (xCall f_look_form (aCons (vVar 2) (aCons (v2 kIx (vVar 0) (vC (.int 0))) aNil)))) (sSeq (sSet 3 (xOf (vLst aNil))) (sSeq (sFor (iZi (v2 kIx (vVar 0) (vC (.int 1))) (vVar 1)) (bindT [4, 5]) (sSeq (sAppend 3 (vTup (aCons (v2 kIx (vVar 4) (vC (.int 0))) (aCons (vCall f_left_over (aCons (vVar 4) (aCons (vVar 5) (aCons (vVar 2) aNil)))) aNil)))) (sFor (iAny (v2 kIx (vVar 4) (vC (.int 1)))) (bindD 6) (sAppend 3 (vTup (aCons (v2 kIx (vVar 4) (vC (.int 0))) (aCons (vCB kList (aCons (vVar 6) aNil)) aNil))))))) (sSeq (sAppend 3 (vTup (aCons (vLst aNil) (aCons (vCB kList (aCons (vVar 2) aNil)) aNil)))) (sRetV 3)))))))
def f_duties_of : Fn := fnOf 7 b_duties_of
def b_with_rests : SemS := (sSeq (sSet 2 (xOf (vLst aNil))) (sSeq (sFor (iEnF (vVar 0)) (bindT [3, 4]) (sSeq (sSet 5 (xOf (vComp (iAny (vVar 0)) 1 [] (bindD 0) tTrue (vC (.int 0))))) (sSeq (sSetItem 5 (vVar 3) (vC (.int 1))) (sAppend 2 (v2 kPlus (v2 kPlus (vVar 4) (vVar 5)) (vLst (aCons (v2 kIx (vVar 1) (vVar 3)) aNil))))))) (sRetV 2)))
def f_with_rests : Fn := fnOf 6 b_with_rests
def b_row_below : SemS := (sSeq (sSet 2 (xOf (vC .non))) (sSeq (sFor (iEnF (vVar 0)) (bindT [3, 4]) (sIf (tAndD (tBool (v2 kLt (v2 kIx (vVar 4) (v1 (kU fun i => .int (-i)) (vC (.int 1)))) (vC (.int 0)))) (tOrD (tBool (v2 (kIsN false) (vVar 2) (vC .non))) (tBool (v2 kLt (v2 kIx (vVar 1) (vVar 3)) (v2 kIx (vVar 1) (vVar 2)))))) (sSet 2 (xOf (vVar 3))) sNext)) (sRetV 2)))
def f_row_below : Fn := fnOf 5 b_row_below
def b_column_below : SemS := (sSeq (sFor (iR1 (aCons (v2 kSub (vCB kLen (aCons (vVar 0) aNil)) (vC (.int 1))) aNil)) (bindD 1) (sIf (tBool (v2 kLt (v2 kIx (vVar 0) (vVar 1)) (vC (.int 0)))) (sRetV 1) sNext)) (sRet (xOf (vC .non))))
def f_column_below : Fn := fnOf 2 b_column_below
def b_lowered : SemS := (sSeq (sSet 1 (xOf (vC (.int 0)))) (sSeq (sFor (iAny (vVar 0)) (bindD 2) (sSet 1 (xOf (vCall f_common_divisor (aCons (vVar 1) (aCons (vVar 2) aNil)))))) (sRet (xOf (vComp (iAny (vVar 0)) 1 [1] (bindD 0) tTrue (v2 kDivB (vVar 0) (vVar 1)))))))
def f_lowered : Fn := fnOf 3 b_lowered
def b_solved_for : SemS := (sSeq (sSet 3 (xOf (vComp (iAny (v2 kIx (vVar 0) (vVar 1))) 1 [] (bindD 0) tTrue (v1 (kU fun i => .int (-i)) (vVar 0))))) (sSeq (sFrz [3] (sSet 4 (xOf (vLst aNil)))) (sSeq (sFor (iEnF (vVar 0)) (bindT [5, 6]) (sIf (tBool (v2 (kEq false) (vVar 5) (vVar 1))) (sAppend 4 (vVar 3)) (sAppend 4 (vCall f_lowered (aCons (vComp (iZi (vVar 6) (vVar 3)) 2 [3, 2, 6] (bindT [0, 1]) tTrue (v2 kSub (v2 kTimes (vVar 0) (v2 kIx (vVar 2) (vVar 3))) (v2 kTimes (v2 kIx (vVar 4) (vVar 3)) (vVar 1)))) aNil))))) (sRetV 4))))
def f_solved_for : Fn := fnOf 7 b_solved_for
def b_shares_told : SemS := (sSeq (sSet 3 (xOf (vComp (iR1 (aCons (vVar 2) aNil)) 1 [] (bindD 0) tTrue (vC (.tup (([0, 1] : List Int).map D.int)))))) (sSeq (sFor (iEnF (vVar 1)) (bindT [4, 5]) (sIf (tBool (v2 kLt (vVar 5) (vVar 2))) (sSetItem 3 (vVar 5) (vCall f_fraction (aCons (v2 kIx (v2 kIx (vVar 0) (vVar 4)) (v1 (kU fun i => .int (-i)) (vC (.int 1)))) (aCons (v2 kIx (v2 kIx (vVar 0) (vVar 4)) (vVar 5)) aNil)))) sNext)) (sRetV 3)))
def f_shares_told : Fn := fnOf 6 b_shares_told
def b_shares_or_weights : SemS := (sSeq (sSet 2 (xOf (vCB kLen (aCons (v2 kIx (vVar 0) (vC (.int 0))) aNil)))) (sSeq (sSet 3 (xOf (vCall f_with_rests (aCons (vVar 0) (aCons (vVar 1) aNil))))) (sSeq (sSet 4 (xOf (vComp (iR1 (aCons (vCB kLen (aCons (vVar 0) aNil)) aNil)) 1 [2] (bindD 0) tTrue (v2 kPlus (vVar 1) (vVar 0))))) (sSeq (sSet 5 (xOf (vCall f_row_below (aCons (vVar 3) (aCons (vVar 4) aNil))))) (sSeq (whileN (tBool (v2 (kIsN true) (vVar 5) (vC .non))) (sSeq (sFrz [3] (sSet 6 (xOf (vCall f_column_below (aCons (v2 kIx (vVar 3) (vVar 5)) aNil))))) (sSeq (sIf (tBool (v2 (kIsN false) (vVar 6) (vC .non))) (sRet (xOf (vTup (aCons (vC (.str "weights")) (aCons (vSl (v2 kIx (vVar 3) (vVar 5)) (oInt (vVar 2)) (oInt (v1 (kU fun i => .int (-i)) (vC (.int 1))))) aNil))))) sNext) (sSeq (sSet 3 (xOf (vCall f_solved_for (aCons (vVar 3) (aCons (vVar 5) (aCons (vVar 6) aNil)))))) (sSeq (sSetItem 4 (vVar 5) (vVar 6)) (sSet 5 (xOf (vCall f_row_below (aCons (vVar 3) (aCons (vVar 4) aNil))))))))) fuel) (sFrz [3, 4] (sRet (xOf (vTup (aCons (vC (.str "shares")) (aCons (vCall f_shares_told (aCons (vVar 3) (aCons (vVar 4) (aCons (vVar 2) aNil)))) aNil)))))))))))
def f_shares_or_weights : Fn := fnOf 7 b_shares_or_weights
def b_guards_at : SemS := (sRet (xOf (vComp (iAny (vVar 0)) 1 [1] (bindD 0) tTrue (v2 kIx (vVar 0) (vVar 1)))))
def f_guards_at : Fn := fnOf 2 b_guards_at
def b_bounds_by : SemS := (sSeq (sIf (tBool (v2 (kEq false) (vVar 0) (vC (.str "line")))) (sRetV 1) sNext) (sRet (xOf (v2 kPlus (vComp (iAny (vSl (vVar 1) oNone (oInt (v1 (kU fun i => .int (-i)) (vC (.int 1)))))) 1 [] (bindD 0) tTrue (vC (.int 0))) (vLst (aCons (v1 (kU fun i => .int (-i)) (vC (.int 1))) aNil))))))
def f_bounds_by : Fn := fnOf 2 b_bounds_by
def b_worth_of : SemS := (sRet (xOf (vCB kSum (aCons (vComp (iZi (vVar 0) (vVar 1)) 2 [] (bindT [0, 1]) tTrue (v2 kTimes (vVar 0) (vVar 1))) aNil))))
def f_worth_of : Fn := fnOf 2 b_worth_of
def b_gone_far : SemS := (sSeq (sSet 3 (xOf (vCB (k2i fun i j => if j > i then j else i) (aCons (vC (.int 0)) (aCons (v2 kPlus (v2 kDivB (vCall f_worth_of (aCons (vVar 0) (aCons (vVar 1) aNil))) (v1 (kU fun i => .int (-i)) (vCall f_worth_of (aCons (vVar 0) (aCons (vVar 2) aNil))))) (vC (.int 1))) aNil))))) (sRet (xOf (vComp (iZi (vVar 1) (vVar 2)) 2 [3] (bindT [0, 1]) tTrue (v2 kPlus (vVar 0) (v2 kTimes (vVar 2) (vVar 1)))))))
def f_gone_far : Fn := fnOf 4 b_gone_far
def b_point_of : SemS := (sRet (xOf (vComp (iAny (vSl (vVar 0) oNone (oInt (v1 (kU fun i => .int (-i)) (vC (.int 1)))))) 1 [0] (bindD 0) tTrue (vCall f_fraction (aCons (vVar 0) (aCons (v2 kIx (vVar 1) (v1 (kU fun i => .int (-i)) (vC (.int 1)))) aNil))))))
def f_point_of : Fn := fnOf 1 b_point_of
def b_paper_or_point : SemS := (sSeq (sSet 2 (xOf (vComp (iR1 (aCons (vCB kLen (aCons (vVar 1) aNil)) aNil)) 1 [0] (bindD 0) tTrue (vCall f_guards_at (aCons (vVar 1) (aCons (vVar 0) aNil)))))) (sSeq (sFrz [2] (sSet 3 (xOf (vCall f_shares_or_weights (aCons (vVar 2) (aCons (vCall f_bounds_by (aCons (vC (.str "line")) (aCons (vVar 1) aNil))) aNil)))))) (sSeq (sIf (tBool (v2 (kEq false) (v2 kIx (vVar 3) (vC (.int 0))) (vC (.str "shares")))) (sRet (xOf (vTup (aCons (vC (.str "line")) (aCons (v2 kIx (vVar 3) (vC (.int 1))) aNil))))) sNext) (sSeq (sIf (tBool (v2 kGt (v2 kIx (v2 kIx (vVar 3) (vC (.int 1))) (v1 (kU fun i => .int (-i)) (vC (.int 1)))) (vC (.int 0)))) (sRet (xOf (vTup (aCons (vC (.str "point")) (aCons (vCall f_point_of (aCons (v2 kIx (vVar 3) (vC (.int 1))) aNil)) aNil))))) sNext) (sSeq (sSet 4 (xOf (vCall f_shares_or_weights (aCons (vVar 2) (aCons (vCall f_bounds_by (aCons (vC (.str "none")) (aCons (vVar 1) aNil))) aNil))))) (sSeq (sIf (tBool (v2 (kEq false) (v2 kIx (vVar 4) (vC (.int 0))) (vC (.str "shares")))) (sRet (xOf (vTup (aCons (vC (.str "none")) (aCons (v2 kIx (vVar 4) (vC (.int 1))) aNil))))) sNext) (sRet (xOf (vTup (aCons (vC (.str "point")) (aCons (vCall f_point_of (aCons (vCall f_gone_far (aCons (vVar 1) (aCons (v2 kIx (vVar 4) (vC (.int 1))) (aCons (v2 kIx (vVar 3) (vC (.int 1))) aNil)))) aNil)) aNil)))))))))))
def f_paper_or_point : Fn := fnOf 5 b_paper_or_point
def b_settled : SemS := (sSeq (sSet 3 (xOf (vLst aNil))) (sSeq (sForC f_duties_of (aCons (vVar 0) (aCons (vVar 1) (aCons (vVar 2) aNil))) (bindT [4, 5]) (sSeq (sSet 6 (xOf (vCall f_paper_or_point (aCons (v2 kIx (vVar 5) (vC (.int 0))) (aCons (v2 kIx (vVar 5) (vC (.int 1))) aNil))))) (sSeq (sIf (tBool (v2 (kEq false) (v2 kIx (vVar 6) (vC (.int 0))) (vC (.str "point")))) (sRet (xOf (vTup (aCons (vC (.str "fails")) (aCons (vVar 4) (aCons (v2 kIx (vVar 6) (vC (.int 1))) aNil)))))) sNext) (sAppend 3 (vVar 6))))) (sFrz [3] (sRet (xOf (vTup (aCons (vC (.str "pays")) (aCons (vVar 3) aNil))))))))
def f_settled : Fn := fnOf 7 b_settled
def b_is_so : SemS := (sSeq (sSet 3 (xOf (v2 kIx (vVar 2) (vC (.int 0))))) (sSeq (sSet 4 (xOf (v2 kIx (vVar 2) (vC (.int 1))))) (sSeq (sIf (tAndD (tBool (v2 (kEq true) (vVar 3) (vC (.str "line")))) (tBool (v2 (kEq true) (vVar 3) (vC (.str "none"))))) (sRet (xOf (vC (.bl false)))) sNext) (sSeq (sIf (tOrD (tBool (v2 (kEq true) (vCB kLen (aCons (vVar 4) aNil)) (vCB kLen (aCons (vVar 0) aNil)))) (tNotD (tTru (vCall f_are_from_nought (aCons (vVar 4) aNil))))) (sRet (xOf (vC (.bl false)))) sNext) (sSeq (sFor (iEnF (vCall f_bounds_by (aCons (vVar 3) (aCons (vVar 1) aNil)))) (bindT [5, 6]) (sIf (tTru (vCall f_is_less (aCons (vTup (aCons (vVar 6) (aCons (vC (.int 1)) aNil))) (aCons (vCall f_weighed (aCons (vVar 4) (aCons (vCall f_guards_at (aCons (vVar 0) (aCons (vVar 5) aNil))) aNil))) aNil)))) (sRet (xOf (vC (.bl false)))) sNext)) (sRet (xOf (vC (.bl true)))))))))
def f_is_so : Fn := fnOf 7 b_is_so
def b_shows : SemS := (sSeq (sSet 4 (xCall f_duties_of (aCons (vVar 0) (aCons (vVar 1) (aCons (vVar 2) aNil))))) (sSeq (sIf (tBool (v2 (kEq true) (vCB kLen (aCons (vVar 3) aNil)) (vCB kLen (aCons (vVar 4) aNil)))) (sRet (xOf (vC (.bl false)))) sNext) (sFrz [4] (sRet (xOf (vCB kAll (aCons (vComp (iZi (vVar 4) (vVar 3)) 2 [] (bindT [0, 1]) tTrue (vCall f_is_so (aCons (v2 kIx (vVar 0) (vC (.int 0))) (aCons (v2 kIx (vVar 0) (vC (.int 1))) (aCons (vVar 1) aNil))))) aNil)))))))
def f_shows : Fn := fnOf 5 b_shows
def b_worth_at : SemS := (sRet (xOf (vCall f_weighed (aCons (v2 kPlus (vVar 1) (vLst (aCons (vTup (aCons (vC (.int 1)) (aCons (vC (.int 1)) aNil))) aNil))) (aCons (vVar 0) aNil)))))
def f_worth_at : Fn := fnOf 2 b_worth_at
def b_fails_at : SemS := (sSeq (sSet 5 (xCall f_duties_of (aCons (vVar 0) (aCons (vVar 1) (aCons (vVar 2) aNil))))) (sSeq (sIf (tNotD (tTru (vCall f_is_between (aCons (vVar 3) (aCons (vC (.int 0)) (aCons (v2 kSub (vCB kLen (aCons (vVar 5) aNil)) (vC (.int 1))) aNil)))))) (sRet (xOf (vC (.bl false)))) sNext) (sSeq (sIf (tOrD (tBool (v2 (kEq true) (vCB kLen (aCons (vVar 4) aNil)) (v2 kIx (vVar 0) (vC (.int 0))))) (tNotD (tTru (vCall f_are_from_nought (aCons (vVar 4) aNil))))) (sRet (xOf (vC (.bl false)))) sNext) (sSeq (sFor (iAny (v2 kIx (v2 kIx (vVar 5) (vVar 3)) (vC (.int 0)))) (bindD 6) (sIf (tBool (v2 kLt (v2 kIx (vCall f_worth_at (aCons (vVar 6) (aCons (vVar 4) aNil))) (vC (.int 0))) (vC (.int 0)))) (sRet (xOf (vC (.bl false)))) sNext)) (sRet (xOf (v2 kLt (v2 kIx (vCall f_worth_at (aCons (v2 kIx (v2 kIx (vVar 5) (vVar 3)) (vC (.int 1))) (aCons (vVar 4) aNil))) (vC (.int 0))) (vC (.int 0)))))))))
def f_fails_at : Fn := fnOf 7 b_fails_at
def b_q_cell : SemS := (sSeq (sIf (tTru (vVar 0)) (sRet (xOf (v2 kIx (vVar 0) (v2 kMod (vVar 1) (vCB kLen (aCons (vVar 0) aNil)))))) sNext) (sRet (xOf (vC (.int 0)))))
def f_q_cell : Fn := fnOf 2 b_q_cell
def b_q_mix : SemS := (sSeq (sSet 2 (xOf (v2 kMod (v2 kPlus (vCall f_q_cell (aCons (vVar 0) (aCons (vVar 1) aNil))) (v2 kTimes (vC (.int 104729)) (v2 kPlus (vVar 1) (vC (.int 1))))) (vC (.int 4294967291))))) (sSeq (sSet 2 (xOf (v2 kMod (v2 kTimes (vVar 2) (vC (.int 48271))) (vC (.int 4294967279))))) (sRet (xOf (v2 kMod (v2 kPlus (v2 kTimes (v2 kDivB (vVar 2) (vC (.int 64))) (vC (.int 69621))) (vVar 2)) (vC (.int 4294967231)))))))
def f_q_mix : Fn := fnOf 3 b_q_mix
def b_q_form : SemS := (sSeq (sSet 4 (xOf (vLst aNil))) (sSeq (sFor (iR1 (aCons (v2 kPlus (vVar 2) (vC (.int 1))) aNil)) (bindD 5) (sSeq (sSet 6 (xOf (vCall f_q_mix (aCons (vVar 0) (aCons (v2 kPlus (vVar 1) (vVar 5)) aNil))))) (sAppend 4 (v2 kIx (vLst (aCons (vC (.int 0)) (aCons (vC (.int 0)) (aCons (vC (.int 1)) (aCons (v1 (kU fun i => .int (-i)) (vC (.int 1))) (aCons (vC (.int 2)) (aCons (v2 kSub (v2 kMod (v2 kDivB (vVar 6) (vC (.int 16))) (vC (.int 9))) (vC (.int 4))) aNil))))))) (v2 kMod (vVar 6) (vC (.int 6))))))) (sSeq (sIf (tTru (vVar 3)) (sSetItem 4 (v1 (kU fun i => .int (-i)) (vC (.int 1))) (vCB kAbs (aCons (v2 kIx (vVar 4) (v1 (kU fun i => .int (-i)) (vC (.int 1)))) aNil))) sNext) (sRet (xOf (vCB kTuple (aCons (vVar 4) aNil)))))))
def f_q_form : Fn := fnOf 7 b_q_form
def b_q_lines : SemS := (sSeq (sSet 2 (xOf (v2 kPlus (vC (.int 1)) (v2 kMod (vCall f_q_mix (aCons (vVar 0) (aCons (vVar 1) aNil))) (vC (.int 2)))))) (sSeq (sSet 3 (xOf (vLst aNil))) (sSeq (sFor (iR1 (aCons (v2 kPlus (vC (.int 1)) (v2 kMod (vCall f_q_mix (aCons (vVar 0) (aCons (v2 kPlus (vVar 1) (vC (.int 1))) aNil))) (vC (.int 2)))) aNil)) (bindD 4) (sSeq (sSet 5 (xOf (vLst aNil))) (sSeq (sFor (iR1 (aCons (v2 kMod (vCall f_q_mix (aCons (vVar 0) (aCons (v2 kPlus (v2 kPlus (vVar 1) (vC (.int 2))) (vVar 4)) aNil))) (vC (.int 3))) aNil)) (bindD 6) (sAppend 5 (vCall f_q_form (aCons (vVar 0) (aCons (v2 kPlus (v2 kPlus (v2 kPlus (vVar 1) (vC (.int 10))) (v2 kTimes (vC (.int 60)) (vVar 4))) (v2 kTimes (vC (.int 5)) (vVar 6))) (aCons (vVar 2) (aCons (vC (.bl false)) aNil))))))) (sSeq (sSet 7 (xOf (vLst aNil))) (sSeq (sFor (iR1 (aCons (vVar 2) aNil)) (bindD 6) (sSeq (sSet 8 (xOf (vCall f_q_mix (aCons (vVar 0) (aCons (v2 kPlus (v2 kPlus (v2 kPlus (vVar 1) (vC (.int 30))) (v2 kTimes (vC (.int 60)) (vVar 4))) (vVar 6)) aNil))))) (sSeq (sSet 9 (xOf (v2 kTimes (vLst (aCons (vC (.int 0)) aNil)) (v2 kPlus (vVar 2) (vC (.int 1)))))) (sSeq (sSetItem 9 (vVar 6) (vC (.int 1))) (sSeq (sSetItem 9 (v1 (kU fun i => .int (-i)) (vC (.int 1))) (v2 kSub (v2 kMod (v2 kDivB (vVar 8) (vC (.int 8))) (vC (.int 5))) (vC (.int 2)))) (sSeq (sSet 10 (xOf (vCall f_q_form (aCons (vVar 0) (aCons (v2 kPlus (v2 kPlus (v2 kPlus (vVar 1) (vC (.int 34))) (v2 kTimes (vC (.int 60)) (vVar 4))) (v2 kTimes (vC (.int 5)) (vVar 6))) (aCons (vVar 2) (aCons (vC (.bl true)) aNil))))))) (sSeq (sAppend 7 (vIf (tBool (v2 kGt (v2 kMod (vVar 8) (vC (.int 4))) (vC (.int 0)))) (vCB kTuple (aCons (vVar 9) aNil)) (vVar 10))) (sIf (tAndD (tBool (v2 kLt (v2 kIx (vVar 9) (v1 (kU fun i => .int (-i)) (vC (.int 1)))) (vC (.int 0)))) (tBool (v2 kGt (v2 kMod (vVar 8) (vC (.int 4))) (vC (.int 0))))) (sAppend 5 (vCB kTuple (aCons (vVar 9) aNil))) sNext)))))))) (sFrz [7] (sAppend 3 (vTup (aCons (vSl (vVar 5) oNone (oInt (vC (.int 4)))) (aCons (vVar 7) (aCons (vCall f_q_form (aCons (vVar 0) (aCons (v2 kPlus (v2 kPlus (vVar 1) (vC (.int 50))) (v2 kTimes (vC (.int 60)) (vVar 4))) (aCons (vVar 2) (aCons (vC (.bl true)) aNil))))) aNil))))))))))) (sFrz [3] (sRet (xOf (vTup (aCons (vVar 2) (aCons (vVar 3) aNil)))))))))
def f_q_lines : Fn := fnOf 11 b_q_lines
end VL.PX
end
section
namespace VL.K43
open VL PySem PX
def b_q_refusal : SemS := (sSeq (sIf (tBool (v2 (kIsN false) (vVar 0) (vC .non))) (sRet (xOf (vC (.str "ok")))) sNext) (sSeq (sSet 1 (xOf (vLst (aCons (v1 (kIsX knF ffF) (vVar 0)) (aCons (v1 (kIsX knF ffF) (vVar 0)) (aCons (v1 (kIsX knF ffF) (vVar 0)) aNil)))))) (sSeq (sSet 1 (xOf (v2 kPlus (vVar 1) (vLst (aCons (v1 (kIsX knF ffF) (vVar 0)) (aCons (v1 (kIsX knF ttF) (vVar 0)) aNil)))))) (sSeq (sIf (tOrD (tBool (v2 (kEq true) (v2 kCount (vVar 1) (vC (.bl true))) (vC (.int 1)))) (tNotD (tTru (v1 (kIsX knF ttF) (vVar 0))))) (sRet (xOf (vC (.str "wrong")))) sNext) (sRet (xOf (v2 kIx (vLst (aCons (vC (.str "machine")) (aCons (vC (.str "row")) (aCons (vC (.str "prices")) (aCons (vC (.str "model")) (aCons (vC (.str "form")) aNil)))))) (v2 kIndex (vVar 1) (vC (.bl true))))))))))
def f_q_refusal : Fn := fnOf 2 b_q_refusal
def b_q_told : SemS := (sSeq (sSet 4 (xOf (vC .non))) (sSeq (sTry 5 knF (sIf (tBool (v2 (kEq false) (vVar 0) (vC (.int 0)))) (sDrop (xCall f_settled (aCons (vVar 1) (aCons (vVar 2) (aCons (vVar 3) aNil))))) (sIf (tBool (v2 (kEq false) (vVar 0) (vC (.int 1)))) (sDrop (xCall f_shows (aCons (vVar 1) (aCons (vVar 2) (aCons (vVar 3) (aCons (vLst aNil) aNil)))))) (sDrop (xCall f_fails_at (aCons (vVar 1) (aCons (vVar 2) (aCons (vVar 3) (aCons (vC (.int 0)) (aCons (vLst aNil) aNil))))))))) (sSet 4 (xOf (vVar 5)))) (sRet (xOf (vCall f_q_refusal (aCons (vVar 4) aNil))))))
def f_q_told : Fn := fnOf 6 b_q_told
def b_law : SemS := (sSeq (sSet 1 (xOf (vCall f_q_lines (aCons (vVar 0) (aCons (vC (.int 0)) aNil))))) (sSeq (sUnpack [2, 3] (xOf (vVar 1))) (sSeq (sSet 4 (xOf (v2 kTimesZ (vLst (aCons (vC (.int 1)) aNil)) (vCB kLen (aCons (vVar 3) aNil))))) (sSeq (sSet 5 (xOf (v2 kTimesZ (vTup (aCons (vC (.int 0)) aNil)) (v2 kPlusZ (vVar 2) (vC (.int 1)))))) (sSeq (sSet 6 (xOf (vCall f_q_mix (aCons (vVar 0) (aCons (vC (.int 200)) aNil))))) (sSeq (sSet 7 (xOf (v2 kMod (vVar 6) (vC (.int 10))))) (sSeq (sSet 8 (xOf (v2 kDivB (vVar 6) (vC (.int 16))))) (sSeq (sUnpack [9, 10, 11] (xOf (v2 kIx (vVar 3) (vC (.int 0))))) (sSeq (sSet 12 (xOf (v2 kIx (vLst (aCons (vC (.int 1001)) (aCons (v1 (kU fun i => .int (-i)) (vC (.int 1001))) aNil))) (v2 kMod (vVar 8) (vC (.int 2)))))) (sSeq (sSet 13 (xOf (vC (.str "form")))) (sSeq (sIf (tBool (v2 (kEq false) (vVar 7) (vC (.int 0)))) (sSet 1 (xOf (vTup (aCons (v2 kIx (vLst (aCons (vC (.int 0)) (aCons (vC (.int 5)) (aCons (v1 (kU fun i => .int (-i)) (vC (.int 1))) aNil)))) (v2 kMod (vVar 8) (vC (.int 3)))) (aCons (vVar 3) aNil))))) (sIf (tBool (v2 (kEq false) (vVar 7) (vC (.int 1)))) (sSeq (sSet 1 (xOf (vTup (aCons (vVar 2) (aCons (v2 kIx (vLst (aCons (vLst aNil) (aCons (v2 kTimesZ (vSl (vVar 3) oNone (oInt (vC (.int 1)))) (vC (.int 9))) aNil))) (v2 kMod (vVar 8) (vC (.int 2)))) aNil))))) (sSet 4 (xOf (v2 kTimesZ (vLst (aCons (vC (.int 1)) aNil)) (vC (.int 9)))))) (sIf (tBool (v2 (kEq false) (vVar 7) (vC (.int 2)))) (sSet 1 (xOf (vTup (aCons (vVar 2) (aCons (v2 kPlusZ (vLst (aCons (vTup (aCons (v2 kPlusZ (vVar 9) (v2 kTimesZ (vLst (aCons (vVar 11) aNil)) (v2 kSub (vC (.int 5)) (vCB kLen (aCons (vVar 9) aNil))))) (aCons (vVar 10) (aCons (vVar 11) aNil)))) aNil)) (vSl (vVar 3) (oInt (vC (.int 1))) oNone)) aNil))))) (sIf (tBool (v2 (kEq false) (vVar 7) (vC (.int 3)))) (sSet 1 (xOf (vTup (aCons (vVar 2) (aCons (v2 kPlusZ (vLst (aCons (vTup (aCons (vVar 9) (aCons (v2 kPlusZ (vVar 10) (vSl (vVar 10) oNone (oInt (vC (.int 1))))) (aCons (vVar 11) aNil)))) aNil)) (vSl (vVar 3) (oInt (vC (.int 1))) oNone)) aNil))))) (sIf (tBool (v2 (kEq false) (vVar 7) (vC (.int 4)))) (sSet 1 (xOf (vTup (aCons (vVar 2) (aCons (v2 kPlusZ (vLst (aCons (vTup (aCons (vVar 9) (aCons (vVar 10) (aCons (vSlT (vVar 11) (oInt (vC (.int 1))) oNone) aNil)))) aNil)) (vSl (vVar 3) (oInt (vC (.int 1))) oNone)) aNil))))) (sIf (tBool (v2 (kEq false) (vVar 7) (vC (.int 5)))) (sSet 1 (xOf (vTup (aCons (vVar 2) (aCons (v2 kPlusZ (vSl (vVar 3) (oInt (vC (.int 1))) oNone) (vLst (aCons (vTup (aCons (vVar 9) (aCons (v2 kPlusZ (vLst (aCons (v2 kPlusZ (v2 kIx (vVar 10) (vC (.int 0))) (vTup (aCons (vC (.int 1)) aNil))) aNil)) (vSl (vVar 10) (oInt (vC (.int 1))) oNone)) (aCons (vVar 11) aNil)))) aNil))) aNil))))) (sIf (tBool (v2 (kEq false) (vVar 7) (vC (.int 6)))) (sSet 1 (xOf (vTup (aCons (vVar 2) (aCons (v2 kPlusZ (vLst (aCons (vTup (aCons (vVar 9) (aCons (vVar 10) (aCons (v2 kPlusZ (vSlT (vVar 11) oNone (oInt (v1 (kU fun i => .int (-i)) (vC (.int 1))))) (vTup (aCons (vVar 12) aNil))) aNil)))) aNil)) (vSl (vVar 3) (oInt (vC (.int 1))) oNone)) aNil))))) (sIf (tBool (v2 (kEq false) (vVar 7) (vC (.int 7)))) (sSet 4 (xOf (v2 kIx (vLst (aCons (v2 kPlusZ (vVar 4) (vLst (aCons (vC (.int 1)) aNil))) (aCons (vSl (vVar 4) (oInt (vC (.int 1))) oNone) (aCons (v2 kPlusZ (vLst (aCons (vVar 12) aNil)) (vSl (vVar 4) (oInt (vC (.int 1))) oNone)) aNil)))) (v2 kMod (vVar 8) (vC (.int 3)))))) (sIf (tBool (v2 (kEq false) (vVar 7) (vC (.int 8)))) (sSet 5 (xOf (v2 kIx (vLst (aCons (v2 kPlusZ (vVar 5) (vTup (aCons (vC (.int 0)) aNil))) (aCons (vSlT (vVar 5) (oInt (vC (.int 1))) oNone) (aCons (v2 kPlusZ (vTup (aCons (vVar 12) aNil)) (vSlT (vVar 5) (oInt (vC (.int 1))) oNone)) aNil)))) (v2 kMod (vVar 8) (vC (.int 3)))))) (sSeq (sSet 1 (xOf (vTup (aCons (vVar 2) (aCons (v2 kPlusZ (vLst (aCons (vTup (aCons (v2 kPlusZ (vSl (vVar 9) oNone (oInt (vC (.int 3)))) (vLst (aCons (v2 kPlusZ (v2 kTimesZ (vTup (aCons (vC (.int 1000)) aNil)) (vVar 2)) (vTup (aCons (v1 (kU fun i => .int (-i)) (vC (.int 1000))) aNil))) aNil))) (aCons (vVar 10) (aCons (vVar 11) aNil)))) aNil)) (vSl (vVar 3) (oInt (vC (.int 1))) oNone)) aNil))))) (sSeq (sSet 4 (xOf (v2 kTimesZ (vLst (aCons (v2 kIx (vLst (aCons (vC (.int 1000)) (aCons (v1 (kU fun i => .int (-i)) (vC (.int 1000))) aNil))) (v2 kMod (vVar 8) (vC (.int 2)))) aNil)) (vCB kLen (aCons (vVar 3) aNil))))) (sSet 13 (xOf (vC (.str "ok"))))))))))))))) (sFrz [4] (sRet (xOf (v2 (kEq false) (vComp (iR1 (aCons (vC (.int 3)) aNil)) 1 [1, 4, 5] (bindD 0) tTrue (vCall f_q_told (aCons (vVar 0) (aCons (vVar 1) (aCons (vVar 2) (aCons (vVar 3) aNil)))))) (v2 kTimesZ (vLst (aCons (vVar 13) aNil)) (vC (.int 3))))))))))))))))))
def f_law : Fn := fnOf 14 b_law
end VL.K43
end
section
namespace VL
open PySem PySem.Spec PyProof.Rows L2
theorem se_globI {X : Cx} {pos : Pos} {x : Str} {i : Int} (hm : ∃ t, X.mg x = some (.int i t)) (hg : Gl X x := by rfl) (hd : (x == ("__debug__" : Str)) = false := by decide) : SE X (.Name x pos) (vC (.int i)) := by
  obtain ⟨t, hm⟩ := hm
  exact se_glob hm hg hd
theorem se_globTT {X : Cx} {pos : Pos} {x : Str} {ns : List Int} (h : ∃ (p : Addr) (o : Obj) (its : Array Value) (n : Nat), X.mg x = some (.ref p) ∧ X.K.lookup p = some o ∧ o.cls = .type "tuple" ∧ o.data = .seq its n ∧ IntsAre its.toList ns) (hz : ns.length ≤ 1000000) (hg : Gl X x := by rfl) (hdb : (x == ("__debug__" : Str)) = false := by decide) : SE X (.Name x pos) (vC (.tup (ns.map D.int))) := by
  obtain ⟨p, o, its, n, h1, h2, h3, h4, h5⟩ := h
  exact se_globT h1 h2 h3 h4 h5 hz hg hdb
theorem al1 {f0 : SemE} : alen 1 (aCons f0 aNil) := alen_cons alen_nil
theorem al2 {f0 f1 : SemE} : alen 2 (aCons f0 (aCons f1 aNil)) := alen_cons al1
theorem al3 {f0 f1 f2 : SemE} : alen 3 (aCons f0 (aCons f1 (aCons f2 aNil))) := alen_cons al2
theorem al4 {f0 f1 f2 f3 : SemE} : alen 4 (aCons f0 (aCons f1 (aCons f2 (aCons f3 aNil)))) := alen_cons al3
theorem al5 {f0 f1 f2 f3 f4 : SemE} : alen 5 (aCons f0 (aCons f1 (aCons f2 (aCons f3 (aCons f4 aNil))))) := alen_cons al4
namespace K43
open PX
structure XT (K : FG) (mg : Str → Option Value) (P M R C D F : Addr) : Prop where
  cP : ClsOf K "PurseError" P
  mP : mg "PurseError" = some (.ref P)
  mM : mg "BadMachine" = some (.ref M)
  mR : mg "BadRow" = some (.ref R)
  mC : mg "BadPrices" = some (.ref C)
  mD : mg "BadModel" = some (.ref D)
  cF : ClsOf K "BadForm" F
  mF : mg "BadForm" = some (.ref F)
  xF : PySem.W.excIn K F bmV "ValueError.__new__" = true
  eF : PySem.W.exmOne K (.ref F) (.ref P) = some true
  xx : ExcF K F
  kM : PySem.W.kitOne K (.ref F) (.ref M) = some false
  kR : PySem.W.kitOne K (.ref F) (.ref R) = some false
  kC : PySem.W.kitOne K (.ref F) (.ref C) = some false
  kD : PySem.W.kitOne K (.ref F) (.ref D) = some false
  kF : PySem.W.kitOne K (.ref F) (.ref F) = some true
  kV : PySem.W.kitOne K (.ref F) (.type "ValueError") = some true
section
variable {K : FG} {mg : Str → Option Value} {P M R C D F : Addr} (x : XT K mg P M R C D F)
include x
theorem XT.one : ∀ c C', knF c = true → ClsOf K c C' → C' = F := fun c C' h1 h2 => by
  have e : c = "BadForm" := beq_iff_eq.mp h1
  subst e
  have := h2.symm.trans x.cF
  cases this; rfl
theorem XT.ct : ∀ c C', knF c = true → ClsOf K c C' → PySem.W.exmOne K (.ref C') (.ref P) = some true := fun c C' h1 h2 => by rw [x.one c C' h1 h2]; exact x.eF
theorem XT.fM : ∀ c C', knF c = true → ClsOf K c C' → ExcF K C' ∧ PySem.W.kitOne K (.ref C') (.ref M) = some (ffF c) := fun c C' h1 h2 => by rw [x.one c C' h1 h2]; exact ⟨x.xx, x.kM⟩
theorem XT.fR : ∀ c C', knF c = true → ClsOf K c C' → ExcF K C' ∧ PySem.W.kitOne K (.ref C') (.ref R) = some (ffF c) := fun c C' h1 h2 => by rw [x.one c C' h1 h2]; exact ⟨x.xx, x.kR⟩
theorem XT.fC : ∀ c C', knF c = true → ClsOf K c C' → ExcF K C' ∧ PySem.W.kitOne K (.ref C') (.ref C) = some (ffF c) := fun c C' h1 h2 => by rw [x.one c C' h1 h2]; exact ⟨x.xx, x.kC⟩
theorem XT.fD : ∀ c C', knF c = true → ClsOf K c C' → ExcF K C' ∧ PySem.W.kitOne K (.ref C') (.ref D) = some (ffF c) := fun c C' h1 h2 => by rw [x.one c C' h1 h2]; exact ⟨x.xx, x.kD⟩
theorem XT.fF : ∀ c C', knF c = true → ClsOf K c C' → ExcF K C' ∧ PySem.W.kitOne K (.ref C') (.ref F) = some (ttF c) := fun c C' h1 h2 => by rw [x.one c C' h1 h2]; exact ⟨x.xx, x.kF⟩
theorem XT.fV : ∀ c C', knF c = true → ClsOf K c C' → ExcF K C' ∧ PySem.W.kitOne K (.ref C') (.type "ValueError") = some (ttF c) := fun c C' h1 h2 => by rw [x.one c C' h1 h2]; exact ⟨x.xx, x.kV⟩
end
def top (i : Nat) : Stmt := PySem.Challenge.pw_pursehall_k43_no_lines.main.body.getD i (.Pass ⟨0, 0, 0, 0⟩)
structure Txt (K : FG) (mg : Str → Option Value) : Prop where
  n_ValueError : mg "ValueError" = none
  n_abs : mg "abs" = none
  n_all : mg "all" = none
  n_bool : mg "bool" = none
  n_enumerate : mg "enumerate" = none
  n_int : mg "int" = none
  n_isinstance : mg "isinstance" = none
  n_len : mg "len" = none
  n_list : mg "list" = none
  n_max : mg "max" = none
  n_range : mg "range" = none
  n_sum : mg "sum" = none
  n_tuple : mg "tuple" = none
  n_zip : mg "zip" = none
  i_FARTHEST : ∃ t, mg "FARTHEST" = some (.int 1000 t)
  i_MOST_NUMBERS : ∃ t, mg "MOST_NUMBERS" = some (.int 4 t)
  i_MOST_DEEDS : ∃ t, mg "MOST_DEEDS" = some (.int 8 t)
  i_MOST_GUARDS : ∃ t, mg "MOST_GUARDS" = some (.int 4 t)
  t_NOUGHT : ∃ (p : Addr) (o : Obj) (its : Array Value) (n : Nat), mg "NOUGHT" = some (.ref p) ∧ K.lookup p = some o ∧ o.cls = .type "tuple" ∧ o.data = .seq its n ∧ IntsAre its.toList [0, 1]
  d_is_whole : FnAt K "is_whole" (top 9)
  d_is_between : FnAt K "is_between" (top 10)
  d_common_divisor : FnAt K "common_divisor" (top 11)
  d_fraction : FnAt K "fraction" (top 12)
  d_is_fraction : FnAt K "is_fraction" (top 13)
  d_are_from_nought : FnAt K "are_from_nought" (top 14)
  d_is_less : FnAt K "is_less" (top 15)
  d_plus : FnAt K "plus" (top 16)
  d_weighed : FnAt K "weighed" (top 17)
  d_look_form : FnAt K "look_form" (top 23)
  d_look_forms : FnAt K "look_forms" (top 24)
  d_look_deed : FnAt K "look_deed" (top 25)
  d_look_lines : FnAt K "look_lines" (top 26)
  d_look_prices : FnAt K "look_prices" (top 27)
  d_purse_behind : FnAt K "purse_behind" (top 28)
  d_left_over : FnAt K "left_over" (top 29)
  d_duties_of : FnAt K "duties_of" (top 30)
  d_with_rests : FnAt K "with_rests" (top 32)
  d_row_below : FnAt K "row_below" (top 33)
  d_column_below : FnAt K "column_below" (top 34)
  d_lowered : FnAt K "lowered" (top 35)
  d_solved_for : FnAt K "solved_for" (top 36)
  d_shares_told : FnAt K "shares_told" (top 37)
  d_shares_or_weights : FnAt K "shares_or_weights" (top 38)
  d_guards_at : FnAt K "guards_at" (top 40)
  d_bounds_by : FnAt K "bounds_by" (top 41)
  d_worth_of : FnAt K "worth_of" (top 42)
  d_gone_far : FnAt K "gone_far" (top 43)
  d_point_of : FnAt K "point_of" (top 44)
  d_paper_or_point : FnAt K "paper_or_point" (top 45)
  d_settled : FnAt K "settled" (top 46)
  d_is_so : FnAt K "is_so" (top 47)
  d_shows : FnAt K "shows" (top 48)
  d_worth_at : FnAt K "worth_at" (top 49)
  d_fails_at : FnAt K "fails_at" (top 50)
  d_q_cell : FnAt K "_law_cell" (top 52)
  d_q_mix : FnAt K "_law_mix" (top 53)
  d_q_form : FnAt K "_law_form" (top 54)
  d_q_lines : FnAt K "_law_lines" (top 55)
  d_q_refusal : FnAt K "_law_refusal" (top 56)
  d_q_told : FnAt K "_law_told" (top 57)
  d_law : FnAt K "law" (top 58)
  xc : ∃ P M R C D F, XT K mg P M R C D F
abbrev KnT (P : Program) (w : World) (K : FG) (mg : Str → Option Value) (base : Heap) (l : Nat) (n : Str) (k : Nat) (f : Fn) : Prop := Txt K mg → K.In base → base.Ns mainGlobals mg → Kn P w K mg base l n k f
section
variable {P : Program} {w : World} {K : FG} {mg : Str → Option Value} {base : Heap}
def N_is_whole : List Str := ["thing"]
theorem sc_is_whole : FnScope N_is_whole ["thing"] (defScope (top 9)) := ⟨rfl, rfl, rfl, by decide +kernel, rfl, by decide +kernel, by decide +kernel⟩
theorem kn_is_whole : KnT P w K mg base 1 "is_whole" 1 f_is_whole := fun T kb nb =>
  kn_mk T.d_is_whole kb nb sc_is_whole rfl rfl (by decide) (fun _ _ _ _ _ _ us hl => match us, hl with | [_], _ => rfl) fun f cdv A outer s H E hr =>
    (ss_one (ss_ret (sx_of (se_and (se_isi (T' := "int") (by decide) (se_var 0) T.n_isinstance T.n_int (by decide +kernel)) (se_one (se_not (se_isi (T' := "bool") (by decide) (se_var 0) T.n_isinstance T.n_bool (by decide +kernel))))))))
def N_is_between : List Str := ["thing", "least", "most"]
theorem sc_is_between : FnScope N_is_between ["thing", "least", "most"] (defScope (top 10)) := ⟨rfl, rfl, rfl, by decide +kernel, rfl, by decide +kernel, by decide +kernel⟩
theorem kn_is_between : KnT P w K mg base 2 "is_between" 3 f_is_between := fun T kb nb =>
  kn_mk T.d_is_between kb nb sc_is_between rfl rfl (by decide) (fun _ _ _ _ _ _ us hl => match us, hl with | [_, _, _], _ => rfl) fun f cdv A outer s H E hr =>
    (ss_one (ss_ret (sx_of (se_and (se_call (kn_is_whole T kb nb) (hr.mono (by decide)) (sa_cons (se_var 0) sa_nil) al1) (se_one (se_chain op_le op_le (se_var 1) (se_var 0) (se_var 2)))))))
def N_common_divisor : List Str := ["one", "other", "rest"]
theorem sc_common_divisor : FnScope N_common_divisor ["one", "other"] (defScope (top 11)) := ⟨rfl, rfl, rfl, by decide +kernel, rfl, by decide +kernel, by decide +kernel⟩
theorem kn_common_divisor : KnT P w K mg base 1 "common_divisor" 2 f_common_divisor := fun T kb nb =>
  kn_mk T.d_common_divisor kb nb sc_common_divisor rfl rfl (by decide) (fun _ _ _ _ _ _ us hl => match us, hl with | [_, _], _ => rfl) fun f cdv A outer s H E hr =>
    (ss_cons (ss_set 0 sc_common_divisor.nd (sx_of (se_abs T.n_abs (se_var 0)))) (ss_cons (ss_set 1 sc_common_divisor.nd (sx_of (se_abs T.n_abs (se_var 1)))) (ss_cons (ss_while fuel lk_fn.own (st_ne hr (se_var 1) se_int) (ss_cons (ss_set 2 sc_common_divisor.nd (sx_of (se_mod (se_var 0) (se_var 1)))) (ss_cons (ss_set 0 sc_common_divisor.nd (sx_of (se_var 1))) (ss_one (ss_set 1 sc_common_divisor.nd (sx_of (se_var 2))))))) (ss_one (ss_retV 0)))))
def N_fraction : List Str := ["top", "bottom", "divisor"]
theorem sc_fraction : FnScope N_fraction ["top", "bottom"] (defScope (top 12)) := ⟨rfl, rfl, rfl, by decide +kernel, rfl, by decide +kernel, by decide +kernel⟩
theorem kn_fraction : KnT P w K mg base 2 "fraction" 2 f_fraction := fun T kb nb =>
  kn_mk T.d_fraction kb nb sc_fraction rfl rfl (by decide) (fun _ _ _ _ _ _ us hl => match us, hl with | [_, _], _ => rfl) fun f cdv A outer s H E hr =>
    (ss_cons (ss_set 2 sc_fraction.nd (sx_of (se_call (kn_common_divisor T kb nb) (hr.mono (by decide)) (sa_cons (se_var 0) (sa_cons (se_var 1) sa_nil)) al2))) (ss_one (ss_ret (sx_of (se_tup (sa_cons (se_divB (se_var 0) (se_var 2)) (sa_cons (se_divB (se_var 1) (se_var 2)) sa_nil)))))))
def N_is_fraction : List Str := ["thing"]
theorem sc_is_fraction : FnScope N_is_fraction ["thing"] (defScope (top 13)) := ⟨rfl, rfl, rfl, by decide +kernel, rfl, by decide +kernel, by decide +kernel⟩
theorem kn_is_fraction : KnT P w K mg base 2 "is_fraction" 1 f_is_fraction := fun T kb nb =>
  kn_mk T.d_is_fraction kb nb sc_is_fraction rfl rfl (by decide) (fun _ _ _ _ _ _ us hl => match us, hl with | [_], _ => rfl) fun f cdv A outer s H E hr =>
    (ss_cons (ss_if (st_w (sw_or (st_not (st_tru (se_isi (T' := "tuple") (by decide) (se_var 0) T.n_isinstance T.n_tuple (by decide +kernel)))) (sw_or1 (st_ne hr (se_len T.n_len (se_var 0)) se_int)))) (ss_one (ss_ret (sx_of se_bl))) ss_nil) (ss_cons (ss_if (st_w (sw_or (st_not (st_tru (se_call (kn_is_whole T kb nb) (hr.mono (by decide)) (sa_cons (se_ix (se_var 0) se_int) sa_nil) al1))) (sw_or1 (st_not (st_tru (se_call (kn_is_whole T kb nb) (hr.mono (by decide)) (sa_cons (se_ix (se_var 0) se_int) sa_nil) al1)))))) (ss_one (ss_ret (sx_of se_bl))) ss_nil) (ss_one (ss_ret (sx_of (se_and (se_gt (se_ix (se_var 0) se_int) se_int) (se_one (se_eq hr (se_call (kn_common_divisor T kb nb) (hr.mono (by decide)) (sa_cons (se_ix (se_var 0) se_int) (sa_cons (se_ix (se_var 0) se_int) sa_nil)) al2) se_int))))))))
def N_are_from_nought : List Str := ["things", "thing"]
theorem sc_are_from_nought : FnScope N_are_from_nought ["things"] (defScope (top 14)) := ⟨rfl, rfl, rfl, by decide +kernel, rfl, by decide +kernel, by decide +kernel⟩
theorem kn_are_from_nought : KnT P w K mg base 3 "are_from_nought" 1 f_are_from_nought := fun T kb nb =>
  kn_mk T.d_are_from_nought kb nb sc_are_from_nought rfl rfl (by decide) (fun _ _ _ _ _ _ us hl => match us, hl with | [_], _ => rfl) fun f cdv A outer s H E hr =>
    (ss_cons (ss_for lk_fn.own rfl (si_any (se_var 0)) (pg_n 1 sc_are_from_nought.nd) tgt_name (ss_one (ss_if (st_w (sw_or (st_not (st_tru (se_call (kn_is_fraction T kb nb) (hr.mono (by decide)) (sa_cons (se_var 1) sa_nil) al1))) (sw_or1 (st_lt (se_ix (se_var 1) se_int) se_int)))) (ss_one (ss_ret (sx_of se_bl))) ss_nil))) (ss_one (ss_ret (sx_of se_bl))))
def N_is_less : List Str := ["one", "other"]
theorem sc_is_less : FnScope N_is_less ["one", "other"] (defScope (top 15)) := ⟨rfl, rfl, rfl, by decide +kernel, rfl, by decide +kernel, by decide +kernel⟩
theorem kn_is_less : KnT P w K mg base 1 "is_less" 2 f_is_less := fun T kb nb =>
  kn_mk T.d_is_less kb nb sc_is_less rfl rfl (by decide) (fun _ _ _ _ _ _ us hl => match us, hl with | [_, _], _ => rfl) fun f cdv A outer s H E hr =>
    (ss_one (ss_ret (sx_of (se_lt (se_times (se_ix (se_var 0) se_int) (se_ix (se_var 1) se_int)) (se_times (se_ix (se_var 1) se_int) (se_ix (se_var 0) se_int))))))
def N_plus : List Str := ["one", "other"]
theorem sc_plus : FnScope N_plus ["one", "other"] (defScope (top 16)) := ⟨rfl, rfl, rfl, by decide +kernel, rfl, by decide +kernel, by decide +kernel⟩
theorem kn_plus : KnT P w K mg base 3 "plus" 2 f_plus := fun T kb nb =>
  kn_mk T.d_plus kb nb sc_plus rfl rfl (by decide) (fun _ _ _ _ _ _ us hl => match us, hl with | [_, _], _ => rfl) fun f cdv A outer s H E hr =>
    (ss_one (ss_ret (sx_of (se_call (kn_fraction T kb nb) (hr.mono (by decide)) (sa_cons (se_plus (se_times (se_ix (se_var 0) se_int) (se_ix (se_var 1) se_int)) (se_times (se_ix (se_var 1) se_int) (se_ix (se_var 0) se_int))) (sa_cons (se_times (se_ix (se_var 0) se_int) (se_ix (se_var 1) se_int)) sa_nil)) al2))))
def N_weighed : List Str := ["numbers", "wholes", "total", "number", "whole"]
theorem sc_weighed : FnScope N_weighed ["numbers", "wholes"] (defScope (top 17)) := ⟨rfl, rfl, rfl, by decide +kernel, rfl, by decide +kernel, by decide +kernel⟩
theorem kn_weighed : KnT P w K mg base 4 "weighed" 2 f_weighed := fun T kb nb =>
  kn_mk T.d_weighed kb nb sc_weighed rfl rfl (by decide) (fun _ _ _ _ _ _ us hl => match us, hl with | [_, _], _ => rfl) fun f cdv A outer s H E hr =>
    (ss_cons (ss_set 2 sc_weighed.nd (sx_of (se_globTT T.t_NOUGHT (by decide)))) (ss_cons (ss_for lk_fn.own rfl (si_zipA T.n_zip (se_var 0) (se_var 1)) (pg_tup rfl (pgs_n (pg_n 3 sc_weighed.nd) (pgs_n (pg_n 4 sc_weighed.nd) pgs_0)) rfl rfl) (tgt_tup rfl) (ss_one (ss_set 2 sc_weighed.nd (sx_of (se_call (kn_plus T kb nb) (hr.mono (by decide)) (sa_cons (se_var 2) (sa_cons (se_tup (sa_cons (se_times (se_ix (se_var 3) se_int) (se_var 4)) (sa_cons (se_ix (se_var 3) se_int) sa_nil))) sa_nil)) al2))))) (ss_one (ss_retV 2))))
def N_look_form : List Str := ["form", "many", "number"]
theorem sc_look_form : FnScope N_look_form ["form", "many"] (defScope (top 23)) := ⟨rfl, rfl, rfl, by decide +kernel, rfl, by decide +kernel, by decide +kernel⟩
theorem kn_look_form (T : Txt K mg) (kb : K.In base) (nb : base.Ns mainGlobals mg) : Kn P w K mg base 3 "look_form" 2 f_look_form := by
  obtain ⟨_, _, _, _, _, _, XX⟩ := T.xc
  exact kn_mk T.d_look_form kb nb sc_look_form rfl rfl (by decide) (fun _ _ _ _ _ _ us hl => match us, hl with | [_, _], _ => rfl) fun f cdv A outer s H E hr =>
      (ss_cons (ss_if (st_w (sw_or (st_not (st_tru (se_isi (T' := "tuple") (by decide) (se_var 0) T.n_isinstance T.n_tuple (by decide +kernel)))) (sw_or1 (st_ne hr (se_len T.n_len (se_var 0)) (se_plus (se_var 1) se_int))))) (ss_one (ss_raise lkf_fn rfl XX.cF XX.xF XX.mF (sz_join (szs_cons sz_str (szs_cons (sz_fint (se_var 1)) (szs_cons sz_str szs_nil)))))) ss_nil) (ss_one (ss_for lk_fn.own rfl (si_any (se_var 0)) (pg_n 2 sc_look_form.nd) tgt_name (ss_one (ss_if (st_not (st_tru (se_call (kn_is_between T kb nb) (hr.mono (by decide)) (sa_cons (se_var 2) (sa_cons (se_neg (se_globI T.i_FARTHEST)) (sa_cons (se_globI T.i_FARTHEST) sa_nil))) al3))) (ss_one (ss_raise lkf_fn rfl XX.cF XX.xF XX.mF (sz_join (szs_cons sz_str (szs_cons (sz_fint (se_globI T.i_FARTHEST)) (szs_cons sz_str (szs_cons (sz_fint (se_globI T.i_FARTHEST)) szs_nil))))))) ss_nil)))))
def N_look_forms : List Str := ["forms", "least", "most", "many", "form"]
theorem sc_look_forms : FnScope N_look_forms ["forms", "least", "most", "many"] (defScope (top 24)) := ⟨rfl, rfl, rfl, by decide +kernel, rfl, by decide +kernel, by decide +kernel⟩
theorem kn_look_forms (T : Txt K mg) (kb : K.In base) (nb : base.Ns mainGlobals mg) : Kn P w K mg base 4 "look_forms" 4 f_look_forms := by
  obtain ⟨_, _, _, _, _, _, XX⟩ := T.xc
  exact kn_mk T.d_look_forms kb nb sc_look_forms rfl rfl (by decide) (fun _ _ _ _ _ _ us hl => match us, hl with | [_, _, _, _], _ => rfl) fun f cdv A outer s H E hr =>
      (ss_cons (ss_if (st_w (sw_or (st_not (st_tru (se_isi (T' := "list") (by decide) (se_var 0) T.n_isinstance T.n_list (by decide +kernel)))) (sw_or1 (st_not (st_tru (se_call (kn_is_between T kb nb) (hr.mono (by decide)) (sa_cons (se_len T.n_len (se_var 0)) (sa_cons (se_var 1) (sa_cons (se_var 2) sa_nil))) al3)))))) (ss_one (ss_raise lkf_fn rfl XX.cF XX.xF XX.mF (sz_join (szs_cons sz_str (szs_cons (sz_fint (se_var 1)) (szs_cons sz_str (szs_cons (sz_fint (se_var 2)) szs_nil))))))) ss_nil) (ss_one (ss_for lk_fn.own rfl (si_any (se_var 0)) (pg_n 4 sc_look_forms.nd) tgt_name (ss_one (ss_expr (sx_call lk_fn (kn_look_form T kb nb) (hr.mono (by decide)) (sa_cons (se_var 4) (sa_cons (se_var 3) sa_nil)) al2))))))
def N_look_deed : List Str := ["deed", "many"]
theorem sc_look_deed : FnScope N_look_deed ["deed", "many"] (defScope (top 25)) := ⟨rfl, rfl, rfl, by decide +kernel, rfl, by decide +kernel, by decide +kernel⟩
theorem kn_look_deed (T : Txt K mg) (kb : K.In base) (nb : base.Ns mainGlobals mg) : Kn P w K mg base 5 "look_deed" 2 f_look_deed := by
  obtain ⟨_, _, _, _, _, _, XX⟩ := T.xc
  exact kn_mk T.d_look_deed kb nb sc_look_deed rfl rfl (by decide) (fun _ _ _ _ _ _ us hl => match us, hl with | [_, _], _ => rfl) fun f cdv A outer s H E hr =>
      (ss_cons (ss_if (st_w (sw_or (st_not (st_tru (se_isi (T' := "tuple") (by decide) (se_var 0) T.n_isinstance T.n_tuple (by decide +kernel)))) (sw_or1 (st_ne hr (se_len T.n_len (se_var 0)) se_int)))) (ss_one (ss_raise lkf_fn rfl XX.cF XX.xF XX.mF sz_str)) ss_nil) (ss_cons (ss_expr (sx_call lk_fn (kn_look_forms T kb nb) (hr.mono (by decide)) (sa_cons (se_ix (se_var 0) se_int) (sa_cons se_int (sa_cons (se_globI T.i_MOST_GUARDS) (sa_cons (se_var 1) sa_nil)))) al4)) (ss_cons (ss_expr (sx_call lk_fn (kn_look_forms T kb nb) (hr.mono (by decide)) (sa_cons (se_ix (se_var 0) se_int) (sa_cons (se_var 1) (sa_cons (se_var 1) (sa_cons (se_var 1) sa_nil)))) al4)) (ss_one (ss_expr (sx_call lk_fn (kn_look_form T kb nb) (hr.mono (by decide)) (sa_cons (se_ix (se_var 0) se_int) (sa_cons (se_var 1) sa_nil)) al2))))))
def N_look_lines : List Str := ["lines", "deed"]
theorem sc_look_lines : FnScope N_look_lines ["lines"] (defScope (top 26)) := ⟨rfl, rfl, rfl, by decide +kernel, rfl, by decide +kernel, by decide +kernel⟩
theorem kn_look_lines (T : Txt K mg) (kb : K.In base) (nb : base.Ns mainGlobals mg) : Kn P w K mg base 6 "look_lines" 1 f_look_lines := by
  obtain ⟨_, _, _, _, _, _, XX⟩ := T.xc
  exact kn_mk T.d_look_lines kb nb sc_look_lines rfl rfl (by decide) (fun _ _ _ _ _ _ us hl => match us, hl with | [_], _ => rfl) fun f cdv A outer s H E hr =>
      (ss_cons (ss_if (st_w (sw_or (st_not (st_tru (se_isi (T' := "tuple") (by decide) (se_var 0) T.n_isinstance T.n_tuple (by decide +kernel)))) (sw_or1 (st_ne hr (se_len T.n_len (se_var 0)) se_int)))) (ss_one (ss_raise lkf_fn rfl XX.cF XX.xF XX.mF sz_str)) ss_nil) (ss_cons (ss_if (st_not (st_tru (se_call (kn_is_between T kb nb) (hr.mono (by decide)) (sa_cons (se_ix (se_var 0) se_int) (sa_cons se_int (sa_cons (se_globI T.i_MOST_NUMBERS) sa_nil))) al3))) (ss_one (ss_raise lkf_fn rfl XX.cF XX.xF XX.mF (sz_join (szs_cons sz_str (szs_cons (sz_fint (se_globI T.i_MOST_NUMBERS)) (szs_cons sz_str szs_nil)))))) ss_nil) (ss_cons (ss_if (st_w (sw_or (st_not (st_tru (se_isi (T' := "list") (by decide) (se_ix (se_var 0) se_int) T.n_isinstance T.n_list (by decide +kernel)))) (sw_or1 (st_not (st_tru (se_call (kn_is_between T kb nb) (hr.mono (by decide)) (sa_cons (se_len T.n_len (se_ix (se_var 0) se_int)) (sa_cons se_int (sa_cons (se_globI T.i_MOST_DEEDS) sa_nil))) al3)))))) (ss_one (ss_raise lkf_fn rfl XX.cF XX.xF XX.mF (sz_join (szs_cons sz_str (szs_cons (sz_fint (se_globI T.i_MOST_DEEDS)) (szs_cons sz_str szs_nil)))))) ss_nil) (ss_one (ss_for lk_fn.own rfl (si_any (se_ix (se_var 0) se_int)) (pg_n 1 sc_look_lines.nd) tgt_name (ss_one (ss_expr (sx_call lk_fn (kn_look_deed T kb nb) (hr.mono (by decide)) (sa_cons (se_var 1) (sa_cons (se_ix (se_var 0) se_int) sa_nil)) al2))))))))
def N_look_prices : List Str := ["lines", "prices", "price"]
theorem sc_look_prices : FnScope N_look_prices ["lines", "prices"] (defScope (top 27)) := ⟨rfl, rfl, rfl, by decide +kernel, rfl, by decide +kernel, by decide +kernel⟩
theorem kn_look_prices (T : Txt K mg) (kb : K.In base) (nb : base.Ns mainGlobals mg) : Kn P w K mg base 3 "look_prices" 2 f_look_prices := by
  obtain ⟨_, _, _, _, _, _, XX⟩ := T.xc
  exact kn_mk T.d_look_prices kb nb sc_look_prices rfl rfl (by decide) (fun _ _ _ _ _ _ us hl => match us, hl with | [_, _], _ => rfl) fun f cdv A outer s H E hr =>
      (ss_cons (ss_if (st_w (sw_or (st_not (st_tru (se_isi (T' := "list") (by decide) (se_var 1) T.n_isinstance T.n_list (by decide +kernel)))) (sw_or1 (st_ne hr (se_len T.n_len (se_var 1)) (se_len T.n_len (se_ix (se_var 0) se_int)))))) (ss_one (ss_raise lkf_fn rfl XX.cF XX.xF XX.mF sz_str)) ss_nil) (ss_one (ss_for lk_fn.own rfl (si_any (se_var 1)) (pg_n 2 sc_look_prices.nd) tgt_name (ss_one (ss_if (st_not (st_tru (se_call (kn_is_between T kb nb) (hr.mono (by decide)) (sa_cons (se_var 2) (sa_cons (se_neg (se_globI T.i_FARTHEST)) (sa_cons (se_globI T.i_FARTHEST) sa_nil))) al3))) (ss_one (ss_raise lkf_fn rfl XX.cF XX.xF XX.mF (sz_join (szs_cons sz_str (szs_cons (sz_fint (se_globI T.i_FARTHEST)) (szs_cons sz_str (szs_cons (sz_fint (se_globI T.i_FARTHEST)) szs_nil))))))) ss_nil)))))
def N_purse_behind : List Str := ["purse", "changes", "behind", "at"]
theorem sc_purse_behind : FnScope N_purse_behind ["purse", "changes"] (defScope (top 28)) := ⟨rfl, rfl, rfl, by decide +kernel, rfl, by decide +kernel, by decide +kernel⟩
theorem kn_purse_behind : KnT P w K mg base 1 "purse_behind" 2 f_purse_behind := fun T kb nb =>
  kn_mk T.d_purse_behind kb nb sc_purse_behind rfl rfl (by decide) (fun _ _ _ _ _ _ us hl => match us, hl with | [_, _], _ => rfl) fun f cdv A outer s H E hr =>
    (ss_cons (ss_set 2 sc_purse_behind.nd (sx_of (se_lst sa_nil))) (ss_cons (ss_for lk_fn.own rfl (si_range1 T.n_range (sa_cons (se_len T.n_len (se_var 0)) sa_nil)) (pg_n 3 sc_purse_behind.nd) tgt_name (ss_one (ss_append 2 (se_sum rfl T.n_sum (se_compB (defScope (top 28)) N_purse_behind ["number", "change", "purse", "at"] 2 [0, 3] rfl rfl rfl (si_enum T.n_enumerate (se_var 1)) (tgt_tup rfl) (by decide +kernel) fun _ _ _ _ => ⟨(pg_tup rfl (pgs_n (pg_n 0 (show List.Nodup (["number", "change", "purse", "at"] : List Str) from (by decide +kernel))) (pgs_n (pg_n 1 (show List.Nodup (["number", "change", "purse", "at"] : List Str) from (by decide +kernel))) pgs_0)) rfl rfl), pts0, (se_times (se_ix (se_var 2) (se_var 0)) (se_ix (se_var 1) (se_var 3)))⟩))))) (ss_cons (ss_augItem 2 ip_add (se_neg se_int) (se_ix (se_var 0) (se_neg se_int))) (ss_one (ss_retV 2)))))
def N_left_over : List Str := ["deed", "price", "purse", "behind", "over"]
theorem sc_left_over : FnScope N_left_over ["deed", "price", "purse"] (defScope (top 29)) := ⟨rfl, rfl, rfl, by decide +kernel, rfl, by decide +kernel, by decide +kernel⟩
theorem kn_left_over : KnT P w K mg base 2 "left_over" 3 f_left_over := fun T kb nb =>
  kn_mk T.d_left_over kb nb sc_left_over rfl rfl (by decide) (fun _ _ _ _ _ _ us hl => match us, hl with | [_, _, _], _ => rfl) fun f cdv A outer s H E hr =>
    (ss_cons (ss_set 3 sc_left_over.nd (sx_of (se_call (kn_purse_behind T kb nb) (hr.mono (by decide)) (sa_cons (se_var 2) (sa_cons (se_ix (se_var 0) se_int) sa_nil)) al2))) (ss_cons (ss_frz [3] (ss_setCompB 4 sc_left_over.nd (defScope (top 29)) N_left_over ["at", "behind", "purse", "deed"] 1 [3, 2, 0] rfl rfl rfl (si_range1 T.n_range (sa_cons (se_len T.n_len (se_var 2)) sa_nil)) tgt_name (by decide +kernel) fun _ _ _ _ => ⟨(pg_n 0 (show List.Nodup (["at", "behind", "purse", "deed"] : List Str) from (by decide +kernel))), pts0, (se_sub (se_sub (se_ix (se_var 2) (se_var 0)) (se_ix (se_ix (se_var 3) se_int) (se_var 0))) (se_ix (se_var 1) (se_var 0)))⟩)) (ss_cons (ss_augItem 4 ip_add (se_neg se_int) (se_var 1)) (ss_one (ss_retV 4)))))
def N_duties_of : List Str := ["lines", "prices", "purse", "duties", "deed", "price", "change"]
theorem sc_duties_of : FnScope N_duties_of ["lines", "prices", "purse"] (defScope (top 30)) := ⟨rfl, rfl, rfl, by decide +kernel, rfl, by decide +kernel, by decide +kernel⟩
theorem kn_duties_of : KnT P w K mg base 7 "duties_of" 3 f_duties_of := fun T kb nb =>
  kn_mk T.d_duties_of kb nb sc_duties_of rfl rfl (by decide) (fun _ _ _ _ _ _ us hl => match us, hl with | [_, _, _], _ => rfl) fun f cdv A outer s H E hr =>
    (ss_cons (ss_expr (sx_call lk_fn (kn_look_lines T kb nb) (hr.mono (by decide)) (sa_cons (se_var 0) sa_nil) al1)) (ss_cons (ss_expr (sx_call lk_fn (kn_look_prices T kb nb) (hr.mono (by decide)) (sa_cons (se_var 0) (sa_cons (se_var 1) sa_nil)) al2)) (ss_cons (ss_expr (sx_call lk_fn (kn_look_form T kb nb) (hr.mono (by decide)) (sa_cons (se_var 2) (sa_cons (se_ix (se_var 0) se_int) sa_nil)) al2)) (ss_cons (ss_set 3 sc_duties_of.nd (sx_of (se_lst sa_nil))) (ss_cons (ss_for lk_fn.own rfl (si_zip T.n_zip (se_ix (se_var 0) se_int) (se_var 1)) (pg_tup rfl (pgs_n (pg_n 4 sc_duties_of.nd) (pgs_n (pg_n 5 sc_duties_of.nd) pgs_0)) rfl rfl) (tgt_tup rfl) (ss_cons (ss_append 3 (se_tup (sa_cons (se_ix (se_var 4) se_int) (sa_cons (se_call (kn_left_over T kb nb) (hr.mono (by decide)) (sa_cons (se_var 4) (sa_cons (se_var 5) (sa_cons (se_var 2) sa_nil))) al3) sa_nil)))) (ss_one (ss_for lk_fn.own rfl (si_any (se_ix (se_var 4) se_int)) (pg_n 6 sc_duties_of.nd) tgt_name (ss_one (ss_append 3 (se_tup (sa_cons (se_ix (se_var 4) se_int) (sa_cons (se_list T.n_list (se_var 6)) sa_nil))))))))) (ss_cons (ss_append 3 (se_tup (sa_cons (se_lst sa_nil) (sa_cons (se_list T.n_list (se_var 2)) sa_nil)))) (ss_one (ss_retV 3))))))))
def N_with_rests : List Str := ["rows", "bounds", "table", "number", "row", "rests"]
theorem sc_with_rests : FnScope N_with_rests ["rows", "bounds"] (defScope (top 32)) := ⟨rfl, rfl, rfl, by decide +kernel, rfl, by decide +kernel, by decide +kernel⟩
theorem kn_with_rests : KnT P w K mg base 1 "with_rests" 2 f_with_rests := fun T kb nb =>
  kn_mk T.d_with_rests kb nb sc_with_rests rfl rfl (by decide) (fun _ _ _ _ _ _ us hl => match us, hl with | [_, _], _ => rfl) fun f cdv A outer s H E hr =>
    (ss_cons (ss_set 2 sc_with_rests.nd (sx_of (se_lst sa_nil))) (ss_cons (ss_for lk_fn.own rfl (si_enum T.n_enumerate (se_var 0)) (pg_tup rfl (pgs_n (pg_n 3 sc_with_rests.nd) (pgs_n (pg_n 4 sc_with_rests.nd) pgs_0)) rfl rfl) (tgt_tup rfl) (ss_cons (ss_setCompB 5 sc_with_rests.nd (defScope (top 32)) N_with_rests ["other"] 1 [] rfl rfl rfl (si_any (se_var 0)) tgt_name (by decide +kernel) fun _ _ _ _ => ⟨(pg_n 0 (show List.Nodup (["other"] : List Str) from (by decide +kernel))), pts0, se_int⟩) (ss_cons (ss_setItem 5 (se_var 3) se_int) (ss_one (ss_append 2 (se_plus (se_plus (se_var 4) (se_var 5)) (se_lst (sa_cons (se_ix (se_var 1) (se_var 3)) sa_nil)))))))) (ss_one (ss_retV 2))))
def N_row_below : List Str := ["table", "solved", "found", "number", "row"]
theorem sc_row_below : FnScope N_row_below ["table", "solved"] (defScope (top 33)) := ⟨rfl, rfl, rfl, by decide +kernel, rfl, by decide +kernel, by decide +kernel⟩
theorem kn_row_below : KnT P w K mg base 1 "row_below" 2 f_row_below := fun T kb nb =>
  kn_mk T.d_row_below kb nb sc_row_below rfl rfl (by decide) (fun _ _ _ _ _ _ us hl => match us, hl with | [_, _], _ => rfl) fun f cdv A outer s H E hr =>
    (ss_cons (ss_set 2 sc_row_below.nd (sx_of se_non)) (ss_cons (ss_for lk_fn.own rfl (si_enum T.n_enumerate (se_var 0)) (pg_tup rfl (pgs_n (pg_n 3 sc_row_below.nd) (pgs_n (pg_n 4 sc_row_below.nd) pgs_0)) rfl rfl) (tgt_tup rfl) (ss_one (ss_if (st_w (sw_and (st_lt (se_ix (se_var 4) (se_neg se_int)) se_int) (sw_and1 (st_w (sw_or (st_isN (se_var 2) se_non) (sw_or1 (st_lt (se_ix (se_var 1) (se_var 3)) (se_ix (se_var 1) (se_var 2))))))))) (ss_one (ss_set 2 sc_row_below.nd (sx_of (se_var 3)))) ss_nil))) (ss_one (ss_retV 2))))
def N_column_below : List Str := ["row", "column"]
theorem sc_column_below : FnScope N_column_below ["row"] (defScope (top 34)) := ⟨rfl, rfl, rfl, by decide +kernel, rfl, by decide +kernel, by decide +kernel⟩
theorem kn_column_below : KnT P w K mg base 1 "column_below" 1 f_column_below := fun T kb nb =>
  kn_mk T.d_column_below kb nb sc_column_below rfl rfl (by decide) (fun _ _ _ _ _ _ us hl => match us, hl with | [_], _ => rfl) fun f cdv A outer s H E hr =>
    (ss_cons (ss_for lk_fn.own rfl (si_range1 T.n_range (sa_cons (se_sub (se_len T.n_len (se_var 0)) se_int) sa_nil)) (pg_n 1 sc_column_below.nd) tgt_name (ss_one (ss_if (st_lt (se_ix (se_var 0) (se_var 1)) se_int) (ss_one (ss_retV 1)) ss_nil))) (ss_one (ss_ret (sx_of se_non))))
def N_lowered : List Str := ["row", "divisor", "number"]
theorem sc_lowered : FnScope N_lowered ["row"] (defScope (top 35)) := ⟨rfl, rfl, rfl, by decide +kernel, rfl, by decide +kernel, by decide +kernel⟩
theorem kn_lowered : KnT P w K mg base 2 "lowered" 1 f_lowered := fun T kb nb =>
  kn_mk T.d_lowered kb nb sc_lowered rfl rfl (by decide) (fun _ _ _ _ _ _ us hl => match us, hl with | [_], _ => rfl) fun f cdv A outer s H E hr =>
    (ss_cons (ss_set 1 sc_lowered.nd (sx_of se_int)) (ss_cons (ss_for lk_fn.own rfl (si_any (se_var 0)) (pg_n 2 sc_lowered.nd) tgt_name (ss_one (ss_set 1 sc_lowered.nd (sx_of (se_call (kn_common_divisor T kb nb) (hr.mono (by decide)) (sa_cons (se_var 1) (sa_cons (se_var 2) sa_nil)) al2))))) (ss_one (ss_ret (sx_of (se_compB (defScope (top 35)) N_lowered ["number", "divisor"] 1 [1] rfl rfl rfl (si_any (se_var 0)) tgt_name (by decide +kernel) fun _ _ _ _ => ⟨(pg_n 0 (show List.Nodup (["number", "divisor"] : List Str) from (by decide +kernel))), pts0, (se_divB (se_var 0) (se_var 1))⟩))))))
def N_solved_for : List Str := ["table", "at", "column", "turned", "fresh", "number", "row"]
theorem sc_solved_for : FnScope N_solved_for ["table", "at", "column"] (defScope (top 36)) := ⟨rfl, rfl, rfl, by decide +kernel, rfl, by decide +kernel, by decide +kernel⟩
theorem kn_solved_for : KnT P w K mg base 3 "solved_for" 3 f_solved_for := fun T kb nb =>
  kn_mk T.d_solved_for kb nb sc_solved_for rfl rfl (by decide) (fun _ _ _ _ _ _ us hl => match us, hl with | [_, _, _], _ => rfl) fun f cdv A outer s H E hr =>
    (ss_cons (ss_set 3 sc_solved_for.nd (sx_of (se_compB (defScope (top 36)) N_solved_for ["number"] 1 [] rfl rfl rfl (si_any (se_ix (se_var 0) (se_var 1))) tgt_name (by decide +kernel) fun _ _ _ _ => ⟨(pg_n 0 (show List.Nodup (["number"] : List Str) from (by decide +kernel))), pts0, (se_neg (se_var 0))⟩))) (ss_cons (ss_frz [3] (ss_set 4 sc_solved_for.nd (sx_of (se_lst sa_nil)))) (ss_cons (ss_for lk_fn.own rfl (si_enum T.n_enumerate (se_var 0)) (pg_tup rfl (pgs_n (pg_n 5 sc_solved_for.nd) (pgs_n (pg_n 6 sc_solved_for.nd) pgs_0)) rfl rfl) (tgt_tup rfl) (ss_one (ss_if (st_eq hr (se_var 5) (se_var 1)) (ss_one (ss_append 4 (se_var 3))) (ss_one (ss_append 4 (se_call (kn_lowered T kb nb) (hr.mono (by decide)) (sa_cons (se_compB (defScope (top 36)) N_solved_for ["one", "other", "turned", "column", "row"] 2 [3, 2, 6] rfl rfl rfl (si_zip T.n_zip (se_var 6) (se_var 3)) (tgt_tup rfl) (by decide +kernel) fun _ _ _ _ => ⟨(pg_tup rfl (pgs_n (pg_n 0 (show List.Nodup (["one", "other", "turned", "column", "row"] : List Str) from (by decide +kernel))) (pgs_n (pg_n 1 (show List.Nodup (["one", "other", "turned", "column", "row"] : List Str) from (by decide +kernel))) pgs_0)) rfl rfl), pts0, (se_sub (se_times (se_var 0) (se_ix (se_var 2) (se_var 3))) (se_times (se_ix (se_var 4) (se_var 3)) (se_var 1)))⟩) sa_nil) al1)))))) (ss_one (ss_retV 4)))))
def N_shares_told : List Str := ["table", "solved", "many", "shares", "number", "column"]
theorem sc_shares_told : FnScope N_shares_told ["table", "solved", "many"] (defScope (top 37)) := ⟨rfl, rfl, rfl, by decide +kernel, rfl, by decide +kernel, by decide +kernel⟩
theorem kn_shares_told : KnT P w K mg base 3 "shares_told" 3 f_shares_told := fun T kb nb =>
  kn_mk T.d_shares_told kb nb sc_shares_told rfl rfl (by decide) (fun _ _ _ _ _ _ us hl => match us, hl with | [_, _, _], _ => rfl) fun f cdv A outer s H E hr =>
    (ss_cons (ss_setCompB 3 sc_shares_told.nd (defScope (top 37)) N_shares_told ["column"] 1 [] rfl rfl rfl (si_range1 T.n_range (sa_cons (se_var 2) sa_nil)) tgt_name (by decide +kernel) fun _ _ _ _ => ⟨(pg_n 0 (show List.Nodup (["column"] : List Str) from (by decide +kernel))), pts0, (se_globTT T.t_NOUGHT (by decide))⟩) (ss_cons (ss_for lk_fn.own rfl (si_enum T.n_enumerate (se_var 1)) (pg_tup rfl (pgs_n (pg_n 4 sc_shares_told.nd) (pgs_n (pg_n 5 sc_shares_told.nd) pgs_0)) rfl rfl) (tgt_tup rfl) (ss_one (ss_if (st_lt (se_var 5) (se_var 2)) (ss_one (ss_setItem 3 (se_var 5) (se_call (kn_fraction T kb nb) (hr.mono (by decide)) (sa_cons (se_ix (se_ix (se_var 0) (se_var 4)) (se_neg se_int)) (sa_cons (se_ix (se_ix (se_var 0) (se_var 4)) (se_var 5)) sa_nil)) al2))) ss_nil))) (ss_one (ss_retV 3))))
def N_shares_or_weights : List Str := ["rows", "bounds", "many", "table", "solved", "at", "column"]
theorem sc_shares_or_weights : FnScope N_shares_or_weights ["rows", "bounds"] (defScope (top 38)) := ⟨rfl, rfl, rfl, by decide +kernel, rfl, by decide +kernel, by decide +kernel⟩
theorem kn_shares_or_weights : KnT P w K mg base 4 "shares_or_weights" 2 f_shares_or_weights := fun T kb nb =>
  kn_mk T.d_shares_or_weights kb nb sc_shares_or_weights rfl rfl (by decide) (fun _ _ _ _ _ _ us hl => match us, hl with | [_, _], _ => rfl) fun f cdv A outer s H E hr =>
    (ss_cons (ss_set 2 sc_shares_or_weights.nd (sx_of (se_len T.n_len (se_ix (se_var 0) se_int)))) (ss_cons (ss_set 3 sc_shares_or_weights.nd (sx_of (se_call (kn_with_rests T kb nb) (hr.mono (by decide)) (sa_cons (se_var 0) (sa_cons (se_var 1) sa_nil)) al2))) (ss_cons (ss_setCompB 4 sc_shares_or_weights.nd (defScope (top 38)) N_shares_or_weights ["number", "many"] 1 [2] rfl rfl rfl (si_range1 T.n_range (sa_cons (se_len T.n_len (se_var 0)) sa_nil)) tgt_name (by decide +kernel) fun _ _ _ _ => ⟨(pg_n 0 (show List.Nodup (["number", "many"] : List Str) from (by decide +kernel))), pts0, (se_plus (se_var 1) (se_var 0))⟩) (ss_cons (ss_set 5 sc_shares_or_weights.nd (sx_of (se_call (kn_row_below T kb nb) (hr.mono (by decide)) (sa_cons (se_var 3) (sa_cons (se_var 4) sa_nil)) al2))) (ss_cons (ss_while fuel lk_fn.own (st_notN (se_var 5) se_non) (ss_cons (ss_frz [3] (ss_set 6 sc_shares_or_weights.nd (sx_of (se_call (kn_column_below T kb nb) (hr.mono (by decide)) (sa_cons (se_ix (se_var 3) (se_var 5)) sa_nil) al1)))) (ss_cons (ss_if (st_isN (se_var 6) se_non) (ss_one (ss_ret (sx_of (se_tup (sa_cons se_str (sa_cons (se_sl (se_ix (se_var 3) (se_var 5)) (so_int (se_var 2)) (so_int (se_neg se_int))) sa_nil)))))) ss_nil) (ss_cons (ss_set 3 sc_shares_or_weights.nd (sx_of (se_call (kn_solved_for T kb nb) (hr.mono (by decide)) (sa_cons (se_var 3) (sa_cons (se_var 5) (sa_cons (se_var 6) sa_nil))) al3))) (ss_cons (ss_setItem 4 (se_var 5) (se_var 6)) (ss_one (ss_set 5 sc_shares_or_weights.nd (sx_of (se_call (kn_row_below T kb nb) (hr.mono (by decide)) (sa_cons (se_var 3) (sa_cons (se_var 4) sa_nil)) al2))))))))) (ss_one (ss_frz [3, 4] (ss_ret (sx_of (se_tup (sa_cons se_str (sa_cons (se_call (kn_shares_told T kb nb) (hr.mono (by decide)) (sa_cons (se_var 3) (sa_cons (se_var 4) (sa_cons (se_var 2) sa_nil))) al3) sa_nil))))))))))))
def N_guards_at : List Str := ["guards", "at"]
theorem sc_guards_at : FnScope N_guards_at ["guards", "at"] (defScope (top 40)) := ⟨rfl, rfl, rfl, by decide +kernel, rfl, by decide +kernel, by decide +kernel⟩
theorem kn_guards_at : KnT P w K mg base 1 "guards_at" 2 f_guards_at := fun T kb nb =>
  kn_mk T.d_guards_at kb nb sc_guards_at rfl rfl (by decide) (fun _ _ _ _ _ _ us hl => match us, hl with | [_, _], _ => rfl) fun f cdv A outer s H E hr =>
    (ss_one (ss_ret (sx_of (se_compB (defScope (top 40)) N_guards_at ["guard", "at"] 1 [1] rfl rfl rfl (si_any (se_var 0)) tgt_name (by decide +kernel) fun _ _ _ _ => ⟨(pg_n 0 (show List.Nodup (["guard", "at"] : List Str) from (by decide +kernel))), pts0, (se_ix (se_var 0) (se_var 1))⟩))))
def N_bounds_by : List Str := ["word", "form"]
theorem sc_bounds_by : FnScope N_bounds_by ["word", "form"] (defScope (top 41)) := ⟨rfl, rfl, rfl, by decide +kernel, rfl, by decide +kernel, by decide +kernel⟩
theorem kn_bounds_by : KnT P w K mg base 1 "bounds_by" 2 f_bounds_by := fun T kb nb =>
  kn_mk T.d_bounds_by kb nb sc_bounds_by rfl rfl (by decide) (fun _ _ _ _ _ _ us hl => match us, hl with | [_, _], _ => rfl) fun f cdv A outer s H E hr =>
    (ss_cons (ss_if (st_eq hr (se_var 0) se_str) (ss_one (ss_retV 1)) ss_nil) (ss_one (ss_ret (sx_of (se_plus (se_compB (defScope (top 41)) N_bounds_by ["number"] 1 [] rfl rfl rfl (si_any (se_sl (se_var 1) so_none (so_int (se_neg se_int)))) tgt_name (by decide +kernel) fun _ _ _ _ => ⟨(pg_n 0 (show List.Nodup (["number"] : List Str) from (by decide +kernel))), pts0, se_int⟩) (se_lst (sa_cons (se_neg se_int) sa_nil)))))))
def N_worth_of : List Str := ["form", "weights"]
theorem sc_worth_of : FnScope N_worth_of ["form", "weights"] (defScope (top 42)) := ⟨rfl, rfl, rfl, by decide +kernel, rfl, by decide +kernel, by decide +kernel⟩
theorem kn_worth_of : KnT P w K mg base 1 "worth_of" 2 f_worth_of := fun T kb nb =>
  kn_mk T.d_worth_of kb nb sc_worth_of rfl rfl (by decide) (fun _ _ _ _ _ _ us hl => match us, hl with | [_, _], _ => rfl) fun f cdv A outer s H E hr =>
    (ss_one (ss_ret (sx_of (se_sum rfl T.n_sum (se_compB (defScope (top 42)) N_worth_of ["number", "weight"] 2 [] rfl rfl rfl (si_zip T.n_zip (se_var 0) (se_var 1)) (tgt_tup rfl) (by decide +kernel) fun _ _ _ _ => ⟨(pg_tup rfl (pgs_n (pg_n 0 (show List.Nodup (["number", "weight"] : List Str) from (by decide +kernel))) (pgs_n (pg_n 1 (show List.Nodup (["number", "weight"] : List Str) from (by decide +kernel))) pgs_0)) rfl rfl), pts0, (se_times (se_var 0) (se_var 1))⟩)))))
def N_gone_far : List Str := ["form", "start", "onward", "steps"]
theorem sc_gone_far : FnScope N_gone_far ["form", "start", "onward"] (defScope (top 43)) := ⟨rfl, rfl, rfl, by decide +kernel, rfl, by decide +kernel, by decide +kernel⟩
theorem kn_gone_far : KnT P w K mg base 2 "gone_far" 3 f_gone_far := fun T kb nb =>
  kn_mk T.d_gone_far kb nb sc_gone_far rfl rfl (by decide) (fun _ _ _ _ _ _ us hl => match us, hl with | [_, _, _], _ => rfl) fun f cdv A outer s H E hr =>
    (ss_cons (ss_set 3 sc_gone_far.nd (sx_of (se_max2 rfl T.n_max se_int (se_plus (se_divB (se_call (kn_worth_of T kb nb) (hr.mono (by decide)) (sa_cons (se_var 0) (sa_cons (se_var 1) sa_nil)) al2) (se_neg (se_call (kn_worth_of T kb nb) (hr.mono (by decide)) (sa_cons (se_var 0) (sa_cons (se_var 2) sa_nil)) al2))) se_int)))) (ss_one (ss_ret (sx_of (se_compB (defScope (top 43)) N_gone_far ["one", "other", "steps"] 2 [3] rfl rfl rfl (si_zip T.n_zip (se_var 1) (se_var 2)) (tgt_tup rfl) (by decide +kernel) fun _ _ _ _ => ⟨(pg_tup rfl (pgs_n (pg_n 0 (show List.Nodup (["one", "other", "steps"] : List Str) from (by decide +kernel))) (pgs_n (pg_n 1 (show List.Nodup (["one", "other", "steps"] : List Str) from (by decide +kernel))) pgs_0)) rfl rfl), pts0, (se_plus (se_var 0) (se_times (se_var 2) (se_var 1)))⟩)))))
def N_point_of : List Str := ["weights"]
theorem sc_point_of : FnScope N_point_of ["weights"] (defScope (top 44)) := ⟨rfl, rfl, rfl, by decide +kernel, rfl, by decide +kernel, by decide +kernel⟩
theorem kn_point_of : KnT P w K mg base 3 "point_of" 1 f_point_of := fun T kb nb =>
  kn_mk T.d_point_of kb nb sc_point_of rfl rfl (by decide) (fun _ _ _ _ _ _ us hl => match us, hl with | [_], _ => rfl) fun f cdv A outer s H E hr =>
    (ss_one (ss_ret (sx_of (se_compB (defScope (top 44)) N_point_of ["weight", "weights"] 1 [0] rfl rfl rfl (si_any (se_sl (se_var 0) so_none (so_int (se_neg se_int)))) tgt_name (by decide +kernel) fun _ _ _ _ => ⟨(pg_n 0 (show List.Nodup (["weight", "weights"] : List Str) from (by decide +kernel))), pts0, (se_call (kn_fraction T kb nb) (hr.mono (by decide)) (sa_cons (se_var 0) (sa_cons (se_ix (se_var 1) (se_neg se_int)) sa_nil)) al2)⟩))))
def N_paper_or_point : List Str := ["guards", "form", "rows", "found", "kept"]
theorem sc_paper_or_point : FnScope N_paper_or_point ["guards", "form"] (defScope (top 45)) := ⟨rfl, rfl, rfl, by decide +kernel, rfl, by decide +kernel, by decide +kernel⟩
theorem kn_paper_or_point : KnT P w K mg base 5 "paper_or_point" 2 f_paper_or_point := fun T kb nb =>
  kn_mk T.d_paper_or_point kb nb sc_paper_or_point rfl rfl (by decide) (fun _ _ _ _ _ _ us hl => match us, hl with | [_, _], _ => rfl) fun f cdv A outer s H E hr =>
    (ss_cons (ss_setCompB 2 sc_paper_or_point.nd (defScope (top 45)) N_paper_or_point ["at", "guards"] 1 [0] rfl rfl rfl (si_range1 T.n_range (sa_cons (se_len T.n_len (se_var 1)) sa_nil)) tgt_name (by decide +kernel) fun _ _ _ _ => ⟨(pg_n 0 (show List.Nodup (["at", "guards"] : List Str) from (by decide +kernel))), pts0, (se_call (kn_guards_at T kb nb) (hr.mono (by decide)) (sa_cons (se_var 1) (sa_cons (se_var 0) sa_nil)) al2)⟩) (ss_cons (ss_frz [2] (ss_set 3 sc_paper_or_point.nd (sx_of (se_call (kn_shares_or_weights T kb nb) (hr.mono (by decide)) (sa_cons (se_var 2) (sa_cons (se_call (kn_bounds_by T kb nb) (hr.mono (by decide)) (sa_cons se_str (sa_cons (se_var 1) sa_nil)) al2) sa_nil)) al2)))) (ss_cons (ss_if (st_eq hr (se_ix (se_var 3) se_int) se_str) (ss_one (ss_ret (sx_of (se_tup (sa_cons se_str (sa_cons (se_ix (se_var 3) se_int) sa_nil)))))) ss_nil) (ss_cons (ss_if (st_gt (se_ix (se_ix (se_var 3) se_int) (se_neg se_int)) se_int) (ss_one (ss_ret (sx_of (se_tup (sa_cons se_str (sa_cons (se_call (kn_point_of T kb nb) (hr.mono (by decide)) (sa_cons (se_ix (se_var 3) se_int) sa_nil) al1) sa_nil)))))) ss_nil) (ss_cons (ss_set 4 sc_paper_or_point.nd (sx_of (se_call (kn_shares_or_weights T kb nb) (hr.mono (by decide)) (sa_cons (se_var 2) (sa_cons (se_call (kn_bounds_by T kb nb) (hr.mono (by decide)) (sa_cons se_str (sa_cons (se_var 1) sa_nil)) al2) sa_nil)) al2))) (ss_cons (ss_if (st_eq hr (se_ix (se_var 4) se_int) se_str) (ss_one (ss_ret (sx_of (se_tup (sa_cons se_str (sa_cons (se_ix (se_var 4) se_int) sa_nil)))))) ss_nil) (ss_one (ss_ret (sx_of (se_tup (sa_cons se_str (sa_cons (se_call (kn_point_of T kb nb) (hr.mono (by decide)) (sa_cons (se_call (kn_gone_far T kb nb) (hr.mono (by decide)) (sa_cons (se_var 1) (sa_cons (se_ix (se_var 4) se_int) (sa_cons (se_ix (se_var 3) se_int) sa_nil))) al3) sa_nil) al1) sa_nil))))))))))))
def N_settled : List Str := ["lines", "prices", "purse", "papers", "number", "duty", "found"]
theorem sc_settled : FnScope N_settled ["lines", "prices", "purse"] (defScope (top 46)) := ⟨rfl, rfl, rfl, by decide +kernel, rfl, by decide +kernel, by decide +kernel⟩
theorem kn_settled : KnT P w K mg base 8 "settled" 3 f_settled := fun T kb nb =>
  kn_mk T.d_settled kb nb sc_settled rfl rfl (by decide) (fun _ _ _ _ _ _ us hl => match us, hl with | [_, _, _], _ => rfl) fun f cdv A outer s H E hr =>
    (ss_cons (ss_set 3 sc_settled.nd (sx_of (se_lst sa_nil))) (ss_cons (ss_forC lk_fn rfl T.n_enumerate (kn_duties_of T kb nb) (hr.mono (by decide)) (sa_cons (se_var 0) (sa_cons (se_var 1) (sa_cons (se_var 2) sa_nil))) al3 (pg_tup rfl (pgs_n (pg_n 4 sc_settled.nd) (pgs_n (pg_n 5 sc_settled.nd) pgs_0)) rfl rfl) (tgt_tup rfl) (ss_cons (ss_set 6 sc_settled.nd (sx_of (se_call (kn_paper_or_point T kb nb) (hr.mono (by decide)) (sa_cons (se_ix (se_var 5) se_int) (sa_cons (se_ix (se_var 5) se_int) sa_nil)) al2))) (ss_cons (ss_if (st_eq hr (se_ix (se_var 6) se_int) se_str) (ss_one (ss_ret (sx_of (se_tup (sa_cons se_str (sa_cons (se_var 4) (sa_cons (se_ix (se_var 6) se_int) sa_nil))))))) ss_nil) (ss_one (ss_append 3 (se_var 6)))))) (ss_one (ss_frz [3] (ss_ret (sx_of (se_tup (sa_cons se_str (sa_cons (se_var 3) sa_nil)))))))))
def N_is_so : List Str := ["guards", "form", "paper", "word", "shares", "at", "bound"]
theorem sc_is_so : FnScope N_is_so ["guards", "form", "paper"] (defScope (top 47)) := ⟨rfl, rfl, rfl, by decide +kernel, rfl, by decide +kernel, by decide +kernel⟩
theorem kn_is_so : KnT P w K mg base 5 "is_so" 3 f_is_so := fun T kb nb =>
  kn_mk T.d_is_so kb nb sc_is_so rfl rfl (by decide) (fun _ _ _ _ _ _ us hl => match us, hl with | [_, _, _], _ => rfl) fun f cdv A outer s H E hr =>
    (ss_cons (ss_set 3 sc_is_so.nd (sx_of (se_ix (se_var 2) se_int))) (ss_cons (ss_set 4 sc_is_so.nd (sx_of (se_ix (se_var 2) se_int))) (ss_cons (ss_if (st_w (sw_and (st_ne hr (se_var 3) se_str) (sw_and1 (st_ne hr (se_var 3) se_str)))) (ss_one (ss_ret (sx_of se_bl))) ss_nil) (ss_cons (ss_if (st_w (sw_or (st_ne hr (se_len T.n_len (se_var 4)) (se_len T.n_len (se_var 0))) (sw_or1 (st_not (st_tru (se_call (kn_are_from_nought T kb nb) (hr.mono (by decide)) (sa_cons (se_var 4) sa_nil) al1)))))) (ss_one (ss_ret (sx_of se_bl))) ss_nil) (ss_cons (ss_for lk_fn.own rfl (si_enum T.n_enumerate (se_call (kn_bounds_by T kb nb) (hr.mono (by decide)) (sa_cons (se_var 3) (sa_cons (se_var 1) sa_nil)) al2)) (pg_tup rfl (pgs_n (pg_n 5 sc_is_so.nd) (pgs_n (pg_n 6 sc_is_so.nd) pgs_0)) rfl rfl) (tgt_tup rfl) (ss_one (ss_if (st_tru (se_call (kn_is_less T kb nb) (hr.mono (by decide)) (sa_cons (se_tup (sa_cons (se_var 6) (sa_cons se_int sa_nil))) (sa_cons (se_call (kn_weighed T kb nb) (hr.mono (by decide)) (sa_cons (se_var 4) (sa_cons (se_call (kn_guards_at T kb nb) (hr.mono (by decide)) (sa_cons (se_var 0) (sa_cons (se_var 5) sa_nil)) al2) sa_nil)) al2) sa_nil)) al2)) (ss_one (ss_ret (sx_of se_bl))) ss_nil))) (ss_one (ss_ret (sx_of se_bl))))))))
def N_shows : List Str := ["lines", "prices", "purse", "papers", "duties"]
theorem sc_shows : FnScope N_shows ["lines", "prices", "purse", "papers"] (defScope (top 48)) := ⟨rfl, rfl, rfl, by decide +kernel, rfl, by decide +kernel, by decide +kernel⟩
theorem kn_shows : KnT P w K mg base 8 "shows" 4 f_shows := fun T kb nb =>
  kn_mk T.d_shows kb nb sc_shows rfl rfl (by decide) (fun _ _ _ _ _ _ us hl => match us, hl with | [_, _, _, _], _ => rfl) fun f cdv A outer s H E hr =>
    (ss_cons (ss_set 4 sc_shows.nd (sx_call lk_fn (kn_duties_of T kb nb) (hr.mono (by decide)) (sa_cons (se_var 0) (sa_cons (se_var 1) (sa_cons (se_var 2) sa_nil))) al3)) (ss_cons (ss_if (st_ne hr (se_len T.n_len (se_var 3)) (se_len T.n_len (se_var 4))) (ss_one (ss_ret (sx_of se_bl))) ss_nil) (ss_one (ss_frz [4] (ss_ret (sx_of (se_all rfl T.n_all (se_compB (defScope (top 48)) N_shows ["duty", "paper"] 2 [] rfl rfl rfl (si_zip T.n_zip (se_var 4) (se_var 3)) (tgt_tup rfl) (by decide +kernel) fun _ _ _ _ => ⟨(pg_tup rfl (pgs_n (pg_n 0 (show List.Nodup (["duty", "paper"] : List Str) from (by decide +kernel))) (pgs_n (pg_n 1 (show List.Nodup (["duty", "paper"] : List Str) from (by decide +kernel))) pgs_0)) rfl rfl), pts0, (se_call (kn_is_so T kb nb) (hr.mono (by decide)) (sa_cons (se_ix (se_var 0) se_int) (sa_cons (se_ix (se_var 0) se_int) (sa_cons (se_var 1) sa_nil))) al3)⟩))))))))
def N_worth_at : List Str := ["form", "point"]
theorem sc_worth_at : FnScope N_worth_at ["form", "point"] (defScope (top 49)) := ⟨rfl, rfl, rfl, by decide +kernel, rfl, by decide +kernel, by decide +kernel⟩
theorem kn_worth_at : KnT P w K mg base 5 "worth_at" 2 f_worth_at := fun T kb nb =>
  kn_mk T.d_worth_at kb nb sc_worth_at rfl rfl (by decide) (fun _ _ _ _ _ _ us hl => match us, hl with | [_, _], _ => rfl) fun f cdv A outer s H E hr =>
    (ss_one (ss_ret (sx_of (se_call (kn_weighed T kb nb) (hr.mono (by decide)) (sa_cons (se_plus (se_var 1) (se_lst (sa_cons (se_tup (sa_cons se_int (sa_cons se_int sa_nil))) sa_nil))) (sa_cons (se_var 0) sa_nil)) al2))))
def N_fails_at : List Str := ["lines", "prices", "purse", "number", "point", "duties", "guard"]
theorem sc_fails_at : FnScope N_fails_at ["lines", "prices", "purse", "number", "point"] (defScope (top 50)) := ⟨rfl, rfl, rfl, by decide +kernel, rfl, by decide +kernel, by decide +kernel⟩
theorem kn_fails_at : KnT P w K mg base 8 "fails_at" 5 f_fails_at := fun T kb nb =>
  kn_mk T.d_fails_at kb nb sc_fails_at rfl rfl (by decide) (fun _ _ _ _ _ _ us hl => match us, hl with | [_, _, _, _, _], _ => rfl) fun f cdv A outer s H E hr =>
    (ss_cons (ss_set 5 sc_fails_at.nd (sx_call lk_fn (kn_duties_of T kb nb) (hr.mono (by decide)) (sa_cons (se_var 0) (sa_cons (se_var 1) (sa_cons (se_var 2) sa_nil))) al3)) (ss_cons (ss_if (st_not (st_tru (se_call (kn_is_between T kb nb) (hr.mono (by decide)) (sa_cons (se_var 3) (sa_cons se_int (sa_cons (se_sub (se_len T.n_len (se_var 5)) se_int) sa_nil))) al3))) (ss_one (ss_ret (sx_of se_bl))) ss_nil) (ss_cons (ss_if (st_w (sw_or (st_ne hr (se_len T.n_len (se_var 4)) (se_ix (se_var 0) se_int)) (sw_or1 (st_not (st_tru (se_call (kn_are_from_nought T kb nb) (hr.mono (by decide)) (sa_cons (se_var 4) sa_nil) al1)))))) (ss_one (ss_ret (sx_of se_bl))) ss_nil) (ss_cons (ss_for lk_fn.own rfl (si_any (se_ix (se_ix (se_var 5) (se_var 3)) se_int)) (pg_n 6 sc_fails_at.nd) tgt_name (ss_one (ss_if (st_lt (se_ix (se_call (kn_worth_at T kb nb) (hr.mono (by decide)) (sa_cons (se_var 6) (sa_cons (se_var 4) sa_nil)) al2) se_int) se_int) (ss_one (ss_ret (sx_of se_bl))) ss_nil))) (ss_one (ss_ret (sx_of (se_lt (se_ix (se_call (kn_worth_at T kb nb) (hr.mono (by decide)) (sa_cons (se_ix (se_ix (se_var 5) (se_var 3)) se_int) (sa_cons (se_var 4) sa_nil)) al2) se_int) se_int))))))))
def N_q_cell : List Str := ["_law_script", "_law_k"]
theorem sc_q_cell : FnScope N_q_cell ["_law_script", "_law_k"] (defScope (top 52)) := ⟨rfl, rfl, rfl, by decide +kernel, rfl, by decide +kernel, by decide +kernel⟩
theorem kn_q_cell : KnT P w K mg base 1 "_law_cell" 2 f_q_cell := fun T kb nb =>
  kn_mk T.d_q_cell kb nb sc_q_cell rfl rfl (by decide) (fun _ _ _ _ _ _ us hl => match us, hl with | [_, _], _ => rfl) fun f cdv A outer s H E hr =>
    (ss_cons (ss_if (st_tru (se_var 0)) (ss_one (ss_ret (sx_of (se_ix (se_var 0) (se_mod (se_var 1) (se_len T.n_len (se_var 0))))))) ss_nil) (ss_one (ss_ret (sx_of se_int))))
def N_q_mix : List Str := ["_law_script", "_law_k", "_law_number"]
theorem sc_q_mix : FnScope N_q_mix ["_law_script", "_law_k"] (defScope (top 53)) := ⟨rfl, rfl, rfl, by decide +kernel, rfl, by decide +kernel, by decide +kernel⟩
theorem kn_q_mix : KnT P w K mg base 2 "_law_mix" 2 f_q_mix := fun T kb nb =>
  kn_mk T.d_q_mix kb nb sc_q_mix rfl rfl (by decide) (fun _ _ _ _ _ _ us hl => match us, hl with | [_, _], _ => rfl) fun f cdv A outer s H E hr =>
    (ss_cons (ss_set 2 sc_q_mix.nd (sx_of (se_mod (se_plus (se_call (kn_q_cell T kb nb) (hr.mono (by decide)) (sa_cons (se_var 0) (sa_cons (se_var 1) sa_nil)) al2) (se_times se_int (se_plus (se_var 1) se_int))) se_int))) (ss_cons (ss_set 2 sc_q_mix.nd (sx_of (se_mod (se_times (se_var 2) se_int) se_int))) (ss_one (ss_ret (sx_of (se_mod (se_plus (se_times (se_divB (se_var 2) se_int) se_int) (se_var 2)) se_int))))))
def N_q_form : List Str := ["_law_script", "_law_k", "_law_many", "_law_low", "_law_found", "_law_j", "_law_number"]
theorem sc_q_form : FnScope N_q_form ["_law_script", "_law_k", "_law_many", "_law_low"] (defScope (top 54)) := ⟨rfl, rfl, rfl, by decide +kernel, rfl, by decide +kernel, by decide +kernel⟩
theorem kn_q_form : KnT P w K mg base 3 "_law_form" 4 f_q_form := fun T kb nb =>
  kn_mk T.d_q_form kb nb sc_q_form rfl rfl (by decide) (fun _ _ _ _ _ _ us hl => match us, hl with | [_, _, _, _], _ => rfl) fun f cdv A outer s H E hr =>
    (ss_cons (ss_set 4 sc_q_form.nd (sx_of (se_lst sa_nil))) (ss_cons (ss_for lk_fn.own rfl (si_range1 T.n_range (sa_cons (se_plus (se_var 2) se_int) sa_nil)) (pg_n 5 sc_q_form.nd) tgt_name (ss_cons (ss_set 6 sc_q_form.nd (sx_of (se_call (kn_q_mix T kb nb) (hr.mono (by decide)) (sa_cons (se_var 0) (sa_cons (se_plus (se_var 1) (se_var 5)) sa_nil)) al2))) (ss_one (ss_append 4 (se_ix (se_lst (sa_cons se_int (sa_cons se_int (sa_cons se_int (sa_cons (se_neg se_int) (sa_cons se_int (sa_cons (se_sub (se_mod (se_divB (se_var 6) se_int) se_int) se_int) sa_nil))))))) (se_mod (se_var 6) se_int)))))) (ss_cons (ss_if (st_tru (se_var 3)) (ss_one (ss_setItem 4 (se_neg se_int) (se_abs T.n_abs (se_ix (se_var 4) (se_neg se_int))))) ss_nil) (ss_one (ss_ret (sx_of (se_tuple T.n_tuple (se_var 4))))))))
def N_q_lines : List Str := ["_law_script", "_law_k", "_law_many", "_law_deeds", "_law_j", "_law_guards", "_law_i", "_law_changes", "_law_number", "_law_plain", "_law_drawn"]
theorem sc_q_lines : FnScope N_q_lines ["_law_script", "_law_k"] (defScope (top 55)) := ⟨rfl, rfl, rfl, by decide +kernel, rfl, by decide +kernel, by decide +kernel⟩
theorem kn_q_lines : KnT P w K mg base 4 "_law_lines" 2 f_q_lines := fun T kb nb =>
  kn_mk T.d_q_lines kb nb sc_q_lines rfl rfl (by decide) (fun _ _ _ _ _ _ us hl => match us, hl with | [_, _], _ => rfl) fun f cdv A outer s H E hr =>
    (ss_cons (ss_set 2 sc_q_lines.nd (sx_of (se_plus se_int (se_mod (se_call (kn_q_mix T kb nb) (hr.mono (by decide)) (sa_cons (se_var 0) (sa_cons (se_var 1) sa_nil)) al2) se_int)))) (ss_cons (ss_set 3 sc_q_lines.nd (sx_of (se_lst sa_nil))) (ss_cons (ss_for lk_fn.own rfl (si_range1 T.n_range (sa_cons (se_plus se_int (se_mod (se_call (kn_q_mix T kb nb) (hr.mono (by decide)) (sa_cons (se_var 0) (sa_cons (se_plus (se_var 1) se_int) sa_nil)) al2) se_int)) sa_nil)) (pg_n 4 sc_q_lines.nd) tgt_name (ss_cons (ss_set 5 sc_q_lines.nd (sx_of (se_lst sa_nil))) (ss_cons (ss_for lk_fn.own rfl (si_range1 T.n_range (sa_cons (se_mod (se_call (kn_q_mix T kb nb) (hr.mono (by decide)) (sa_cons (se_var 0) (sa_cons (se_plus (se_plus (se_var 1) se_int) (se_var 4)) sa_nil)) al2) se_int) sa_nil)) (pg_n 6 sc_q_lines.nd) tgt_name (ss_one (ss_append 5 (se_call (kn_q_form T kb nb) (hr.mono (by decide)) (sa_cons (se_var 0) (sa_cons (se_plus (se_plus (se_plus (se_var 1) se_int) (se_times se_int (se_var 4))) (se_times se_int (se_var 6))) (sa_cons (se_var 2) (sa_cons se_bl sa_nil)))) al4)))) (ss_cons (ss_set 7 sc_q_lines.nd (sx_of (se_lst sa_nil))) (ss_cons (ss_for lk_fn.own rfl (si_range1 T.n_range (sa_cons (se_var 2) sa_nil)) (pg_n 6 sc_q_lines.nd) tgt_name (ss_cons (ss_set 8 sc_q_lines.nd (sx_of (se_call (kn_q_mix T kb nb) (hr.mono (by decide)) (sa_cons (se_var 0) (sa_cons (se_plus (se_plus (se_plus (se_var 1) se_int) (se_times se_int (se_var 4))) (se_var 6)) sa_nil)) al2))) (ss_cons (ss_set 9 sc_q_lines.nd (sx_of (se_times (se_lst (sa_cons se_int sa_nil)) (se_plus (se_var 2) se_int)))) (ss_cons (ss_setItem 9 (se_var 6) se_int) (ss_cons (ss_setItem 9 (se_neg se_int) (se_sub (se_mod (se_divB (se_var 8) se_int) se_int) se_int)) (ss_cons (ss_set 10 sc_q_lines.nd (sx_of (se_call (kn_q_form T kb nb) (hr.mono (by decide)) (sa_cons (se_var 0) (sa_cons (se_plus (se_plus (se_plus (se_var 1) se_int) (se_times se_int (se_var 4))) (se_times se_int (se_var 6))) (sa_cons (se_var 2) (sa_cons se_bl sa_nil)))) al4))) (ss_cons (ss_append 7 (se_if (st_gt (se_mod (se_var 8) se_int) se_int) (se_tuple T.n_tuple (se_var 9)) (se_var 10))) (ss_one (ss_if (st_w (sw_and (st_lt (se_ix (se_var 9) (se_neg se_int)) se_int) (sw_and1 (st_gt (se_mod (se_var 8) se_int) se_int)))) (ss_one (ss_append 5 (se_tuple T.n_tuple (se_var 9)))) ss_nil))))))))) (ss_one (ss_frz [7] (ss_append 3 (se_tup (sa_cons (se_sl (se_var 5) so_none (so_int se_int)) (sa_cons (se_var 7) (sa_cons (se_call (kn_q_form T kb nb) (hr.mono (by decide)) (sa_cons (se_var 0) (sa_cons (se_plus (se_plus (se_var 1) se_int) (se_times se_int (se_var 4))) (sa_cons (se_var 2) (sa_cons se_bl sa_nil)))) al4) sa_nil)))))))))))) (ss_one (ss_frz [3] (ss_ret (sx_of (se_tup (sa_cons (se_var 2) (sa_cons (se_var 3) sa_nil))))))))))
def N_q_refusal : List Str := ["_law_kept", "_law_kinds"]
theorem sc_q_refusal : FnScope N_q_refusal ["_law_kept"] (defScope (top 56)) := ⟨rfl, rfl, rfl, by decide +kernel, rfl, by decide +kernel, by decide +kernel⟩
theorem kn_q_refusal (T : Txt K mg) (kb : K.In base) (nb : base.Ns mainGlobals mg) : Kn P w K mg base 1 "_law_refusal" 1 f_q_refusal := by
  obtain ⟨_, _, _, _, _, _, XX⟩ := T.xc
  exact kn_mk T.d_q_refusal kb nb sc_q_refusal rfl rfl (by decide) (fun _ _ _ _ _ _ us hl => match us, hl with | [_], _ => rfl) fun f cdv A outer s H E hr =>
      (ss_cons (ss_if (st_isN (se_var 0) se_non) (ss_one (ss_ret (sx_of se_str))) ss_nil) (ss_cons (ss_set 1 sc_q_refusal.nd (sx_of (se_lst (sa_cons (se_isx (pe_glob rfl XX.mM (show RelV (.ref _) _ from rfl)) (fun _ h => h) XX.fM (se_var 0) T.n_isinstance) (sa_cons (se_isx (pe_glob rfl XX.mR (show RelV (.ref _) _ from rfl)) (fun _ h => h) XX.fR (se_var 0) T.n_isinstance) (sa_cons (se_isx (pe_glob rfl XX.mC (show RelV (.ref _) _ from rfl)) (fun _ h => h) XX.fC (se_var 0) T.n_isinstance) sa_nil)))))) (ss_cons (ss_set 1 sc_q_refusal.nd (sx_of (se_plus (se_var 1) (se_lst (sa_cons (se_isx (pe_glob rfl XX.mD (show RelV (.ref _) _ from rfl)) (fun _ h => h) XX.fD (se_var 0) T.n_isinstance) (sa_cons (se_isx (pe_glob rfl XX.mF (show RelV (.ref _) _ from rfl)) (fun _ h => h) XX.fF (se_var 0) T.n_isinstance) sa_nil)))))) (ss_cons (ss_if (st_w (sw_or (st_ne hr (se_count (se_var 1) se_bl) se_int) (sw_or1 (st_not (st_tru (se_isx (pe_bltn (v := .ty "ValueError") rfl T.n_ValueError (by decide +kernel) rfl) (fun _ h => h) XX.fV (se_var 0) T.n_isinstance)))))) (ss_one (ss_ret (sx_of se_str))) ss_nil) (ss_one (ss_ret (sx_of (se_ix (se_lst (sa_cons se_str (sa_cons se_str (sa_cons se_str (sa_cons se_str (sa_cons se_str sa_nil)))))) (se_index (se_var 1) se_bl)))))))))
def N_q_told : List Str := ["_law_way", "_law_lines_here", "_law_prices", "_law_purse", "_law_kept", "e"]
theorem sc_q_told : FnScope N_q_told ["_law_way", "_law_lines_here", "_law_prices", "_law_purse"] (defScope (top 57)) := ⟨rfl, rfl, rfl, by decide +kernel, rfl, by decide +kernel, by decide +kernel⟩
theorem kn_q_told (T : Txt K mg) (kb : K.In base) (nb : base.Ns mainGlobals mg) : Kn P w K mg base 9 "_law_told" 4 f_q_told := by
  obtain ⟨_, _, _, _, _, _, XX⟩ := T.xc
  exact kn_mk T.d_q_told kb nb sc_q_told rfl rfl (by decide) (fun _ _ _ _ _ _ us hl => match us, hl with | [_, _, _, _], _ => rfl) fun f cdv A outer s H E hr =>
      (ss_cons (ss_set 4 sc_q_told.nd (sx_of se_non)) (ss_cons (ss_try sc_q_told.nd rfl rfl rfl rfl rfl XX.cP rfl XX.mP (by decide) XX.ct (fun E1 pn1 W1 L1 => (ss_one (ss_if (st_eq hr (se_var 0) se_int) (ss_one (ss_expr (sx_call L1 (kn_settled T kb nb) (hr.mono (by decide)) (sa_cons (se_var 1) (sa_cons (se_var 2) (sa_cons (se_var 3) sa_nil))) al3))) (ss_one (ss_if (st_eq hr (se_var 0) se_int) (ss_one (ss_expr (sx_call L1 (kn_shows T kb nb) (hr.mono (by decide)) (sa_cons (se_var 1) (sa_cons (se_var 2) (sa_cons (se_var 3) (sa_cons (se_lst sa_nil) sa_nil)))) al4))) (ss_one (ss_expr (sx_call L1 (kn_fails_at T kb nb) (hr.mono (by decide)) (sa_cons (se_var 1) (sa_cons (se_var 2) (sa_cons (se_var 3) (sa_cons se_int (sa_cons (se_lst sa_nil) sa_nil))))) al5)))))))) (fun e E2 => (ss_one (ss_set 4 sc_q_told.nd (sx_of (se_var 5)))))) (ss_one (ss_ret (sx_of (se_call (kn_q_refusal T kb nb) (hr.mono (by decide)) (sa_cons (se_var 4) sa_nil) al1))))))
def N_law : List Str := ["_law_script", "_law_lines_here", "_law_many", "_law_deeds", "_law_prices", "_law_purse", "_law_number", "_law_way", "_law_some", "_law_guards", "_law_changes", "_law_cost", "_law_far", "_law_due"]
theorem sc_law : FnScope N_law ["_law_script"] (defScope (top 58)) := ⟨rfl, rfl, rfl, by decide +kernel, rfl, by decide +kernel, by decide +kernel⟩
theorem sb_law (T : Txt K mg) (base : Heap) (kb : K.In base) (nb : base.Ns mainGlobals mg) (f : Addr) (cdv : Value) (A : Around) (outer : List PySem.Env) (s : Shared) (H : Hp) (E : XK) (hr : Room 9 (A.deeper (envOfC "law" (defScope (top 58)) s.heap.objs.size f cdv))) : SSs (cxOf (CX1 P w) P w K mg base N_law "law" (defScope (top 58)) f cdv A outer s H E) (wOf K E) (defBody (top 58)) b_law :=
  (ss_cons (ss_set 1 sc_law.nd (sx_of (se_call (kn_q_lines T kb nb) (hr.mono (by decide)) (sa_cons (se_var 0) (sa_cons se_int sa_nil)) al2))) (ss_cons (ss_unpack rfl (sx_of (se_var 1)) (pgs_n (pg_n 2 sc_law.nd) (pgs_n (pg_n 3 sc_law.nd) pgs_0)) rfl) (ss_cons (ss_set 4 sc_law.nd (sx_of (se_timesZ (se_lst (sa_cons se_int sa_nil)) (se_len T.n_len (se_var 3))))) (ss_cons (ss_set 5 sc_law.nd (sx_of (se_timesZ (se_tup (sa_cons se_int sa_nil)) (se_plusZ (se_var 2) se_int)))) (ss_cons (ss_set 6 sc_law.nd (sx_of (se_call (kn_q_mix T kb nb) (hr.mono (by decide)) (sa_cons (se_var 0) (sa_cons se_int sa_nil)) al2))) (ss_cons (ss_set 7 sc_law.nd (sx_of (se_mod (se_var 6) se_int))) (ss_cons (ss_set 8 sc_law.nd (sx_of (se_divB (se_var 6) se_int))) (ss_cons (ss_unpack rfl (sx_of (se_ix (se_var 3) se_int)) (pgs_n (pg_n 9 sc_law.nd) (pgs_n (pg_n 10 sc_law.nd) (pgs_n (pg_n 11 sc_law.nd) pgs_0))) rfl) (ss_cons (ss_set 12 sc_law.nd (sx_of (se_ix (se_lst (sa_cons se_int (sa_cons (se_neg se_int) sa_nil))) (se_mod (se_var 8) se_int)))) (ss_cons (ss_set 13 sc_law.nd (sx_of se_str)) (ss_cons (ss_if (st_eq hr (se_var 7) se_int) (ss_one (ss_set 1 sc_law.nd (sx_of (se_tup (sa_cons (se_ix (se_lst (sa_cons se_int (sa_cons se_int (sa_cons (se_neg se_int) sa_nil)))) (se_mod (se_var 8) se_int)) (sa_cons (se_var 3) sa_nil)))))) (ss_one (ss_if (st_eq hr (se_var 7) se_int) (ss_cons (ss_set 1 sc_law.nd (sx_of (se_tup (sa_cons (se_var 2) (sa_cons (se_ix (se_lst (sa_cons (se_lst sa_nil) (sa_cons (se_timesZ (se_sl (se_var 3) so_none (so_int se_int)) se_int) sa_nil))) (se_mod (se_var 8) se_int)) sa_nil))))) (ss_one (ss_set 4 sc_law.nd (sx_of (se_timesZ (se_lst (sa_cons se_int sa_nil)) se_int))))) (ss_one (ss_if (st_eq hr (se_var 7) se_int) (ss_one (ss_set 1 sc_law.nd (sx_of (se_tup (sa_cons (se_var 2) (sa_cons (se_plusZ (se_lst (sa_cons (se_tup (sa_cons (se_plusZ (se_var 9) (se_timesZ (se_lst (sa_cons (se_var 11) sa_nil)) (se_sub se_int (se_len T.n_len (se_var 9))))) (sa_cons (se_var 10) (sa_cons (se_var 11) sa_nil)))) sa_nil)) (se_sl (se_var 3) (so_int se_int) so_none)) sa_nil)))))) (ss_one (ss_if (st_eq hr (se_var 7) se_int) (ss_one (ss_set 1 sc_law.nd (sx_of (se_tup (sa_cons (se_var 2) (sa_cons (se_plusZ (se_lst (sa_cons (se_tup (sa_cons (se_var 9) (sa_cons (se_plusZ (se_var 10) (se_sl (se_var 10) so_none (so_int se_int))) (sa_cons (se_var 11) sa_nil)))) sa_nil)) (se_sl (se_var 3) (so_int se_int) so_none)) sa_nil)))))) (ss_one (ss_if (st_eq hr (se_var 7) se_int) (ss_one (ss_set 1 sc_law.nd (sx_of (se_tup (sa_cons (se_var 2) (sa_cons (se_plusZ (se_lst (sa_cons (se_tup (sa_cons (se_var 9) (sa_cons (se_var 10) (sa_cons (se_slT (se_var 11) (so_int se_int) so_none) sa_nil)))) sa_nil)) (se_sl (se_var 3) (so_int se_int) so_none)) sa_nil)))))) (ss_one (ss_if (st_eq hr (se_var 7) se_int) (ss_one (ss_set 1 sc_law.nd (sx_of (se_tup (sa_cons (se_var 2) (sa_cons (se_plusZ (se_sl (se_var 3) (so_int se_int) so_none) (se_lst (sa_cons (se_tup (sa_cons (se_var 9) (sa_cons (se_plusZ (se_lst (sa_cons (se_plusZ (se_ix (se_var 10) se_int) (se_tup (sa_cons se_int sa_nil))) sa_nil)) (se_sl (se_var 10) (so_int se_int) so_none)) (sa_cons (se_var 11) sa_nil)))) sa_nil))) sa_nil)))))) (ss_one (ss_if (st_eq hr (se_var 7) se_int) (ss_one (ss_set 1 sc_law.nd (sx_of (se_tup (sa_cons (se_var 2) (sa_cons (se_plusZ (se_lst (sa_cons (se_tup (sa_cons (se_var 9) (sa_cons (se_var 10) (sa_cons (se_plusZ (se_slT (se_var 11) so_none (so_int (se_neg se_int))) (se_tup (sa_cons (se_var 12) sa_nil))) sa_nil)))) sa_nil)) (se_sl (se_var 3) (so_int se_int) so_none)) sa_nil)))))) (ss_one (ss_if (st_eq hr (se_var 7) se_int) (ss_one (ss_set 4 sc_law.nd (sx_of (se_ix (se_lst (sa_cons (se_plusZ (se_var 4) (se_lst (sa_cons se_int sa_nil))) (sa_cons (se_sl (se_var 4) (so_int se_int) so_none) (sa_cons (se_plusZ (se_lst (sa_cons (se_var 12) sa_nil)) (se_sl (se_var 4) (so_int se_int) so_none)) sa_nil)))) (se_mod (se_var 8) se_int))))) (ss_one (ss_if (st_eq hr (se_var 7) se_int) (ss_one (ss_set 5 sc_law.nd (sx_of (se_ix (se_lst (sa_cons (se_plusZ (se_var 5) (se_tup (sa_cons se_int sa_nil))) (sa_cons (se_slT (se_var 5) (so_int se_int) so_none) (sa_cons (se_plusZ (se_tup (sa_cons (se_var 12) sa_nil)) (se_slT (se_var 5) (so_int se_int) so_none)) sa_nil)))) (se_mod (se_var 8) se_int))))) (ss_cons (ss_set 1 sc_law.nd (sx_of (se_tup (sa_cons (se_var 2) (sa_cons (se_plusZ (se_lst (sa_cons (se_tup (sa_cons (se_plusZ (se_sl (se_var 9) so_none (so_int se_int)) (se_lst (sa_cons (se_plusZ (se_timesZ (se_tup (sa_cons se_int sa_nil)) (se_var 2)) (se_tup (sa_cons (se_neg se_int) sa_nil))) sa_nil))) (sa_cons (se_var 10) (sa_cons (se_var 11) sa_nil)))) sa_nil)) (se_sl (se_var 3) (so_int se_int) so_none)) sa_nil))))) (ss_cons (ss_set 4 sc_law.nd (sx_of (se_timesZ (se_lst (sa_cons (se_ix (se_lst (sa_cons se_int (sa_cons (se_neg se_int) sa_nil))) (se_mod (se_var 8) se_int)) sa_nil)) (se_len T.n_len (se_var 3))))) (ss_one (ss_set 13 sc_law.nd (sx_of se_str)))))))))))))))))))))) (ss_one (ss_frz [4] (ss_ret (sx_of (se_eq hr (se_compB (defScope (top 58)) N_law ["_law_k", "_law_lines_here", "_law_prices", "_law_purse"] 1 [1, 4, 5] rfl rfl rfl (si_range1 T.n_range (sa_cons se_int sa_nil)) tgt_name (by decide +kernel) fun _ _ _ _ => ⟨(pg_n 0 (show List.Nodup (["_law_k", "_law_lines_here", "_law_prices", "_law_purse"] : List Str) from (by decide +kernel))), pts0, (se_call (kn_q_told T kb nb) (hr.mono (by decide)) (sa_cons (se_var 0) (sa_cons (se_var 1) (sa_cons (se_var 2) (sa_cons (se_var 3) sa_nil)))) al4)⟩) (se_timesZ (se_lst (sa_cons (se_var 13) sa_nil)) se_int)))))))))))))))))
end
end K43
end VL
end
section
namespace VL
open PySem L2
def onOk (r : R (D × Bool)) (k : D → Bool → Out) : Out := match r with | .ok (d, b) => k d b | _ => .bad
def onT (r : R Bool) (a b : Out) : Out := match r with | .ok true => a | .ok false => b | _ => .bad
def onI (r : R (List D)) (k : List D → Out) : Out := match r with | .ok ds => k ds | _ => .bad
def callR (fn : Fn) (ds : List D) (k : Bool) : R (D × Bool) := (fn ds).bind fun y => if k || isScal y.1 then .ok (y.1, true) else .bad
def Ret (fn : Fn) (ds : List D) (d : D) : Prop := ∃ os, fn ds = .ok (d, os)
theorem callR_of {fn : Fn} {ds : List D} {k : Bool} {d : D} (h : Ret fn ds d) : callR fn ds k = if k || isScal d then .ok (d, true) else .bad := by
  obtain ⟨os, h⟩ := h
  unfold callR; rw [h]; rfl
theorem callR_k {fn : Fn} {ds : List D} {d : D} (h : Ret fn ds d) : callR fn ds true = .ok (d, true) := by rw [callR_of h]; rfl
theorem callR_s {fn : Fn} {ds : List D} {k : Bool} {d : D} (h : Ret fn ds d) (hs : isScal d = true) : callR fn ds k = .ok (d, true) := by rw [callR_of h, hs, Bool.or_true]; rfl
theorem ret_of {n : Nat} {body : SemS} {ds : List D} {d : D} (h : ∃ ρ, body (entry n ds) = .ret d ρ) : Ret (fnOf n body) ds d := by
  obtain ⟨ρ, h⟩ := h
  exact ⟨_, by unfold fnOf; rw [h]⟩
theorem non_of {n : Nat} {body : SemS} {ds : List D} (h : ∃ ρ, body (entry n ds) = .next ρ) : Ret (fnOf n body) ds .non := by
  obtain ⟨ρ, h⟩ := h
  exact ⟨_, by unfold fnOf; rw [h]⟩
@[simp] theorem onOk_ok {d : D} {b : Bool} {k : D → Bool → Out} : onOk (.ok (d, b)) k = k d b := rfl
@[simp] theorem onT_t {a b : Out} : onT (.ok true) a b = a := rfl
@[simp] theorem onT_f {a b : Out} : onT (.ok false) a b = b := rfl
theorem onT_d {p : Prop} [Decidable p] {a b : Out} : onT (.ok (decide p)) a b = if p then a else b := by
  by_cases h : p <;> simp [h]
@[simp] theorem onI_ok {ds : List D} {k : List D → Out} : onI (.ok ds) k = k ds := rfl
@[simp] theorem bind_ok {α β : Type} {a : α} {f : α → R β} : (R.ok a).bind f = f a := rfl
@[simp] theorem bind_bad {α β : Type} {f : α → R β} : (R.bad : R α).bind f = .bad := rfl
@[simp] theorem andThen_next {ρ : Env} {g : SemS} : (Out.next ρ).andThen g = g ρ := rfl
@[simp] theorem andThen_ret {ρ : Env} {d : D} {g : SemS} : (Out.ret d ρ).andThen g = .ret d ρ := rfl
theorem andThen_ite {p : Prop} [Decidable p] {a b : Out} {g : SemS} : (if p then a else b).andThen g = if p then a.andThen g else b.andThen g := by split <;> rfl
@[simp] theorem sSeq_at {f g : SemS} {ρ : Env} : sSeq f g ρ = (f ρ).andThen g := rfl
@[simp] theorem sNext_at {ρ : Env} : sNext ρ = .next ρ := rfl
@[simp] theorem sBad_at {ρ : Env} : sBad ρ = .bad := rfl
@[simp] theorem vC_at {d : D} {ρ : Env} : vC d ρ = .ok (d, true) := rfl
@[simp] theorem v2_at {k : D × Bool → D × Bool → R (D × Bool)} {f g : SemE} {ρ : Env} : v2 k f g ρ = (f ρ).bind fun x => (g ρ).bind fun y => k x y := rfl
@[simp] theorem v1_at {k : D × Bool → R (D × Bool)} {f : SemE} {ρ : Env} : v1 k f ρ = (f ρ).bind k := rfl
@[simp] theorem aNil_at {ρ : Env} : aNil ρ = .ok [] := rfl
@[simp] theorem aCons_at {f : SemE} {g : SemA} {ρ : Env} : aCons f g ρ = (f ρ).bind fun x => (g ρ).bind fun xs => .ok (x :: xs) := rfl
@[simp] theorem vCB_at {k : List (D × Bool) → R (D × Bool)} {g : SemA} {ρ : Env} : vCB k g ρ = (g ρ).bind k := rfl
@[simp] theorem vIf_at {c : SemT} {f g : SemE} {ρ : Env} : vIf c f g ρ = (c ρ).bind fun b => if b = true then f ρ else g ρ := rfl
@[simp] theorem vAnd_at {f g : SemE} {ρ : Env} : vAnd f g ρ = (f ρ).bind fun x => match x.1 with | .bl true => g ρ | .bl false => .ok (.bl false, true) | _ => .bad := rfl
@[simp] theorem kNot_at {b c : Bool} : kNot (.bl b, c) = .ok (.bl (!b), true) := rfl
@[simp] theorem vChain_at {p q : Int → Int → Bool} {f g h : SemE} {ρ : Env} : vChain p q f g h ρ = (f ρ).bind fun x => (g ρ).bind fun y => match x.1, y.1 with
  | .int i, .int j => if p i j then (h ρ).bind fun z => (match z.1 with | .int k => .ok (.bl (q j k), true) | _ => .bad) else .ok (.bl false, true)
  | _, _ => .bad := rfl
@[simp] theorem vCall_at {fn : Fn} {g : SemA} {ρ : Env} : vCall fn g ρ = (g ρ).bind fun xs => callR fn (D.frzs (xs.map (·.1))) (xs.all keepable) := rfl
@[simp] theorem tBool_at {f : SemE} {ρ : Env} : tBool f ρ = (f ρ).bind fun x => match x.1 with | .bl b => .ok b | _ => .bad := rfl
@[simp] theorem tTru_at {f : SemE} {ρ : Env} : tTru f ρ = (f ρ).bind fun x => if truOk x.1 then .ok (truD x.1) else .bad := rfl
@[simp] theorem tAnd_at {f g : SemT} {ρ : Env} : tAndD f g ρ = (f ρ).bind fun c => if c = true then g ρ else .ok false := rfl
@[simp] theorem tOr_at {f g : SemT} {ρ : Env} : tOrD f g ρ = (f ρ).bind fun c => if c = true then .ok true else g ρ := rfl
@[simp] theorem tNot_at {f : SemT} {ρ : Env} : tNotD f ρ = (f ρ).bind fun c => .ok (!c) := rfl
@[simp] theorem tTrue_at {ρ : Env} : tTrue ρ = .ok true := rfl
@[simp] theorem vSl_at {f : SemE} {lo hi : SemO} {ρ : Env} : vSl f lo hi ρ = (f ρ).bind fun x => (lo ρ).bind fun l => (hi ρ).bind fun u => kSl x l u := rfl
@[simp] theorem oNone_at {ρ : Env} : oNone ρ = .ok none := rfl
@[simp] theorem oInt_at {f : SemE} {ρ : Env} : oInt f ρ = (f ρ).bind fun x => match x.1 with | .int i => .ok (some i) | _ => .bad := rfl
@[simp] theorem vLst_at {g : SemA} {ρ : Env} : vLst g ρ = (g ρ).bind fun xs => if xs.all keepable && decide (xs.length ≤ 1000000) then .ok (.lst true (xs.map (·.1)), true) else .bad := rfl
@[simp] theorem vTup_at {g : SemA} {ρ : Env} : vTup g ρ = (g ρ).bind fun xs => if xs.all keepable && decide (xs.length ≤ 1000000) then .ok (.tup (D.frzs (xs.map (·.1))), true) else .bad := rfl
@[simp] theorem iAny_at {f : SemE} {ρ : Env} : iAny f ρ = (f ρ).bind icyA := rfl
@[simp] theorem iEnF_at {f : SemE} {ρ : Env} : iEnF f ρ = (f ρ).bind fun x => (icyL x).bind fun ds => .ok (enumD ds) := rfl
@[simp] theorem iZi_at {f g : SemE} {ρ : Env} : iZi f g ρ = (f ρ).bind fun x => (g ρ).bind fun y => (icyL x).bind fun ds => (icyL y).bind fun es => .ok (zipD ds es) := rfl
@[simp] theorem icyL_f {ds : List D} {b : Bool} : icyL (.lst false ds, b) = if keepable (.lst false ds, b) then .ok (D.frzs ds) else .bad := rfl
@[simp] theorem icyL_t {o : Bool} {ds : List D} : icyL (.lst o ds, true) = .ok (D.frzs ds) := rfl
@[simp] theorem icyA_t {o : Bool} {ds : List D} : icyA (.lst o ds, true) = .ok (D.frzs ds) := rfl
@[simp] theorem icyA_f {b : Bool} {ds : List D} : icyA (.lst false ds, b) = if keepable (.lst false ds, b) then .ok (D.frzs ds) else .bad := rfl
@[simp] theorem icyA_u {b : Bool} {ds : List D} : icyA (.tup ds, b) = .ok ds := rfl
@[irreducible] def rngR (j : Int) : R (List D) := if small62 j then .ok (rangeD 0 j.toNat) else .bad
def kR1 : List (D × Bool) → R (List D)
  | [(.int j, _)] => rngR j | _ => .bad
@[simp] theorem iR1_at {g : SemA} {ρ : Env} : iR1 g ρ = (g ρ).bind kR1 := by
  unfold iR1 kR1 rngR; rfl
@[simp] theorem kR1_at {j : Int} {b : Bool} : kR1 [(.int j, b)] = rngR j := rfl
@[simp] theorem var_0v {d : D} {ρ : Env} : vVar 0 (.val d :: ρ) = .ok (d, false) := rfl
@[simp] theorem var_0p {d : D} {ρ : Env} : vVar 0 (.pin d :: ρ) = .ok (d, false) := rfl
@[simp] theorem var_s {i : Nat} {s : Slot} {ρ : Env} : vVar (i + 1) (s :: ρ) = vVar i ρ := rfl
def np (s : Slot) : Prop := ∀ d, s ≠ .pin d
@[simp] theorem np_un : np .un := fun _ h => by cases h
@[simp] theorem np_val {d : D} : np (.val d) := fun _ h => by cases h
@[simp] theorem pin_np {d : D} : ¬ np (.pin d) := fun h => h d rfl
@[simp] theorem free_0 {s : Slot} {ρ : Env} (h : np s) : free (s :: ρ) 0 = true := by
  cases s <;> first | rfl | exact absurd rfl (h _)
@[simp] theorem free_s {i : Nat} {s : Slot} {ρ : Env} : free (s :: ρ) (i + 1) = free ρ i := by unfold free; simp
@[simp] theorem getD_0v {d : D} {ρ : Env} : getD (.val d :: ρ) 0 = some d := rfl
@[simp] theorem getD_0p {d : D} {ρ : Env} : getD (.pin d :: ρ) 0 = some d := rfl
@[simp] theorem getD_0u {ρ : Env} : getD (.un :: ρ) 0 = none := rfl
@[simp] theorem getD_s {i : Nat} {s : Slot} {ρ : Env} : getD (s :: ρ) (i + 1) = getD ρ i := rfl
@[simp] theorem putD_0v {c d : D} {ρ : Env} : putD (.val c :: ρ) 0 d = .val d :: ρ := rfl
@[simp] theorem putD_s {i : Nat} {d : D} {s : Slot} {ρ : Env} : putD (s :: ρ) (i + 1) d = s :: putD ρ i d := by
  unfold putD
  simp only [List.getElem?_cons_succ]
  cases ρ[i]? with
  | none => rfl
  | some t => cases t <;> rfl
@[simp] theorem bindD_at {i : Nat} {d : D} {ρ : Env} : bindD i d ρ = if free ρ i then some (ρ.set i (.val d)) else none := rfl
@[simp] theorem bindT_at {is : List Nat} {ds : List D} {ρ : Env} : bindT is (.tup ds) ρ = bindDs is ds ρ := rfl
@[simp] theorem bindDs_nil {ρ : Env} : bindDs [] [] ρ = some ρ := rfl
@[simp] theorem bindDs_cons {i : Nat} {is : List Nat} {d : D} {ds : List D} {ρ : Env} : bindDs (i :: is) (d :: ds) ρ = if d.calm then (bindD i d ρ).bind (bindDs is ds) else none := rfl
@[simp] theorem kI_at {g : Int → Int → D} {i j : Int} {b c : Bool} : kI g (.int i, b) (.int j, c) = .ok (g i j, true) := rfl
@[simp] theorem kIc_at {p : Int → Int → Bool} {g : Int → Int → D} {i j : Int} {b c : Bool} : kIc p g (.int i, b) (.int j, c) = if p i j = true then .ok (g i j, true) else .bad := rfl
@[simp] theorem kU_at {g : Int → D} {i : Int} {b : Bool} : kU g (.int i, b) = .ok (g i, true) := rfl
@[simp] theorem kAbs_at {i : Int} {b : Bool} : kAbs [(.int i, b)] = .ok (.int (if i < 0 then -i else i), true) := rfl
@[simp] theorem kPlus_at {i j : Int} {b c : Bool} : kPlus (.int i, b) (.int j, c) = .ok (.int (i + j), true) := rfl
@[simp] theorem kPlus_l {o p : Bool} {ds es : List D} {b c : Bool} : kPlus (.lst o ds, b) (.lst p es, c) = if D.calms ds && D.calms es && decide (ds.length + es.length ≤ 1000000) then .ok (.lst true (ds ++ es), true) else .bad := rfl
@[simp] theorem kTimes_at {i j : Int} {b c : Bool} : kTimes (.int i, b) (.int j, c) = if (fits i && fits j) = true then .ok (.int (i * j), true) else .bad := rfl
@[simp] theorem kIx_l {o b c : Bool} {ds : List D} {i : Int} : kIx (.lst o ds, b) (.int i, c) = R.of ((atI ds i).map (·, b)) := rfl
@[simp] theorem kIx_t {b c : Bool} {ds : List D} {i : Int} : kIx (.tup ds, b) (.int i, c) = R.of ((atI ds i).map (·, b)) := rfl
@[simp] theorem of_some {α : Type} {a : α} : R.of (some a) = .ok a := rfl
@[simp] theorem kLen_l {o b : Bool} {ds : List D} : kLen [(.lst o ds, b)] = .ok (.int ds.length, true) := rfl
@[simp] theorem kLen_t {b : Bool} {ds : List D} : kLen [(.tup ds, b)] = .ok (.int ds.length, true) := rfl
@[simp] theorem kList_t {b : Bool} {ds : List D} : kList [(.tup ds, b)] = .ok (.lst true ds, true) := rfl
@[simp] theorem kTuple_l {o b : Bool} {ds : List D} : kTuple [(.lst o ds, b)] = if D.calms ds then .ok (.tup ds, true) else .bad := rfl
@[simp] theorem kSl_l {o b : Bool} {ds : List D} {lo hi : Option Int} : kSl (.lst o ds, b) lo hi = if D.calms ds then .ok (.lst true (cutD ds lo hi), true) else .bad := rfl
@[simp] theorem kIsN_at {n : Bool} {d : D} {b c : Bool} : kIsN n (d, b) (.non, c) = .ok (.bl (if n then !isNon d else isNon d), true) := rfl
@[simp] theorem set_at {i : Nat} {f : SemE} {ρ : Env} : sSet i (xOf f) ρ = onOk (f ρ) fun d b => if (b || d.calm) && free ρ i then .next (ρ.set i (.val d)) else .bad := by
  unfold sSet xOf onOk; cases f ρ <;> rfl
@[simp] theorem ret_at {f : SemE} {ρ : Env} : sRet (xOf f) ρ = onOk (f ρ) fun d b => if (b || d.calm) then .ret d ρ else .bad := by
  unfold sRet xOf onOk; cases f ρ <;> rfl
@[simp] theorem drop_at {f : SemE} {ρ : Env} : sDrop (xOf f) ρ = onOk (f ρ) fun _ _ => .next ρ := by
  unfold sDrop xOf onOk; cases f ρ <;> rfl
@[simp] theorem if_at {c : SemT} {f g : SemS} {ρ : Env} : sIf c f g ρ = onT (c ρ) (f ρ) (g ρ) := by
  unfold sIf onT; cases c ρ with
  | ok a => cases a <;> rfl
  | exc c => rfl
  | bad => rfl
@[simp] theorem for_at {f : SemI} {set : D → Env → Option Env} {b : SemS} {ρ : Env} : sFor f set b ρ = onI (f ρ) fun ds => forL set b ds ρ := by
  unfold sFor onI; cases f ρ <;> rfl
@[simp] theorem app_at {i : Nat} {f : SemE} {ρ : Env} : sAppend i f ρ = onOk (f ρ) fun d b => match (getD ρ i).bind fun e => kApp e (d, b) with | some e => .next (putD ρ i e) | none => .bad := by
  unfold sAppend onOk; cases f ρ <;> rfl
@[simp] theorem kApp_at {ds : List D} {x : D × Bool} : kApp (.lst true ds) x = if keepable x && decide (ds.length < 1000000) then some (.lst true (ds ++ [x.1])) else none := rfl
@[simp] theorem retV_at {i : Nat} {ρ : Env} : sRetV i ρ = match ρ[i]? with | some (.val d) => .ret d (ρ.set i .un) | some (.pin d) => if d.calm then .ret d ρ else .bad | _ => .bad := rfl
@[simp] theorem frz_at {is : List Nat} {g : SemS} {ρ : Env} : sFrz is g ρ = g (is.foldl frz1 ρ) := rfl
@[simp] theorem frz1_0v {d : D} {ρ : Env} : frz1 (.val d :: ρ) 0 = .val d.frz :: ρ := rfl
@[simp] theorem frz1_0u {ρ : Env} : frz1 (.un :: ρ) 0 = .un :: ρ := rfl
@[simp] theorem frz1_s {i : Nat} {s : Slot} {ρ : Env} : frz1 (s :: ρ) (i + 1) = s :: frz1 ρ i := by
  unfold frz1
  rw [getD_s]
  cases getD ρ i <;> simp
@[simp] theorem keep_t {d : D} : keepable (d, true) = true := rfl
@[simp] theorem keep_f {d : D} : keepable (d, false) = d.calm := rfl
def I (xs : List Int) : List D := xs.map D.int
@[simp] theorem I_nil : I [] = [] := rfl
@[simp] theorem I_len (xs : List Int) : (I xs).length = xs.length := by simp [I]
@[simp] theorem I_snoc (xs : List Int) (x : Int) : I xs ++ [.int x] = I (xs ++ [x]) := by simp [I]
theorem I_app (xs ys : List Int) : I xs ++ I ys = I (xs ++ ys) := by simp [I]
def gt (xs : List Int) (k : Nat) : Int := xs.getD k 0
theorem gt_eq {xs : List Int} {k : Nat} (h : k < xs.length) : xs[k]? = some (gt xs k) := by simp [gt, List.getElem?_eq_getElem h]
theorem I_get {xs : List Int} {k : Nat} (h : k < xs.length) : (I xs)[k]? = some (.int (gt xs k)) := by simp [I, gt_eq h]
@[simp] theorem calms_I : ∀ xs : List Int, D.calms (I xs) = true
  | [] => rfl
  | _ :: xs => by show (true && D.calms (I xs)) = true; rw [calms_I xs]; rfl
@[simp] theorem frzs_I : ∀ xs : List Int, D.frzs (I xs) = I xs
  | [] => rfl
  | x :: xs => by show D.int x :: D.frzs (I xs) = _; rw [frzs_I xs]; rfl
@[simp] theorem intsD_I : ∀ xs : List Int, intsD (I xs) = some xs
  | [] => rfl
  | x :: xs => by show (intsD (I xs)).map (x :: ·) = _; rw [intsD_I xs]; rfl
@[simp] theorem calm_int {i : Int} : (D.int i).calm = true := rfl
@[simp] theorem calm_str {x : Str} : (D.str x).calm = true := rfl
@[simp] theorem calm_non : D.non.calm = true := rfl
@[simp] theorem calm_bl {x : Bool} : (D.bl x).calm = true := rfl
@[simp] theorem calm_tup {ds : List D} : (D.tup ds).calm = D.calms ds := rfl
@[simp] theorem calm_lst {o : Bool} {ds : List D} : (D.lst o ds).calm = (!o && D.calms ds) := rfl
@[simp] theorem calms_nil : D.calms [] = true := rfl
@[simp] theorem calms_cons {d : D} {ds : List D} : D.calms (d :: ds) = (d.calm && D.calms ds) := rfl
@[simp] theorem frz_int {i : Int} : (D.int i).frz = .int i := rfl
@[simp] theorem frz_str {x : Str} : (D.str x).frz = .str x := rfl
@[simp] theorem frz_non : D.non.frz = .non := rfl
@[simp] theorem frz_bl {x : Bool} : (D.bl x).frz = .bl x := rfl
@[simp] theorem frz_tup {ds : List D} : (D.tup ds).frz = .tup (D.frzs ds) := rfl
@[simp] theorem frz_lst {o : Bool} {ds : List D} : (D.lst o ds).frz = .lst false (D.frzs ds) := rfl
@[simp] theorem frzs_nil : D.frzs [] = [] := rfl
@[simp] theorem frzs_cons {d : D} {ds : List D} : D.frzs (d :: ds) = d.frz :: D.frzs ds := rfl
mutual
theorem frz_calm : ∀ d : D, d.frz.calm = true
  | .non => rfl | .bl _ => rfl | .int _ => rfl | .str _ => rfl
  | .tup ds => frzs_calm ds
  | .lst _ ds => by show (!false && D.calms (D.frzs ds)) = true; rw [frzs_calm ds]; rfl
  | .ext _ _ => rfl
theorem frzs_calm : ∀ ds : List D, D.calms (D.frzs ds) = true
  | [] => rfl
  | d :: ds => by show (d.frz.calm && D.calms (D.frzs ds)) = true; rw [frz_calm d, frzs_calm ds]; rfl
end
mutual
theorem calm_frz : ∀ d : D, d.calm = true → d.frz = d
  | .non, _ => rfl | .bl _, _ => rfl | .int _, _ => rfl | .str _, _ => rfl
  | .tup ds, h => by rw [frz_tup, calms_frz ds h]
  | .lst o ds, h => by
    rw [calm_lst, Bool.and_eq_true] at h
    rw [frz_lst, calms_frz ds h.2]
    cases o
    · rfl
    · cases h.1
  | .ext o t, h => by
    cases o
    · rfl
    · cases h
theorem calms_frz : ∀ ds : List D, D.calms ds = true → D.frzs ds = ds
  | [], _ => rfl
  | d :: ds, h => by
    rw [calms_cons, Bool.and_eq_true] at h
    rw [frzs_cons, calm_frz d h.1, calms_frz ds h.2]
end
@[simp] theorem frz_frz (d : D) : d.frz.frz = d.frz := calm_frz _ (frz_calm d)
@[simp] theorem frzs_frzs (ds : List D) : D.frzs (D.frzs ds) = D.frzs ds := calms_frz _ (frzs_calm ds)
@[simp] theorem eq_int {n : Bool} {i j : Int} {b c : Bool} : kEq n (.int i, b) (.int j, c) = .ok (.bl (if n then !decide (i = j) else decide (i = j)), true) := by
  unfold kEq
  have : eqOk (.int i) (.int j) = true := rfl
  rw [if_pos this]
  show R.ok (D.bl (if n then !(i == j) else (i == j)), true) = _
  rw [show (i == j) = decide (i = j) from by by_cases h : i = j <;> simp [h]]
@[simp] theorem range_len {lo : Int} {n : Nat} : (rangeD lo n).length = n := by simp [rangeD]
theorem range_0 {n : Nat} : rangeD 0 n = (List.range n).map fun i : Nat => D.int (i : Int) := by simp [rangeD]
theorem small_nat {n : Nat} (h : n ≤ 1000000) : small62 (n : Int) = true := by
  unfold small62; rw [Bool.and_eq_true, decide_eq_true_iff, decide_eq_true_iff]; omega
theorem rng_nat {n : Nat} (h : n ≤ 1000000) : rngR (n : Int) = .ok ((List.range n).map fun i : Nat => D.int (i : Int)) := by
  unfold rngR
  rw [if_pos (small_nat h), range_0, Int.toNat_natCast]
theorem rng_succ {n : Nat} (h : n + 1 ≤ 1000000) : rngR ((n : Int) + 1) = .ok ((List.range (n + 1)).map fun i : Nat => D.int (i : Int)) := by
  rw [← rng_nat h]; rfl
theorem atI_nat {α : Type} {xs : List α} {k : Nat} : atI xs (k : Int) = xs[k]? := by
  unfold atI ixN
  by_cases h : (k : Int) < xs.length
  · rw [if_pos (by omega), if_pos h]; simp
  · rw [if_pos (by omega), if_neg h]
    have : xs.length ≤ k := by omega
    simp [this]
theorem atI_last {α : Type} {xs : List α} : atI xs (-1) = xs.getLast? := by
  unfold atI ixN
  rw [if_neg (by omega)]
  by_cases h : xs = []
  · subst h; rfl
  · have : 0 < xs.length := List.length_pos_iff.mpr h
    rw [if_pos (by omega)]
    show xs[(-1 + (xs.length : Int)).toNat]? = _
    rw [List.getLast?_eq_getElem?]
    congr 1; omega
theorem comp1 {α : Type} {caps : Env} {e : SemE} {φ ψ : α → D} {b : α → Bool} : ∀ (xs : List α) (t : Slot), np t → (∀ x ∈ xs, e (.val (φ x) :: caps) = .ok (ψ x, b x) ∧ keepable (ψ x, b x) = true) → compL (bindD 0) tTrue e (xs.map φ) (t :: caps) = .ok (xs.map ψ)
  | [], _, _, _ => rfl
  | x :: xs, t, ht, h => by
    obtain ⟨h1, h2⟩ := h x List.mem_cons_self
    have ih := comp1 xs (.val (φ x)) np_val fun y hy => h y (List.mem_cons_of_mem _ hy)
    show (match bindD 0 (φ x) (t :: caps) with | none => R.bad | some ρ1 => _) = _
    rw [bindD_at, if_pos (free_0 ht)]
    show (R.ok true).bind _ = _
    rw [bind_ok, if_pos rfl]
    show (e (.val (φ x) :: caps)).bind _ = _
    rw [h1, bind_ok, if_pos h2]
    show (compL (bindD 0) tTrue e (xs.map φ) (.val (φ x) :: caps)).bind _ = _
    rw [ih]; rfl
theorem comp2 {α : Type} {caps : Env} {e : SemE} {φ χ ψ : α → D} {b : α → Bool} : ∀ (xs : List α) (t u : Slot), np t → np u → (∀ x ∈ xs, (φ x).calm = true ∧ (χ x).calm = true ∧ e (.val (φ x) :: .val (χ x) :: caps) = .ok (ψ x, b x) ∧ keepable (ψ x, b x) = true) →
    compL (bindT [0, 1]) tTrue e (xs.map fun x => .tup [φ x, χ x]) (t :: u :: caps) = .ok (xs.map ψ)
  | [], _, _, _, _, _ => rfl
  | x :: xs, t, u, ht, hu, h => by
    obtain ⟨c1, c2, h1, h2⟩ := h x List.mem_cons_self
    have ih := comp2 xs (.val (φ x)) (.val (χ x)) np_val np_val fun y hy => h y (List.mem_cons_of_mem _ hy)
    have hb : bindT [0, 1] (.tup [φ x, χ x]) (t :: u :: caps) = some (.val (φ x) :: .val (χ x) :: caps) := by
      simp [c1, c2, ht, hu]
    show (match bindT [0, 1] (.tup [φ x, χ x]) (t :: u :: caps) with | none => R.bad | some ρ1 => _) = _
    rw [hb]
    show (R.ok true).bind _ = _
    rw [bind_ok, if_pos rfl]
    show (e (.val (φ x) :: .val (χ x) :: caps)).bind _ = _
    rw [h1, bind_ok, if_pos h2]
    show (compL (bindT [0, 1]) tTrue e (xs.map fun x => .tup [φ x, χ x]) (.val (φ x) :: .val (χ x) :: caps)).bind _ = _
    rw [ih]; rfl
theorem vComp1 {α : Type} {it : SemI} {js : List Nat} {e : SemE} {ρ : Env} (caps : Env) (xs : List α) (φ ψ : α → D) (b : α → Bool) (hi : it ρ = .ok (xs.map φ)) (hl : xs.length ≤ 1000000) (hc : js.map (capt ρ) = caps)
    (he : ∀ x ∈ xs, e (.val (φ x) :: caps) = .ok (ψ x, b x) ∧ keepable (ψ x, b x) = true) (hk : js.all (capOk ρ) = true ∨ ∀ x ∈ xs, isScal (ψ x) = true) : vComp it 1 js (bindD 0) tTrue e ρ = .ok (.lst true (xs.map ψ), true) := by
  unfold vComp
  rw [hi, bind_ok, if_pos (by simpa using hl), hc]
  show (compL (bindD 0) tTrue e (xs.map φ) (.un :: caps)).bind _ = _
  rw [comp1 xs .un np_un he, bind_ok, if_pos]
  rcases hk with h | h
  · rw [h]; rfl
  · rw [Bool.or_eq_true]; right; rw [List.all_eq_true]
    intro d hd
    obtain ⟨x, hx, rfl⟩ := List.mem_map.mp hd
    exact h x hx
theorem vComp2 {α : Type} {it : SemI} {js : List Nat} {e : SemE} {ρ : Env} (caps : Env) (xs : List α) (φ χ ψ : α → D) (b : α → Bool) (hi : it ρ = .ok (xs.map fun x => .tup [φ x, χ x])) (hl : xs.length ≤ 1000000) (hc : js.map (capt ρ) = caps)
    (he : ∀ x ∈ xs, (φ x).calm = true ∧ (χ x).calm = true ∧ e (.val (φ x) :: .val (χ x) :: caps) = .ok (ψ x, b x) ∧ keepable (ψ x, b x) = true) (hk : js.all (capOk ρ) = true ∨ ∀ x ∈ xs, isScal (ψ x) = true) : vComp it 2 js (bindT [0, 1]) tTrue e ρ = .ok (.lst true (xs.map ψ), true) := by
  unfold vComp
  rw [hi, bind_ok, if_pos (by simpa using hl), hc]
  show (compL (bindT [0, 1]) tTrue e (xs.map fun x => .tup [φ x, χ x]) (.un :: .un :: caps)).bind _ = _
  rw [comp2 xs .un .un np_un np_un he, bind_ok, if_pos]
  rcases hk with h | h
  · rw [h]; rfl
  · rw [Bool.or_eq_true]; right; rw [List.all_eq_true]
    intro d hd
    obtain ⟨x, hx, rfl⟩ := List.mem_map.mp hd
    exact h x hx
theorem forL_inv {α : Type} {set : D → Env → Option Env} {b : SemS} {φ : α → D} (J : List α → Env → Prop) (xs : List α) : ∀ (post pre : List α) (ρ : Env), xs = pre ++ post →
    (∀ pre x post ρ, xs = pre ++ x :: post → J pre ρ → ∃ ρ1 ρ2, set (φ x) ρ = some ρ1 ∧ b ρ1 = .next ρ2 ∧ J (pre ++ [x]) ρ2) → J pre ρ → ∃ ρ', forL set b (post.map φ) ρ = .next ρ' ∧ J xs ρ'
  | [], pre, ρ, e, _, h0 => ⟨ρ, rfl, by rw [e, List.append_nil]; exact h0⟩
  | x :: post, pre, ρ, e, h, h0 => by
    obtain ⟨ρ1, ρ2, h1, h2, h3⟩ := h pre x post ρ e h0
    obtain ⟨ρ', h4, h5⟩ := forL_inv J xs post (pre ++ [x]) ρ2 (by rw [e]; simp) h h3
    refine ⟨ρ', ?_, h5⟩
    show (match set (φ x) ρ with | none => Out.bad | some ρ1 => loopOut (b ρ1) (forL set b (post.map φ))) = _
    rw [h1]; dsimp only; rw [h2]; exact h4
theorem forL_ret {α : Type} {set : D → Env → Option Env} {b : SemS} {φ : α → D} (J : List α → Env → Prop) (P : D → Prop) (xs : List α) : ∀ (post pre : List α) (ρ : Env), xs = pre ++ post →
    (∀ pre x post ρ, xs = pre ++ x :: post → J pre ρ → ∃ ρ1, set (φ x) ρ = some ρ1 ∧ ((∃ ρ2, b ρ1 = .next ρ2 ∧ J (pre ++ [x]) ρ2) ∨ ∃ d ρ2, b ρ1 = .ret d ρ2 ∧ P d)) → J pre ρ →
    (∃ ρ', forL set b (post.map φ) ρ = .next ρ' ∧ J xs ρ') ∨ ∃ d ρ', forL set b (post.map φ) ρ = .ret d ρ' ∧ P d
  | [], pre, ρ, e, _, h0 => .inl ⟨ρ, rfl, by rw [e, List.append_nil]; exact h0⟩
  | x :: post, pre, ρ, e, h, h0 => by
    obtain ⟨ρ1, h1, h2⟩ := h pre x post ρ e h0
    have un : forL set b ((x :: post).map φ) ρ = loopOut (b ρ1) (forL set b (post.map φ)) := by
      show (match set (φ x) ρ with | none => Out.bad | some ρ1 => loopOut (b ρ1) (forL set b (post.map φ))) = _
      rw [h1]
    rw [un]
    rcases h2 with ⟨ρ2, h2, h3⟩ | ⟨d, ρ2, h2, h3⟩
    · rw [h2]
      exact forL_ret J P xs post (pre ++ [x]) ρ2 (by rw [e]; simp) h h3
    · rw [h2]
      exact .inr ⟨d, ρ2, rfl, h3⟩
theorem enum_map {α : Type} {xs : List α} {φ : α → D} : enumD (xs.map φ) = (xs.zipIdx).map fun p => .tup [.int (p.2 : Nat), φ p.1] := by
  unfold enumD
  rw [List.zipIdx_map, List.map_map]
  rfl
theorem zip_map {α β : Type} {xs : List α} {ys : List β} {φ : α → D} {χ : β → D} : zipD (xs.map φ) (ys.map χ) = (xs.zip ys).map fun p => .tup [φ p.1, χ p.2] := by
  unfold zipD
  rw [List.zip_map, List.map_map]
  rfl
theorem while_t {c : SemT} {b : SemS} {n : Nat} {ρ ρ2 : Env} (hc : c ρ = .ok true) (hb : b ρ = .next ρ2) : whileN c b (n + 1) ρ = whileN c b n ρ2 := by
  rw [whileN, hc]; dsimp only; rw [hb]; rfl
theorem while_f {c : SemT} {b : SemS} {n : Nat} {ρ : Env} (hc : c ρ = .ok false) : whileN c b (n + 1) ρ = .next ρ := by
  rw [whileN, hc]
theorem while_r {c : SemT} {b : SemS} {n : Nat} {ρ ρ2 : Env} {d : D} (hc : c ρ = .ok true) (hb : b ρ = .ret d ρ2) : whileN c b (n + 1) ρ = .ret d ρ2 := by
  rw [whileN, hc]; dsimp only; rw [hb]; rfl
def out (o : Out) (P : Env → Prop) (Q : D → Prop) : Prop := match o with | .next ρ => P ρ | .ret d _ => Q d | _ => False
def stp (o : Option Env) (b : SemS) : Out := match o with | some ρ => b ρ | none => .bad
@[simp] theorem out_next {ρ : Env} {P : Env → Prop} {Q : D → Prop} : out (.next ρ) P Q = P ρ := rfl
@[simp] theorem out_ret {ρ : Env} {d : D} {P : Env → Prop} {Q : D → Prop} : out (.ret d ρ) P Q = Q d := rfl
@[simp] theorem stp_some {ρ : Env} {b : SemS} : stp (some ρ) b = b ρ := rfl
theorem out_then {o : Out} {g : SemS} {P P' : Env → Prop} {Q : D → Prop} (h : out o P' Q) (h2 : ∀ ρ, P' ρ → out (g ρ) P Q) : out (o.andThen g) P Q := by
  cases o <;> first | exact h2 _ h | exact h | exact h.elim
theorem out_mono {o : Out} {P P' : Env → Prop} {Q Q' : D → Prop} (h : out o P' Q') (h1 : ∀ ρ, P' ρ → P ρ) (h2 : ∀ d, Q' d → Q d) : out o P Q := by
  cases o <;> first | exact h1 _ h | exact h2 _ h | exact h.elim
def RetP (fn : Fn) (ds : List D) (P : D → Prop) : Prop := ∃ d, Ret fn ds d ∧ P d
theorem retP_of {n : Nat} {body : SemS} {ds : List D} {P : D → Prop} (h : out (body (entry n ds)) (fun _ => P .non) P) : RetP (fnOf n body) ds P := by
  cases e : body (entry n ds) with
  | next ρ => rw [e] at h; exact ⟨_, non_of ⟨ρ, e⟩, h⟩
  | ret d ρ => rw [e] at h; exact ⟨_, ret_of ⟨ρ, e⟩, h⟩
  | brk ρ => rw [e] at h; exact h.elim
  | cont ρ => rw [e] at h; exact h.elim
  | exc c ρ => rw [e] at h; exact h.elim
  | bad => rw [e] at h; exact h.elim
theorem retE {n : Nat} {body : SemS} {ds : List D} {d : D} (h : out (body (entry n ds)) (fun _ => D.non = d) (· = d)) : Ret (fnOf n body) ds d := by
  obtain ⟨_, h1, rfl⟩ := retP_of (P := (· = d)) h
  exact h1
theorem for_out {α : Type} {set : D → Env → Option Env} {b : SemS} {φ : α → D} {Q : D → Prop} (J : List α → Env → Prop) (xs : List α) (h : ∀ pre x post ρ, xs = pre ++ x :: post → J pre ρ → out (stp (set (φ x) ρ) b) (J (pre ++ [x])) Q) : ∀ (post pre : List α) (ρ : Env), xs = pre ++ post → J pre ρ → out (forL set b (post.map φ) ρ) (J xs) Q
  | [], pre, ρ, e, h0 => by show J xs ρ; rw [e, List.append_nil]; exact h0
  | x :: post, pre, ρ, e, h0 => by
    have h1 := h pre x post ρ e h0
    show out (match set (φ x) ρ with | none => Out.bad | some ρ1 => loopOut (b ρ1) (forL set b (post.map φ))) _ _
    cases es : set (φ x) ρ with
    | none => rw [es] at h1; exact h1.elim
    | some ρ1 =>
      rw [es, stp_some] at h1
      dsimp only
      cases eb : b ρ1 with
      | next ρ2 => rw [eb] at h1; exact for_out J xs h post (pre ++ [x]) ρ2 (by rw [e]; simp) h1
      | ret d ρ2 => rw [eb] at h1; exact h1
      | brk ρ => rw [eb] at h1; exact h1.elim
      | cont ρ => rw [eb] at h1; exact h1.elim
      | exc c ρ => rw [eb] at h1; exact h1.elim
      | bad => rw [eb] at h1; exact h1.elim
theorem for_all {α : Type} {set : D → Env → Option Env} {b : SemS} {φ : α → D} {Q : D → Prop} {ρ : Env} (J : List α → Env → Prop) (xs : List α) (h0 : J [] ρ) (h : ∀ pre x post ρ, xs = pre ++ x :: post → J pre ρ → out (stp (set (φ x) ρ) b) (J (pre ++ [x])) Q) : out (forL set b (xs.map φ) ρ) (J xs) Q := for_out J xs h xs [] ρ rfl h0
end VL
end
section
namespace VL
open PySem L2
@[simp] theorem iZa_at {f g : SemE} {ρ : Env} : iZa f g ρ = (f ρ).bind fun x => (g ρ).bind fun y => (icyL x).bind fun ds => (icyA y).bind fun es => .ok (zipD ds es) := rfl
@[simp] theorem kPlusZ_i {i j : Int} {b c : Bool} : kPlusZ (.int i, b) (.int j, c) = .ok (.int (i + j), true) := rfl
@[simp] theorem kPlusZ_l {o p : Bool} {ds es : List D} {b c : Bool} : kPlusZ (.lst o ds, b) (.lst p es, c) = kPlus (.lst o ds, b) (.lst p es, c) := rfl
@[simp] theorem kTimesZ_i {i j : Int} {b c : Bool} : kTimesZ (.int i, b) (.int j, c) = if (fits i && fits j) = true then .ok (.int (i * j), true) else .bad := rfl
@[simp] theorem kInt_b {x b : Bool} : kInt [(.bl x, b)] = .ok (.int (if x then 1 else 0), true) := rfl
theorem kPlusZ_I {xs ys : List Int} {b c : Bool} (h : xs.length + ys.length ≤ 1000000) : kPlusZ (.tup (I xs), b) (.tup (I ys), c) = .ok (.tup (I (xs ++ ys)), true) := by
  cases xs with
  | nil => rfl
  | cons x xs =>
    show (if decide ((I xs).length + 1 + (I ys).length ≤ 1000000) = true then R.ok (D.tup (D.int x :: I xs ++ I ys), true) else R.bad) = _
    rw [if_pos (by simp at h ⊢; omega)]
    simp [I]
theorem kRep0 {k : Nat} {b c : Bool} (h1 : 1 ≤ k) (h2 : k ≤ 1000) : kTimesZ (.tup [.int 0], b) (.int (k : Int), c) = .ok (.tup (I (List.replicate k 0)), true) := by
  show (if (decide (1 ≤ (k : Int)) && decide ((k : Int) ≤ 1000) && decide (([] : List D).length + 1 ≤ 1000)) = true then R.ok (D.tup (List.replicate (k : Int).toNat [D.int 0]).flatten, true) else R.bad) = _
  rw [if_pos (by simp; omega), Int.toNat_natCast]
  congr 3
  rw [I, List.map_replicate, List.flatten_replicate_singleton]
theorem bools_map {α : Type} {f : α → Bool} : ∀ xs : List α, boolsD (xs.map fun x => D.bl (f x)) = some (xs.map f)
  | [] => rfl
  | x :: xs => by
    show (boolsD (xs.map fun x => D.bl (f x))).map (f x :: ·) = _
    rw [bools_map xs]; rfl
theorem kAny_map {α : Type} {f : α → Bool} {xs : List α} {o b : Bool} : kAnyB [(.lst o (xs.map fun x => D.bl (f x)), b)] = .ok (.bl (xs.any f), true) := by
  show (match boolsD (xs.map fun x => D.bl (f x)) with | some ns => R.ok (D.bl (ns.any id), true) | none => R.bad) = _
  rw [bools_map]
  simp [List.any_map]
theorem kAll_map' {α : Type} {f : α → Bool} {xs : List α} {o b : Bool} : kAll [(.lst o (xs.map fun x => D.bl (f x)), b)] = .ok (.bl (xs.all f), true) := by
  show (match boolsD (xs.map fun x => D.bl (f x)) with | some ns => R.ok (D.bl (ns.all id), true) | none => R.bad) = _
  rw [bools_map]
  simp [List.all_map]
end VL
end
section
namespace VL
open PySem L2
def outE (o : Out) (P : Env → Prop) (Q : D → Prop) (X : Str → Prop) : Prop := match o with | .next ρ => P ρ | .ret d _ => Q d | .exc c _ => X c | _ => False
@[simp] theorem outE_next {ρ : Env} {P : Env → Prop} {Q : D → Prop} {X : Str → Prop} : outE (.next ρ) P Q X = P ρ := rfl
@[simp] theorem outE_ret {ρ : Env} {d : D} {P : Env → Prop} {Q : D → Prop} {X : Str → Prop} : outE (.ret d ρ) P Q X = Q d := rfl
@[simp] theorem outE_exc {ρ : Env} {c : Str} {P : Env → Prop} {Q : D → Prop} {X : Str → Prop} : outE (.exc c ρ) P Q X = X c := rfl
@[simp] theorem andThen_exc {ρ : Env} {c : Str} {g : SemS} : (Out.exc c ρ).andThen g = .exc c ρ := rfl
theorem outE_mono {o : Out} {P P' : Env → Prop} {Q Q' : D → Prop} {X X' : Str → Prop} (h : outE o P' Q' X') (h1 : ∀ ρ, P' ρ → P ρ) (h2 : ∀ d, Q' d → Q d) (h3 : ∀ c, X' c → X c) : outE o P Q X := by
  cases o <;> first | exact h1 _ h | exact h2 _ h | exact h3 _ h | exact h.elim
def RetX (fn : Fn) (ds : List D) (c : Str) : Prop := fn ds = .exc c
theorem resE {n : Nat} {body : SemS} {ds : List D} {P : D → Prop} {X : Str → Prop} (h : outE (body (entry n ds)) (fun _ => P .non) P X) : RetP (fnOf n body) ds P ∨ ∃ c, RetX (fnOf n body) ds c ∧ X c := by
  cases e : body (entry n ds) with
  | next ρ => rw [e] at h; exact .inl ⟨_, non_of ⟨ρ, e⟩, h⟩
  | ret d ρ => rw [e] at h; exact .inl ⟨_, ret_of ⟨ρ, e⟩, h⟩
  | exc c ρ => rw [e] at h; exact .inr ⟨c, by unfold RetX fnOf; rw [e], h⟩
  | brk ρ => rw [e] at h; exact h.elim
  | cont ρ => rw [e] at h; exact h.elim
  | bad => rw [e] at h; exact h.elim
def Look (fn : Fn) (ds : List D) (b : Bool) : Prop := (b = true → Ret fn ds .non) ∧ (b = false → RetX fn ds "BadForm")
theorem look_of {n : Nat} {body : SemS} {ds : List D} {b : Bool} (h : outE (body (entry n ds)) (fun _ => b = true) (fun _ => False) (fun c => c = "BadForm" ∧ b = false)) : Look (fnOf n body) ds b := by
  have := resE (P := fun d => d = .non ∧ b = true) (X := fun c => c = "BadForm" ∧ b = false) (outE_mono h (fun _ q => ⟨rfl, q⟩) (fun _ q => q.elim) fun _ q => q)
  rcases this with ⟨d, h1, rfl, hb⟩ | ⟨c, h1, rfl, hb⟩
  · exact ⟨fun _ => h1, fun z => by rw [hb] at z; cases z⟩
  · exact ⟨fun z => (by rw [hb] at z; cases z), fun _ => h1⟩
def callX (fn : Fn) (ds : List D) (k : Bool) (ρ : Env) (f : D → Out) : Out := match fn ds with
  | .ok y => if k || isScal y.1 then f y.1 else .bad
  | .exc c => .exc c ρ | .bad => .bad
theorem callX_k {fn : Fn} {ds : List D} {d : D} {ρ : Env} {f : D → Out} (h : Ret fn ds d) : callX fn ds true ρ f = f d := by
  obtain ⟨os, h⟩ := h
  unfold callX; rw [h]; rfl
theorem callX_e {fn : Fn} {ds : List D} {k : Bool} {c : Str} {ρ : Env} {f : D → Out} (h : RetX fn ds c) : callX fn ds k ρ f = .exc c ρ := by
  unfold callX; rw [h]
def onA (r : R (List (D × Bool))) (k : List (D × Bool) → Out) : Out := match r with | .ok xs => k xs | _ => .bad
@[simp] theorem onA_ok {xs : List (D × Bool)} {k : List (D × Bool) → Out} : onA (.ok xs) k = k xs := rfl
@[simp] theorem dropX_at {fn : Fn} {g : SemA} {ρ : Env} : sDrop (xCall fn g) ρ = onA (g ρ) fun xs => callX fn (D.frzs (xs.map (·.1))) (xs.all keepable) ρ fun _ => .next ρ := by
  unfold sDrop xCall onA callX
  cases g ρ with
  | ok xs =>
    dsimp only
    cases fn (D.frzs (xs.map (·.1))) with
    | ok y => by_cases hk : (xs.all keepable || isScal y.1) = true <;> simp [hk]
    | exc c => rfl
    | bad => rfl
  | exc _ => rfl
  | bad => rfl
@[simp] theorem setX_at {i : Nat} {fn : Fn} {g : SemA} {ρ : Env} : sSet i (xCall fn g) ρ = onA (g ρ) fun xs => callX fn (D.frzs (xs.map (·.1))) (xs.all keepable) ρ fun d => if free ρ i then .next (ρ.set i (.val d)) else .bad := by
  unfold sSet xCall onA callX
  cases g ρ with
  | ok xs =>
    dsimp only
    cases fn (D.frzs (xs.map (·.1))) with
    | ok y => by_cases hk : (xs.all keepable || isScal y.1) = true <;> simp [hk]
    | exc c => rfl
    | bad => rfl
  | exc _ => rfl
  | bad => rfl
@[simp] theorem forC_at {fn : Fn} {g : SemA} {set : D → Env → Option Env} {b : SemS} {ρ : Env} : sForC fn g set b ρ = onA (g ρ) fun xs => match fn (D.frzs (xs.map (·.1))) with
    | .ok y => if xs.all keepable then (match icyL (y.1, true) with | .ok ds => forL set b (enumD ds) ρ | _ => .bad) else .bad
    | .exc c => .exc c ρ | .bad => .bad := by
  unfold sForC onA
  cases g ρ <;> rfl
@[simp] theorem raise_at {c : Str} {f : SemZ} {ρ : Env} : sRaise c f ρ = match f ρ with | some _ => .exc c ρ | none => .bad := rfl
@[simp] theorem zTop_at {f : SemZ} {ρ : Env} : zTop f ρ = (f ρ).bind fun n => if n ≤ 1000000 then some n else none := rfl
@[simp] theorem zAdd_at {f g : SemZ} {ρ : Env} : zAdd f g ρ = (f ρ).bind fun a => (g ρ).map fun b => a + b := rfl
def zI (r : R (D × Bool)) : Option Nat := match r with | .ok (.int a, _) => if a.natAbs ≤ 100000 then some 100002 else none | _ => none
@[simp] theorem zInt_at {g : SemE} {ρ : Env} : zInt g ρ = zI (g ρ) := rfl
@[simp] theorem zI_int {a : Int} {b : Bool} : zI (.ok (.int a, b)) = if a.natAbs ≤ 100000 then some 100002 else none := rfl
theorem forE_out {α : Type} {set : D → Env → Option Env} {b : SemS} {φ : α → D} {Q : D → Prop} {X : Str → Prop} (J : List α → Env → Prop) (xs : List α) (h : ∀ pre x post ρ, xs = pre ++ x :: post → J pre ρ → outE (stp (set (φ x) ρ) b) (J (pre ++ [x])) Q X) : ∀ (post pre : List α) (ρ : Env), xs = pre ++ post → J pre ρ → outE (forL set b (post.map φ) ρ) (J xs) Q X
  | [], pre, ρ, e, h0 => by show J xs ρ; rw [e, List.append_nil]; exact h0
  | x :: post, pre, ρ, e, h0 => by
    have h1 := h pre x post ρ e h0
    show outE (match set (φ x) ρ with | none => Out.bad | some ρ1 => loopOut (b ρ1) (forL set b (post.map φ))) (J xs) Q X
    cases es : set (φ x) ρ with
    | none => rw [es] at h1; exact h1.elim
    | some ρ1 =>
      rw [es] at h1
      have h1 : outE (b ρ1) (J (pre ++ [x])) Q X := h1
      dsimp only
      cases eb : b ρ1 with
      | next ρ2 => rw [eb] at h1; exact forE_out J xs h post (pre ++ [x]) ρ2 (by rw [e]; simp) h1
      | ret d ρ2 => rw [eb] at h1; exact h1
      | exc c ρ2 => rw [eb] at h1; exact h1
      | brk _ => rw [eb] at h1; exact h1.elim
      | cont _ => rw [eb] at h1; exact h1.elim
      | bad => rw [eb] at h1; exact h1.elim
theorem forE_all {α : Type} {set : D → Env → Option Env} {b : SemS} {φ : α → D} {Q : D → Prop} {X : Str → Prop} {ρ : Env} (J : List α → Env → Prop) (xs : List α) (h0 : J [] ρ) (h : ∀ pre x post ρ, xs = pre ++ x :: post → J pre ρ → outE (stp (set (φ x) ρ) b) (J (pre ++ [x])) Q X) : outE (forL set b (xs.map φ) ρ) (J xs) Q X := forE_out J xs h xs [] ρ rfl h0
end VL
end
section
namespace VL.PX
open VL PySem L2
theorem r_is_whole (i : Int) : Ret f_is_whole [.int i] (.bl true) := by
  refine ret_of ⟨[.val (.int i)], ?_⟩
  simp [b_is_whole, entry, kIsi, notExt, isiD]
theorem r_is_between (i a b : Int) : Ret f_is_between [.int i, .int a, .int b] (.bl (decide (a ≤ i) && decide (i ≤ b))) := by
  refine ret_of ⟨[.val (.int i), .val (.int a), .val (.int b)], ?_⟩
  simp [b_is_between, entry, callR_k (r_is_whole i)]
  by_cases h : a ≤ i <;> simp [h]
def cdC : SemT := tBool (v2 (kEq true) (vVar 1) (vC (.int 0)))
def cdB : SemS := sSeq (sSet 2 (xOf (v2 kMod (vVar 0) (vVar 1)))) (sSeq (sSet 0 (xOf (vVar 1))) (sSet 1 (xOf (vVar 2))))
theorem cd_step {n a b : Nat} {t : Slot} (ht : np t) (hb : 0 < b) : whileN cdC cdB (n + 1) [.val (.int a), .val (.int b), t] = whileN cdC cdB n [.val (.int b), .val (.int (a % b : Nat)), .val (.int (a % b : Nat))] := by
  refine while_t (by simp [cdC, Nat.ne_of_gt hb]) ?_
  simp [cdB, ht, hb]
theorem cd_end {n a : Nat} {t : Slot} : whileN cdC cdB (n + 1) [.val (.int a), .val (.int (0 : Nat)), t] = .next [.val (.int a), .val (.int (0 : Nat)), t] := by
  exact while_f (by simp [cdC])
theorem cd_loop : ∀ (k n a b : Nat) (t : Slot), np t → b < 2 ^ k → 2 * k + 1 ≤ n → ∃ t', whileN cdC cdB n [.val (.int a), .val (.int b), t] = .next [.val (.int (Nat.gcd a b : Nat)), .val (.int (0 : Nat)), t']
  | 0, n + 1, a, b, t, ht, hb, hn => by
    have : b = 0 := by simp at hb; exact hb
    subst this
    exact ⟨t, by rw [cd_end, Nat.gcd_zero_right]⟩
  | k + 1, n + 3, a, b, t, ht, hb, hn => by
    by_cases h0 : b = 0
    · subst h0; exact ⟨t, by rw [cd_end, Nat.gcd_zero_right]⟩
    · rw [cd_step ht (by omega)]
      by_cases h1 : a % b = 0
      · rw [h1]; exact ⟨_, by rw [cd_end, Nat.gcd_comm a b, Nat.gcd_rec, h1, Nat.gcd_zero_left]⟩
      · rw [cd_step np_val (by omega)]
        have hlt : b % (a % b) < 2 ^ k := by
          have e1 : a % b < b := Nat.mod_lt _ (by omega)
          have e2 : b % (a % b) < a % b := Nat.mod_lt _ (by omega)
          have e3 : b % (a % b) + (a % b) ≤ b := by
            have := Nat.div_add_mod b (a % b)
            have q : 1 ≤ b / (a % b) := Nat.div_pos (Nat.le_of_lt e1) (by omega)
            have : (a % b) * 1 ≤ (a % b) * (b / (a % b)) := Nat.mul_le_mul_left _ q
            omega
          rw [Nat.pow_succ] at hb
          omega
        obtain ⟨t', e⟩ := cd_loop k (n + 1) (a % b) (b % (a % b)) _ np_val hlt (by omega)
        refine ⟨t', ?_⟩
        rw [e]
        have g1 : Nat.gcd a b = Nat.gcd (a % b) b := by rw [Nat.gcd_comm a b, Nat.gcd_rec]
        have g2 : Nat.gcd (a % b) (b % (a % b)) = Nat.gcd (a % b) b := by rw [Nat.gcd_comm, ← Nat.gcd_rec]
        rw [g2, ← g1]
  | 0, 0, _, _, _, _, _, hn => by omega
  | k + 1, 0, _, _, _, _, _, hn => by omega
  | k + 1, 1, _, _, _, _, _, hn => by omega
  | k + 1, 2, _, _, _, _, _, hn => by omega
theorem abs_nat (i : Int) : (if i < 0 then -i else i) = (i.natAbs : Int) := by split <;> omega
theorem r_common_divisor {a b : Int} (hb : b.natAbs < 2 ^ 400) : Ret f_common_divisor [.int a, .int b] (.int (Int.gcd a b : Nat)) := by
  obtain ⟨t, e⟩ := cd_loop 400 1000 a.natAbs b.natAbs .un np_un hb (by omega)
  have e : whileN (tBool (v2 (kEq true) (vVar 1) (vC (.int 0)))) (sSeq (sSet 2 (xOf (v2 kMod (vVar 0) (vVar 1)))) (sSeq (sSet 0 (xOf (vVar 1))) (sSet 1 (xOf (vVar 2))))) fuel [.val (.int a.natAbs), .val (.int b.natAbs), .un] = _ := e
  refine ret_of ⟨[.un, .val (.int (0 : Nat)), t], ?_⟩
  simp only [b_common_divisor, entry, calm_int, List.map, if_true, List.length, List.replicate, List.append, List.cons_append, List.nil_append, sSeq_at, set_at, vCB_at, aCons_at, aNil_at, bind_ok, var_0v, var_s, kAbs_at, onOk_ok, abs_nat, Bool.true_or, Bool.true_and, free_0, free_s, np_val, andThen_next, List.set, e, retV_at]
  rfl
theorem fits_of {i : Int} (h : i.natAbs < 2 ^ 200) : fits i = true := by
  unfold fits; rw [Bool.and_eq_true, decide_eq_true_iff, decide_eq_true_iff]; omega
theorem r_fraction {a b : Int} (hb : b.natAbs < 2 ^ 200) (h0 : b ≠ 0) : Ret f_fraction [.int a, .int b] (.tup [.int (a / (Int.gcd a b : Nat)), .int (b / (Int.gcd a b : Nat))]) := by
  have hg : 0 < Int.gcd a b := Int.gcd_pos_of_ne_zero_right _ h0
  have hle : Int.gcd a b ≤ b.natAbs := Nat.le_of_dvd (by omega) (Int.gcd_dvd_natAbs_right a b)
  have hf : fits (Int.gcd a b : Nat) = true := fits_of (by omega)
  have hg' : (0 : Int) < (Int.gcd a b : Nat) := by omega
  refine ret_of ⟨[.val (.int a), .val (.int b), .val (.int (Int.gcd a b : Nat))], ?_⟩
  have hb4 : b.natAbs < 2 ^ 400 := Nat.lt_trans hb (by decide)
  simp [b_fraction, entry, callR_k (r_common_divisor (a := a) hb4), hf, hg]
end VL.PX
end
section
namespace VL.PX
open VL PySem L2
def SmallF (m : Nat) (f : List Int) : Prop := f.length = m + 1 ∧ ∀ x ∈ f, -1000 ≤ x ∧ x ≤ 1000
@[simp] theorem ln0 : (Str.ofString "a form for ").length = 11 := by rfl
@[simp] theorem ln1 : (Str.ofString " numbers is a tuple of one more").length = 31 := by rfl
@[simp] theorem ln2 : (Str.ofString "a form has a number that is not from -").length = 38 := by rfl
@[simp] theorem ln3 : (Str.ofString " to ").length = 4 := by rfl
@[simp] theorem ln4 : (Str.ofString "the forms are a list of ").length = 24 := by rfl
@[simp] theorem ln5 : (Str.ofString "a deed is a triple of guards, changes and cost").length = 46 := by rfl
@[simp] theorem ln6 : (Str.ofString "a line machine is a pair of how many numbers and the deeds").length = 58 := by rfl
@[simp] theorem ln7 : (Str.ofString "a line machine has 1 to ").length = 24 := by rfl
@[simp] theorem ln8 : (Str.ofString " numbers").length = 8 := by rfl
@[simp] theorem ln9 : (Str.ofString "a line machine has a list of 1 to ").length = 34 := by rfl
@[simp] theorem ln10 : (Str.ofString " deeds").length = 6 := by rfl
@[simp] theorem ln11 : (Str.ofString "prices are a list of one for each deed").length = 38 := by rfl
@[simp] theorem ln12 : (Str.ofString "a price is not from -").length = 21 := by rfl
def okI (x : Int) : Bool := decide (-1000 ≤ x) && decide (x ≤ 1000)
def formB (m : Int) (f : List Int) : Bool := decide ((f.length : Int) = m + 1) && f.all okI
theorem formB_iff {m : Nat} {f : List Int} : formB m f = true ↔ SmallF m f := by
  simp [formB, SmallF, okI]
  omega
theorem btw_ok (x : Int) : Ret f_is_between [.int x, .int (-1000), .int 1000] (.bl (okI x)) := by
  have := r_is_between x (-1000) 1000
  exact this
theorem look_form {f : List Int} {m : Int} (hm : m.natAbs ≤ 100000) : Look f_look_form [.tup (I f), .int m] (formB m f) := by
  refine look_of ?_
  by_cases hl : (f.length : Int) = m + 1
  · simp [b_look_form, entry, kIsi, notExt, isiD, truOk, truD, hl]
    refine outE_mono (forE_all (Q := fun _ => False) (X := fun c => c = "BadForm" ∧ formB m f = false) (fun pre ρ => pre.all okI = true ∧ ∃ t, np t ∧ ρ = [.val (.tup (I f)), .val (.int m), t]) f ⟨rfl, _, np_un, rfl⟩ ?_) ?_ (fun _ h => h) fun _ h => h
    · rintro pre x post ρ e ⟨ha, t, ht, rfl⟩
      cases hx : okI x with
      | true =>
        simp [ht, callR_k (btw_ok x), hx, truOk, truD]
        simpa using ha
      | false =>
        simp [ht, callR_k (btw_ok x), hx, truOk, truD]
        simp [formB, e, hx]
    · rintro ρ ⟨ha, t, ht, rfl⟩
      simp only [formB, hl, ha]; rfl
  · simp [b_look_form, entry, kIsi, notExt, isiD, truOk, truD, hl, hm]
    simp [formB, hl]
theorem calms_map {α : Type} {φ : α → D} (h : ∀ x, (φ x).calm = true) : ∀ xs : List α, D.calms (xs.map φ) = true
  | [] => rfl
  | x :: xs => by rw [List.map_cons, calms_cons, h x, calms_map h xs]; rfl
theorem frzs_map {α : Type} {φ : α → D} (h : ∀ x, (φ x).calm = true) (xs : List α) : D.frzs (xs.map φ) = xs.map φ := calms_frz _ (calms_map h xs)
def TT (fs : LI) : List D := fs.map fun f => D.tup (I f)
@[simp] theorem calms_T (fs : LI) : D.calms (TT fs) = true := calms_map (φ := fun f => D.tup (I f)) (fun f => calms_I f) fs
@[simp] theorem frzs_T (fs : LI) : D.frzs (TT fs) = TT fs := frzs_map (φ := fun f => D.tup (I f)) (fun f => calms_I f) fs
@[simp] theorem T_len (fs : LI) : (TT fs).length = fs.length := by simp [TT]
@[simp] theorem T_nil : TT [] = [] := rfl
@[simp] theorem T_snoc (fs : LI) (f : List Int) : TT fs ++ [.tup (I f)] = TT (fs ++ [f]) := by simp [TT]
theorem btw_t {x a b : Int} (h1 : a ≤ x) (h2 : x ≤ b) : Ret f_is_between [.int x, .int a, .int b] (.bl true) := by
  have := r_is_between x a b
  rw [decide_eq_true h1, decide_eq_true h2] at this
  exact this
theorem btw_f {x a b : Int} (h : ¬ (a ≤ x ∧ x ≤ b)) : Ret f_is_between [.int x, .int a, .int b] (.bl false) := by
  have := r_is_between x a b
  rw [show (decide (a ≤ x) && decide (x ≤ b)) = false by rw [← Bool.decide_and]; exact decide_eq_false h] at this
  exact this
def formsB (lo hi m : Int) (fs : LI) : Bool := decide (lo ≤ (fs.length : Int) ∧ (fs.length : Int) ≤ hi) && fs.all (formB m)
theorem look_forms {fs : LI} {lo hi m : Int} (h1 : lo.natAbs ≤ 100000) (h2 : hi.natAbs ≤ 100000) (hm : m.natAbs ≤ 100000) : Look f_look_forms [.lst false (TT fs), .int lo, .int hi, .int m] (formsB lo hi m fs) := by
  refine look_of ?_
  by_cases hl : lo ≤ (fs.length : Int) ∧ (fs.length : Int) ≤ hi
  · simp [b_look_forms, entry, kIsi, notExt, isiD, truOk, truD, callR_k (btw_t hl.1 hl.2)]
    rw [show TT fs = fs.map fun f => D.tup (I f) from rfl]
    refine outE_mono (forE_all (Q := fun _ => False) (X := fun c => c = "BadForm" ∧ formsB lo hi m fs = false) (fun pre ρ => pre.all (formB m) = true ∧ ∃ t, np t ∧ ρ = [.val (.lst false (TT fs)), .val (.int lo), .val (.int hi), .val (.int m), t]) fs ⟨rfl, _, np_un, rfl⟩ ?_) ?_ (fun _ h => h) fun _ h => h
    · rintro pre x post ρ e ⟨ha, t, ht, rfl⟩
      have hx := look_form (f := x) hm
      cases hb : formB m x with
      | true =>
        simp [ht, callX_k (hx.1 hb), hb]
        simpa using ha
      | false =>
        simp [ht, callX_e (hx.2 hb), hb]
        simp [formsB, e, hb]
    · rintro ρ ⟨ha, t, ht, rfl⟩
      simp only [formsB, hl, ha]; rfl
  · simp [b_look_forms, entry, kIsi, notExt, isiD, truOk, truD, callR_k (btw_f hl), h1, h2]
    simp only [formsB, hl]; rfl
structure Deed where
  gs : LI
  cs : LI
  cost : List Int
def Deed.d (x : Deed) : D := .tup [.lst false (TT x.gs), .lst false (TT x.cs), .tup (I x.cost)]
structure Deed.Ok (m : Nat) (x : Deed) : Prop where
  gs : ∀ f ∈ x.gs, SmallF m f
  gl : x.gs.length ≤ 4
  cs : ∀ f ∈ x.cs, SmallF m f
  cl : x.cs.length = m
  cost : SmallF m x.cost
@[simp] theorem Deed.calm (x : Deed) : x.d.calm = true := by simp [Deed.d]
@[simp] theorem Deed.frz (x : Deed) : x.d.frz = x.d := calm_frz _ x.calm
def DD (xs : List Deed) : List D := xs.map Deed.d
@[simp] theorem D_len (xs : List Deed) : (DD xs).length = xs.length := by simp [DD]
@[simp] theorem D_nil : DD [] = [] := rfl
@[simp] theorem D_snoc (xs : List Deed) (x : Deed) : DD xs ++ [x.d] = DD (xs ++ [x]) := by simp [DD]
@[simp] theorem calms_Dd (xs : List Deed) : D.calms (DD xs) = true := calms_map Deed.calm xs
@[simp] theorem frzs_Dd (xs : List Deed) : D.frzs (DD xs) = DD xs := frzs_map Deed.calm xs
theorem atI_0 {α : Type} {a : α} {xs : List α} : atI (a :: xs) 0 = some a := by have := atI_nat (xs := a :: xs) (k := 0); simpa using this
theorem atI_1 {α : Type} {a b : α} {xs : List α} : atI (a :: b :: xs) 1 = some b := by have := atI_nat (xs := a :: b :: xs) (k := 1); simpa using this
theorem atI_2 {α : Type} {a b c : α} {xs : List α} : atI (a :: b :: c :: xs) 2 = some c := by have := atI_nat (xs := a :: b :: c :: xs) (k := 2); simpa using this
def Deed.okB (m : Int) (x : Deed) : Bool := formsB 0 4 m x.gs && (formsB m m m x.cs && formB m x.cost)
theorem Deed.okB_iff {m : Nat} {x : Deed} : x.okB m = true ↔ x.Ok m := by
  simp only [Deed.okB, formsB, Bool.and_eq_true, List.all_eq_true, formB_iff, decide_eq_true_eq]
  constructor
  · rintro ⟨⟨h1, h2⟩, ⟨h3, h4⟩, h5⟩
    exact ⟨h2, by omega, h4, by omega, h5⟩
  · intro h
    have := h.gl; have := h.cl
    exact ⟨⟨by omega, h.gs⟩, ⟨by omega, h.cs⟩, h.cost⟩
theorem look_deed {x : Deed} {m : Int} (hm : m.natAbs ≤ 100000) : Look f_look_deed [x.d, .int m] (x.okB m) := by
  refine look_of ?_
  have e1 := look_forms (fs := x.gs) (lo := 0) (hi := 4) (m := m) (by decide) (by decide) hm
  have e2 := look_forms (fs := x.cs) (lo := m) (hi := m) (m := m) hm hm hm
  have e3 := look_form (f := x.cost) hm
  cases b1 : formsB 0 4 m x.gs with
  | false => simp [Deed.okB, b1, Deed.d, b_look_deed, entry, kIsi, notExt, isiD, truOk, truD, atI_0, atI_1, atI_2, callX_e (e1.2 b1)]
  | true => cases b2 : formsB m m m x.cs with
    | false => simp [Deed.okB, b1, b2, Deed.d, b_look_deed, entry, kIsi, notExt, isiD, truOk, truD, atI_0, atI_1, atI_2, callX_k (e1.1 b1), callX_e (e2.2 b2)]
    | true => cases b3 : formB m x.cost with
      | false => simp [Deed.okB, b1, b2, b3, Deed.d, b_look_deed, entry, kIsi, notExt, isiD, truOk, truD, atI_0, atI_1, atI_2, callX_k (e1.1 b1), callX_k (e2.1 b2), callX_e (e3.2 b3)]
      | true => simp [Deed.okB, b1, b2, b3, Deed.d, b_look_deed, entry, kIsi, notExt, isiD, truOk, truD, atI_0, atI_1, atI_2, callX_k (e1.1 b1), callX_k (e2.1 b2), callX_k (e3.1 b3)]
def linesB (m : Int) (xs : List Deed) : Bool := decide (1 ≤ m ∧ m ≤ 4) && (decide (1 ≤ (xs.length : Int) ∧ (xs.length : Int) ≤ 8) && xs.all (Deed.okB m))
theorem linesB_iff {m : Nat} {xs : List Deed} : linesB m xs = true ↔ (1 ≤ m ∧ m ≤ 4) ∧ (1 ≤ xs.length ∧ xs.length ≤ 8) ∧ ∀ x ∈ xs, x.Ok m := by
  simp only [linesB, Bool.and_eq_true, List.all_eq_true, Deed.okB_iff, decide_eq_true_eq]
  constructor
  · rintro ⟨⟨h1, h2⟩, ⟨h3, h4⟩, h5⟩
    exact ⟨⟨by omega, by omega⟩, ⟨by omega, by omega⟩, h5⟩
  · rintro ⟨⟨h1, h2⟩, ⟨h3, h4⟩, h5⟩
    exact ⟨⟨by omega, by omega⟩, ⟨by omega, by omega⟩, h5⟩
theorem look_lines {xs : List Deed} {m : Int} : Look f_look_lines [.tup [.int m, .lst false (DD xs)]] (linesB m xs) := by
  refine look_of ?_
  by_cases h1 : 1 ≤ m ∧ m ≤ 4
  · by_cases h2 : 1 ≤ (xs.length : Int) ∧ (xs.length : Int) ≤ 8
    · simp [b_look_lines, entry, kIsi, notExt, isiD, truOk, truD, atI_0, atI_1, callR_k (btw_t h1.1 h1.2), callR_k (btw_t h2.1 h2.2)]
      refine outE_mono (forE_all (Q := fun _ => False) (X := fun c => c = "BadForm" ∧ linesB m xs = false) (fun pre ρ => pre.all (Deed.okB m) = true ∧ ∃ t, np t ∧ ρ = [.val (.tup [.int m, .lst false (DD xs)]), t]) xs ⟨rfl, _, np_un, rfl⟩ ?_) ?_ (fun _ h => h) fun _ h => h
      · rintro pre x post ρ e ⟨ha, t, ht, rfl⟩
        have hx := look_deed (x := x) (m := m) (by omega)
        cases hb : Deed.okB m x with
        | true =>
          simp [ht, atI_0, callX_k (hx.1 hb), hb]
          simpa using ha
        | false =>
          simp [ht, atI_0, callX_e (hx.2 hb), hb]
          simp [linesB, e, hb]
      · rintro ρ ⟨ha, t, ht, rfl⟩
        simp only [linesB, h1, h2, ha]; rfl
    · simp [b_look_lines, entry, kIsi, notExt, isiD, truOk, truD, atI_0, atI_1, callR_k (btw_t h1.1 h1.2), callR_k (btw_f h2)]
      simp only [linesB, h2]; simp
  · simp [b_look_lines, entry, kIsi, notExt, isiD, truOk, truD, atI_0, atI_1, callR_k (btw_f h1)]
    simp only [linesB, h1]; simp
def pricesB (n : Nat) (ps : List Int) : Bool := decide ((ps.length : Int) = (n : Int)) && ps.all okI
theorem pricesB_iff {n : Nat} {ps : List Int} : pricesB n ps = true ↔ ps.length = n ∧ ∀ p ∈ ps, -1000 ≤ p ∧ p ≤ 1000 := by
  simp [pricesB, okI]
  intro _; omega
theorem look_prices {xs : List Deed} {ps : List Int} {a : D} (ha : a.calm = true) : Look f_look_prices [.tup [a, .lst false (DD xs)], .lst false (I ps)] (pricesB xs.length ps) := by
  refine look_of ?_
  by_cases hl : (ps.length : Int) = (xs.length : Int)
  · simp [b_look_prices, entry, kIsi, notExt, isiD, truOk, truD, atI_1, ha, hl]
    refine outE_mono (forE_all (Q := fun _ => False) (X := fun c => c = "BadForm" ∧ pricesB xs.length ps = false) (fun pre ρ => pre.all okI = true ∧ ∃ t, np t ∧ ρ = [.val (.tup [a, .lst false (DD xs)]), .val (.lst false (I ps)), t]) ps ⟨rfl, _, np_un, rfl⟩ ?_) ?_ (fun _ h => h) fun _ h => h
    · rintro pre x post ρ e ⟨ha, t, ht, rfl⟩
      cases hx : okI x with
      | true =>
        simp [ht, callR_k (btw_ok x), hx, truOk, truD]
        simpa using ha
      | false =>
        simp [ht, callR_k (btw_ok x), hx, truOk, truD]
        simp [pricesB, e, hx]
    · rintro ρ ⟨ha, t, ht, rfl⟩
      simp only [pricesB, hl, ha]; rfl
  · simp [b_look_prices, entry, kIsi, notExt, isiD, truOk, truD, atI_1, ha, hl]
    simp only [pricesB, hl]; rfl
end VL.PX
end
section
namespace VL.PX
open VL PySem L2
theorem atI_I {xs : List Int} {k : Nat} (h : k < xs.length) : atI (I xs) (k : Int) = some (.int (gt xs k)) := by
  rw [atI_nat, I_get h]
theorem last_getD {xs : List Int} {m : Nat} (h : xs.length = m + 1) : xs.getLast? = some (gt xs m) := by
  rw [List.getLast?_eq_getElem?, h]; exact gt_eq (by omega)
theorem atI_Il {xs : List Int} {m : Nat} (h : xs.length = m + 1) : atI (I xs) (-1) = some (.int (gt xs m)) := by
  rw [atI_last, I, List.getLast?_map, last_getD h]; rfl
@[simp] theorem kSum_I {o b : Bool} {xs : List Int} : kSum [(.lst o (I xs), b)] = .ok (.int xs.sum, true) := by
  show (match intsD (I xs) with | some ns => R.ok (D.int ns.sum, true) | none => .bad) = _
  rw [intsD_I]
theorem vComp1I {α : Type} {it : SemI} {js : List Nat} {e : SemE} {ρ : Env} (caps : Env) (xs : List α) (φ : α → D) (g : α → Int) (hi : it ρ = .ok (xs.map φ)) (hl : xs.length ≤ 1000000) (hc : js.map (capt ρ) = caps)
    (he : ∀ x ∈ xs, e (.val (φ x) :: caps) = .ok (.int (g x), true)) : vComp it 1 js (bindD 0) tTrue e ρ = .ok (.lst true (I (xs.map g)), true) := by
  rw [vComp1 caps xs φ (fun x => D.int (g x)) (fun _ => true) hi hl hc (fun x hx => ⟨he x hx, rfl⟩) (.inr fun _ _ => rfl)]
  simp [I]
theorem vComp2I {α : Type} {it : SemI} {js : List Nat} {e : SemE} {ρ : Env} (caps : Env) (xs : List α) (φ χ : α → D) (g : α → Int) (hi : it ρ = .ok (xs.map fun x => .tup [φ x, χ x])) (hl : xs.length ≤ 1000000) (hc : js.map (capt ρ) = caps)
    (he : ∀ x ∈ xs, (φ x).calm = true ∧ (χ x).calm = true ∧ e (.val (φ x) :: .val (χ x) :: caps) = .ok (.int (g x), true)) : vComp it 2 js (bindT [0, 1]) tTrue e ρ = .ok (.lst true (I (xs.map g)), true) := by
  rw [vComp2 caps xs φ χ (fun x => D.int (g x)) (fun _ => true) hi hl hc (fun x hx => ⟨(he x hx).1, (he x hx).2.1, (he x hx).2.2, rfl⟩) (.inr fun _ _ => rfl)]
  simp [I]
theorem set_last {α : Type} {m : Nat} {s : Nat → α} {v : α} : ((List.range (m + 1)).map s).set m v = (List.range (m + 1)).map fun k => if k = m then v else s k := by
  refine List.ext_getElem (by simp) fun i h1 h2 => ?_
  simp at h1 h2
  rw [List.getElem_set]
  by_cases h : m = i
  · simp [h]
  · simp [h, Ne.symm h]
theorem ix_last {m : Nat} : ixN (m + 1) (-1) = some m := by
  unfold ixN; rw [if_neg (by omega), if_pos (by omega)]; congr 1; omega
@[simp] theorem capt_at {ρ : Env} {j : Nat} : capt ρ j = match getD ρ j with | some d => .val d.frz | none => .un := rfl
def small (x : Int) : Prop := -1000 ≤ x ∧ x ≤ 1000
theorem small_fits {x : Int} (h : small x) : fits x = true := by
  unfold small at h
  exact fits_of (Nat.lt_of_le_of_lt (show x.natAbs ≤ 1000 by omega) (by decide))
theorem gt_small {xs : List Int} (h : ∀ x ∈ xs, small x) (k : Nat) : small (gt xs k) := by
  unfold gt
  by_cases hk : k < xs.length
  · simp [List.getD, List.getElem?_eq_getElem hk]; exact h _ (List.getElem_mem hk)
  · simp [List.getD, List.getElem?_eq_none (by omega : xs.length ≤ k)]; unfold small; omega
theorem enum_T (fs : LI) : enumD (TT fs) = fs.zipIdx.map fun p => .tup [.int (p.2 : Nat), .tup (I p.1)] := enum_map
theorem enum_I (xs : List Int) : enumD (I xs) = xs.zipIdx.map fun p => .tup [.int (p.2 : Nat), .int p.1] := enum_map
theorem zip_I (xs ys : List Int) : zipD (I xs) (I ys) = (xs.zip ys).map fun p => .tup [.int p.1, .int p.2] := zip_map
def pbS (purse : List Int) (cs : LI) (k : Nat) : Int := (cs.zipIdx.map fun p => gt purse p.2 * gt p.1 k).sum
def pbL (m : Nat) (purse : List Int) (cs : LI) : List Int := (List.range (m + 1)).map fun k => if k = m then pbS purse cs m + gt purse m else pbS purse cs k
theorem gt_range {n k : Nat} {s : Nat → Int} (h : k < n) : gt ((List.range n).map s) k = s k := by simp [gt, h]
theorem r_purse_behind {m : Nat} {purse : List Int} {cs : LI} (hp : SmallF m purse) (hc : ∀ f ∈ cs, SmallF m f) (hl : cs.length ≤ m) (hm : m ≤ 1000) :
    Ret f_purse_behind [.tup (I purse), .lst false (TT cs)] (.lst true (I (pbL m purse cs))) := by
  refine retE ?_
  simp -implicitDefEqProofs [b_purse_behind, entry, hp.1, rng_succ (show m + 1 ≤ 1000000 by omega)]
  refine out_then (for_all (fun pre ρ => ∃ t, np t ∧ ρ = [.val (.tup (I purse)), .val (.lst false (TT cs)), .val (.lst true (I (pre.map (pbS purse cs)))), t]) (List.range (m + 1)) ⟨_, np_un, rfl⟩ ?_) ?_
  · rintro pre k post ρ e ⟨t, ht, rfl⟩
    have hk : k < m + 1 := List.mem_range.mp (by rw [e]; simp)
    have hpl : pre.length < 1000000 := by
      have := congrArg List.length e; simp at this; omega
    have ec : vComp (iEnF (vVar 1)) 2 [0, 3] (bindT [0, 1]) tTrue (v2 kTimes (v2 kIx (vVar 2) (vVar 0)) (v2 kIx (vVar 1) (vVar 3))) [.val (.tup (I purse)), .val (.lst false (TT cs)), .val (.lst true (I (pre.map (pbS purse cs)))), .val (.int k)]
        = .ok (.lst true (I (cs.zipIdx.map fun p => gt purse p.2 * gt p.1 k)), true) := by
      refine vComp2I [.val (.tup (I purse)), .val (.int k)] cs.zipIdx (fun p => .int (p.2 : Nat)) (fun p => .tup (I p.1)) _ (by simp [enum_T]) (by simp; omega) (by simp) ?_
      rintro ⟨f, j⟩ hx
      have hj := List.mem_zipIdx hx
      simp at hj
      have hf : f ∈ cs := by rw [hj.2]; exact List.getElem_mem _
      have f1 := small_fits (gt_small hp.2 j)
      have f2 := small_fits (gt_small (hc f hf).2 k)
      simp [atI_I (show j < purse.length by rw [hp.1]; omega), atI_I (show k < f.length by rw [(hc f hf).1]; exact hk), f1, f2]
    simp [ht, ec, hpl]
    rfl
  · rintro ρ ⟨t, ht, rfl⟩
    simp [sAugItem, atI_Il (show ((List.range (m + 1)).map (pbS purse cs)).length = m + 1 by simp), atI_Il hp.1, ix_last, gt_range (Nat.lt_succ_self m)]
    simp [I, pbL, set_last]
    intro a ha
    split <;> rfl
end VL.PX
end
section
namespace VL.PX
open VL PySem L2
@[simp] theorem pbL_len (m : Nat) (p : List Int) (cs : LI) : (pbL m p cs).length = m + 1 := by simp [pbL]
@[simp] theorem kIx_d0 {x : Deed} {b c : Bool} : kIx (x.d, b) (.int 0, c) = .ok (.lst false (TT x.gs), b) := by
  rw [Deed.d, kIx_t, atI_0]; rfl
@[simp] theorem kIx_d1 {x : Deed} {b c : Bool} : kIx (x.d, b) (.int 1, c) = .ok (.lst false (TT x.cs), b) := by
  rw [Deed.d, kIx_t, atI_1]; rfl
@[simp] theorem kIx_d2 {x : Deed} {b c : Bool} : kIx (x.d, b) (.int 2, c) = .ok (.tup (I x.cost), b) := by
  rw [Deed.d, kIx_t, atI_2]; rfl
def ovS (m : Nat) (x : Deed) (purse : List Int) (k : Nat) : Int := gt purse k - gt x.cost k - gt (pbL m purse x.cs) k
def ovL (m : Nat) (x : Deed) (price : Int) (purse : List Int) : List Int := (List.range (m + 1)).map fun k => if k = m then ovS m x purse m + price else ovS m x purse k
theorem r_left_over {m : Nat} {x : Deed} {price : Int} {purse : List Int} (hx : x.Ok m) (hp : SmallF m purse) (hm : m ≤ 1000) : Ret f_left_over [x.d, .int price, .tup (I purse)] (.lst true (I (ovL m x price purse))) := by
  refine retE ?_
  have e1 := r_purse_behind hp hx.cs (Nat.le_of_eq hx.cl) hm
  have ec : vComp (iR1 (aCons (vCB kLen (aCons (vVar 2) aNil)) aNil)) 1 [3, 2, 0] (bindD 0) tTrue (v2 kSub (v2 kSub (v2 kIx (vVar 2) (vVar 0)) (v2 kIx (v2 kIx (vVar 3) (vC (.int 2))) (vVar 0))) (v2 kIx (vVar 1) (vVar 0)))
      [.val x.d, .val (.int price), .val (.tup (I purse)), .val (.lst false (I (pbL m purse x.cs))), .un] = .ok (.lst true (I ((List.range (m + 1)).map (ovS m x purse))), true) := by
    refine vComp1I [.val (.lst false (I (pbL m purse x.cs))), .val (.tup (I purse)), .val x.d] (List.range (m + 1)) (fun k => .int (k : Int)) _ (by simp -implicitDefEqProofs [hp.1, rng_succ (show m + 1 ≤ 1000000 by omega)]) (by simp; omega) (by simp) ?_
    intro k hk
    have hk := List.mem_range.mp hk
    simp -implicitDefEqProofs [Deed.d, atI_2, atI_I (show k < purse.length by rw [hp.1]; exact hk), atI_I (show k < x.cost.length by rw [hx.cost.1]; exact hk), atI_I (show k < (pbL m purse x.cs).length by simp; exact hk), ovS]
  simp -implicitDefEqProofs [b_left_over, entry, callR_k e1, ec, sAugItem, atI_Il (show ((List.range (m + 1)).map (ovS m x purse)).length = m + 1 by simp), ix_last, gt_range (Nat.lt_succ_self m)]
  simp [I, ovL, set_last]
  intro a ha
  split <;> rfl
abbrev Duty := LI × List Int
def Duty.d (x : Duty) : D := .tup [.lst false (TT x.1), .lst false (I x.2)]
def UU (xs : List Duty) : List D := xs.map Duty.d
@[simp] theorem Duty.calm (x : Duty) : (Duty.d x).calm = true := by simp [Duty.d]
@[simp] theorem U_len (xs : List Duty) : (UU xs).length = xs.length := by simp [UU]
@[simp] theorem U_nil : UU [] = [] := rfl
@[simp] theorem U_snoc (xs : List Duty) (gs : LI) (f : List Int) : UU xs ++ [.tup [.lst false (TT gs), .lst false (I f)]] = UU (xs ++ [(gs, f)]) := by simp [UU, Duty.d]
@[simp] theorem U_snoc0 (xs : List Duty) (f : List Int) : UU xs ++ [.tup [.lst false [], .lst false (I f)]] = UU (xs ++ [([], f)]) := U_snoc xs [] f
@[simp] theorem calms_U (xs : List Duty) : D.calms (UU xs) = true := calms_map Duty.calm xs
@[simp] theorem frzs_U (xs : List Duty) : D.frzs (UU xs) = UU xs := frzs_map Duty.calm xs
def dut1 (m : Nat) (purse : List Int) (p : Deed × Int) : List Duty := (p.1.gs, ovL m p.1 p.2 purse) :: p.1.cs.map fun c => (p.1.gs, c)
def duts (m : Nat) (xs : List Deed) (ps purse : List Int) : List Duty := (xs.zip ps).flatMap (dut1 m purse) ++ [([], purse)]
theorem zip_DI (xs : List Deed) (ys : List Int) : zipD (DD xs) (I ys) = (xs.zip ys).map fun p => .tup [p.1.d, .int p.2] := zip_map
theorem len_dut {m : Nat} {purse : List Int} : ∀ (l : List (Deed × Int)), (∀ p ∈ l, p.1.Ok m) → (l.flatMap (dut1 m purse)).length = l.length * (m + 1)
  | [], _ => by simp
  | p :: l, h => by
    have h1 := (h p List.mem_cons_self).cl
    rw [List.flatMap_cons, List.length_append, len_dut l fun q hq => h q (List.mem_cons_of_mem _ hq), List.length_cons, Nat.add_mul]
    simp [dut1, h1]; omega
theorem r_duties_of {m : Nat} {xs : List Deed} {ps purse : List Int} (hx : ∀ x ∈ xs, x.Ok m) (h1 : 1 ≤ m) (h2 : m ≤ 4) (h3 : 1 ≤ xs.length) (h4 : xs.length ≤ 8) (hl : ps.length = xs.length) (hps : ∀ p ∈ ps, -1000 ≤ p ∧ p ≤ 1000) (hp : SmallF m purse) :
    Ret f_duties_of [.tup [.int m, .lst false (DD xs)], .lst false (I ps), .tup (I purse)] (.lst true (UU (duts m xs ps purse))) := by
  refine retE ?_
  have q1 := (look_lines (xs := xs) (m := m)).1 (linesB_iff.mpr ⟨⟨h1, h2⟩, ⟨h3, h4⟩, hx⟩)
  have q2 := (look_prices (xs := xs) (ps := ps) (a := .int m) rfl).1 (pricesB_iff.mpr ⟨hl, hps⟩)
  have q3 := (look_form (f := purse) (m := m) (by omega)).1 (formB_iff.mpr hp)
  simp -implicitDefEqProofs [b_duties_of, entry, atI_0, atI_1, callX_k q1, callX_k q2, callX_k q3, zip_DI]
  refine out_then (for_all (fun pre ρ => ∃ t u v, np t ∧ np u ∧ np v ∧ ρ = [.val (.tup [.int m, .lst false (DD xs)]), .val (.lst false (I ps)), .val (.tup (I purse)), .val (.lst true (UU (pre.flatMap (dut1 m purse)))), t, u, v]) (xs.zip ps) ⟨_, _, _, np_un, np_un, np_un, rfl⟩ ?_) ?_
  · rintro pre ⟨x, p⟩ post ρ e ⟨t, u, v, ht, hu, hv, rfl⟩
    have hz : (x, p) ∈ xs.zip ps := by rw [e]; simp
    have hxo := hx x (List.of_mem_zip hz).1
    have hok : ∀ q ∈ pre, q.1.Ok m := fun q hq => hx q.1 (List.of_mem_zip (show (q.1, q.2) ∈ xs.zip ps by rw [e]; simp [hq])).1
    have hpl : pre.length ≤ 8 := by
      have := congrArg List.length e; simp at this; omega
    have hb : (pre.flatMap (dut1 m purse)).length ≤ 40 := by rw [len_dut pre hok]; exact Nat.le_trans (Nat.mul_le_mul hpl (show m + 1 ≤ 5 by omega)) (by decide)
    have hq : (pre.flatMap (dut1 m purse)).length < 1000000 := by omega
    simp -implicitDefEqProofs [-List.length_flatMap, ht, hu, hv, callR_k (r_left_over (price := p) hxo hp (by omega)), hq]
    refine out_mono (for_all (fun pre' ρ => ∃ w, np w ∧ ρ = [.val (.tup [.int m, .lst false (DD xs)]), .val (.lst false (I ps)), .val (.tup (I purse)), .val (.lst true (UU (pre.flatMap (dut1 m purse) ++ (x.gs, ovL m x p purse) :: pre'.map fun c => (x.gs, c)))), .val x.d, .val (.int p), w]) x.cs ⟨_, hv, rfl⟩ ?_) ?_ fun _ h => h
    · rintro pre' c post' ρ e' ⟨w, hw, rfl⟩
      have hl' : pre'.length < m := by
        have := congrArg List.length e'; rw [hxo.cl] at this; simp at this; omega
      have hq' : (pre.flatMap (dut1 m purse) ++ (x.gs, ovL m x p purse) :: pre'.map fun c => (x.gs, c)).length < 1000000 := by
        rw [List.length_append, List.length_cons, List.length_map]; omega
      rw [List.length_append] at hq'
      simp -implicitDefEqProofs [-List.length_flatMap] at hq'
      simp -implicitDefEqProofs [-List.length_flatMap, hw, hq']
    · rintro ρ ⟨w, hw, rfl⟩
      simp [dut1]
      exact ⟨_, np_val, _, np_val, _, hw, rfl, rfl, rfl⟩
  · rintro ρ ⟨t, u, v, ht, hu, hv, rfl⟩
    have hq : ((xs.zip ps).flatMap (dut1 m purse)).length < 1000000 := by
      rw [len_dut _ fun q hq => hx q.1 (List.of_mem_zip (show (q.1, q.2) ∈ xs.zip ps from hq)).1, List.length_zip]
      have : min xs.length ps.length ≤ 8 := by omega
      exact Nat.lt_of_le_of_lt (Nat.mul_le_mul this (show m + 1 ≤ 5 by omega)) (by decide)
    simp -implicitDefEqProofs [-List.length_flatMap, hq, duts]
def dutB (m : Int) (xs : List Deed) (ps purse : List Int) : Bool := linesB m xs && (pricesB xs.length ps && formB m purse)
theorem retX_of {n : Nat} {body : SemS} {ds : List D} {c : Str} (h : ∃ ρ, body (entry n ds) = .exc c ρ) : RetX (fnOf n body) ds c := by
  obtain ⟨ρ, h⟩ := h
  unfold RetX fnOf; rw [h]
theorem r_duties_x {m : Int} {xs : List Deed} {ps purse : List Int} (h : dutB m xs ps purse = false) : RetX f_duties_of [.tup [.int m, .lst false (DD xs)], .lst false (I ps), .tup (I purse)] "BadForm" := by
  refine retX_of ⟨[.val (.tup [.int m, .lst false (DD xs)]), .val (.lst false (I ps)), .val (.tup (I purse)), .un, .un, .un, .un], ?_⟩
  have q1 := look_lines (xs := xs) (m := m)
  have q2 := look_prices (xs := xs) (ps := ps) (a := .int m) rfl
  cases b1 : linesB m xs with
  | false => simp [b_duties_of, entry, atI_0, atI_1, callX_e (q1.2 b1)]
  | true =>
    have hm : m.natAbs ≤ 100000 := by
      simp only [linesB, Bool.and_eq_true, decide_eq_true_eq] at b1
      omega
    have q3 := look_form (f := purse) hm
    cases b2 : pricesB xs.length ps with
    | false => simp [b_duties_of, entry, atI_0, atI_1, callX_k (q1.1 b1), callX_e (q2.2 b2)]
    | true =>
      have b3 : formB m purse = false := by simpa [dutB, b1, b2] using h
      simp [b_duties_of, entry, atI_0, atI_1, callX_k (q1.1 b1), callX_k (q2.1 b2), callX_e (q3.2 b3)]
end VL.PX
end
section
namespace VL.PX
open VL PySem L2
def LL (T : LI) : List D := T.map fun r => D.lst false (I r)
def LO (T : LI) : List D := T.map fun r => D.lst true (I r)
@[simp] theorem calms_L (T : LI) : D.calms (LL T) = true := calms_map (φ := fun r => D.lst false (I r)) (fun r => by simp) T
@[simp] theorem frzs_L (T : LI) : D.frzs (LL T) = LL T := frzs_map (φ := fun r => D.lst false (I r)) (fun r => by simp) T
@[simp] theorem frzs_LO : ∀ T : LI, D.frzs (LO T) = LL T
  | [] => rfl
  | r :: T => by
    show (D.lst true (I r)).frz :: D.frzs (LO T) = _
    rw [frzs_LO T, frz_lst, frzs_I]; rfl
@[simp] theorem L_len (T : LI) : (LL T).length = T.length := by simp [LL]
@[simp] theorem LO_len (T : LI) : (LO T).length = T.length := by simp [LO]
@[simp] theorem LO_nil : LO [] = [] := rfl
@[simp] theorem LO_snoc (T : LI) (r : List Int) : LO T ++ [.lst true (I r)] = LO (T ++ [r]) := by simp [LO]
theorem enum_L (T : LI) : enumD (LL T) = T.zipIdx.map fun p => .tup [.int (p.2 : Nat), .lst false (I p.1)] := enum_map
@[simp] theorem setItem_at {i : Nat} {h f : SemE} {ρ : Env} : sSetItem i h f ρ = onOk (f ρ) fun d b => onOk (h ρ) fun k _ => match k with
    | .int k => (match (getD ρ i).bind fun e => kSet e k (d, b) with | some e => .next (putD ρ i e) | none => .bad) | _ => .bad := by
  unfold sSetItem onOk
  cases f ρ with
  | ok x =>
    cases h ρ with
    | ok y => obtain ⟨y, c⟩ := y; cases y <;> rfl
    | exc c => rfl
    | bad => rfl
  | exc c => rfl
  | bad => rfl
@[simp] theorem kSet_at {ds : List D} {k : Int} {x : D × Bool} : kSet (.lst true ds) k x = if keepable x then (ixN ds.length k).map fun j => .lst true (ds.set j x.1) else none := rfl
theorem ixN_nat {n k : Nat} (h : k < n) : ixN n (k : Int) = some k := by
  unfold ixN; rw [if_pos (by omega), if_pos (by omega)]; simp
@[simp] theorem I_set (xs : List Int) (k : Nat) (v : Int) : (I xs).set k (.int v) = I (xs.set k v) := by simp [I, List.map_set]
def unitL (n k : Nat) : List Int := (List.replicate n 0).set k 1
def wr (rows : LI) (bounds : List Int) : LI := rows.zipIdx.map fun p => p.1 ++ unitL rows.length p.2 ++ [gt bounds p.2]
theorem r_with_rests {rows : LI} {bounds : List Int} (h1 : rows.length ≤ 100) (h2 : rows.length ≤ bounds.length) (h3 : ∀ r ∈ rows, r.length ≤ 100) : Ret f_with_rests [.lst false (LL rows), .lst false (I bounds)] (.lst true (LO (wr rows bounds))) := by
  refine retE ?_
  simp -implicitDefEqProofs [b_with_rests, entry, enum_L]
  refine out_then (for_all (fun pre ρ => ∃ t u v, np t ∧ np u ∧ np v ∧ ρ = [.val (.lst false (LL rows)), .val (.lst false (I bounds)), .val (.lst true (LO (pre.map fun p => p.1 ++ unitL rows.length p.2 ++ [gt bounds p.2]))), t, u, v]) rows.zipIdx ⟨_, _, _, np_un, np_un, np_un, rfl⟩ ?_) ?_
  · rintro pre ⟨r, k⟩ post ρ e ⟨t, u, v, ht, hu, hv, rfl⟩
    have hm : (r, k) ∈ rows.zipIdx := by rw [e]; simp
    have hk := List.mem_zipIdx hm
    simp at hk
    have hr : r ∈ rows := by rw [hk.2]; exact List.getElem_mem _
    have hrl := h3 r hr
    have hpl : pre.length < 1000000 := by have := congrArg List.length e; simp at this; omega
    have ec : ∀ ρ : Env, vComp (iAny (vVar 0)) 1 [] (bindD 0) tTrue (vC (.int 0)) (.val (.lst false (LL rows)) :: ρ) = .ok (.lst true (I (rows.map fun _ => 0)), true) := fun ρ => by
      refine vComp1I [] rows (fun r => .lst false (I r)) (fun _ => 0) (by simp; rfl) (by omega) rfl ?_
      intro x _; simp
    have eu : unitL rows.length k = (rows.map fun _ => (0 : Int)).set k 1 := by
      unfold unitL; congr 1; exact (List.map_const' ..).symm
    simp -implicitDefEqProofs [ht, hu, hv, ec, ixN_nat hk.1, atI_I (show k < bounds.length by omega), I_app]
    rw [if_pos (by omega)]
    simp -implicitDefEqProofs
    rw [if_pos (by omega)]
    simp -implicitDefEqProofs [hpl, hv]
    rw [eu]
    simp
    exact ⟨_, np_val, _, np_val, _, np_val, rfl, rfl, rfl⟩
  · rintro ρ ⟨t, u, v, ht, hu, hv, rfl⟩
    simp -implicitDefEqProofs [wr]
end VL.PX
end
section
namespace VL.PX
open VL PySem L2
def rw' (T : LI) (i : Nat) : List Int := T.getD i []
theorem rw_eq {T : LI} {i : Nat} (h : i < T.length) : T[i]? = some (rw' T i) := by simp [rw', List.getElem?_eq_getElem h]
theorem zipIdx_split {α : Type} {xs : List α} {pre post : List (α × Nat)} {x : α} {k : Nat} (e : xs.zipIdx = pre ++ (x, k) :: post) : k = pre.length ∧ xs[k]? = some x ∧ k < xs.length := by
  have h1 : xs.zipIdx[pre.length]? = some (x, k) := by rw [e]; simp
  rw [List.getElem?_zipIdx] at h1
  cases h : xs[pre.length]? with
  | none => rw [h] at h1; cases h1
  | some y =>
    rw [h] at h1
    simp at h1
    obtain ⟨h1, h2⟩ := h1
    subst h2; subst h1
    exact ⟨rfl, h, (List.getElem?_eq_some_iff.mp h).1⟩
def Below (N : Nat) (T : LI) (S : List Int) (n : Nat) (d : D) : Prop :=
  (d = .non ∧ ∀ i, i < n → 0 ≤ gt (rw' T i) N) ∨ ∃ r : Nat, d = .int r ∧ r < n ∧ gt (rw' T r) N < 0 ∧ ∀ i, i < n → gt (rw' T i) N < 0 → gt S r ≤ gt S i
theorem r_row_below {N : Nat} {T : LI} {S : List Int} (hT : ∀ r ∈ T, r.length = N + 1) (hS : S.length = T.length) : RetP f_row_below [.lst false (LL T), .lst false (I S)] (Below N T S T.length) := by
  refine retP_of ?_
  simp -implicitDefEqProofs [b_row_below, entry, enum_L]
  refine out_then (for_all (fun pre ρ => ∃ d t u, np t ∧ np u ∧ Below N T S pre.length d ∧ ρ = [.val (.lst false (LL T)), .val (.lst false (I S)), .val d, t, u]) T.zipIdx ⟨_, _, _, np_un, np_un, .inl ⟨rfl, fun i hi => by simp at hi⟩, rfl⟩ ?_) ?_
  · rintro pre ⟨r, k⟩ post ρ e ⟨d, t, u, ht, hu, hb, rfl⟩
    obtain ⟨hk, hr, hlt⟩ := zipIdx_split e
    have hrm : r ∈ T := List.mem_of_getElem? hr
    have hrw : rw' T k = r := by rw [rw_eq hlt] at hr; exact Option.some.inj hr
    have ha := atI_Il (hT r hrm)
    rcases hb with ⟨rfl, hb⟩ | ⟨q, rfl, hq, hb1, hb2⟩
    · by_cases hneg : gt r N < 0
      · simp -implicitDefEqProofs [ht, hu, ha, hneg, isNon]
        refine ⟨_, _, np_val, _, np_val, ?_, rfl, rfl, rfl⟩
        refine .inr ⟨k, rfl, by omega, by rw [hrw]; exact hneg, fun i hi hn => ?_⟩
        rcases Nat.lt_or_ge i pre.length with z | z
        · have := hb i z; omega
        · have : i = k := by omega
          rw [this]; exact Int.le_refl _
      · simp -implicitDefEqProofs [ht, hu, ha, hneg, isNon]
        refine ⟨_, _, np_val, _, np_val, ?_, rfl, rfl, rfl⟩
        refine .inl ⟨rfl, fun i hi => ?_⟩
        rcases Nat.lt_or_ge i pre.length with z | z
        · exact hb i z
        · have : i = k := by omega
          rw [this, hrw]; omega
    · have e1 := atI_I (xs := S) (k := k) (by omega)
      have e2 := atI_I (xs := S) (k := q) (by omega)
      by_cases hneg : gt r N < 0
      · by_cases hlt2 : gt S k < gt S q
        · simp -implicitDefEqProofs [ht, hu, ha, hneg, isNon, e1, e2, hlt2]
          refine ⟨_, _, np_val, _, np_val, ?_, rfl, rfl, rfl⟩
          refine .inr ⟨k, rfl, by omega, by rw [hrw]; exact hneg, fun i hi hn => ?_⟩
          rcases Nat.lt_or_ge i pre.length with z | z
          · have := hb2 i z hn; omega
          · have : i = k := by omega
            rw [this]; exact Int.le_refl _
        · simp -implicitDefEqProofs [ht, hu, ha, hneg, isNon, e1, e2, hlt2]
          refine ⟨_, _, np_val, _, np_val, ?_, rfl, rfl, rfl⟩
          refine .inr ⟨q, rfl, by omega, hb1, fun i hi hn => ?_⟩
          rcases Nat.lt_or_ge i pre.length with z | z
          · exact hb2 i z hn
          · have : i = k := by omega
            rw [this]; omega
      · simp -implicitDefEqProofs [ht, hu, ha, hneg, isNon]
        refine ⟨_, _, np_val, _, np_val, ?_, rfl, rfl, rfl⟩
        refine .inr ⟨q, rfl, by omega, hb1, fun i hi hn => ?_⟩
        rcases Nat.lt_or_ge i pre.length with z | z
        · exact hb2 i z hn
        · have : i = k := by omega
          rw [this, hrw] at hn; exact absurd hn hneg
  · rintro ρ ⟨d, t, u, ht, hu, hb, rfl⟩
    simp at hb
    simp -implicitDefEqProofs
    exact hb
def ColB (N : Nat) (r : List Int) (d : D) : Prop := (∃ c : Nat, d = .int c ∧ c < N ∧ gt r c < 0 ∧ ∀ j, j < c → 0 ≤ gt r j) ∨ (d = .non ∧ ∀ j, j < N → 0 ≤ gt r j)
theorem r_column_below {N : Nat} {r : List Int} (hr : r.length = N + 1) (hN : N ≤ 1000) : RetP f_column_below [.lst false (I r)] (ColB N r) := by
  refine retP_of ?_
  have eN : ((N : Int) + 1 - 1) = N := by omega
  simp -implicitDefEqProofs [b_column_below, entry, hr, eN, rng_nat (show N ≤ 1000000 by omega)]
  refine out_then (for_all (fun pre ρ => ∃ t, np t ∧ (∀ j, j < pre.length → 0 ≤ gt r j) ∧ ρ = [.val (.lst false (I r)), t]) (List.range N) ⟨_, np_un, fun j hj => by simp at hj, rfl⟩ ?_) ?_
  · rintro pre k post ρ e ⟨t, ht, hp, rfl⟩
    have hk : k < N := List.mem_range.mp (by rw [e]; simp)
    have hkp : k = pre.length := by
      have : (List.range N)[pre.length]? = some k := by rw [e]; simp
      have h2 := List.getElem?_eq_some_iff.mp this
      obtain ⟨h3, h4⟩ := h2
      rw [List.getElem_range] at h4; omega
    have ha := atI_I (xs := r) (k := k) (by omega)
    by_cases hneg : gt r k < 0
    · simp -implicitDefEqProofs [ht, ha, hneg]
      exact .inl ⟨k, rfl, hk, hneg, fun j hj => hp j (by omega)⟩
    · simp -implicitDefEqProofs [ht, ha, hneg]
      intro j hj
      rcases Nat.lt_or_ge j pre.length with z | z
      · exact hp j z
      · have : j = k := by omega
        rw [this]; omega
  · rintro ρ ⟨t, ht, hp, rfl⟩
    simp at hp
    simp -implicitDefEqProofs
    exact .inr ⟨rfl, hp⟩
end VL.PX
end
section
namespace VL.PX
open VL PySem L2
def gcdL (r : List Int) : Nat := r.foldl (fun g x => Int.gcd g x) 0
theorem gcdL_snoc (r : List Int) (x : Int) : gcdL (r ++ [x]) = Int.gcd (gcdL r) x := by simp [gcdL]
theorem foldl_dvd : ∀ (r : List Int) (g : Nat), (r.foldl (fun g x => Int.gcd g x) g ∣ g) ∧ ∀ x ∈ r, ((r.foldl (fun g x => Int.gcd g x) g : Nat) : Int) ∣ x
  | [], g => ⟨Nat.dvd_refl _, fun x hx => by cases hx⟩
  | y :: r, g => by
    obtain ⟨h1, h2⟩ := foldl_dvd r (Int.gcd g y)
    rw [List.foldl_cons]
    refine ⟨Nat.dvd_trans h1 ?_, fun x hx => ?_⟩
    · have := Int.gcd_dvd_left (a := (g : Int)) (b := y)
      exact Int.natCast_dvd_natCast.mp this
    · rcases List.mem_cons.mp hx with rfl | hx
      · exact Int.dvd_trans (Int.natCast_dvd_natCast.mpr h1) (Int.gcd_dvd_right _ _)
      · exact h2 x hx
theorem gcdL_dvd {r : List Int} {x : Int} (h : x ∈ r) : ((gcdL r : Nat) : Int) ∣ x := (foldl_dvd r 0).2 x h
theorem foldl_great {d : Int} : ∀ (r : List Int) (g : Nat), d ∣ (g : Int) → (∀ x ∈ r, d ∣ x) → d ∣ ((r.foldl (fun g x => Int.gcd g x) g : Nat) : Int)
  | [], _, h, _ => h
  | y :: r, g, h, hr => by
    rw [List.foldl_cons]
    exact foldl_great r _ (Int.dvd_coe_gcd h (hr y List.mem_cons_self)) fun x hx => hr x (List.mem_cons_of_mem _ hx)
theorem gcdL_great {d : Int} {r : List Int} (h : ∀ x ∈ r, d ∣ x) : d ∣ ((gcdL r : Nat) : Int) := foldl_great r 0 (Int.dvd_zero d) h
theorem gcdL_pos {r : List Int} {x : Int} (h : x ∈ r) (h0 : x ≠ 0) : 0 < gcdL r := by
  rcases Nat.eq_zero_or_pos (gcdL r) with z | z
  · have := gcdL_dvd h
    rw [z] at this
    exact absurd (Int.zero_dvd.mp this) h0
  · exact z
def lowL (r : List Int) : List Int := r.map fun x => x / (gcdL r : Nat)
theorem r_lowered {r : List Int} (hb : ∀ x ∈ r, x.natAbs < 2 ^ 200) (h0 : ∃ x ∈ r, x ≠ 0) (hl : r.length ≤ 1000) : Ret f_lowered [.lst false (I r)] (.lst true (I (lowL r))) := by
  refine retE ?_
  simp -implicitDefEqProofs [b_lowered, entry]
  refine out_then (for_all (fun pre ρ => ∃ t, np t ∧ ρ = [.val (.lst false (I r)), .val (.int (gcdL pre : Nat)), t]) r ⟨_, np_un, rfl⟩ ?_) ?_
  · rintro pre x post ρ e ⟨t, ht, rfl⟩
    have hx := hb x (by rw [e]; simp)
    have e1 := r_common_divisor (a := (gcdL pre : Nat)) (b := x) (Nat.lt_trans hx (by decide))
    simp -implicitDefEqProofs [ht, callR_k e1, gcdL_snoc]
  · rintro ρ ⟨t, ht, rfl⟩
    obtain ⟨x, hx, h0⟩ := h0
    have hp := gcdL_pos hx h0
    have hle : gcdL r ≤ x.natAbs := Nat.le_of_dvd (by omega) (by have := Int.natAbs_dvd_natAbs.mpr (gcdL_dvd hx); simpa using this)
    have hf : fits ((gcdL r : Nat) : Int) = true := fits_of (by have := hb x hx; simp; omega)
    have ec : vComp (iAny (vVar 0)) 1 [1] (bindD 0) tTrue (v2 kDivB (vVar 0) (vVar 1)) [.val (.lst false (I r)), .val (.int (gcdL r : Nat)), t] = .ok (.lst true (I (lowL r)), true) := by
      refine vComp1I [.val (.int (gcdL r : Nat))] r D.int (fun x => x / (gcdL r : Nat)) (by simp; rfl) (by omega) (by simp) ?_
      intro y hy
      simp -implicitDefEqProofs [hf, hp]
    simp -implicitDefEqProofs [ec]
def combL (row turned : List Int) (c : Nat) : List Int := (row.zip turned).map fun p => p.1 * gt turned c - gt row c * p.2
def negL (r : List Int) : List Int := r.map fun x => -x
def sfRow (T : LI) (a c : Nat) (p : List Int × Nat) : List Int := if p.2 = a then negL (rw' T a) else lowL (combL p.1 (negL (rw' T a)) c)
def sf (T : LI) (a c : Nat) : LI := T.zipIdx.map (sfRow T a c)
def BigB (x : Int) : Prop := x.natAbs < 2 ^ 80
theorem big_fits {x : Int} (h : BigB x) : fits x = true := fits_of (Nat.lt_trans h (by decide))
theorem gt_mem {r : List Int} {k : Nat} (h : k < r.length) : gt r k ∈ r := List.mem_of_getElem? (gt_eq h)
theorem comb_big {a b c d : Int} (ha : BigB a) (hb : BigB b) (hc : BigB c) (hd : BigB d) : (a * b - c * d).natAbs < 2 ^ 200 := by
  unfold BigB at *
  have h1 : (a * b).natAbs < 2 ^ 160 := by
    rw [Int.natAbs_mul]
    calc a.natAbs * b.natAbs ≤ a.natAbs * 2 ^ 80 := Nat.mul_le_mul_left _ (Nat.le_of_lt hb)
      _ < 2 ^ 80 * 2 ^ 80 := Nat.mul_lt_mul_of_pos_right ha (by decide)
      _ = 2 ^ 160 := by decide
  have h2 : (c * d).natAbs < 2 ^ 160 := by
    rw [Int.natAbs_mul]
    calc c.natAbs * d.natAbs ≤ c.natAbs * 2 ^ 80 := Nat.mul_le_mul_left _ (Nat.le_of_lt hd)
      _ < 2 ^ 80 * 2 ^ 80 := Nat.mul_lt_mul_of_pos_right hc (by decide)
      _ = 2 ^ 160 := by decide
  have h3 : (2 : Nat) ^ 160 + 2 ^ 160 < 2 ^ 200 := by decide
  omega
theorem r_solved_for {N : Nat} {T : LI} {a c : Nat} (hT : ∀ r ∈ T, r.length = N + 1) (hB : ∀ r ∈ T, ∀ x ∈ r, BigB x) (ha : a < T.length) (hc : c ≤ N) (hN : N ≤ 500) (hl : T.length ≤ 1000)
    (h0 : ∀ p ∈ T.zipIdx, p.2 ≠ a → ∃ x ∈ combL p.1 (negL (rw' T a)) c, x ≠ 0) : RetP f_solved_for [.lst false (LL T), .int a, .int c] (fun d => ∃ ds, d = .lst true ds ∧ D.frzs ds = LL (sf T a c)) := by
  refine retP_of ?_
  have hra : rw' T a ∈ T := List.mem_of_getElem? (rw_eq ha)
  have hla := hT _ hra
  have hba := hB _ hra
  have hta : ∀ x ∈ negL (rw' T a), BigB x := fun x hx => by
    obtain ⟨y, hy, rfl⟩ := List.mem_map.mp hx
    have := hba y hy
    unfold BigB at this ⊢; omega
  have hlt : (negL (rw' T a)).length = N + 1 := by simp [negL, hla]
  have ea : atI (LL T) (a : Int) = some (.lst false (I (rw' T a))) := by rw [atI_nat, LL, List.getElem?_map, rw_eq ha]; rfl
  have ec : vComp (iAny (v2 kIx (vVar 0) (vVar 1))) 1 [] (bindD 0) tTrue (v1 (kU fun i => .int (-i)) (vVar 0)) [.val (.lst false (LL T)), .val (.int a), .val (.int c), .un, .un, .un, .un] = .ok (.lst true (I (negL (rw' T a))), true) := by
    refine vComp1I [] (rw' T a) D.int (fun x => -x) (by simp [ea]; rfl) (by omega) rfl ?_
    intro x _; simp
  simp -implicitDefEqProofs [b_solved_for, entry, ec, enum_L]
  refine out_then (for_all (fun pre ρ => ∃ ds t u, np t ∧ np u ∧ D.frzs ds = LL (pre.map (sfRow T a c)) ∧ ds.length = pre.length ∧ ρ = [.val (.lst false (LL T)), .val (.int a), .val (.int c), .val (.lst false (I (negL (rw' T a)))), .val (.lst true ds), t, u]) T.zipIdx ⟨[], _, _, np_un, np_un, rfl, rfl, rfl⟩ ?_) ?_
  · rintro pre ⟨r, k⟩ post ρ e ⟨ds, t, u, ht, hu, hd, hdl, rfl⟩
    obtain ⟨hk, hr, hlt2⟩ := zipIdx_split e
    have hrm : r ∈ T := List.mem_of_getElem? hr
    have hrl := hT r hrm
    have hpl : ds.length < 1000000 := by have := congrArg List.length e; simp at this; omega
    have fz : ∀ x : D, D.frzs (ds ++ [x]) = D.frzs ds ++ [x.frz] := fun x => by simp [D.frzs_eq]
    by_cases hka : k = a
    · simp -implicitDefEqProofs [ht, hu, hka, hpl]
      refine ⟨_, _, np_val, _, np_val, ?_, ?_, rfl, rfl, rfl⟩
      · rw [fz, hd]; simp [LL, sfRow]
      · simp [hdl]
    · have hk2 : ¬ ((k : Int) = (a : Int)) := by omega
      have e1 : vComp (iZi (vVar 6) (vVar 3)) 2 [3, 2, 6] (bindT [0, 1]) tTrue (v2 kSub (v2 kTimes (vVar 0) (v2 kIx (vVar 2) (vVar 3))) (v2 kTimes (v2 kIx (vVar 4) (vVar 3)) (vVar 1)))
          [.val (.lst false (LL T)), .val (.int a), .val (.int c), .val (.lst false (I (negL (rw' T a)))), .val (.lst true ds), .val (.int k), .val (.lst false (I r))] = .ok (.lst true (I (combL r (negL (rw' T a)) c)), true) := by
        refine vComp2I [.val (.lst false (I (negL (rw' T a)))), .val (.int c), .val (.lst false (I r))] (r.zip (negL (rw' T a))) (fun p => .int p.1) (fun p => .int p.2) _ (by simp [zip_I]) (by simp; omega) (by simp) ?_
        rintro ⟨x, y⟩ hxy
        have hm := List.of_mem_zip hxy
        have f1 := big_fits (hB r hrm x hm.1)
        have f2 := big_fits (hta y hm.2)
        have f3 := big_fits (hB r hrm _ (gt_mem (show c < r.length by omega)))
        have f4 := big_fits (hta _ (gt_mem (show c < (negL (rw' T a)).length by omega)))
        simp -implicitDefEqProofs [atI_I (show c < r.length by omega), atI_I (show c < (negL (rw' T a)).length by omega), f1, f2, f3, f4]
      have e2 := r_lowered (r := combL r (negL (rw' T a)) c) (fun x hx => by
        obtain ⟨⟨p, q⟩, hpq, rfl⟩ := List.mem_map.mp hx
        have hm := List.of_mem_zip hpq
        exact comb_big (hB r hrm p hm.1) (hta _ (gt_mem (by omega))) (hB r hrm _ (gt_mem (by omega))) (hta q hm.2)) (h0 (r, k) (by rw [e]; simp) hka) (by simp [combL]; omega)
      simp -implicitDefEqProofs [ht, hu, hk2, hpl, e1, callR_k e2, hka]
      refine ⟨_, _, np_val, _, np_val, ?_, ?_, rfl, rfl, rfl⟩
      · rw [fz, hd]; simp [LL, sfRow, hka]
      · simp [hdl]
  · rintro ρ ⟨ds, t, u, ht, hu, hd, hdl, rfl⟩
    simp -implicitDefEqProofs
    exact hd
end VL.PX
end
section
namespace VL.PX
open VL PySem L2 Smx
def tb (T : LI) : Tb := fun i j => gt (rw' T i) j
theorem sm_dvd {n : Nat} {f : Nat → Int} {d : Int} (h : ∀ j, j < n → d ∣ f j) : d ∣ sm n f := by
  induction n with
  | zero => exact Int.dvd_zero d
  | succ n ih => rw [sm]; exact Int.dvd_add (ih fun j hj => h j (by omega)) (h n (by omega))
theorem sm_split {a b : Nat} {f : Nat → Int} : sm (a + b) f = sm a f + sm b fun j => f (a + j) := by
  induction b with
  | zero => simp [sm]
  | succ b ih => rw [← Nat.add_assoc, sm, ih, sm]; omega
theorem sm_abs {n : Nat} {f : Nat → Int} {c : Nat} (h : ∀ j, j < n → (f j).natAbs ≤ c) : (sm n f).natAbs ≤ n * c := by
  induction n with
  | zero => simp [sm]
  | succ n ih =>
    rw [sm, Nat.add_mul]
    have h1 := ih fun j hj => h j (by omega)
    have h2 := h n (by omega)
    omega
theorem fold_mul {b : Int} : ∀ (ys : List Int) (g : Nat), (ys.map (· * b)).foldl (fun g x => Int.gcd g x) (g * b.natAbs) = (ys.foldl (fun g x => Int.gcd g x) g) * b.natAbs
  | [], _ => rfl
  | y :: ys, g => by
    rw [List.map_cons, List.foldl_cons, List.foldl_cons]
    have : Int.gcd ((g * b.natAbs : Nat) : Int) (y * b) = Int.gcd g y * b.natAbs := by
      unfold Int.gcd
      rw [Int.natAbs_mul, Int.natAbs_natCast, Int.natAbs_natCast, Nat.gcd_mul_right]
    rw [this]
    exact fold_mul ys _
theorem gcdL_mul {b : Int} {ys : List Int} : gcdL (ys.map (· * b)) = gcdL ys * b.natAbs := by
  have := fold_mul (b := b) ys 0
  rw [Nat.zero_mul] at this
  exact this
theorem prim_dvd {m : Nat} {y : Nat → Int} {a b : Int} (hp : ∀ d : Int, (∀ i, i < m → d ∣ y i) → d ∣ 1) (h : ∀ j, j < m → a ∣ y j * b) : a ∣ b := by
  have h1 : gcdL ((List.range m).map y) = 1 := by
    have := hp ((gcdL ((List.range m).map y) : Nat) : Int) fun i hi => gcdL_dvd (List.mem_map.mpr ⟨i, List.mem_range.mpr hi, rfl⟩)
    have h2 := Int.natAbs_dvd_natAbs.mpr this
    simpa using h2
  have h2 : a ∣ ((gcdL (((List.range m).map y).map (· * b)) : Nat) : Int) := gcdL_great fun x hx => by
    obtain ⟨z, hz, rfl⟩ := List.mem_map.mp hx
    obtain ⟨i, hi, rfl⟩ := List.mem_map.mp hz
    exact h i (List.mem_range.mp hi)
  rw [gcdL_mul, h1, Nat.one_mul] at h2
  exact Int.dvd_natAbs.mp h2
theorem prim_bound {m : Nat} {y w : Nat → Int} {W : Nat} (hpar : ∀ i j, i < m → j < m → y i * w j = y j * w i) (hw : ∃ j, j < m ∧ w j ≠ 0) (hW : ∀ i, i < m → (w i).natAbs ≤ W) (hp : ∀ d : Int, (∀ i, i < m → d ∣ y i) → d ∣ 1) : ∀ i, i < m → (y i).natAbs ≤ W := fun i hi => by
  by_cases h0 : w i = 0
  · obtain ⟨j, hj, hne⟩ := hw
    have := hpar i j hi hj
    rw [h0, Int.mul_zero] at this
    rcases Int.mul_eq_zero.mp this with z | z
    · rw [z]; simp
    · exact absurd z hne
  · have hd : y i ∣ w i := prim_dvd hp fun j hj => by rw [← hpar i j hi hj]; exact Int.dvd_mul_right _ _
    have := Int.natAbs_dvd_natAbs.mpr hd
    exact Nat.le_trans (Nat.le_of_dvd (by omega) this) (hW i hi)
structure Tab (m n : Nat) (T0 T : Tb) (B : Nat → Nat) : Prop where
  ok : Ok m (n + m) T B
  lin : ∀ i, i < m → ∀ j, j ≤ n + m → T i j = sm m fun k => T i (n + k) * T0 k j
  prim : ∀ i, i < m → ∀ d : Int, (∀ j, j ≤ n + m → d ∣ T i j) → d ∣ 1
section
variable {m n : Nat} {T0 T T' : Tb} {B B' : Nat → Nat} {r c : Nat}
theorem Tab.primY (t : Tab m n T0 T B) {i : Nat} (hi : i < m) : ∀ d : Int, (∀ k, k < m → d ∣ T i (n + k)) → d ∣ 1 := fun d h =>
  t.prim i hi d fun j hj => by rw [t.lin i hi j hj]; exact sm_dvd fun k hk => Int.dvd_trans (h k hk) (Int.dvd_mul_right _ _)
theorem Tab.orth (t : Tab m n T0 T B) {i l : Nat} (hi : i < m) (hl : l < m) (ne : i ≠ l) : sm m (fun k => T i (n + k) * T0 k (B l)) = 0 := by
  rw [← t.lin i hi (B l) (Nat.le_of_lt (t.ok.lt l hl))]; exact t.ok.zero i l hi hl ne
theorem Tab.pos (t : Tab m n T0 T B) {l : Nat} (hl : l < m) : 0 < sm m (fun k => T l (n + k) * T0 k (B l)) := by
  rw [← t.lin l hl (B l) (Nat.le_of_lt (t.ok.lt l hl))]; exact t.ok.pos l hl
theorem sm2 {f : Nat → Int} : sm 2 f = f 0 + f 1 := by simp [sm]
theorem sm3 {f : Nat → Int} : sm 3 f = f 0 + f 1 + f 2 := by simp [sm]
theorem Tab.bound2 {A : Nat} (t : Tab 2 n T0 T B) (hA : ∀ k, k < 2 → ∀ j, j < n + 2 → (T0 k j).natAbs ≤ A) {i : Nat} (hi : i < 2) : ∀ k, k < 2 → (T i (n + k)).natAbs ≤ 2 * (A * A) + A := by
  obtain ⟨l, hl, ne⟩ : ∃ l, l < 2 ∧ i ≠ l := ⟨1 - i, by omega, by omega⟩
  have o := t.orth hi hl ne
  have p := t.pos hl
  rw [sm2] at o p
  have hBl := t.ok.lt l hl
  have a0 := hA 0 (by omega) (B l) hBl
  have a1 := hA 1 (by omega) (B l) hBl
  refine prim_bound (y := fun k => T i (n + k)) (w := fun k => if k = 0 then -T0 1 (B l) else T0 0 (B l)) ?_ ?_ ?_ (t.primY hi)
  · intro u v hu hv
    have h1 : T i (n + 0) * T0 0 (B l) = -(T i (n + 1) * T0 1 (B l)) := by omega
    have hu : u = 0 ∨ u = 1 := by omega
    have hv : v = 0 ∨ v = 1 := by omega
    rcases hu with rfl | rfl <;> rcases hv with rfl | rfl
    · rfl
    · show T i (n + 0) * T0 0 (B l) = T i (n + 1) * (-T0 1 (B l)); rw [h1, Int.mul_neg]
    · show T i (n + 1) * (-T0 1 (B l)) = T i (n + 0) * T0 0 (B l); rw [h1, Int.mul_neg]
    · rfl
  · by_cases h0 : T0 0 (B l) = 0
    · refine ⟨0, by omega, fun z => ?_⟩
      have z : -T0 1 (B l) = 0 := z
      rw [h0, show T0 1 (B l) = 0 by omega] at p
      simp at p
    · exact ⟨1, by omega, h0⟩
  · intro u hu
    have hu : u = 0 ∨ u = 1 := by omega
    rcases hu with rfl | rfl
    · show (-T0 1 (B l)).natAbs ≤ _; omega
    · show (T0 0 (B l)).natAbs ≤ _; omega
theorem cross_le {a b c d : Int} {A : Nat} (ha : a.natAbs ≤ A) (hb : b.natAbs ≤ A) (hc : c.natAbs ≤ A) (hd : d.natAbs ≤ A) : (a * b - c * d).natAbs ≤ 2 * (A * A) + A := by
  have h1 : (a * b).natAbs ≤ A * A := by rw [Int.natAbs_mul]; exact Nat.mul_le_mul ha hb
  have h2 : (c * d).natAbs ≤ A * A := by rw [Int.natAbs_mul]; exact Nat.mul_le_mul hc hd
  omega
theorem par3 {y0 y1 y2 a0 a1 a2 b0 b1 b2 : Int} (o1 : y0 * a0 + y1 * a1 + y2 * a2 = 0) (o2 : y0 * b0 + y1 * b1 + y2 * b2 = 0) :
    y0 * (a2 * b0 - a0 * b2) = y1 * (a1 * b2 - a2 * b1) ∧ y0 * (a0 * b1 - a1 * b0) = y2 * (a1 * b2 - a2 * b1) ∧ y1 * (a0 * b1 - a1 * b0) = y2 * (a2 * b0 - a0 * b2) := by
  refine ⟨by grind, by grind, by grind⟩
theorem nz3 {u0 u1 u2 v0 v1 v2 a0 a1 a2 b0 b1 b2 : Int} (pl : 0 < u0 * a0 + u1 * a1 + u2 * a2) (z : u0 * b0 + u1 * b1 + u2 * b2 = 0) (pq : 0 < v0 * b0 + v1 * b1 + v2 * b2) :
    ¬ ((a1 * b2 - a2 * b1 = 0) ∧ (a2 * b0 - a0 * b2 = 0) ∧ (a0 * b1 - a1 * b0 = 0)) := fun ⟨w0, w1, w2⟩ => by
  have h0 : b0 * (u0 * a0 + u1 * a1 + u2 * a2) = 0 := by grind
  have h1 : b1 * (u0 * a0 + u1 * a1 + u2 * a2) = 0 := by grind
  have h2 : b2 * (u0 * a0 + u1 * a1 + u2 * a2) = 0 := by grind
  have g : ∀ x : Int, x * (u0 * a0 + u1 * a1 + u2 * a2) = 0 → x = 0 := fun x hx => (Int.mul_eq_zero.mp hx).elim id fun z => by omega
  rw [g b0 h0, g b1 h1, g b2 h2] at pq
  simp at pq
theorem Tab.bound3 {A : Nat} (t : Tab 3 n T0 T B) (hA : ∀ k, k < 3 → ∀ j, j < n + 3 → (T0 k j).natAbs ≤ A) {i : Nat} (hi : i < 3) : ∀ k, k < 3 → (T i (n + k)).natAbs ≤ 2 * (A * A) + A := by
  obtain ⟨l, q, hl, hq, ne1, ne2, ne3⟩ : ∃ l q, l < 3 ∧ q < 3 ∧ i ≠ l ∧ i ≠ q ∧ l ≠ q := by
    have : i = 0 ∨ i = 1 ∨ i = 2 := by omega
    rcases this with rfl | rfl | rfl
    · exact ⟨1, 2, by omega, by omega, by omega, by omega, by omega⟩
    · exact ⟨0, 2, by omega, by omega, by omega, by omega, by omega⟩
    · exact ⟨0, 1, by omega, by omega, by omega, by omega, by omega⟩
  have o1 := t.orth hi hl ne1
  have o2 := t.orth hi hq ne2
  have pl := t.pos hl
  have pq := t.pos hq
  have z1 := t.orth hl hq ne3
  rw [sm3] at o1 o2 pl pq z1
  have hBl := t.ok.lt l hl
  have hBq := t.ok.lt q hq
  have ha : ∀ k, k < 3 → (T0 k (B l)).natAbs ≤ A := fun k hk => hA k hk _ hBl
  have hb : ∀ k, k < 3 → (T0 k (B q)).natAbs ≤ A := fun k hk => hA k hk _ hBq
  have ha0 := ha 0 (by omega)
  have ha1 := ha 1 (by omega)
  have ha2 := ha 2 (by omega)
  have hb0 := hb 0 (by omega)
  have hb1 := hb 1 (by omega)
  have hb2 := hb 2 (by omega)
  refine prim_bound (y := fun k => T i (n + k)) (w := fun k => if k = 0 then T0 1 (B l) * T0 2 (B q) - T0 2 (B l) * T0 1 (B q) else if k = 1 then T0 2 (B l) * T0 0 (B q) - T0 0 (B l) * T0 2 (B q) else T0 0 (B l) * T0 1 (B q) - T0 1 (B l) * T0 0 (B q)) ?_ ?_ ?_ (t.primY hi)
  · have par := par3 o1 o2
    intro u v hu hv
    have hu : u = 0 ∨ u = 1 ∨ u = 2 := by omega
    have hv : v = 0 ∨ v = 1 ∨ v = 2 := by omega
    rcases hu with rfl | rfl | rfl <;> rcases hv with rfl | rfl | rfl
    · rfl
    · exact par.1
    · exact par.2.1
    · exact par.1.symm
    · rfl
    · exact par.2.2
    · exact par.2.1.symm
    · exact par.2.2.symm
    · rfl
  · have nz := nz3 pl z1 pq
    rcases Int.decEq (T0 1 (B l) * T0 2 (B q) - T0 2 (B l) * T0 1 (B q)) 0 with h | h
    · exact ⟨0, by omega, h⟩
    · rcases Int.decEq (T0 2 (B l) * T0 0 (B q) - T0 0 (B l) * T0 2 (B q)) 0 with h' | h'
      · exact ⟨1, by omega, h'⟩
      · exact ⟨2, by omega, fun z => nz ⟨h, h', z⟩⟩
  · intro u hu
    have hu : u = 0 ∨ u = 1 ∨ u = 2 := by omega
    rcases hu with rfl | rfl | rfl
    · exact cross_le ha1 hb2 ha2 hb1
    · exact cross_le ha2 hb0 ha0 hb2
    · exact cross_le ha0 hb1 ha1 hb0
theorem Tab.big {A C : Nat} (t : Tab m n T0 T B) (hm : m = 2 ∨ m = 3) (hA : ∀ k, k < m → ∀ j, j < n + m → (T0 k j).natAbs ≤ A) (hC : ∀ k, k < m → ∀ j, j ≤ n + m → (T0 k j).natAbs ≤ C) {i : Nat} (hi : i < m) : ∀ j, j ≤ n + m → (T i j).natAbs ≤ 3 * ((2 * (A * A) + A) * C) := fun j hj => by
  have hy : ∀ k, k < m → (T i (n + k)).natAbs ≤ 2 * (A * A) + A := by
    rcases hm with rfl | rfl
    · exact t.bound2 hA hi
    · exact t.bound3 hA hi
  rw [t.lin i hi j hj]
  refine Nat.le_trans (sm_abs (c := (2 * (A * A) + A) * C) fun k hk => ?_) (Nat.mul_le_mul_right _ (by omega))
  rw [Int.natAbs_mul]
  exact Nat.mul_le_mul (hy k hk) (hC k hk j hj)
theorem Tab.step (t : Tab m n T0 T B) (s : Step m (n + m) T B T' B' r c) (hp : ∀ i, i < m → i ≠ r → ∀ d : Int, (∀ j, j ≤ n + m → d ∣ T' i j) → d ∣ 1) : Tab m n T0 T' B' := by
  refine ⟨s.ok t.ok, fun i hi j hj => ?_, fun i hi d hd => ?_⟩
  · by_cases e : i = r
    · subst e
      rw [s.trn j hj, t.lin i hi j hj, sm_congr (f := fun k => T' i (n + k) * T0 k j) (g := fun k => (-1) * (T i (n + k) * T0 k j)) fun k hk => ?_, sm_mul]
      · omega
      · show T' i (n + k) * T0 k j = _
        rw [s.trn (n + k) (by omega), Int.neg_mul]; omega
    · obtain ⟨g, hg, h⟩ := s.oth i hi e
      have e1 : g * sm m (fun k => T' i (n + k) * T0 k j) = g * T' i j := by
        rw [h j hj, ← sm_mul, sm_congr (g := fun k => (-T r c) * (T i (n + k) * T0 k j) + T i c * (T r (n + k) * T0 k j)) fun k hk => ?_, sm_add, sm_mul, sm_mul, ← t.lin i hi j hj, ← t.lin r s.hr j hj]
        · rw [Int.mul_comm (-T r c)]
        · rw [← Int.mul_assoc, h (n + k) (by omega)]; grind
      exact (Int.eq_of_mul_eq_mul_left (by omega) e1).symm
  · by_cases e : i = r
    · subst e
      exact t.prim i hi d fun j hj => by have := hd j hj; rw [s.trn j hj] at this; exact Int.dvd_neg.mp this
    · exact hp i hi e d hd
end
end VL.PX
end
section
namespace VL.PX
open VL PySem L2 Smx
theorem gt_app_l {a b : List Int} {j : Nat} (h : j < a.length) : gt (a ++ b) j = gt a j := by
  unfold gt; simp [List.getElem?_append_left h]
theorem gt_app_r {a b : List Int} {j : Nat} : gt (a ++ b) (a.length + j) = gt b j := by
  unfold gt
  rw [List.getD_eq_getElem?_getD, List.getD_eq_getElem?_getD, List.getElem?_append_right (Nat.le_add_right _ _), Nat.add_sub_cancel_left]
theorem gt_unit {n k l : Nat} (hl : l < n) : gt (unitL n k) l = if l = k then 1 else 0 := by
  unfold gt unitL
  by_cases h : k = l
  · subst h; simp [hl]
  · rw [List.getD_eq_getElem?_getD, List.getElem?_set_ne h]; simp [hl, Ne.symm h]
theorem rw_wr {rows : LI} {bounds : List Int} {k : Nat} (hk : k < rows.length) : rw' (wr rows bounds) k = rw' rows k ++ unitL rows.length k ++ [gt bounds k] := by
  have h1 := rw_eq hk
  unfold rw' wr
  simp [List.getElem?_eq_getElem hk]
section
variable {rows : LI} {bounds : List Int} {n m : Nat}
theorem wr_len (hm : rows.length = m) : (wr rows bounds).length = m := by simp [wr, hm]
theorem rows_len (hr : ∀ r ∈ rows, r.length = n) {k : Nat} (hk : k < rows.length) : (rw' rows k).length = n := hr _ (List.mem_of_getElem? (rw_eq hk))
theorem wr_row (hm : rows.length = m) (hr : ∀ r ∈ rows, r.length = n) : ∀ r ∈ wr rows bounds, r.length = n + m + 1 := fun r hr' => by
  obtain ⟨⟨p, k⟩, hp, rfl⟩ := List.mem_map.mp hr'
  have hk := List.mem_zipIdx hp
  simp at hk
  have := hr p (by rw [hk.2]; exact List.getElem_mem _)
  simp [unitL, this, hm]; omega
theorem wr_a (hm : rows.length = m) (hr : ∀ r ∈ rows, r.length = n) {k j : Nat} (hk : k < m) (hj : j < n) : tb (wr rows bounds) k j = gt (rw' rows k) j := by
  unfold tb
  rw [rw_wr (by omega), List.append_assoc, gt_app_l (by rw [rows_len hr (by omega)]; exact hj)]
theorem wr_u (hm : rows.length = m) (hr : ∀ r ∈ rows, r.length = n) {k l : Nat} (hk : k < m) (hl : l < m) : tb (wr rows bounds) k (n + l) = if l = k then 1 else 0 := by
  unfold tb
  rw [rw_wr (by omega), List.append_assoc]
  have h1 := rows_len hr (k := k) (by omega)
  rw [← h1, gt_app_r, gt_app_l (by simp [unitL, hm, hl]), gt_unit (by omega)]
theorem wr_b (hm : rows.length = m) (hr : ∀ r ∈ rows, r.length = n) {k : Nat} (hk : k < m) : tb (wr rows bounds) k (n + m) = gt bounds k := by
  unfold tb
  rw [rw_wr (by omega)]
  have h1 := rows_len hr (k := k) (by omega)
  have h2 : (rw' rows k ++ unitL rows.length k).length = n + m := by simp [unitL, h1, hm]
  have := gt_app_r (a := rw' rows k ++ unitL rows.length k) (b := [gt bounds k]) (j := 0)
  rw [Nat.add_zero, h2] at this
  rw [this]; rfl
theorem tab0 (hm : rows.length = m) (hr : ∀ r ∈ rows, r.length = n) : Tab m n (tb (wr rows bounds)) (tb (wr rows bounds)) (fun i => n + i) := by
  refine ⟨⟨fun i hi => by omega, fun i hi => ?_, fun i k hi hk ne => ?_⟩, fun i hi j hj => ?_, fun i hi d hd => ?_⟩
  · show 0 < tb _ i (n + i); rw [wr_u hm hr hi hi]; simp
  · show tb _ i (n + k) = 0; rw [wr_u hm hr hi hk, if_neg (Ne.symm ne)]
  · rw [sm_one (k := i) hi fun k hk ne => ?_]
    · rw [wr_u hm hr hi hi]; simp
    · rw [wr_u hm hr hi hk, if_neg ne, Int.zero_mul]
  · have := hd (n + i) (by omega)
    rw [wr_u hm hr hi hi] at this; simpa using this
end
section
variable {T : LI} {N a c m : Nat}
theorem rw_sf {k : Nat} (hk : k < T.length) : rw' (sf T a c) k = sfRow T a c (rw' T k, k) := by
  have h1 := rw_eq hk
  have : (sf T a c)[k]? = some (sfRow T a c (rw' T k, k)) := by
    unfold sf
    rw [List.getElem?_map, List.getElem?_zipIdx, h1]; simp
  have hl : k < (sf T a c).length := by simp [sf, hk]
  rw [rw_eq hl] at this
  exact Option.some.inj this
theorem gt_map {r : List Int} {f : Int → Int} {j : Nat} (h : j < r.length) : gt (r.map f) j = f (gt r j) := by
  unfold gt; simp [List.getElem?_eq_getElem h]
theorem comb_len {r t : List Int} (h : r.length = N + 1) (h2 : t.length = N + 1) : (combL r t c).length = N + 1 := by simp [combL, h, h2]
theorem gt_comb {r t : List Int} {j : Nat} (h : r.length = N + 1) (h2 : t.length = N + 1) (hj : j ≤ N) : gt (combL r t c) j = gt r j * gt t c - gt r c * gt t j := by
  have e1 := gt_eq (xs := r) (k := j) (by omega)
  have e2 := gt_eq (xs := t) (k := j) (by omega)
  have e3 := gt_eq (xs := combL r t c) (k := j) (by rw [comb_len h h2]; omega)
  unfold combL at e3
  rw [List.getElem?_map, show (r.zip t)[j]? = some (gt r j, gt t j) from List.getElem?_zip_eq_some.mpr ⟨e1, e2⟩] at e3
  exact (Option.some.inj e3).symm
theorem sf_len : (sf T a c).length = T.length := by simp [sf]
theorem sf_row (hT : ∀ r ∈ T, r.length = N + 1) (ha : a < T.length) : ∀ r ∈ sf T a c, r.length = N + 1 := fun r hr => by
  have hra := hT _ (List.mem_of_getElem? (rw_eq ha))
  obtain ⟨⟨p, k⟩, hp, rfl⟩ := List.mem_map.mp hr
  have hk := List.mem_zipIdx hp
  simp at hk
  have hpl := hT p (by rw [hk.2]; exact List.getElem_mem _)
  unfold sfRow
  split
  · simp [negL, hra]
  · simp only [lowL, List.length_map]
    exact comb_len hpl (by simp [negL, hra])
theorem sf_step {B : Nat → Nat} (hT : ∀ r ∈ T, r.length = N + 1) (hm : T.length = m) (o : Ok m N (tb T) B) (ha : a < m) (hc : c < N) (neg : tb T a N < 0) (negc : tb T a c < 0) (hrow : ∀ i, i < m → tb T i N < 0 → B a ≤ B i) (hcol : ∀ j, j < c → 0 ≤ tb T a j) :
    Step m N (tb T) B (tb (sf T a c)) (fun i => if i = a then c else B i) a c ∧ (∀ i, i < m → i ≠ a → ∀ d : Int, (∀ j, j ≤ N → d ∣ tb (sf T a c) i j) → d ∣ 1) ∧ ∀ p ∈ T.zipIdx, p.2 ≠ a → ∃ x ∈ combL p.1 (negL (rw' T a)) c, x ≠ 0 := by
  have hla := hT _ (List.mem_of_getElem? (rw_eq (show a < T.length by omega)))
  have hln : (negL (rw' T a)).length = N + 1 := by simp [negL, hla]
  have gneg : ∀ j, j ≤ N → gt (negL (rw' T a)) j = -tb T a j := fun j hj => gt_map (by omega)
  have cmb : ∀ i, i < m → ∀ j, j ≤ N → gt (combL (rw' T i) (negL (rw' T a)) c) j = tb T i j * (-tb T a c) + tb T i c * tb T a j := fun i hi j hj => by
    rw [gt_comb (hT _ (List.mem_of_getElem? (rw_eq (show i < T.length by omega)))) hln hj, gneg c (by omega), gneg j hj]
    show tb T i j * (-tb T a c) - tb T i c * (-tb T a j) = _
    rw [Int.mul_neg (tb T i c)]; omega
  have clen : ∀ i, i < m → (combL (rw' T i) (negL (rw' T a)) c).length = N + 1 := fun i hi => comb_len (hT _ (List.mem_of_getElem? (rw_eq (show i < T.length by omega)))) hln
  have nz : ∀ i, i < m → i ≠ a → gt (combL (rw' T i) (negL (rw' T a)) c) (B i) ≠ 0 := fun i hi ne => by
    rw [cmb i hi (B i) (Nat.le_of_lt (o.lt i hi)), o.zero a i ha hi (Ne.symm ne), Int.mul_zero, Int.add_zero]
    exact Int.ne_of_gt (Int.mul_pos (o.pos i hi) (by omega))
  have gp : ∀ i, i < m → i ≠ a → 0 < gcdL (combL (rw' T i) (negL (rw' T a)) c) := fun i hi ne => gcdL_pos (gt_mem (by rw [clen i hi]; have := o.lt i hi; omega)) (nz i hi ne)
  have low : ∀ i, i < m → i ≠ a → ∀ j, j ≤ N → ((gcdL (combL (rw' T i) (negL (rw' T a)) c) : Nat) : Int) * tb (sf T a c) i j = gt (combL (rw' T i) (negL (rw' T a)) c) j := fun i hi ne j hj => by
    unfold tb
    rw [rw_sf (by omega)]
    unfold sfRow
    rw [if_neg ne]
    unfold lowL
    rw [gt_map (by rw [clen i hi]; omega)]
    exact Int.mul_ediv_cancel' (gcdL_dvd (gt_mem (by rw [clen i hi]; omega)))
  refine ⟨⟨ha, hc, neg, negc, hrow, hcol, fun j hj => ?_, fun i hi ne => ⟨_, Int.natCast_pos.mpr (gp i hi ne), fun j hj => ?_⟩, if_pos rfl, fun i _ ne => if_neg ne⟩, fun i hi ne d hd => ?_, ?_⟩
  · unfold tb
    rw [rw_sf (by omega)]
    unfold sfRow
    rw [if_pos rfl]
    exact gneg j hj
  · rw [low i hi ne j hj, cmb i hi j hj]
  · have : ((gcdL (combL (rw' T i) (negL (rw' T a)) c) : Nat) : Int) * d ∣ ((gcdL (combL (rw' T i) (negL (rw' T a)) c) : Nat) : Int) := gcdL_great fun x hx => by
      obtain ⟨j, hj, e⟩ := List.mem_iff_getElem.mp hx
      have hj' : j ≤ N := by rw [clen i hi] at hj; omega
      have e2 := gt_eq hj
      rw [List.getElem?_eq_getElem hj, e] at e2
      rw [Option.some.inj e2, ← low i hi ne j hj']
      exact Int.mul_dvd_mul (Int.dvd_refl _) (hd j hj')
    have hp := gp i hi ne
    obtain ⟨q, hq⟩ := this
    rw [Int.mul_assoc] at hq
    have : (1 : Int) = d * q := Int.eq_of_mul_eq_mul_left (a := ((gcdL (combL (rw' T i) (negL (rw' T a)) c) : Nat) : Int)) (by omega) (by rw [Int.mul_one]; exact hq)
    exact ⟨q, this⟩
  · rintro ⟨r, k⟩ hp hne
    have hk := List.mem_zipIdx hp
    simp at hk
    have hr : r = rw' T k := by
      have := rw_eq hk.1
      rw [List.getElem?_eq_getElem hk.1] at this
      rw [hk.2]; exact Option.some.inj this
    subst hr
    have hi : k < m := by omega
    exact ⟨_, gt_mem (by rw [clen k hi]; have := o.lt k hi; omega), nz k hi hne⟩
end
end VL.PX
end
section
namespace VL.PX
open VL PySem L2 Smx
def SB (m : Nat) (B : Nat → Nat) : List Int := (List.range m).map fun i => (B i : Int)
@[simp] theorem SB_len (m : Nat) (B : Nat → Nat) : (SB m B).length = m := by simp [SB]
theorem gt_SB {m i : Nat} {B : Nat → Nat} (h : i < m) : gt (SB m B) i = B i := gt_range h
theorem SB_set {m a c : Nat} {B : Nat → Nat} : (SB m B).set a (c : Int) = SB m fun i => if i = a then c else B i := by
  unfold SB
  refine List.ext_getElem (by simp) fun i h1 h2 => ?_
  rw [List.getElem_set]
  by_cases h : a = i
  · simp [h]
  · simp [h, Ne.symm h]
def FF (fs : LQ) : List D := fs.map fun p => D.tup [.int p.1, .int p.2]
@[simp] theorem calms_F (fs : LQ) : D.calms (FF fs) = true := calms_map (φ := fun p : Int × Int => D.tup [.int p.1, .int p.2]) (fun _ => rfl) fs
@[simp] theorem frzs_F (fs : LQ) : D.frzs (FF fs) = FF fs := frzs_map (φ := fun p : Int × Int => D.tup [.int p.1, .int p.2]) (fun _ => rfl) fs
@[simp] theorem F_len (fs : LQ) : (FF fs).length = fs.length := by simp [FF]
@[simp] theorem F_nil : FF [] = [] := rfl
@[simp] theorem F_snoc (fs : LQ) (a b : Int) : FF fs ++ [.tup [.int a, .int b]] = FF (fs ++ [(a, b)]) := by simp [FF]
@[simp] theorem F_set (fs : LQ) (k : Nat) (a b : Int) : (FF fs).set k (.tup [.int a, .int b]) = FF (fs.set k (a, b)) := by simp [FF, List.map_set]
def fr (fs : LQ) (k : Nat) : Int × Int := fs.getD k (0, 1)
theorem fr_eq {fs : LQ} {k : Nat} (h : k < fs.length) : fs[k]? = some (fr fs k) := by simp [fr, List.getElem?_eq_getElem h]
theorem fr_mem {fs : LQ} {k : Nat} (h : k < fs.length) : fr fs k ∈ fs := List.mem_of_getElem? (fr_eq h)
def low (a b : Int) : Int × Int := (a / (Int.gcd a b : Nat), b / (Int.gcd a b : Nat))
def ShareOf (m N : Nat) (T : LI) (B : Nat → Nat) (j : Nat) (p : Int × Int) : Prop :=
  (∃ k, k < m ∧ B k = j ∧ p = low (gt (rw' T k) N) (gt (rw' T k) j)) ∨ ((∀ k, k < m → B k ≠ j) ∧ p = (0, 1))
theorem r_shares_told {N m many : Nat} {T : LI} {B : Nat → Nat} (hT : ∀ r ∈ T, r.length = N + 1) (hm : T.length = m) (hB : ∀ r ∈ T, ∀ x ∈ r, BigB x) (hN : many ≤ N) (hl : many ≤ 1000) (hml : m ≤ 1000) (h0 : ∀ i, i < m → gt (rw' T i) (B i) ≠ 0) :
    RetP f_shares_told [.lst false (LL T), .lst false (I (SB m B)), .int many] (fun d => ∃ fs, d = .lst true (FF fs) ∧ fs.length = many ∧ ∀ j, j < many → ShareOf m N T B j (fr fs j)) := by
  refine retP_of ?_
  have ec : vComp (iR1 (aCons (vVar 2) aNil)) 1 [] (bindD 0) tTrue (vC (.tup (([0, 1] : List Int).map D.int))) [.val (.lst false (LL T)), .val (.lst false (I (SB m B))), .val (.int many), .un, .un, .un] = .ok (.lst true (FF (List.replicate many (0, 1))), true) := by
    rw [vComp1 [] (List.range many) (fun i => .int (i : Int)) (fun _ => D.tup (([0, 1] : List Int).map D.int)) (fun _ => true) (by simp -implicitDefEqProofs [rng_nat (show many ≤ 1000000 by omega)]) (by simp; omega) rfl ?_ (.inl rfl)]
    · rw [FF, List.map_replicate]
      congr 3
      exact List.eq_replicate_iff.mpr ⟨by simp, by simp⟩
    · intro x _; exact ⟨rfl, rfl⟩
  simp -implicitDefEqProofs [b_shares_told, entry, -List.map_cons, -List.map_nil] at ec ⊢
  simp only [List.map_cons, List.map_nil] at ec ⊢
  simp -implicitDefEqProofs [ec, enum_I]
  refine out_then (for_all (fun pre ρ => ∃ fs t u, np t ∧ np u ∧ fs.length = many ∧ (∀ j, j < many → ShareOf pre.length N T B j (fr fs j)) ∧ ρ = [.val (.lst false (LL T)), .val (.lst false (I (SB m B))), .val (.int many), .val (.lst true (FF fs)), t, u]) (SB m B).zipIdx ⟨_, _, _, np_un, np_un, List.length_replicate, fun j hj => .inr ⟨fun k hk => absurd hk (Nat.not_lt_zero k), ?_⟩, rfl⟩ ?_) ?_
  · simp [fr, hj]
  · rintro pre ⟨q, k⟩ post ρ e ⟨fs, t, u, ht, hu, hdl, hsh, rfl⟩
    obtain ⟨hk, hq, hlt⟩ := zipIdx_split e
    rw [SB_len] at hlt
    have eq : q = (B k : Int) := by
      rw [gt_eq (by rw [SB_len]; exact hlt), gt_SB hlt] at hq; exact (Option.some.inj hq).symm
    subst eq
    have hrm : rw' T k ∈ T := List.mem_of_getElem? (rw_eq (by omega))
    have hrl := hT _ hrm
    have ea : atI (LL T) (k : Int) = some (.lst false (I (rw' T k))) := by rw [atI_nat, LL, List.getElem?_map, rw_eq (by omega)]; rfl
    have keep : ∀ j, j ≠ B k → ∀ p, ShareOf pre.length N T B j p → ShareOf (pre.length + 1) N T B j p := fun j hj p hp => by
      rcases hp with ⟨k', h1, h2, h3⟩ | ⟨h1, h2⟩
      · exact .inl ⟨k', by omega, h2, h3⟩
      · refine .inr ⟨fun k' hk' => ?_, h2⟩
        by_cases z : k' = k
        · subst z; exact Ne.symm hj
        · exact h1 k' (by omega)
    by_cases hlt2 : B k < many
    · have e1 := atI_Il hrl
      have e2 := atI_I (xs := rw' T k) (k := B k) (by omega)
      have fr' := r_fraction (a := gt (rw' T k) N) (b := gt (rw' T k) (B k)) (Nat.lt_trans (hB _ hrm _ (gt_mem (by omega))) (by decide)) (h0 k hlt)
      simp -implicitDefEqProofs [ht, hu, hlt2, ea, e1, e2, callR_k fr', ixN_nat (show B k < fs.length by omega)]
      refine ⟨_, _, np_val, _, np_val, by simpa using hdl, fun j hj => ?_, rfl, rfl, rfl⟩
      by_cases hjk : j = B k
      · refine .inl ⟨k, by omega, hjk.symm, ?_⟩
        subst hjk
        simp [fr, low, show B k < fs.length by omega]
      · have : fr (fs.set (B k) (gt (rw' T k) N / (Int.gcd (gt (rw' T k) N) (gt (rw' T k) (B k)) : Nat), gt (rw' T k) (B k) / (Int.gcd (gt (rw' T k) N) (gt (rw' T k) (B k)) : Nat))) j = fr fs j := by
          unfold fr
          rw [List.getD_eq_getElem?_getD, List.getD_eq_getElem?_getD, List.getElem?_set_ne (Ne.symm hjk)]
        rw [this]
        exact keep j hjk _ (hsh j hj)
    · simp -implicitDefEqProofs [ht, hu, hlt2]
      exact ⟨_, _, np_val, _, np_val, hdl, fun j hj => keep j (by omega) _ (hsh j hj), rfl, rfl, rfl⟩
  · rintro ρ ⟨fs, t, u, ht, hu, hdl, hsh, rfl⟩
    rw [List.length_zipIdx, SB_len] at hsh
    simp -implicitDefEqProofs
    exact ⟨fs, rfl, hdl, hsh⟩
theorem low_mul {a b : Int} : (low a b).1 * b = a * (low a b).2 := by
  unfold low
  have h1 : ((Int.gcd a b : Nat) : Int) ∣ a := Int.gcd_dvd_left ..
  have h2 : ((Int.gcd a b : Nat) : Int) ∣ b := Int.gcd_dvd_right ..
  generalize ((Int.gcd a b : Nat) : Int) = g at *
  obtain ⟨x, rfl⟩ := h1
  obtain ⟨y, rfl⟩ := h2
  by_cases hg : g = 0
  · subst hg; simp
  · simp only [Int.mul_ediv_cancel_left _ hg]
    rw [Int.mul_comm x, Int.mul_assoc, Int.mul_assoc, Int.mul_comm y]
theorem low_pos {a b : Int} (hb : 0 < b) : 0 < (low a b).2 := by
  have h2 : ((Int.gcd a b : Nat) : Int) ∣ b := Int.gcd_dvd_right ..
  have h3 : 0 < Int.gcd a b := Int.gcd_pos_of_ne_zero_right a (by omega)
  exact Int.ediv_pos_of_pos_of_dvd hb (by omega) h2
theorem low_gcd {a b : Int} (hb : 0 < b) : Int.gcd (low a b).1 (low a b).2 = 1 := by
  have h3 : 0 < Int.gcd a b := Int.gcd_pos_of_ne_zero_right a (by omega)
  exact Int.gcd_ediv_gcd_ediv_gcd h3
theorem div_abs {a : Int} {g : Nat} : (a / (g : Int)).natAbs ≤ a.natAbs := Int.natAbs_ediv_le_natAbs a g
theorem low_abs1 {a b : Int} : (low a b).1.natAbs ≤ a.natAbs := div_abs
theorem low_abs2 {a b : Int} : (low a b).2.natAbs ≤ b.natAbs := div_abs
theorem low_nn {a b : Int} (ha : 0 ≤ a) : 0 ≤ (low a b).1 := Int.ediv_nonneg ha (by omega)
structure Fr (Y Z : Nat) (p : Int × Int) : Prop where
  pos : 0 < p.2
  gcd : Int.gcd p.1 p.2 = 1
  top : p.1.natAbs ≤ Y
  bot : p.2.natAbs ≤ Z
theorem Fr.low {Y Z : Nat} {a b : Int} (hb : 0 < b) (ha : a.natAbs ≤ Y) (hz : b.natAbs ≤ Z) : Fr Y Z (low a b) := ⟨low_pos hb, low_gcd hb, Nat.le_trans low_abs1 ha, Nat.le_trans low_abs2 hz⟩
theorem run_snoc {m N K : Nat} {Ts : Nat → Tb} {Bs : Nat → Nat → Nat} {rs cs : Nat → Nat} {T' : Tb} {B' : Nat → Nat} {r c : Nat} (R : Run m N K Ts Bs rs cs) (s : Step m N (Ts K) (Bs K) T' B' r c) :
    ∃ Ts' Bs' rs' cs', Run m N (K + 1) Ts' Bs' rs' cs' ∧ Ts' 0 = Ts 0 ∧ Ts' (K + 1) = T' ∧ Bs' (K + 1) = B' := by
  refine ⟨fun k => if k ≤ K then Ts k else T', fun k => if k ≤ K then Bs k else B', fun k => if k < K then rs k else r, fun k => if k < K then cs k else c, ⟨?_, fun k hk => ?_⟩, ?_, ?_, ?_⟩
  · simpa using R.ok
  · by_cases h : k < K
    · simp only [if_pos h, if_pos (Nat.le_of_lt h), if_pos (show k + 1 ≤ K by omega)]
      exact R.st k h
    · have : k = K := by omega
      subst this
      simp only [Nat.le_refl, if_true, Nat.lt_irrefl, if_false, if_neg (show ¬ k + 1 ≤ k by omega)]
      exact s
  · simp
  · exact if_neg (by omega)
  · exact if_neg (by omega)
end VL.PX
end
section
namespace VL.PX
open VL PySem L2 Smx
def Feas (m n : Nat) (rows : LI) (bounds : List Int) : Prop := ∃ (v : Nat → Int) (V : Int), (∀ j, j < n → 0 ≤ v j) ∧ 0 < V ∧ ∀ i, i < m → sm n (fun j => gt (rw' rows i) j * v j) ≤ gt bounds i * V
def ZZ (A C : Nat) : Nat := 3 * ((2 * (A * A) + A) * C)
structure Wts (Z m n : Nat) (rows : LI) (bounds ws : List Int) : Prop where
  len : ws.length = m
  nn : ∀ k, k < m → 0 ≤ gt ws k
  neg : sm m (fun k => gt ws k * gt bounds k) < 0
  big : ∀ x ∈ ws, x.natAbs ≤ Z
  col : ∀ j, j < n → 0 ≤ sm m (fun k => gt ws k * gt (rw' rows k) j)
structure Shr (Z m n : Nat) (rows : LI) (bounds : List Int) (fs : LQ) : Prop where
  len : fs.length = n
  fr : ∀ p ∈ fs, Fr Z Z p
  nn : ∀ p ∈ fs, 0 ≤ p.1
  sol : ∃ (v : Nat → Int) (V : Int), 0 < V ∧ (∀ j, j < n → v j * (PX.fr fs j).2 = (PX.fr fs j).1 * V) ∧ ∀ i, i < m → sm n (fun j => gt (rw' rows i) j * v j) ≤ gt bounds i * V
theorem Shr.feas {Z m n : Nat} {rows : LI} {bounds : List Int} {fs : LQ} (h : Shr Z m n rows bounds fs) : Feas m n rows bounds := by
  obtain ⟨v, V, hV, hv, hs⟩ := h.sol
  refine ⟨v, V, fun j hj => ?_, hV, hs⟩
  have hm : PX.fr fs j ∈ fs := fr_mem (by rw [h.len]; exact hj)
  have e := hv j hj
  have h1 : 0 ≤ v j * (PX.fr fs j).2 := by rw [e]; exact Int.mul_nonneg (h.nn _ hm) (Int.le_of_lt hV)
  exact Int.nonneg_of_mul_nonneg_left h1 (h.fr _ hm).pos
def SW (Z m n : Nat) (rows : LI) (bounds : List Int) (d : D) : Prop :=
  (∃ fs, d = .tup [.str "shares", .lst false (FF fs)] ∧ Shr Z m n rows bounds fs) ∨ ∃ ws, d = .tup [.str "weights", .lst false (I ws)] ∧ Wts Z m n rows bounds ws
structure In (A C m n : Nat) (rows : LI) (bounds : List Int) : Prop where
  m23 : m = 2 ∨ m = 3
  n6 : n ≤ 6
  rl : rows.length = m
  rr : ∀ r ∈ rows, r.length = n
  bl : bounds.length = m
  ra : ∀ r ∈ rows, ∀ x ∈ r, x.natAbs ≤ A
  bb : ∀ x ∈ bounds, x.natAbs ≤ C
  a1 : 1 ≤ A
  ac : A ≤ C
  ak : A ≤ 1000
  ck : C ≤ 2 ^ 30
section
variable {A C m n : Nat} {rows : LI} {bounds : List Int}
theorem In.a (h : In A C m n rows bounds) : ∀ k, k < m → ∀ j, j < n + m → (tb (wr rows bounds) k j).natAbs ≤ A := fun k hk j hj => by
  by_cases hn : j < n
  · rw [wr_a h.rl h.rr hk hn]
    have hm := List.mem_of_getElem? (rw_eq (T := rows) (i := k) (by rw [h.rl]; exact hk))
    exact h.ra _ hm _ (gt_mem (by rw [h.rr _ hm]; exact hn))
  · obtain ⟨l, rfl⟩ := Nat.exists_eq_add_of_le (Nat.not_lt.mp hn)
    rw [wr_u h.rl h.rr hk (by omega)]
    split
    · exact h.a1
    · exact Nat.zero_le _
theorem In.c (h : In A C m n rows bounds) : ∀ k, k < m → ∀ j, j ≤ n + m → (tb (wr rows bounds) k j).natAbs ≤ C := fun k hk j hj => by
  by_cases hn : j < n + m
  · exact Nat.le_trans (h.a k hk j hn) h.ac
  · have : j = n + m := by omega
    rw [this, wr_b h.rl h.rr hk]
    exact h.bb _ (gt_mem (by rw [h.bl]; exact hk))
theorem ZZ_big {A C : Nat} (ha : A ≤ 1000) (hc : C ≤ 2 ^ 30) : ZZ A C < 2 ^ 80 := by
  refine Nat.lt_of_le_of_lt (m := ZZ 1000 (2 ^ 30)) ?_ (by decide)
  have h1 : A * A ≤ 1000 * 1000 := Nat.mul_le_mul ha ha
  exact Nat.mul_le_mul_left 3 (Nat.mul_le_mul (by omega) hc)
structure At (m n : Nat) (rows : LI) (bounds : List Int) (K : Nat) (T : LI) (B : Nat → Nat) : Prop where
  len : T.length = m
  row : ∀ r ∈ T, r.length = n + m + 1
  tab : Tab m n (tb (wr rows bounds)) (tb T) B
  run : ∃ Ts Bs rs cs, Run m (n + m) K Ts Bs rs cs ∧ Ts 0 = tb (wr rows bounds) ∧ Ts K = tb T ∧ Bs K = B
theorem At.bigZ {K : Nat} {T : LI} {B : Nat → Nat} (h : In A C m n rows bounds) (a : At m n rows bounds K T B) : ∀ r ∈ T, ∀ x ∈ r, x.natAbs ≤ ZZ A C := fun r hr x hx => by
  obtain ⟨i, hi, e⟩ := List.mem_iff_getElem.mp hr
  obtain ⟨j, hj, e2⟩ := List.mem_iff_getElem.mp hx
  have e1 : rw' T i = r := by
    have := rw_eq hi
    rw [List.getElem?_eq_getElem hi, e] at this; exact (Option.some.inj this).symm
  have e3 : gt r j = x := by
    have := gt_eq hj
    rw [List.getElem?_eq_getElem hj, e2] at this; exact (Option.some.inj this).symm
  have hlen := a.row r hr
  have := a.tab.big h.m23 h.a h.c (i := i) (by rw [← a.len]; exact hi) j (by omega)
  unfold tb at this
  rw [e1, e3] at this
  exact this
theorem At.big {K : Nat} {T : LI} {B : Nat → Nat} (h : In A C m n rows bounds) (a : At m n rows bounds K T B) : ∀ r ∈ T, ∀ x ∈ r, BigB x := fun r hr x hx => Nat.lt_of_le_of_lt (a.bigZ h r hr x hx) (ZZ_big h.ak h.ck)
theorem At.short {K : Nat} {T : LI} {B : Nat → Nat} (h : In A C m n rows bounds) (a : At m n rows bounds K T B) : K < 512 := by
  obtain ⟨Ts, Bs, rs, cs, R, _⟩ := a.run
  have hN : n + m ≤ 9 := by have := h.n6; have := h.m23; omega
  exact Nat.lt_of_lt_of_le R.short (Nat.le_trans (Nat.pow_le_pow_right (by decide) hN) (by decide))
theorem At.shr {K : Nat} {T : LI} {B : Nat → Nat} {fs : LQ} (h : In A C m n rows bounds) (a : At m n rows bounds K T B) (hn : ∀ i, i < m → 0 ≤ tb T i (n + m)) (hl : fs.length = n) (hf : ∀ j, j < n → ShareOf m (n + m) T B j (fr fs j)) : Shr (ZZ A C) m n rows bounds fs := by
  obtain ⟨Ts, Bs, rs, cs, R, e0, eK, eB⟩ := a.run
  have o := a.tab.ok
  have nl := (R.nulls (sol m (n + m) (tb T) B) K (Nat.le_refl _)).mpr (by rw [eK]; exact sol_null o)
  rw [e0] at nl
  have nn : ∀ j, j < n + m → 0 ≤ sol m (n + m) (tb T) B j := fun j hj => by
    by_cases hb : ∃ i, i < m ∧ B i = j
    · obtain ⟨i, hi, rfl⟩ := hb
      rw [sol_B o hi]
      exact Int.mul_nonneg (hn i hi) (Int.le_of_lt (pdx_pos fun l hl => o.pos l hl))
    · rw [sol_0 hj fun i hi e => hb ⟨i, hi, e⟩]; exact Int.le_refl _
  have row_in : ∀ i, i < m → rw' T i ∈ T := fun i hi => List.mem_of_getElem? (rw_eq (by rw [a.len]; exact hi))
  have big : ∀ i, i < m → ∀ j, j ≤ n + m → (gt (rw' T i) j).natAbs ≤ ZZ A C := fun i hi j hj => a.bigZ h _ (row_in i hi) _ (gt_mem (by rw [a.row _ (row_in i hi)]; omega))
  have mem_ix : ∀ p ∈ fs, ∃ j, j < n ∧ p = fr fs j := fun p hp => by
    obtain ⟨j, hj, e⟩ := List.mem_iff_getElem.mp hp
    refine ⟨j, by omega, ?_⟩
    have := fr_eq hj
    rw [List.getElem?_eq_getElem hj, e] at this; exact Option.some.inj this
  have z1 : 1 ≤ ZZ A C := by
    have : 1 * 1 ≤ (2 * (A * A) + A) * C := Nat.mul_le_mul (by have := h.a1; omega) (Nat.le_trans h.a1 h.ac)
    unfold ZZ; omega
  refine ⟨hl, fun p hp => ?_, fun p hp => ?_, sol m (n + m) (tb T) B, sol m (n + m) (tb T) B (n + m), sol_pos o, fun j hj => ?_, fun i hi => ?_⟩
  · obtain ⟨j, hj, rfl⟩ := mem_ix p hp
    rcases hf j hj with ⟨k, hk, rfl, e⟩ | ⟨_, e⟩
    · rw [e]; exact Fr.low (o.pos k hk) (big k hk _ (Nat.le_refl _)) (big k hk _ (by omega))
    · rw [e]; exact ⟨by decide, rfl, Nat.zero_le _, z1⟩
  · obtain ⟨j, hj, rfl⟩ := mem_ix p hp
    rcases hf j hj with ⟨k, hk, rfl, e⟩ | ⟨_, e⟩
    · rw [e]; exact low_nn (hn k hk)
    · rw [e]; exact Int.le_refl _
  · rcases hf j hj with ⟨k, hk, rfl, e⟩ | ⟨hno, e⟩
    · rw [e, sol_B o hk, sol_N, ← pdx_mul (f := piv (tb T) B) hk]
      have lm := low_mul (a := gt (rw' T k) (n + m)) (b := gt (rw' T k) (B k))
      show gt (rw' T k) (n + m) * pdx m (piv (tb T) B) k * (low (gt (rw' T k) (n + m)) (gt (rw' T k) (B k))).2 = (low (gt (rw' T k) (n + m)) (gt (rw' T k) (B k))).1 * (gt (rw' T k) (B k) * pdx m (piv (tb T) B) k)
      rw [← Int.mul_assoc, lm, Int.mul_right_comm]
    · rw [e, sol_0 (by omega) hno]; simp
  · have e := nl i hi
    rw [sm_split, wr_b h.rl h.rr hi, sm_one (n := m) (k := i) hi fun l hl ne => ?_, wr_u h.rl h.rr hi hi, if_pos rfl, Int.one_mul] at e
    · rw [sm_congr (g := fun j => tb (wr rows bounds) i j * sol m (n + m) (tb T) B j) fun j hj => by rw [wr_a h.rl h.rr hi hj]]
      have := nn (n + i) (by omega)
      omega
    · show tb (wr rows bounds) i (n + l) * _ = 0
      rw [wr_u h.rl h.rr hi hl, if_neg ne, Int.zero_mul]
theorem At.next {K : Nat} {T : LI} {B : Nat → Nat} {a c : Nat} (st : At m n rows bounds K T B) (ha : a < m) (hc : c < n + m) (neg : tb T a (n + m) < 0) (negc : tb T a c < 0) (hrow : ∀ i, i < m → tb T i (n + m) < 0 → B a ≤ B i) (hcol : ∀ j, j < c → 0 ≤ tb T a j) :
    At m n rows bounds (K + 1) (sf T a c) (fun i => if i = a then c else B i) ∧ ∀ p ∈ T.zipIdx, p.2 ≠ a → ∃ x ∈ combL p.1 (negL (rw' T a)) c, x ≠ 0 := by
  obtain ⟨s, hp, hz⟩ := sf_step st.row st.len st.tab.ok ha hc neg negc hrow hcol
  refine ⟨⟨sf_len.trans st.len, sf_row st.row (by rw [st.len]; exact ha), st.tab.step s hp, ?_⟩, hz⟩
  obtain ⟨Ts, Bs, rs, cs, R, e0, eK, eB⟩ := st.run
  obtain ⟨Ts', Bs', rs', cs', R', f0, f1, f2⟩ := run_snoc R (by rw [eK, eB]; exact s)
  exact ⟨Ts', Bs', rs', cs', R', f0.trans e0, f1, f2⟩
theorem cut_ws {r : List Int} (h : r.length = n + m + 1) : cutD (I r) (some (n : Int)) (some (-1)) = I ((r.drop n).take m) := by
  have a1 : HT.sIx (n + m + 1) 0 (some (n : Int)) = n := by
    show (if (n : Int) < 0 then ((n : Int) + ((n + m + 1 : Nat) : Int)).toNat else min (n : Int).toNat (n + m + 1)) = n
    rw [if_neg (by omega)]; omega
  have a2 : HT.sIx (n + m + 1) (n + m + 1) (some (-1)) = n + m := by
    show (if (-1 : Int) < 0 then (-1 + ((n + m + 1 : Nat) : Int)).toNat else min (-1 : Int).toNat (n + m + 1)) = n + m
    rw [if_pos (by omega)]; omega
  unfold cutD
  rw [I_len, h, a1, a2]
  simp [I]
theorem gt_ws {r : List Int} {k : Nat} (hk : k < m) : gt ((r.drop n).take m) k = gt r (n + k) := by
  unfold gt; simp [List.getElem?_take, hk]
def swC : SemT := tBool (v2 (kIsN true) (vVar 5) (vC .non))
def swB : SemS := (sSeq (sFrz [3] (sSet 6 (xOf (vCall f_column_below (aCons (v2 kIx (vVar 3) (vVar 5)) aNil))))) (sSeq (sIf (tBool (v2 (kIsN false) (vVar 6) (vC .non))) (sRet (xOf (vTup (aCons (vC (.str "weights")) (aCons (vSl (v2 kIx (vVar 3) (vVar 5)) (oInt (vVar 2)) (oInt (v1 (kU fun i => .int (-i)) (vC (.int 1))))) aNil))))) sNext) (sSeq (sSet 3 (xOf (vCall f_solved_for (aCons (vVar 3) (aCons (vVar 5) (aCons (vVar 6) aNil)))))) (sSeq (sSetItem 4 (vVar 5) (vVar 6)) (sSet 5 (xOf (vCall f_row_below (aCons (vVar 3) (aCons (vVar 4) aNil)))))))))
theorem sw_loop (h : In A C m n rows bounds) : ∀ (fuel K : Nat) (T : LI) (B : Nat → Nat) (dT dA : D) (t : Slot), 600 ≤ K + fuel → At m n rows bounds K T B → dT.frz = .lst false (LL T) → Below (n + m) T (SB m B) m dA → np t →
    out (whileN swC swB fuel [.val (.lst false (LL rows)), .val (.lst false (I bounds)), .val (.int n), .val dT, .val (.lst true (I (SB m B))), .val dA, t])
      (fun ρ => ∃ K T B dT t, At m n rows bounds K T B ∧ dT.frz = .lst false (LL T) ∧ (∀ i, i < m → 0 ≤ tb T i (n + m)) ∧ ρ = [.val (.lst false (LL rows)), .val (.lst false (I bounds)), .val (.int n), .val dT, .val (.lst true (I (SB m B))), .val .non, t]) (SW (ZZ A C) m n rows bounds)
  | 0, K, T, B, dT, dA, t, hf, a, _, _, _ => by have := a.short h; omega
  | fuel + 1, K, T, B, dT, dA, t, hf, a, hd, hb, ht => by
    have m3 : m ≤ 3 := by have := h.m23; omega
    have n6 := h.n6
    rcases hb with ⟨rfl, hb⟩ | ⟨r, rfl, hr, hneg, hmin⟩
    · have hc : swC [.val (.lst false (LL rows)), .val (.lst false (I bounds)), .val (.int n), .val dT, .val (.lst true (I (SB m B))), .val .non, t] = .ok false := by simp [swC, isNon]
      rw [while_f hc]
      exact ⟨K, T, B, dT, t, a, hd, hb, rfl⟩
    · have hc : swC [.val (.lst false (LL rows)), .val (.lst false (I bounds)), .val (.int n), .val dT, .val (.lst true (I (SB m B))), .val (.int r), t] = .ok true := by simp [swC, isNon]
      have hrm : rw' T r ∈ T := List.mem_of_getElem? (rw_eq (by rw [a.len]; exact hr))
      have hrl := a.row _ hrm
      have ea : atI (LL T) (r : Int) = some (.lst false (I (rw' T r))) := by rw [atI_nat, LL, List.getElem?_map, rw_eq (by rw [a.len]; exact hr)]; rfl
      obtain ⟨dc, hcb, hcol⟩ := r_column_below (r := rw' T r) (N := n + m) hrl (by omega)
      rcases hcol with ⟨c, rfl, hcN, hcn, hcm⟩ | ⟨rfl, hall⟩
      · obtain ⟨a', hz⟩ := a.next hr hcN hneg hcn (fun i hi hn => by have := hmin i hi hn; rw [gt_SB hr, gt_SB hi] at this; omega) hcm
        obtain ⟨dT', hs, es, rfl, hes⟩ := r_solved_for (N := n + m) a.row (a.big h) (by rw [a.len]; exact hr) (Nat.le_of_lt hcN) (by omega) (by rw [a.len]; omega) hz
        obtain ⟨dA', hrb, hbl⟩ := r_row_below (N := n + m) (T := sf T r c) (S := SB m fun i => if i = r then c else B i) a'.row (by rw [SB_len, a'.len])
        have hsc : isScal dA' = true := by
          rcases hbl with ⟨rfl, _⟩ | ⟨q, rfl, _⟩ <;> rfl
        have hb' : swB [.val (.lst false (LL rows)), .val (.lst false (I bounds)), .val (.int n), .val dT, .val (.lst true (I (SB m B))), .val (.int r), t] =
            .next [.val (.lst false (LL rows)), .val (.lst false (I bounds)), .val (.int n), .val (.lst true es), .val (.lst true (I (SB m fun i => if i = r then c else B i))), .val dA', .val (.int c)] := by
          simp -implicitDefEqProofs [swB, hd, ea, callR_k hcb, ht, isNon, callR_k hs, ixN_nat (show r < m from hr), SB_set, hes, callR_s hrb hsc]
        rw [while_t hc hb']
        rw [a'.len] at hbl
        exact sw_loop h fuel (K + 1) _ _ _ _ _ (by omega) a' (by rw [frz_lst, hes]) hbl np_val
      · have hb' : swB [.val (.lst false (LL rows)), .val (.lst false (I bounds)), .val (.int n), .val dT, .val (.lst true (I (SB m B))), .val (.int r), t] =
            .ret (.tup [.str "weights", .lst false (I (((rw' T r).drop n).take m))]) [.val (.lst false (LL rows)), .val (.lst false (I bounds)), .val (.int n), .val (.lst false (LL T)), .val (.lst true (I (SB m B))), .val (.int r), .val .non] := by
          simp -implicitDefEqProofs [swB, hd, ea, callR_k hcb, ht, isNon, cut_ws hrl]
        rw [while_r hc hb']
        refine .inr ⟨_, rfl, ⟨by simp [hrl]; omega, fun k hk => ?_, ?_, fun x hx => ?_, fun j hj => ?_⟩⟩
        · rw [gt_ws hk]; exact hall _ (by omega)
        · have := a.tab.lin r hr (n + m) (Nat.le_refl _)
          rw [sm_congr (g := fun k => tb T r (n + k) * tb (wr rows bounds) k (n + m)) fun k hk => by rw [gt_ws hk, wr_b h.rl h.rr hk]; rfl, ← this]
          exact hneg
        · exact a.bigZ h _ hrm x (List.mem_of_mem_drop (List.mem_of_mem_take hx))
        · have := a.tab.lin r hr j (by omega)
          rw [sm_congr (g := fun k => tb T r (n + k) * tb (wr rows bounds) k j) fun k hk => by rw [gt_ws hk, wr_a h.rl h.rr hk hj]; rfl, ← this]
          exact hall j (by omega)
theorem sh_at {K : Nat} {T : LI} {B : Nat → Nat} (h : In A C m n rows bounds) (a : At m n rows bounds K T B) (hn : ∀ i, i < m → 0 ≤ tb T i (n + m)) : ∃ fs, Ret f_shares_told [.lst false (LL T), .lst false (I (SB m B)), .int n] (.lst true (FF fs)) ∧ Shr (ZZ A C) m n rows bounds fs := by
  have m3 : m ≤ 3 := by have := h.m23; omega
  have n6 := h.n6
  have h0 : ∀ i, i < m → gt (rw' T i) (B i) ≠ 0 := fun i hi z => by
    have := a.tab.ok.pos i hi
    unfold tb at this; omega
  have hst := r_shares_told (N := n + m) (many := n) (B := B) a.row a.len (a.big h) (by omega) (by omega) (by omega) h0
  obtain ⟨d, hs, fs, rfl, hl, hf⟩ := hst
  exact ⟨fs, hs, a.shr h hn hl hf⟩
theorem r_sw (h : In A C m n rows bounds) : RetP f_shares_or_weights [.lst false (LL rows), .lst false (I bounds)] (SW (ZZ A C) m n rows bounds) := by
  refine retP_of ?_
  have m3 : m ≤ 3 := by have := h.m23; omega
  have m1 : 0 < m := by have := h.m23; omega
  have n6 := h.n6
  have e0 : atI (LL rows) 0 = some (.lst false (I (rw' rows 0))) := by
    have := atI_nat (xs := LL rows) (k := 0)
    rw [show ((0 : Nat) : Int) = 0 from rfl] at this
    rw [this, LL, List.getElem?_map, rw_eq (by rw [h.rl]; exact m1)]; rfl
  have hl0 : (rw' rows 0).length = n := rows_len h.rr (by rw [h.rl]; exact m1)
  have hw := r_with_rests (rows := rows) (bounds := bounds) (by rw [h.rl]; omega) (by rw [h.rl, h.bl]; omega) (fun r hr => by rw [h.rr r hr]; omega)
  have ec : vComp (iR1 (aCons (vCB kLen (aCons (vVar 0) aNil)) aNil)) 1 [2] (bindD 0) tTrue (v2 kPlus (vVar 1) (vVar 0)) [.val (.lst false (LL rows)), .val (.lst false (I bounds)), .val (.int n), .val (.lst true (LO (wr rows bounds))), .un, .un, .un] = .ok (.lst true (I (SB m fun i => n + i)), true) := by
    refine vComp1I [.val (.int n)] (List.range m) (fun i => .int (i : Int)) _ (by simp -implicitDefEqProofs [h.rl, rng_nat (show m ≤ 1000000 by omega)]) (by simp; omega) (by simp) ?_
    intro i hi
    simp -implicitDefEqProofs
  have a0 : At m n rows bounds 0 (wr rows bounds) (fun i => n + i) := ⟨wr_len h.rl, wr_row h.rl h.rr, tab0 h.rl h.rr, ⟨fun _ => tb (wr rows bounds), fun _ i => n + i, fun _ => 0, fun _ => 0, ⟨(tab0 h.rl h.rr).ok, fun k hk => by omega⟩, rfl, rfl, rfl⟩⟩
  obtain ⟨dA, hrb, hbl⟩ := r_row_below (N := n + m) (T := wr rows bounds) (S := SB m fun i => n + i) a0.row (by rw [SB_len, a0.len])
  have hsc : isScal dA = true := by
    rcases hbl with ⟨rfl, _⟩ | ⟨q, rfl, _⟩ <;> rfl
  rw [a0.len] at hbl
  simp -implicitDefEqProofs [b_shares_or_weights, entry, e0, hl0, callR_k hw, ec, callR_s hrb hsc]
  have lp := sw_loop h fuel 0 (wr rows bounds) (fun i => n + i) (.lst true (LO (wr rows bounds))) dA .un (by decide) a0 (by simp) hbl np_un
  unfold swC swB at lp
  refine out_then lp ?_
  generalize hg : sFrz [3, 4] _ = g
  rintro ρ ⟨K, T, B, dT, t, a, hd, hn, rfl⟩
  obtain ⟨fs, hs, hsh⟩ := sh_at h a hn
  rw [← hg]
  simp -implicitDefEqProofs [hd, callR_k hs]
  exact .inl ⟨_, rfl, hsh⟩
end
end VL.PX
end
section
namespace VL.PX
open VL PySem L2 Smx
theorem eq_str {n : Bool} {x y : Str} {b c : Bool} (hx : (PyData.str x).canLay0 = true) (hy : (PyData.str y).canLay0 = true) : kEq n (.str x, b) (.str y, c) = .ok (.bl (if n then !(x == y) else (x == y)), true) := by
  unfold kEq
  have : eqOk (.str x) (.str y) = true := by
    show (true && true && ((PyData.str x).canLay0 && (PyData.str y).canLay0 && decide (min (PyData.str x).depth (PyData.str y).depth ≤ 100))) = true
    rw [hx, hy]; rfl
  rw [if_pos this]; rfl
theorem r_guards_at {gs : LI} {k : Nat} (h : ∀ g ∈ gs, k < g.length) (hl : gs.length ≤ 1000) : Ret f_guards_at [.lst false (TT gs), .int k] (.lst true (I (gs.map fun g => gt g k))) := by
  refine retE ?_
  have ec : vComp (iAny (vVar 0)) 1 [1] (bindD 0) tTrue (v2 kIx (vVar 0) (vVar 1)) [.val (.lst false (TT gs)), .val (.int k)] = .ok (.lst true (I (gs.map fun g => gt g k)), true) := by
    rw [vComp1 [.val (.int k)] gs (fun g => .tup (I g)) (fun g => .int (gt g k)) (fun _ => false) (by simp; rfl) (by omega) (by simp) (fun g hg => ⟨by simp [atI_I (h g hg)], by simp⟩) (.inr fun _ _ => rfl)]
    simp [I]
  simp -implicitDefEqProofs [b_guards_at, entry, ec]
theorem s_line : (PyData.str "line").canLay0 = true := by decide +kernel
theorem s_none : (PyData.str "none").canLay0 = true := by decide +kernel
theorem s_shares : (PyData.str "shares").canLay0 = true := by decide +kernel
theorem s_weights : (PyData.str "weights").canLay0 = true := by decide +kernel
theorem s_point : (PyData.str "point").canLay0 = true := by decide +kernel
theorem r_bounds_line {f : List Int} : Ret f_bounds_by [.str "line", .lst false (I f)] (.lst false (I f)) := by
  refine retE ?_
  simp -implicitDefEqProofs [b_bounds_by, entry, eq_str s_line s_line]
theorem cut_init {f : List Int} {m : Nat} (h : f.length = m + 1) : cutD (I f) none (some (-1)) = I (f.take m) := by
  have a2 : HT.sIx (m + 1) (m + 1) (some (-1)) = m := by
    show (if (-1 : Int) < 0 then (-1 + ((m + 1 : Nat) : Int)).toNat else min (-1 : Int).toNat (m + 1)) = m
    rw [if_pos (by omega)]; omega
  unfold cutD
  rw [I_len, h, a2]
  simp [I, HT.sIx]
theorem r_bounds_none {f : List Int} {m : Nat} (h : f.length = m + 1) (hm : m ≤ 1000) : Ret f_bounds_by [.str "none", .lst false (I f)] (.lst true (I (List.replicate m 0 ++ [-1]))) := by
  refine retE ?_
  have ne : (("none" : Str) == ("line" : Str)) = false := by decide
  have ec : vComp (iAny (vSl (vVar 1) oNone (oInt (v1 (kU fun i => .int (-i)) (vC (.int 1)))))) 1 [] (bindD 0) tTrue (vC (.int 0)) [.val (.str "none"), .val (.lst false (I f))] = .ok (.lst true (I (List.replicate m 0)), true) := by
    rw [vComp1I [] (f.take m) D.int (fun _ => 0) (by simp [cut_init h, -List.map_take]; rfl) (by simp; omega) rfl (fun _ _ => by simp)]
    congr 4
    rw [List.map_const']
    simp [h]
  simp -implicitDefEqProofs [b_bounds_by, entry, eq_str s_none s_line, ne, ec]
  rw [if_pos (by omega)]
  simp
def wrt (f w : List Int) : Int := ((f.zip w).map fun p => p.1 * p.2).sum
theorem r_worth_of {f w : List Int} (hf : ∀ x ∈ f, fits x = true) (hw : ∀ x ∈ w, fits x = true) (hl : f.length ≤ 1000) : Ret f_worth_of [.lst false (I f), .lst false (I w)] (.int (wrt f w)) := by
  refine retE ?_
  have ec : vComp (iZi (vVar 0) (vVar 1)) 2 [] (bindT [0, 1]) tTrue (v2 kTimes (vVar 0) (vVar 1)) [.val (.lst false (I f)), .val (.lst false (I w))] = .ok (.lst true (I ((f.zip w).map fun p => p.1 * p.2)), true) := by
    refine vComp2I [] (f.zip w) (fun p => .int p.1) (fun p => .int p.2) _ (by simp [zip_I]) (by simp; omega) rfl ?_
    rintro ⟨x, y⟩ h
    have hm := List.of_mem_zip h
    simp [hf x hm.1, hw y hm.2]
  simp -implicitDefEqProofs [b_worth_of, entry, ec, wrt]
def stepsN (form start onward : List Int) : Int := if wrt form start / -wrt form onward + 1 > 0 then wrt form start / -wrt form onward + 1 else 0
def farL (form start onward : List Int) : List Int := (start.zip onward).map fun p => p.1 + stepsN form start onward * p.2
theorem r_gone_far {form start onward : List Int} (hf : ∀ x ∈ form, fits x = true) (hs : ∀ x ∈ start, fits x = true) (ho : ∀ x ∈ onward, fits x = true) (hl : form.length ≤ 1000) (hl2 : start.length ≤ 1000) (hneg : wrt form onward < 0) (hb : fits (-wrt form onward) = true) (hst : fits (stepsN form start onward) = true) :
    Ret f_gone_far [.lst false (I form), .lst false (I start), .lst false (I onward)] (.lst true (I (farL form start onward))) := by
  refine retE ?_
  have e1 := r_worth_of hf hs hl
  have e2 := r_worth_of hf ho hl
  have ec : vComp (iZi (vVar 1) (vVar 2)) 2 [3] (bindT [0, 1]) tTrue (v2 kPlus (vVar 0) (v2 kTimes (vVar 2) (vVar 1))) [.val (.lst false (I form)), .val (.lst false (I start)), .val (.lst false (I onward)), .val (.int (stepsN form start onward))] = .ok (.lst true (I (farL form start onward)), true) := by
    refine vComp2I [.val (.int (stepsN form start onward))] (start.zip onward) (fun p => .int p.1) (fun p => .int p.2) _ (by simp [zip_I]) (by simp; omega) (by simp) ?_
    rintro ⟨x, y⟩ h
    have hm := List.of_mem_zip h
    simp [hst, ho y hm.2]
  unfold stepsN at ec
  simp -implicitDefEqProofs [b_gone_far, entry, callR_k e1, callR_k e2, hneg, hb, k2i, ec, -Int.ediv_neg]
theorem r_point_of {ws : List Int} {m : Nat} (h : ws.length = m + 1) (hm : m ≤ 1000) (h0 : gt ws m ≠ 0) (hb : (gt ws m).natAbs < 2 ^ 200) : Ret f_point_of [.lst false (I ws)] (.lst true (FF ((ws.take m).map fun x => low x (gt ws m)))) := by
  refine retE ?_
  have ec : vComp (iAny (vSl (vVar 0) oNone (oInt (v1 (kU fun i => .int (-i)) (vC (.int 1)))))) 1 [0] (bindD 0) tTrue (vCall f_fraction (aCons (vVar 0) (aCons (v2 kIx (vVar 1) (v1 (kU fun i => .int (-i)) (vC (.int 1)))) aNil))) [.val (.lst false (I ws))]
      = .ok (.lst true ((ws.take m).map fun x => .tup [.int (x / (Int.gcd x (gt ws m) : Nat)), .int (gt ws m / (Int.gcd x (gt ws m) : Nat))]), true) := by
    refine vComp1 [.val (.lst false (I ws))] (ws.take m) D.int _ (fun _ => true) (by simp [cut_init h, -List.map_take]; rfl) (by simp; omega) (by simp) ?_ (.inl (by simp [capOk]))
    intro x _
    simp -implicitDefEqProofs [atI_Il h, callR_k (r_fraction (a := x) hb h0)]
  have ef : FF ((ws.take m).map fun x => low x (gt ws m)) = (ws.take m).map fun x => D.tup [.int (x / (Int.gcd x (gt ws m) : Nat)), .int (gt ws m / (Int.gcd x (gt ws m) : Nat))] := by
    rw [FF, List.map_map]; rfl
  rw [ef]
  simp -implicitDefEqProofs [b_point_of, entry, ec, -List.map_take]
end VL.PX
end
section
namespace VL.PX
open VL PySem L2 Smx
def rowsOf (M : Nat) (gs : LI) : LI := (List.range M).map fun k => gs.map fun g => gt g k
def Holds (M : Nat) (gs : LI) (form : List Int) : Prop :=
  ∀ x : Nat → Int, (∀ k, k < M → 0 ≤ x k) → 0 < x (M - 1) → (∀ g ∈ gs, 0 ≤ sm M fun k => gt g k * x k) → 0 ≤ sm M fun k => gt form k * x k
theorem rw_rowsOf {M k : Nat} {gs : LI} (h : k < M) : rw' (rowsOf M gs) k = gs.map fun g => gt g k := by
  unfold rw' rowsOf; simp [h]
theorem gt_rowsOf {M k j : Nat} {gs : LI} (h : k < M) (hj : j < gs.length) : gt (rw' (rowsOf M gs) k) j = gt (rw' gs j) k := by
  rw [rw_rowsOf h]
  unfold gt rw'
  simp [List.getElem?_eq_getElem hj]
theorem feas_dot {M : Nat} {gs : LI} {bounds : List Int} (hF : Feas M gs.length (rowsOf M gs) bounds) {x : Nat → Int} (hx : ∀ k, k < M → 0 ≤ x k) (hg : ∀ g ∈ gs, 0 ≤ sm M fun k => gt g k * x k) : 0 ≤ sm M fun k => gt bounds k * x k := by
  obtain ⟨v, V, hv, hV, h⟩ := hF
  have h1 : sm M (fun k => sm gs.length (fun j => gt (rw' (rowsOf M gs) k) j * v j) * x k) ≤ sm M fun k => (gt bounds k * V) * x k := sm_le fun k hk => Int.mul_le_mul_of_nonneg_right (h k hk) (hx k hk)
  have h2 : 0 ≤ sm M (fun k => sm gs.length (fun j => gt (rw' (rowsOf M gs) k) j * v j) * x k) := by
    have e : sm M (fun k => sm gs.length (fun j => gt (rw' (rowsOf M gs) k) j * v j) * x k) = sm gs.length (fun j => v j * sm M (fun k => gt (rw' gs j) k * x k)) := by
      rw [sm_congr (g := fun k => sm gs.length fun j => v j * (gt (rw' gs j) k * x k)) fun k hk => ?_, sm_swap]
      · exact sm_congr fun j hj => sm_mul
      · rw [← sm_mulr]
        exact sm_congr fun j hj => by rw [gt_rowsOf hk hj, Int.mul_comm (gt (rw' gs j) k) (v j), Int.mul_assoc]
    rw [e]
    exact sm_nonneg fun j hj => Int.mul_nonneg (hv j hj) (hg _ (List.mem_of_getElem? (rw_eq hj)))
  have h3 : sm M (fun k => (gt bounds k * V) * x k) = V * sm M fun k => gt bounds k * x k := by
    rw [← sm_mul]; exact sm_congr fun k hk => by rw [Int.mul_comm (gt bounds k) V, Int.mul_assoc]
  rw [h3] at h1
  have h4 : 0 ≤ V * sm M fun k => gt bounds k * x k := Int.le_trans h2 h1
  exact Int.nonneg_of_mul_nonneg_right h4 hV
theorem gt_nb {m k : Nat} (h : k < m + 1) : gt (List.replicate m 0 ++ [-1]) k = if k = m then -1 else 0 := by
  by_cases e : k = m
  · subst e
    have := gt_app_r (a := List.replicate k (0 : Int)) (b := [-1]) (j := 0)
    simp at this
    rw [this, if_pos rfl]; rfl
  · rw [gt_app_l (by simp; omega), if_neg e]
    unfold gt; simp [show k < m by omega]
theorem holds_none {m : Nat} {gs : LI} {form : List Int} (hF : Feas (m + 1) gs.length (rowsOf (m + 1) gs) (List.replicate m 0 ++ [-1])) : Holds (m + 1) gs form := fun x hx hp hg => by
  have := feas_dot hF hx hg
  rw [sm_one (k := m) (by omega) fun j hj ne => by rw [gt_nb hj, if_neg ne, Int.zero_mul], gt_nb (by omega), if_pos rfl] at this
  have hp : 0 < x m := hp
  omega
theorem wrt_sm {f w : List Int} : ∀ {M : Nat}, f.length = M → w.length = M → wrt f w = sm M fun k => gt f k * gt w k := by
  intro M hf hw
  have key : ∀ M', M' ≤ M → (((f.take M').zip (w.take M')).map fun p => p.1 * p.2).sum = sm M' fun k => gt f k * gt w k := by
    intro M' h
    induction M' with
    | zero => simp [sm]
    | succ k ih =>
      have e1 : f.take (k + 1) = f.take k ++ [gt f k] := by
        rw [List.take_add_one, gt_eq (by omega)]; rfl
      have e2 : w.take (k + 1) = w.take k ++ [gt w k] := by
        rw [List.take_add_one, gt_eq (by omega)]; rfl
      rw [e1, e2, List.zip_append (by simp; omega), List.map_append, List.sum_append, ih (by omega), sm]
      simp
  have := key M (Nat.le_refl _)
  rw [List.take_of_length_le (by omega), List.take_of_length_le (by omega)] at this
  exact this
def YY (A C : Nat) : Nat := ZZ A C + (3 * (C * ZZ A C) + 5) * ZZ A C
theorem wrt_bound {A C : Nat} {f w : List Int} {M : Nat} (hf : f.length = M) (hw : w.length = M) (hM : M ≤ 3) (bf : ∀ x ∈ f, x.natAbs ≤ C) (bw : ∀ x ∈ w, x.natAbs ≤ ZZ A C) : (wrt f w).natAbs ≤ 3 * (C * ZZ A C) := by
  rw [wrt_sm hf hw]
  refine Nat.le_trans (sm_abs (c := C * ZZ A C) fun j hj => ?_) (Nat.mul_le_mul_right _ hM)
  rw [Int.natAbs_mul]
  exact Nat.mul_le_mul (bf _ (gt_mem (by omega))) (bw _ (gt_mem (by omega)))
theorem steps_bound {N : Nat} {f s o : List Int} (h1 : (wrt f s).natAbs ≤ N) (h2 : wrt f o < 0) : (stepsN f s o).natAbs ≤ N + 5 := by
  unfold stepsN
  have h3 : (wrt f s / -wrt f o).natAbs ≤ N + 1 := by
    have e : 0 < -wrt f o := by omega
    generalize wrt f s = a at *
    generalize -wrt f o = b at *
    have q1 : a / b ≤ max a 0 := by
      rcases Int.le_total 0 a with h | h
      · have := Int.ediv_le_self b h; omega
      · have := Int.ediv_lt_of_lt_mul (a := a) (b := 1) e (by omega); omega
    have q2 : min a 0 ≤ a / b := by
      rcases Int.le_total 0 a with h | h
      · have := Int.ediv_nonneg h (Int.le_of_lt e); omega
      · refine Int.le_trans (Int.min_le_left _ _) ((Int.le_ediv_iff_mul_le e).mpr ?_)
        have : a * b ≤ a * 1 := Int.mul_le_mul_of_nonpos_left h (by omega)
        omega
    omega
  generalize wrt f s / -wrt f o = q at *
  split <;> omega
theorem steps_nn {f s o : List Int} : 0 ≤ stepsN f s o := by unfold stepsN; split <;> omega
theorem steps_enough {f s o : List Int} (h2 : wrt f o < 0) : wrt f s + stepsN f s o * wrt f o < 0 := by
  have e : 0 < -wrt f o := by omega
  have h1 : wrt f s / -wrt f o + 1 ≤ stepsN f s o := by unfold stepsN; split <;> omega
  have h3 : wrt f s < (wrt f s / -wrt f o + 1) * -wrt f o := Int.lt_ediv_add_one_mul_self _ e
  have h4 : (wrt f s / -wrt f o + 1) * -wrt f o ≤ stepsN f s o * -wrt f o := Int.mul_le_mul_of_nonneg_right h1 (Int.le_of_lt e)
  have h5 : stepsN f s o * -wrt f o = -(stepsN f s o * wrt f o) := Int.mul_neg _ _
  rw [h5] at h4
  omega
structure Pt (Y Z M : Nat) (gs : LI) (form : List Int) (ps : LQ) : Prop where
  len : ps.length + 1 = M
  fr : ∀ p ∈ ps, Fr Y Z p
  nn : ∀ p ∈ ps, 0 ≤ p.1
  wts : ∃ ws : List Int, ws.length = M ∧ 0 < gt ws ps.length ∧ (∀ k, k < ps.length → (PX.fr ps k).1 * gt ws ps.length = gt ws k * (PX.fr ps k).2) ∧ wrt form ws < 0 ∧ ∀ g ∈ gs, 0 ≤ wrt g ws
theorem pt_of {Y Z m : Nat} {gs : LI} {form ws : List Int} (hl : ws.length = m + 1) (hp : 0 < gt ws m) (hn : ∀ k, k < m → 0 ≤ gt ws k) (hy : ∀ x ∈ ws, x.natAbs ≤ Y) (hz : (gt ws m).natAbs ≤ Z) (hf : wrt form ws < 0) (hg : ∀ g ∈ gs, 0 ≤ wrt g ws) : Pt Y Z (m + 1) gs form ((ws.take m).map fun x => low x (gt ws m)) := by
  have hlen : ((ws.take m).map fun x => low x (gt ws m)).length = m := by simp [hl]
  have tk : ∀ x ∈ ws.take m, 0 ≤ x := fun x hx => by
    obtain ⟨k, hk, e⟩ := List.mem_iff_getElem.mp hx
    have hk' : k < m := by simp at hk; omega
    have := hn k hk'
    have e2 := gt_eq (xs := ws) (k := k) (by omega)
    rw [List.getElem?_eq_getElem (by omega)] at e2
    rw [List.getElem_take] at e
    rw [← e, Option.some.inj e2]; exact this
  refine ⟨by rw [hlen], fun p hp' => ?_, fun p hp' => ?_, ws, hl, by rw [hlen]; exact hp, fun k hk => ?_, hf, hg⟩
  · obtain ⟨x, hx, rfl⟩ := List.mem_map.mp hp'
    exact Fr.low hp (hy x (List.mem_of_mem_take hx)) hz
  · obtain ⟨x, hx, rfl⟩ := List.mem_map.mp hp'
    exact low_nn (tk x hx)
  · rw [hlen] at hk ⊢
    have e2 := gt_eq (xs := ws) (k := k) (by omega)
    have : PX.fr ((ws.take m).map fun x => low x (gt ws m)) k = low (gt ws k) (gt ws m) := by
      unfold PX.fr
      rw [List.getD_eq_getElem?_getD, List.getElem?_map, List.getElem?_take, if_pos hk, e2]; rfl
    rw [this]; exact low_mul
def Paper (A C m : Nat) (gs : LI) (form : List Int) (d : D) : Prop :=
  (∃ fs, d = .tup [.str "line", .lst false (FF fs)] ∧ Shr (ZZ A C) (m + 1) gs.length (rowsOf (m + 1) gs) form fs) ∨
  (∃ fs, d = .tup [.str "none", .lst false (FF fs)] ∧ Shr (ZZ A C) (m + 1) gs.length (rowsOf (m + 1) gs) (List.replicate m 0 ++ [-1]) fs) ∨
  ∃ ps, d = .tup [.str "point", .lst false (FF ps)] ∧ Pt (YY A C) (ZZ A C) (m + 1) gs form ps
structure DutyOk (A C M : Nat) (gs : LI) (form : List Int) : Prop where
  m23 : M = 2 ∨ M = 3
  gl : gs.length ≤ 6
  gr : ∀ g ∈ gs, g.length = M
  ga : ∀ g ∈ gs, ∀ x ∈ g, x.natAbs ≤ A
  fl : form.length = M
  fb : ∀ x ∈ form, x.natAbs ≤ C
  a1 : 1 ≤ A
  ac : A ≤ C
  ak : A ≤ 1000
  ck : C ≤ 2 ^ 30
theorem DutyOk.in {A C M : Nat} {gs : LI} {form bounds : List Int} (h : DutyOk A C M gs form) (hl : bounds.length = M) (hb : ∀ x ∈ bounds, x.natAbs ≤ C) : In A C M gs.length (rowsOf M gs) bounds := by
  refine ⟨h.m23, h.gl, by simp [rowsOf], fun r hr => ?_, hl, fun r hr x hx => ?_, hb, h.a1, h.ac, h.ak, h.ck⟩
  · obtain ⟨k, _, rfl⟩ := List.mem_map.mp hr
    simp
  · obtain ⟨k, hk, rfl⟩ := List.mem_map.mp hr
    obtain ⟨g, hg, rfl⟩ := List.mem_map.mp hx
    exact h.ga g hg _ (gt_mem (by rw [h.gr g hg]; exact List.mem_range.mp hk))
theorem col_wrt {Z M : Nat} {gs : LI} {bounds ws : List Int} (hgr : ∀ g ∈ gs, g.length = M) (h : Wts Z M gs.length (rowsOf M gs) bounds ws) : ∀ g ∈ gs, 0 ≤ wrt g ws := fun g hg => by
  obtain ⟨j, hj, e⟩ := List.mem_iff_getElem.mp hg
  have e1 : rw' gs j = g := by
    have := rw_eq hj
    rw [List.getElem?_eq_getElem hj, e] at this; exact (Option.some.inj this).symm
  have := h.col j hj
  rw [wrt_sm (hgr g hg) h.len, sm_congr (g := fun k => gt ws k * gt (rw' (rowsOf M gs) k) j) fun k hk => by rw [gt_rowsOf hk hj, e1, Int.mul_comm]]
  exact this
theorem wts_wrt {Z M n : Nat} {rows : LI} {form ws : List Int} (hf : form.length = M) (h : Wts Z M n rows form ws) : wrt form ws < 0 := by
  rw [wrt_sm hf h.len, sm_congr (g := fun k => gt ws k * gt form k) fun k _ => Int.mul_comm _ _]; exact h.neg
theorem gt_far {f s o : List Int} {M k : Nat} (hs : s.length = M) (ho : o.length = M) (hk : k < M) : gt (farL f s o) k = gt s k + stepsN f s o * gt o k := by
  have e1 := gt_eq (xs := s) (k := k) (by omega)
  have e2 := gt_eq (xs := o) (k := k) (by omega)
  have : (farL f s o)[k]? = some (gt s k + stepsN f s o * gt o k) := by
    unfold farL
    rw [List.getElem?_map, show (s.zip o)[k]? = some (gt s k, gt o k) from List.getElem?_zip_eq_some.mpr ⟨e1, e2⟩]; rfl
  unfold gt at this ⊢
  rw [List.getD_eq_getElem?_getD, this]; rfl
theorem sm_lin {M : Nat} {a x y : Nat → Int} {t : Int} : sm M (fun k => a k * (x k + t * y k)) = sm M (fun k => a k * x k) + t * sm M (fun k => a k * y k) := by
  induction M with
  | zero => simp [sm]
  | succ n ih =>
    unfold sm
    dsimp only
    rw [ih, Int.mul_add, Int.mul_add]
    have : a n * (t * y n) = t * (a n * y n) := by rw [← Int.mul_assoc, Int.mul_comm (a n), Int.mul_assoc]
    rw [this]; omega
theorem wrt_far {f g s o : List Int} {M : Nat} (hg : g.length = M) (hs : s.length = M) (ho : o.length = M) : wrt g (farL f s o) = wrt g s + stepsN f s o * wrt g o := by
  have hl : (farL f s o).length = M := by simp [farL, hs, ho]
  rw [wrt_sm hg hl, wrt_sm hg hs, wrt_sm hg ho, ← sm_lin]
  exact sm_congr fun k hk => by rw [gt_far hs ho hk]
theorem r_paper {A C m : Nat} {gs : LI} {form : List Int} (h : DutyOk A C (m + 1) gs form) : RetP f_paper_or_point [.lst false (TT gs), .lst false (I form)] (Paper A C m gs form) := by
  refine retP_of ?_
  have m2 : m ≤ 2 := by have := h.m23; omega
  have hZ := ZZ_big h.ak h.ck
  have hC := h.ck
  have big : ∀ {x : Int}, x.natAbs ≤ ZZ A C → x.natAbs < 2 ^ 200 := fun hx => Nat.lt_of_le_of_lt hx (Nat.lt_trans hZ (by decide))
  have ec : vComp (iR1 (aCons (vCB kLen (aCons (vVar 1) aNil)) aNil)) 1 [0] (bindD 0) tTrue (vCall f_guards_at (aCons (vVar 1) (aCons (vVar 0) aNil))) [.val (.lst false (TT gs)), .val (.lst false (I form)), .un, .un, .un] = .ok (.lst true (LO (rowsOf (m + 1) gs)), true) := by
    rw [vComp1 [.val (.lst false (TT gs))] (List.range (m + 1)) (fun i => .int (i : Int)) (fun k => .lst true (I (gs.map fun g => gt g k))) (fun _ => true) (by simp -implicitDefEqProofs [h.fl, rng_succ (show m + 1 ≤ 1000000 by omega)]) (by simp; omega) (by simp) ?_ (.inl (by simp [capOk]))]
    · simp [LO, rowsOf]
    · intro k hk
      have e := r_guards_at (gs := gs) (k := k) (fun g hg => by rw [h.gr g hg]; exact List.mem_range.mp hk) (by have := h.gl; omega)
      simp -implicitDefEqProofs [callR_k e]
  have eb := r_bounds_line (f := form)
  obtain ⟨d1, hs1, hp1⟩ := r_sw (h.in h.fl h.fb)
  have nsw : (("weights" : Str) == ("shares" : Str)) = false := by decide
  rcases hp1 with ⟨fs, rfl, hF⟩ | ⟨ws, rfl, hW⟩
  · simp -implicitDefEqProofs [b_paper_or_point, entry, ec, callR_k eb, callR_k hs1, atI_0, atI_1, eq_str s_shares s_shares]
    exact .inl ⟨fs, rfl, hF⟩
  · have wl := hW.len
    by_cases hpos : 0 < gt ws m
    · have hp2 := r_point_of (ws := ws) wl (by omega) (by omega) (big (hW.big _ (gt_mem (by omega))))
      simp -implicitDefEqProofs [b_paper_or_point, entry, ec, callR_k eb, callR_k hs1, atI_0, atI_1, eq_str s_weights s_shares, nsw, atI_Il wl, hpos, callR_k hp2, -List.map_take]
      exact .inr (.inr ⟨_, rfl, pt_of (Y := YY A C) wl hpos (fun k hk => hW.nn k (by omega)) (fun x hx => Nat.le_trans (hW.big x hx) (by unfold YY; omega)) (hW.big _ (gt_mem (by omega))) (wts_wrt h.fl hW) (col_wrt h.gr hW)⟩)
    · have hz : gt ws m = 0 := by have := hW.nn m (by omega); omega
      have eb2 := r_bounds_none (f := form) h.fl (by omega)
      have c1 : 1 ≤ C := Nat.le_trans h.a1 h.ac
      obtain ⟨d3, hs3, hp3⟩ := r_sw (h.in (bounds := List.replicate m 0 ++ [-1]) (by simp) (fun x hx => by
        rcases List.mem_append.mp hx with q | q
        · rw [List.eq_of_mem_replicate q]; exact Nat.zero_le _
        · rw [List.mem_singleton.mp q]; exact c1))
      rcases hp3 with ⟨fs, rfl, hF⟩ | ⟨us, rfl, hU⟩
      · simp -implicitDefEqProofs [b_paper_or_point, entry, ec, callR_k eb, callR_k hs1, atI_0, atI_1, eq_str s_weights s_shares, eq_str s_shares s_shares, nsw, atI_Il wl, hpos, callR_k eb2, callR_k hs3]
        exact .inr (.inl ⟨fs, rfl, hF⟩)
      · have ul := hU.len
        have hneg : wrt form ws < 0 := wts_wrt h.fl hW
        have hf' : ∀ x ∈ form, fits x = true := fun x hx => fits_of (Nat.lt_of_le_of_lt (h.fb x hx) (Nat.lt_of_le_of_lt hC (by decide)))
        have hw' : ∀ x ∈ ws, fits x = true := fun x hx => fits_of (big (hW.big x hx))
        have hu' : ∀ x ∈ us, fits x = true := fun x hx => fits_of (big (hU.big x hx))
        have CZ : 3 * (C * ZZ A C) ≤ 2 ^ 112 := Nat.le_trans (Nat.mul_le_mul_left 3 (Nat.mul_le_mul hC (Nat.le_of_lt hZ))) (by decide)
        have b1 := wrt_bound (A := A) h.fl ul (by omega) h.fb hU.big
        have b2 := wrt_bound (A := A) h.fl wl (by omega) h.fb hW.big
        have b3 := steps_bound b1 hneg
        have hgf := r_gone_far (form := form) (start := us) (onward := ws) hf' hu' hw' (by rw [h.fl]; omega) (by rw [ul]; omega) hneg (fits_of (by rw [Int.natAbs_neg]; exact Nat.lt_of_le_of_lt b2 (Nat.lt_of_le_of_lt CZ (by decide)))) (fits_of (Nat.lt_of_le_of_lt b3 (Nat.lt_of_le_of_lt (Nat.add_le_add_right CZ 5) (by decide))))
        have fl' : (farL form us ws).length = m + 1 := by simp [farL, ul, wl]
        have um : 0 < gt us m := by
          have := hU.neg
          rw [sm_one (n := m + 1) (k := m) (by omega) fun l hl ne => by rw [gt_nb hl, if_neg ne, Int.mul_zero], gt_nb (by omega), if_pos rfl] at this
          omega
        have fm : gt (farL form us ws) m = gt us m := by rw [gt_far ul wl (by omega), hz]; omega
        have hp4 := r_point_of (ws := farL form us ws) fl' (by omega) (by rw [fm]; omega) (by rw [fm]; exact big (hU.big _ (gt_mem (by omega))))
        simp -implicitDefEqProofs [b_paper_or_point, entry, ec, callR_k eb, callR_k hs1, atI_0, atI_1, eq_str s_weights s_shares, nsw, atI_Il wl, hpos, callR_k eb2, callR_k hs3, callR_k hgf, callR_k hp4, -List.map_take]
        refine .inr (.inr ⟨_, rfl, pt_of (Y := YY A C) fl' (by rw [fm]; exact um) (fun k hk => ?_) (fun x hx => ?_) (by rw [fm]; exact hU.big _ (gt_mem (by omega))) ?_ (fun g hg => ?_)⟩)
        · rw [gt_far ul wl (by omega)]
          exact Int.add_nonneg (hU.nn k (by omega)) (Int.mul_nonneg steps_nn (hW.nn k (by omega)))
        · obtain ⟨k, hk, e⟩ := List.mem_iff_getElem.mp hx
          have e2 := gt_eq hk
          rw [List.getElem?_eq_getElem hk, e] at e2
          rw [Option.some.inj e2, gt_far ul wl (by omega)]
          refine Nat.le_trans (Int.natAbs_add_le _ _) ?_
          rw [Int.natAbs_mul]
          exact Nat.add_le_add (hU.big _ (gt_mem (by omega))) (Nat.mul_le_mul b3 (hW.big _ (gt_mem (by omega))))
        · rw [wrt_far h.fl ul wl]; exact steps_enough hneg
        · rw [wrt_far (h.gr g hg) ul wl]
          exact Int.add_nonneg (col_wrt h.gr hU g hg) (Int.mul_nonneg steps_nn (col_wrt h.gr hW g hg))
theorem Shr.holds {Z m : Nat} {gs : LI} {form : List Int} {fs : LQ} (h : Shr Z (m + 1) gs.length (rowsOf (m + 1) gs) form fs) : Holds (m + 1) gs form := fun x hx _ hg => feas_dot h.feas hx hg
theorem Shr.holds_none {Z m : Nat} {gs : LI} {form : List Int} {fs : LQ} (h : Shr Z (m + 1) gs.length (rowsOf (m + 1) gs) (List.replicate m 0 ++ [-1]) fs) : Holds (m + 1) gs form := PX.holds_none h.feas
end VL.PX
end
section
namespace VL.PX
open VL PySem L2 Smx
theorem enum_U (us : List Duty) : enumD (UU us) = us.zipIdx.map fun p => .tup [.int (p.2 : Nat), Duty.d p.1] := enum_map
@[simp] theorem kIx_u0 {x : Duty} {b c : Bool} : kIx (Duty.d x, b) (.int 0, c) = .ok (.lst false (TT x.1), b) := by
  rw [Duty.d, kIx_t, atI_0]; rfl
@[simp] theorem kIx_u1 {x : Duty} {b c : Bool} : kIx (Duty.d x, b) (.int 1, c) = .ok (.lst false (I x.2), b) := by
  rw [Duty.d, kIx_t, atI_1]; rfl
abbrev Pap := Str × LQ
def PP (qs : List Pap) : List D := qs.map fun q => D.tup [.str q.1, .lst false (FF q.2)]
theorem calm_pap (q : Pap) : (D.tup [.str q.1, .lst false (FF q.2)]).calm = true := by simp
@[simp] theorem calms_P (qs : List Pap) : D.calms (PP qs) = true := calms_map calm_pap qs
@[simp] theorem frzs_P (qs : List Pap) : D.frzs (PP qs) = PP qs := frzs_map calm_pap qs
@[simp] theorem P_len (qs : List Pap) : (PP qs).length = qs.length := by simp [PP]
@[simp] theorem P_nil : PP [] = [] := rfl
@[simp] theorem P_snoc (qs : List Pap) (w : Str) (fs : LQ) : PP qs ++ [.tup [.str w, .lst false (FF fs)]] = PP (qs ++ [(w, fs)]) := by simp [PP]
def PapOk (A C m : Nat) (u : Duty) (q : Pap) : Prop :=
  (q.1 = "line" ∧ Shr (ZZ A C) (m + 1) u.1.length (rowsOf (m + 1) u.1) u.2 q.2) ∨ (q.1 = "none" ∧ Shr (ZZ A C) (m + 1) u.1.length (rowsOf (m + 1) u.1) (List.replicate m 0 ++ [-1]) q.2)
theorem PapOk.holds {A C m : Nat} {u : Duty} {q : Pap} (h : PapOk A C m u q) : Holds (m + 1) u.1 u.2 := by
  rcases h with ⟨_, h⟩ | ⟨_, h⟩
  · exact h.holds
  · exact h.holds_none
theorem paps_hold {A C m : Nat} {us : List Duty} {qs : List Pap} (hl : qs.length = us.length) (h : ∀ p ∈ us.zip qs, PapOk A C m p.1 p.2) : ∀ u ∈ us, Holds (m + 1) u.1 u.2 := fun u hu => by
  obtain ⟨k, hk, e⟩ := List.mem_iff_getElem.mp hu
  have hm : (u, qs[k]'(by omega)) ∈ us.zip qs := by
    refine List.mem_of_getElem? (i := k) (List.getElem?_zip_eq_some.mpr ⟨?_, ?_⟩)
    · rw [List.getElem?_eq_getElem hk, e]
    · exact List.getElem?_eq_getElem (by omega)
  exact (h _ hm).holds
def Sett (A C m : Nat) (us : List Duty) (d : D) : Prop :=
  (∃ pu u su ps, us = pu ++ u :: su ∧ d = .tup [.str "fails", .int (pu.length : Nat), .lst false (FF ps)] ∧ Pt (YY A C) (ZZ A C) (m + 1) u.1 u.2 ps ∧ ∀ x ∈ pu, Holds (m + 1) x.1 x.2) ∨
  ∃ qs, d = .tup [.str "pays", .lst false (PP qs)] ∧ qs.length = us.length ∧ ∀ p ∈ us.zip qs, PapOk A C m p.1 p.2
theorem r_settled {A C m : Nat} {xs : List Deed} {ps purse : List Int} (hx : ∀ x ∈ xs, x.Ok m) (h1 : 1 ≤ m) (h2 : m ≤ 4) (h3 : 1 ≤ xs.length) (h4 : xs.length ≤ 8) (hl : ps.length = xs.length) (hps : ∀ p ∈ ps, -1000 ≤ p ∧ p ≤ 1000) (hp : SmallF m purse)
    (hd : ∀ u ∈ duts m xs ps purse, DutyOk A C (m + 1) u.1 u.2) (hdl : (duts m xs ps purse).length ≤ 1000) :
    RetP f_settled [.tup [.int m, .lst false (DD xs)], .lst false (I ps), .tup (I purse)] (Sett A C m (duts m xs ps purse)) := by
  refine retP_of ?_
  obtain ⟨os, e1⟩ := r_duties_of hx h1 h2 h3 h4 hl hps hp
  have n1 : (("line" : Str) == ("point" : Str)) = false := by decide
  have n2 : (("none" : Str) == ("point" : Str)) = false := by decide
  simp -implicitDefEqProofs [b_settled, entry, e1, enum_U]
  generalize hg : sFrz [3] _ = g
  refine out_then (for_all (fun pre ρ => ∃ qs t u v, np t ∧ np u ∧ np v ∧ qs.length = pre.length ∧ (∀ p ∈ (pre.map Prod.fst).zip qs, PapOk A C m p.1 p.2) ∧ ρ = [.val (.tup [.int m, .lst false (DD xs)]), .val (.lst false (I ps)), .val (.tup (I purse)), .val (.lst true (PP qs)), t, u, v]) (duts m xs ps purse).zipIdx ⟨[], _, _, _, np_un, np_un, np_un, rfl, by simp, rfl⟩ ?_) ?_
  · rintro pre ⟨u, k⟩ post ρ e ⟨qs, t, w, v, ht, hw, hv, hn, hh, rfl⟩
    obtain ⟨hk, hu, hlt⟩ := zipIdx_split e
    have hus : duts m xs ps purse = pre.map Prod.fst ++ u :: post.map Prod.fst := by
      have := congrArg (List.map Prod.fst) e
      simpa using this
    have hum : u ∈ duts m xs ps purse := List.mem_of_getElem? hu
    have hpl : qs.length < 1000000 := by omega
    have ext : ∀ q, PapOk A C m u q → ∀ p ∈ (pre.map Prod.fst ++ [u]).zip (qs ++ [q]), PapOk A C m p.1 p.2 := fun q hq p hp => by
      rw [List.zip_append (by simp [hn])] at hp
      rcases List.mem_append.mp hp with z | z
      · exact hh p z
      · rw [List.mem_singleton.mp z]; exact hq
    obtain ⟨d, hpp, hcase⟩ := r_paper (hd u hum)
    rcases hcase with ⟨fs, rfl, hS⟩ | ⟨fs, rfl, hS⟩ | ⟨ps', rfl, hP⟩
    · simp -implicitDefEqProofs [ht, hw, hv, callR_k hpp, atI_0, atI_1, eq_str s_line s_point, n1, hpl, -Prod.forall]
      exact ⟨_, _, np_val, _, np_val, _, np_val, by simp [hn], ext ("line", fs) (.inl ⟨rfl, hS⟩), rfl, rfl, rfl, rfl⟩
    · simp -implicitDefEqProofs [ht, hw, hv, callR_k hpp, atI_0, atI_1, eq_str s_none s_point, n2, hpl, -Prod.forall]
      exact ⟨_, _, np_val, _, np_val, _, np_val, by simp [hn], ext ("none", fs) (.inr ⟨rfl, hS⟩), rfl, rfl, rfl, rfl⟩
    · simp -implicitDefEqProofs [ht, hw, hv, callR_k hpp, atI_0, atI_1, eq_str s_point s_point]
      exact .inl ⟨_, u, _, ps', hus, by rw [hk, List.length_map], hP, paps_hold (by simp [hn]) hh⟩
  · rintro ρ ⟨qs, t, w, v, ht, hw, hv, hn, hh, rfl⟩
    rw [← hg]
    simp -implicitDefEqProofs
    rw [List.zipIdx_map_fst] at hh
    exact .inr ⟨qs, rfl, by simpa using hn, hh⟩
theorem sum_abs {α : Type} {f : α → Int} {c : Nat} : ∀ (l : List α), (∀ x ∈ l, (f x).natAbs ≤ c) → ((l.map f).sum).natAbs ≤ l.length * c
  | [], _ => by simp
  | x :: l, h => by
    have h1 := h x List.mem_cons_self
    have h2 := sum_abs l fun y hy => h y (List.mem_cons_of_mem _ hy)
    rw [List.map_cons, List.sum_cons, List.length_cons, Nat.add_mul]
    omega
theorem small_abs {x : Int} (h : small x) : x.natAbs ≤ 1000 := by unfold small at h; omega
theorem pbS_abs {m : Nat} {purse : List Int} {cs : LI} (hp : SmallF m purse) (hc : ∀ f ∈ cs, SmallF m f) (hl : cs.length ≤ 4) (k : Nat) : (pbS purse cs k).natAbs ≤ 4000000 := by
  refine Nat.le_trans (sum_abs (c := 1000000) _ fun p hpm => ?_) ?_
  · obtain ⟨f, j⟩ := p
    have hj := List.mem_zipIdx hpm
    simp at hj
    have hf : f ∈ cs := by rw [hj.2]; exact List.getElem_mem _
    rw [Int.natAbs_mul]
    exact Nat.mul_le_mul (small_abs (gt_small hp.2 j)) (small_abs (gt_small (hc f hf).2 k))
  · rw [List.length_zipIdx]; omega
theorem ov_abs {m : Nat} {x : Deed} {p : Int} {purse : List Int} (hx : x.Ok m) (hm : m ≤ 4) (hp : SmallF m purse) (hs : small p) : ∀ y ∈ ovL m x p purse, y.natAbs ≤ 2 ^ 30 := by
  have hpb : ∀ k, k < m + 1 → (gt (pbL m purse x.cs) k).natAbs ≤ 4001000 := fun k hk => by
    unfold pbL
    rw [gt_range hk]
    have a1 := pbS_abs hp hx.cs (by rw [hx.cl]; exact hm) m
    have a2 := pbS_abs hp hx.cs (by rw [hx.cl]; exact hm) k
    have a3 := small_abs (gt_small hp.2 m)
    split <;> omega
  have hov : ∀ k, k < m + 1 → (ovS m x purse k).natAbs ≤ 4003000 := fun k hk => by
    unfold ovS
    have a1 := hpb k hk
    have a2 := small_abs (gt_small hp.2 k)
    have a3 := small_abs (gt_small hx.cost.2 k)
    omega
  intro y hy
  obtain ⟨k, hk, rfl⟩ := List.mem_map.mp hy
  have hk := List.mem_range.mp hk
  have a1 := hov k hk
  have a2 := hov m (by omega)
  have a3 := small_abs hs
  refine Nat.le_trans (m := 4004000) ?_ (by decide)
  split <;> omega
theorem dut_ok {m : Nat} {xs : List Deed} {ps purse : List Int} (hx : ∀ x ∈ xs, x.Ok m) (h1 : 1 ≤ m) (h2 : m ≤ 2) (hps : ∀ p ∈ ps, -1000 ≤ p ∧ p ≤ 1000) (hp : SmallF m purse) : ∀ u ∈ duts m xs ps purse, DutyOk 1000 (2 ^ 30) (m + 1) u.1 u.2 := by
  have m23 : m + 1 = 2 ∨ m + 1 = 3 := by omega
  have sb : ∀ {f : List Int}, SmallF m f → ∀ x ∈ f, x.natAbs ≤ 1000 := fun hf x hx => by have := hf.2 x hx; omega
  intro u hu
  rcases List.mem_append.mp hu with q | q
  · obtain ⟨⟨x, p⟩, hxp, hq⟩ := List.mem_flatMap.mp q
    have hm := List.of_mem_zip hxp
    have hxo := hx x hm.1
    have g1 : ∀ g ∈ x.gs, g.length = m + 1 := fun g hg => (hxo.gs g hg).1
    have g2 : ∀ g ∈ x.gs, ∀ y ∈ g, y.natAbs ≤ 1000 := fun g hg => sb (hxo.gs g hg)
    have gl : x.gs.length ≤ 6 := Nat.le_trans hxo.gl (by decide)
    rcases List.mem_cons.mp hq with rfl | hq
    · exact ⟨m23, gl, g1, g2, by simp [ovL], ov_abs hxo (by omega) hp (hps p hm.2), by decide, by decide, by decide, by decide⟩
    · obtain ⟨c, hc, rfl⟩ := List.mem_map.mp hq
      exact ⟨m23, gl, g1, g2, (hxo.cs c hc).1, fun y hy => Nat.le_trans (sb (hxo.cs c hc) y hy) (by decide), by decide, by decide, by decide, by decide⟩
  · rw [List.mem_singleton.mp q]
    exact ⟨m23, by simp, by simp, by simp, hp.1, fun y hy => Nat.le_trans (sb hp y hy) (by decide), by decide, by decide, by decide, by decide⟩
theorem r_settled_x {m : Int} {xs : List Deed} {ps purse : List Int} (h : dutB m xs ps purse = false) : RetX f_settled [.tup [.int m, .lst false (DD xs)], .lst false (I ps), .tup (I purse)] "BadForm" := by
  have e1 := r_duties_x h
  unfold RetX at e1
  refine retX_of ⟨[.val (.tup [.int m, .lst false (DD xs)]), .val (.lst false (I ps)), .val (.tup (I purse)), .val (.lst true []), .un, .un, .un], ?_⟩
  simp [b_settled, entry, e1]
def FourF (m : Nat) (f : List Int) : Prop := f.length = m + 1 ∧ ∀ x ∈ f, -4 ≤ x ∧ x ≤ 4
theorem FourF.small {m : Nat} {f : List Int} (h : FourF m f) : SmallF m f := ⟨h.1, fun x hx => by have := h.2 x hx; omega⟩
structure Deed.Ok4 (m : Nat) (x : Deed) : Prop where
  gs : ∀ f ∈ x.gs, FourF m f
  gl : x.gs.length ≤ 4
  cs : ∀ f ∈ x.cs, FourF m f
  cl : x.cs.length = m
  cost : FourF m x.cost
theorem Deed.Ok4.ok {m : Nat} {x : Deed} (h : x.Ok4 m) : x.Ok m := ⟨fun f hf => (h.gs f hf).small, h.gl, fun f hf => (h.cs f hf).small, h.cl, h.cost.small⟩
end VL.PX
end
section
namespace VL.PX
open VL PySem L2 Smx
def cellV (ns : List Int) (k : Nat) : Int := if ns = [] then 0 else gt ns (k % ns.length)
theorem I_ne {xs : List Int} : (I xs).isEmpty = decide (xs = []) := by cases xs <;> simp [I]
theorem r_cell {ns : List Int} {k : Nat} : Ret f_q_cell [.lst false (I ns), .int k] (.int (cellV ns k)) := by
  refine retE ?_
  by_cases h : ns = []
  · subst h
    simp -implicitDefEqProofs [b_q_cell, entry, truOk, truD, cellV]
  · have hl : 0 < ns.length := List.length_pos_iff.mpr h
    have e : ((k : Int) % (ns.length : Nat)) = ((k % ns.length : Nat) : Int) := by simp
    simp -implicitDefEqProofs [b_q_cell, entry, truOk, truD, cellV, I_ne, h, hl, -Int.natCast_emod]
    rw [e, atI_I (Nat.mod_lt _ hl)]
    simp -implicitDefEqProofs
def mix1 (ns : List Int) (k : Nat) : Int := (cellV ns k + 104729 * ((k : Int) + 1)) % 4294967291
def mix2 (ns : List Int) (k : Nat) : Int := mix1 ns k * 48271 % 4294967279
def mixV (ns : List Int) (k : Nat) : Int := (mix2 ns k / 64 * 69621 + mix2 ns k) % 4294967231
theorem fits_small {x : Int} (h : -1000000000000 ≤ x) (h2 : x ≤ 1000000000000) : fits x = true := fits_of (Nat.lt_of_le_of_lt (show x.natAbs ≤ 1000000000000 by omega) (by decide))
theorem mix_nn (ns : List Int) (k : Nat) : 0 ≤ mixV ns k := Int.emod_nonneg _ (by decide)
theorem r_mix {ns : List Int} {k : Nat} (hk : k ≤ 1000000) : Ret f_q_mix [.lst false (I ns), .int k] (.int (mixV ns k)) := by
  refine retE ?_
  have h1 : 0 ≤ mix1 ns k := Int.emod_nonneg _ (by decide)
  have h1' : mix1 ns k < 4294967291 := Int.emod_lt_of_pos _ (by decide)
  have h2 : 0 ≤ mix2 ns k := Int.emod_nonneg _ (by decide)
  have h2' : mix2 ns k < 4294967279 := Int.emod_lt_of_pos _ (by decide)
  have f0 : fits 104729 = true := fits_small (by decide) (by decide)
  have f1 : fits ((k : Int) + 1) = true := fits_small (by omega) (by omega)
  have f2 : fits 48271 = true := fits_small (by decide) (by decide)
  have f3 : fits 69621 = true := fits_small (by decide) (by decide)
  have f4 : fits 64 = true := fits_small (by decide) (by decide)
  have f5 : fits (mix1 ns k) = true := fits_small (by omega) (by omega)
  have f6 : fits (mix2 ns k / 64) = true := fits_small (by omega) (by omega)
  unfold mix1 at f5
  unfold mix2 mix1 at f6
  simp -implicitDefEqProofs [b_q_mix, entry, callR_k (r_cell (ns := ns) (k := k)), f0, f1, f2, f3, f4, f5, f6, mixV, mix2, mix1]
def FormOk (m : Nat) (low : Bool) (f : List Int) : Prop := f.length = m + 1 ∧ (∀ x ∈ f, -4 ≤ x ∧ x ≤ 4) ∧ (low = true → 0 ≤ gt f m)
theorem pick6 {y : Int} (hy : -4 ≤ y ∧ y ≤ 4) {v : Int} (hv : 0 ≤ v) : ∃ x, atI [D.int 0, D.int 0, D.int 1, D.int (-1), D.int 2, D.int y] (v % 6) = some (.int x) ∧ -4 ≤ x ∧ x ≤ 4 := by
  obtain ⟨k, hk, e⟩ : ∃ k : Nat, k < 6 ∧ v % 6 = (k : Int) := ⟨(v % 6).toNat, by omega, by omega⟩
  rw [e, atI_nat]
  have : k = 0 ∨ k = 1 ∨ k = 2 ∨ k = 3 ∨ k = 4 ∨ k = 5 := by omega
  rcases this with rfl | rfl | rfl | rfl | rfl | rfl
  · exact ⟨0, rfl, by decide, by decide⟩
  · exact ⟨0, rfl, by decide, by decide⟩
  · exact ⟨1, rfl, by decide, by decide⟩
  · exact ⟨-1, rfl, by decide, by decide⟩
  · exact ⟨2, rfl, by decide, by decide⟩
  · exact ⟨y, rfl, hy.1, hy.2⟩
theorem r_form {ns : List Int} {k m : Nat} {low : Bool} (hk : k ≤ 10000) (hm : m ≤ 100) : RetP f_q_form [.lst false (I ns), .int k, .int m, .bl low] (fun d => ∃ f, d = .tup (I f) ∧ FormOk m low f) := by
  refine retP_of ?_
  have f16 : fits 16 = true := fits_small (by decide) (by decide)
  simp -implicitDefEqProofs [b_q_form, entry, rng_succ (show m + 1 ≤ 1000000 by omega)]
  refine out_then (for_all (fun pre ρ => ∃ f t u, np t ∧ np u ∧ f.length = pre.length ∧ (∀ x ∈ f, -4 ≤ x ∧ x ≤ 4) ∧ ρ = [.val (.lst false (I ns)), .val (.int k), .val (.int m), .val (.bl low), .val (.lst true (I f)), t, u]) (List.range (m + 1)) ⟨[], _, _, np_un, np_un, rfl, by simp, rfl⟩ ?_) ?_
  · rintro pre j post ρ e ⟨f, t, u, ht, hu, hl, hf, rfl⟩
    have hj : j < m + 1 := List.mem_range.mp (by rw [e]; simp)
    have hpl : f.length < 1000000 := by have := congrArg List.length e; simp at this; omega
    have e1 := r_mix (ns := ns) (k := k + j) (by omega)
    rw [show ((k + j : Nat) : Int) = (k : Int) + (j : Int) from by omega] at e1
    have hnn := mix_nn ns (k + j)
    obtain ⟨x, hx, hx1, hx2⟩ := pick6 (y := mixV ns (k + j) / 16 % 9 - 4) (by omega) hnn
    simp -implicitDefEqProofs [ht, hu, callR_k e1, f16, hx, hpl]
    refine ⟨_, _, np_val, _, np_val, ?_, ?_, rfl, rfl, rfl⟩
    · simp [hl]
    · intro y hy
      rcases List.mem_append.mp hy with q | q
      · exact hf y q
      · rw [List.mem_singleton.mp q]; exact ⟨hx1, hx2⟩
  · rintro ρ ⟨f, t, u, ht, hu, hl, hf, rfl⟩
    simp at hl
    cases low with
    | false =>
      simp -implicitDefEqProofs [truOk, truD]
      exact ⟨f, rfl, hl, hf, by simp⟩
    | true =>
      have hg : -4 ≤ gt f m ∧ gt f m ≤ 4 := hf _ (gt_mem (by omega))
      simp -implicitDefEqProofs [truOk, truD, atI_Il hl, hl, ix_last]
      refine ⟨_, rfl, by simp [hl], ?_, ?_⟩
      · intro y hy
        rcases List.mem_or_eq_of_mem_set hy with q | q
        · exact hf y q
        · rw [q]; split <;> omega
      · intro _
        unfold gt
        simp [hl]
        split <;> omega
end VL.PX
end
section
namespace VL.PX
open VL PySem L2 Smx
@[simp] theorem D_snoc' (xs : List Deed) (gs cs : LI) (c : List Int) : DD xs ++ [.tup [.lst false (TT gs), .lst false (TT cs), .tup (I c)]] = DD (xs ++ [⟨gs, cs, c⟩]) := by simp [DD, Deed.d]
theorem rep0 {m : Nat} {b c : Bool} (hm : m ≤ 100) : kTimes (.lst true [.int 0], b) (.int ((m : Int) + 1), c) = .ok (.lst true (I (List.replicate (m + 1) 0)), true) := by
  show (if D.calms [.int 0] && decide ((m : Int) + 1 < 1000000) && decide (-1000000 < (m : Int) + 1) && decide ([D.int 0].length * ((m : Int) + 1).toNat ≤ 1000000) then R.ok (D.lst true (List.replicate ((m : Int) + 1).toNat [D.int 0]).flatten, true) else .bad) = _
  have e : ((m : Int) + 1).toNat = m + 1 := by omega
  rw [e, if_pos]
  · congr 3
    rw [I, List.map_replicate, List.flatten_replicate_singleton]
  · simp; omega
theorem cut4 {gs : LI} : cutD (TT gs) none (some 4) = TT (gs.take 4) := by
  have a1 : HT.sIx gs.length gs.length (some 4) = min 4 gs.length := by
    show (if (4 : Int) < 0 then (4 + (gs.length : Int)).toNat else min (4 : Int).toNat gs.length) = _
    rw [if_neg (by decide)]; rfl
  unfold cutD
  rw [T_len, a1]
  simp [TT, HT.sIx]
theorem formS {m : Nat} {low : Bool} {f : List Int} (h : FormOk m low f) : FourF m f := ⟨h.1, h.2.1⟩
def LinesOk (m : Nat) (xs : List Deed) : Prop := 1 ≤ m ∧ m ≤ 2 ∧ 1 ≤ xs.length ∧ xs.length ≤ 2 ∧ ∀ x ∈ xs, x.Ok4 m
def plainL (m i : Nat) (v : Int) : List Int := ((List.replicate (m + 1) 0).set i 1).set m v
theorem plain_ok {m i : Nat} {v : Int} (hv : -4 ≤ v ∧ v ≤ 4) : FourF m (plainL m i v) := by
  refine ⟨by simp [plainL], fun x hx => ?_⟩
  rcases List.mem_or_eq_of_mem_set hx with q | q
  · rcases List.mem_or_eq_of_mem_set q with q | q
    · rw [List.eq_of_mem_replicate q]; decide
    · rw [q]; decide
  · rw [q]; exact hv
theorem r_lines {ns : List Int} : RetP f_q_lines [.lst false (I ns), .int 0] (fun d => ∃ m xs, d = .tup [.int (m : Nat), .lst false (DD xs)] ∧ LinesOk m xs) := by
  refine retP_of ?_
  have e0 : Ret f_q_mix [.lst false (I ns), .int 0] (.int (mixV ns 0)) := r_mix (k := 0) (by omega)
  have e1 : Ret f_q_mix [.lst false (I ns), .int 1] (.int (mixV ns 1)) := r_mix (k := 1) (by omega)
  have n0 := mix_nn ns 0
  have n1 := mix_nn ns 1
  obtain ⟨m, hm, hm1, hm2⟩ : ∃ m : Nat, 1 + mixV ns 0 % 2 = (m : Int) ∧ 1 ≤ m ∧ m ≤ 2 := ⟨(1 + mixV ns 0 % 2).toNat, by omega, by omega, by omega⟩
  obtain ⟨nd, hn, hn1, hn2⟩ : ∃ nd : Nat, 1 + mixV ns 1 % 2 = (nd : Int) ∧ 1 ≤ nd ∧ nd ≤ 2 := ⟨(1 + mixV ns 1 % 2).toNat, by omega, by omega, by omega⟩
  have f60 : fits 60 = true := fits_small (by decide) (by decide)
  have f5 : fits 5 = true := fits_small (by decide) (by decide)
  have f8 : fits 8 = true := fits_small (by decide) (by decide)
  simp -implicitDefEqProofs [b_q_lines, entry, callR_k e0, callR_k e1, hm, hn, rng_nat (show nd ≤ 1000000 by omega)]
  generalize hg : sFrz [3] _ = g
  refine out_then (for_all (fun pre ρ => ∃ xs t4 t5 t6 t7 t8 t9 t10, np t4 ∧ np t5 ∧ np t6 ∧ np t7 ∧ np t8 ∧ np t9 ∧ np t10 ∧ xs.length = pre.length ∧ (∀ x ∈ xs, Deed.Ok4 m x) ∧ ρ = [.val (.lst false (I ns)), .val (.int 0), .val (.int m), .val (.lst true (DD xs)), t4, t5, t6, t7, t8, t9, t10]) (List.range nd) ⟨[], _, _, _, _, _, _, _, np_un, np_un, np_un, np_un, np_un, np_un, np_un, rfl, by simp, rfl⟩ ?_) ?_
  · rintro pre j post ρ e ⟨xs, t4, t5, t6, t7, t8, t9, t10, h4, h5, h6, h7, h8, h9, h10, hl, hx, rfl⟩
    have hj : j < nd := List.mem_range.mp (by rw [e]; simp)
    have hpl : xs.length < 1000000 := by have := congrArg List.length e; simp at this; omega
    have fj : fits (j : Int) = true := fits_small (by omega) (by omega)
    have e2 : Ret f_q_mix [.lst false (I ns), .int (2 + (j : Int))] (.int (mixV ns (2 + j))) := by
      have := r_mix (ns := ns) (k := 2 + j) (by omega)
      rw [show ((2 + j : Nat) : Int) = 2 + (j : Int) by omega] at this
      exact this
    have n2 := mix_nn ns (2 + j)
    obtain ⟨c3, hc3, hc3'⟩ : ∃ c3 : Nat, mixV ns (2 + j) % 3 = (c3 : Int) ∧ c3 ≤ 2 := ⟨(mixV ns (2 + j) % 3).toNat, by omega, by omega⟩
    obtain ⟨dc, hdc, cost, rfl, hco⟩ := r_form (ns := ns) (k := 50 + 60 * j) (m := m) (low := true) (by omega) (by omega)
    rw [show ((50 + 60 * j : Nat) : Int) = 50 + 60 * (j : Int) by omega] at hdc
    simp -implicitDefEqProofs [h4, h5, callR_k e2, hc3, rng_nat (show c3 ≤ 1000000 by omega)]
    refine out_then (for_all (fun pre1 ρ => ∃ gs t6, np t6 ∧ gs.length = pre1.length ∧ (∀ x ∈ gs, FourF m x) ∧ ρ = [.val (.lst false (I ns)), .val (.int 0), .val (.int m), .val (.lst true (DD xs)), .val (.int j), .val (.lst true (TT gs)), t6, t7, t8, t9, t10]) (List.range c3) ⟨[], _, h6, rfl, by simp, rfl⟩ ?_) ?_
    · rintro pre1 i post1 ρ e' ⟨gs, t6, h6, hgl, hgs, rfl⟩
      have hi : i < c3 := List.mem_range.mp (by rw [e']; simp)
      have hpl1 : gs.length < 1000000 := by have := congrArg List.length e'; simp at this; omega
      have fi : fits (i : Int) = true := fits_small (by omega) (by omega)
      obtain ⟨df, hdf, f, rfl, hfo⟩ := r_form (ns := ns) (k := 10 + 60 * j + 5 * i) (m := m) (low := false) (by omega) (by omega)
      rw [show ((10 + 60 * j + 5 * i : Nat) : Int) = 10 + 60 * (j : Int) + 5 * (i : Int) by omega] at hdf
      simp -implicitDefEqProofs [h6, f60, f5, fj, fi, callR_k hdf, hpl1]
      refine ⟨_, _, np_val, ?_, ?_, rfl, rfl⟩
      · simp [hgl]
      · intro x hx'
        rcases List.mem_append.mp hx' with q | q
        · exact hgs x q
        · rw [List.mem_singleton.mp q]; exact formS hfo
    · rintro ρ ⟨gs, t6, h6, hgl, hgs, rfl⟩
      simp at hgl
      simp -implicitDefEqProofs [h7, rng_nat (show m ≤ 1000000 by omega)]
      generalize hg2 : sFrz [7] _ = g2
      refine out_then (for_all (fun pre2 ρ => ∃ gs cs t6 t8 t9 t10, np t6 ∧ np t8 ∧ np t9 ∧ np t10 ∧ gs.length ≤ 2 + pre2.length ∧ (∀ x ∈ gs, FourF m x) ∧ cs.length = pre2.length ∧ (∀ x ∈ cs, FourF m x) ∧ ρ = [.val (.lst false (I ns)), .val (.int 0), .val (.int m), .val (.lst true (DD xs)), .val (.int j), .val (.lst true (TT gs)), t6, .val (.lst true (TT cs)), t8, t9, t10]) (List.range m) ⟨gs, [], _, _, _, _, h6, h8, h9, h10, by simp; omega, hgs, rfl, by simp, rfl⟩ ?_) ?_
      · clear hgl hgs
        rintro pre2 i post2 ρ e' ⟨gs, cs, t6, t8, t9, t10, h6, h8, h9, h10, hgl, hgs, hcl, hcs, rfl⟩
        have hi : i < m := List.mem_range.mp (by rw [e']; simp)
        have hp2 : pre2.length ≤ 2 := by have := congrArg List.length e'; simp at this; omega
        have hpl1 : gs.length < 1000000 := by omega
        have hpl2 : cs.length < 1000000 := by omega
        have fi : fits (i : Int) = true := fits_small (by omega) (by omega)
        have e3 : Ret f_q_mix [.lst false (I ns), .int (30 + 60 * (j : Int) + (i : Int))] (.int (mixV ns (30 + 60 * j + i))) := by
          have := r_mix (ns := ns) (k := 30 + 60 * j + i) (by omega)
          rw [show ((30 + 60 * j + i : Nat) : Int) = 30 + 60 * (j : Int) + (i : Int) by omega] at this
          exact this
        have n3 := mix_nn ns (30 + 60 * j + i)
        generalize mixV ns (30 + 60 * j + i) = v at *
        obtain ⟨df, hdf, f, rfl, hfo⟩ := r_form (ns := ns) (k := 34 + 60 * j + 5 * i) (m := m) (low := true) (by omega) (by omega)
        rw [show ((34 + 60 * j + 5 * i : Nat) : Int) = 34 + 60 * (j : Int) + 5 * (i : Int) by omega] at hdf
        have hpo : FourF m (plainL m i (v / 8 % 5 - 2)) := plain_ok (by omega)
        have epl : ((List.replicate (m + 1) (0 : Int)).set i 1).set m (v / 8 % 5 - 2) = plainL m i (v / 8 % 5 - 2) := rfl
        have snoc : ∀ {l : LI} {y : List Int}, (∀ x ∈ l, FourF m x) → FourF m y → ∀ x ∈ l ++ [y], FourF m x := fun hl hy x hx => by
          rcases List.mem_append.mp hx with q | q
          · exact hl x q
          · rw [List.mem_singleton.mp q]; exact hy
        by_cases hv : 0 < v % 4
        · by_cases hneg : gt (plainL m i (v / 8 % 5 - 2)) m < 0
          · simp -implicitDefEqProofs [h6, h8, h9, h10, f60, f5, f8, fj, fi, callR_k e3, rep0 (show m ≤ 100 by omega), ixN_nat (show i < m + 1 by omega), ix_last, epl, callR_k hdf, hv, hpl2, atI_Il hpo.1, hneg, hpl1]
            exact ⟨_, _, _, np_val, _, np_val, _, np_val, _, np_val, by simp; omega, snoc hgs hpo, by simp [hcl], snoc hcs hpo, rfl, rfl, rfl, rfl, rfl, rfl⟩
          · simp -implicitDefEqProofs [h6, h8, h9, h10, f60, f5, f8, fj, fi, callR_k e3, rep0 (show m ≤ 100 by omega), ixN_nat (show i < m + 1 by omega), ix_last, epl, callR_k hdf, hv, hpl2, atI_Il hpo.1, hneg, hpl1]
            exact ⟨_, _, _, np_val, _, np_val, _, np_val, _, np_val, by omega, hgs, by simp [hcl], snoc hcs hpo, rfl, rfl, rfl, rfl, rfl, rfl⟩
        · simp -implicitDefEqProofs [h6, h8, h9, h10, f60, f5, f8, fj, fi, callR_k e3, rep0 (show m ≤ 100 by omega), ixN_nat (show i < m + 1 by omega), ix_last, epl, callR_k hdf, hv, hpl2, atI_Il hpo.1, hpl1]
          exact ⟨_, _, _, np_val, _, np_val, _, np_val, _, np_val, by omega, hgs, by simp [hcl], snoc hcs (formS hfo), rfl, rfl, rfl, rfl, rfl, rfl⟩
      · rintro ρ ⟨gs, cs, t6, t8, t9, t10, h6, h8, h9, h10, hgl, hgs, hcl, hcs, rfl⟩
        rw [← hg2]
        simp at hcl
        simp -implicitDefEqProofs [cut4, f60, fj, callR_k hdc, hpl]
        refine ⟨_, _, np_val, _, np_val, _, h6, _, np_val, _, h8, _, h9, _, h10, by simp [hl], fun x hx' => ?_, rfl, rfl, rfl, rfl, rfl, rfl, rfl, rfl⟩
        rcases List.mem_append.mp hx' with q | q
        · exact hx x q
        · rw [List.mem_singleton.mp q]
          exact ⟨fun f hf => hgs f (List.mem_of_mem_take hf), by simp; omega, hcs, hcl, formS hco⟩
  · rintro ρ ⟨xs, t4, t5, t6, t7, t8, t9, t10, h4, h5, h6, h7, h8, h9, h10, hl, hx, rfl⟩
    rw [← hg]
    simp at hl
    simp -implicitDefEqProofs
    exact ⟨m, xs, ⟨rfl, rfl⟩, hm1, hm2, by omega, by omega, hx⟩
end VL.PX
end
section
namespace VL.K43
open VL PySem L2 Smx PX
@[simp] theorem calm_ext {t : Tg} : (D.ext false t).calm = true := rfl
@[simp] theorem frz_ext {t : Tg} : (D.ext false t).frz = .ext false t := rfl
abbrev args (m : Int) (xs : List Deed) (ps purse : List Int) : List D := [.tup [.int m, .lst false (DD xs)], .lst false (I ps), .tup (I purse)]
structure Good (m : Nat) (xs : List Deed) (ps purse : List Int) : Prop where
  ok : ∀ x ∈ xs, x.Ok m
  m1 : 1 ≤ m
  m2 : m ≤ 2
  l1 : 1 ≤ xs.length
  l2 : xs.length ≤ 2
  pl : ps.length = xs.length
  ps : ∀ p ∈ ps, -1000 ≤ p ∧ p ≤ 1000
  pu : SmallF m purse
theorem Good.dut {m : Nat} {xs : List Deed} {ps purse : List Int} (h : Good m xs ps purse) : Ret f_duties_of (args m xs ps purse) (.lst true (UU (duts m xs ps purse))) :=
  r_duties_of h.ok h.m1 (by have := h.m2; omega) h.l1 (by have := h.l2; omega) h.pl h.ps h.pu
theorem duts_pos {m : Nat} {xs : List Deed} {ps purse : List Int} : 1 ≤ (duts m xs ps purse).length := by simp [duts]
theorem duts_le {m : Nat} {xs : List Deed} {ps purse : List Int} (h : Good m xs ps purse) : (duts m xs ps purse).length ≤ 1000 := by
  have h2 := h.m2; have h4 := h.l2
  unfold duts
  rw [List.length_append, len_dut _ fun q hq => h.ok q.1 (List.of_mem_zip (show (q.1, q.2) ∈ xs.zip ps from hq)).1, List.length_zip]
  have : min xs.length ps.length ≤ 2 := by omega
  have := Nat.mul_le_mul this (show m + 1 ≤ 3 by omega)
  simp; omega
theorem settled_x {m : Int} {xs : List Deed} {ps purse : List Int} (h : dutB m xs ps purse = false) : RetX f_settled (args m xs ps purse) "BadForm" := r_settled_x h
theorem settled_ok {m : Nat} {xs : List Deed} {ps purse : List Int} (h : Good m xs ps purse) : ∃ d, Ret f_settled (args m xs ps purse) d := by
  obtain ⟨d, h1, _⟩ := r_settled h.ok h.m1 (by have := h.m2; omega) h.l1 (by have := h.l2; omega) h.pl h.ps h.pu (dut_ok h.ok h.m1 h.m2 h.ps h.pu) (duts_le h)
  exact ⟨d, h1⟩
theorem shows_x {m : Int} {xs : List Deed} {ps purse : List Int} (h : dutB m xs ps purse = false) : RetX f_shows (args m xs ps purse ++ [.lst false []]) "BadForm" := by
  refine retX_of ⟨[.val (.tup [.int m, .lst false (DD xs)]), .val (.lst false (I ps)), .val (.tup (I purse)), .val (.lst false []), .un], ?_⟩
  simp [b_shows, entry, callX_e (r_duties_x h)]
theorem shows_ok {m : Nat} {xs : List Deed} {ps purse : List Int} (h : Good m xs ps purse) : Ret f_shows (args m xs ps purse ++ [.lst false []]) (.bl false) := by
  refine retE ?_
  have e1 : Ret f_duties_of [.tup [.int m, .lst false (DD xs)], .lst false (I ps), .tup (I purse)] (.lst true (UU (duts m xs ps purse))) := h.dut
  have hl := duts_pos (m := m) (xs := xs) (ps := ps) (purse := purse)
  have n1 : ¬ (0 : Int) = ((duts m xs ps purse).length : Int) := by omega
  simp [b_shows, entry, callX_k e1, n1]
theorem fails_x {m : Int} {xs : List Deed} {ps purse : List Int} (h : dutB m xs ps purse = false) : RetX f_fails_at (args m xs ps purse ++ [.int 0, .lst false []]) "BadForm" := by
  refine retX_of ⟨[.val (.tup [.int m, .lst false (DD xs)]), .val (.lst false (I ps)), .val (.tup (I purse)), .val (.int 0), .val (.lst false []), .un, .un], ?_⟩
  simp [b_fails_at, entry, callX_e (r_duties_x h)]
theorem fails_ok {m : Nat} {xs : List Deed} {ps purse : List Int} (h : Good m xs ps purse) : Ret f_fails_at (args m xs ps purse ++ [.int 0, .lst false []]) (.bl false) := by
  refine retE ?_
  have e1 : Ret f_duties_of [.tup [.int m, .lst false (DD xs)], .lst false (I ps), .tup (I purse)] (.lst true (UU (duts m xs ps purse))) := h.dut
  have hl := duts_pos (m := m) (xs := xs) (ps := ps) (purse := purse)
  have hm := h.m1
  have n1 : ¬ (0 : Int) = (m : Int) := by omega
  have e2 := btw_t (x := 0) (a := 0) (b := ((duts m xs ps purse).length : Int) - 1) (by omega) (by omega)
  simp [b_fails_at, entry, callX_k e1, callR_k e2, n1, atI_0, truOk, truD]
theorem refusal_n : Ret f_q_refusal [.non] (.str "ok") := ret_of ⟨[.val .non, .un], rfl⟩
theorem refusal_x : Ret f_q_refusal [.ext false (.exc "BadForm")] (.str "form") := by
  refine retE ?_
  have k1 : knF "BadForm" = true := rfl
  have k2 : ∀ b : Bool, kIsX knF ttF (.ext false (.exc "BadForm"), b) = .ok (.bl true, true) := fun _ => rfl
  have k3 : ∀ b : Bool, kIsX knF ffF (.ext false (.exc "BadForm"), b) = .ok (.bl false, true) := fun _ => rfl
  have c1 : ∀ b c : Bool, kCount (.lst true [.bl false, .bl false, .bl false, .bl false, .bl true], b) (.bl true, c) = .ok (.int 1, true) := fun _ _ => rfl
  have c2 : ∀ b c : Bool, kIndex (.lst true [.bl false, .bl false, .bl false, .bl false, .bl true], b) (.bl true, c) = .ok (.int 4, true) := fun _ _ => rfl
  have a4 : ∀ a b c d e : D, atI [a, b, c, d, e] 4 = some e := fun _ _ _ _ _ => rfl
  simp [b_q_refusal, entry, k2, k3, isNon, c1, c2, truOk, truD, a4]
theorem try_n {ie : Nat} {ct : Str → Bool} {b h : SemS} {ρ ρ' : Env} (e : b ρ = .next ρ') : sTry ie ct b h ρ = .next ρ' := by unfold sTry; rw [e]
theorem try_x {ie : Nat} {ct : Str → Bool} {b h : SemS} {ρ ρ' : Env} {c : Str} (e : b ρ = .exc c ρ') : sTry ie ct b h ρ = sTail ie ct h c ρ' := by unfold sTry; rw [e]
theorem told_of {k : Int} {a b c : D} {w : Str} (ha : a.calm = true) (hb : b.calm = true) (hc : c.calm = true)
    (h : (w = "ok" ∧ ((k = 0 ∧ ∃ d, Ret f_settled [a, b, c] d) ∨ (k = 1 ∧ ∃ d, Ret f_shows [a, b, c, .lst false []] d) ∨ (k = 2 ∧ ∃ d, Ret f_fails_at [a, b, c, .int 0, .lst false []] d))) ∨
      (w = "form" ∧ ((k = 0 ∧ RetX f_settled [a, b, c] "BadForm") ∨ (k = 1 ∧ RetX f_shows [a, b, c, .lst false []] "BadForm") ∨ (k = 2 ∧ RetX f_fails_at [a, b, c, .int 0, .lst false []] "BadForm")))) :
    Ret f_q_told [.int k, a, b, c] (.str w) := by
  refine retE ?_
  have fz : D.frzs [a, b, c] = [a, b, c] := calms_frz _ (by simp [ha, hb, hc])
  have fa := calm_frz _ ha; have fb := calm_frz _ hb; have fc := calm_frz _ hc
  rcases h with ⟨rfl, h⟩ | ⟨rfl, h⟩
  · rcases h with ⟨rfl, d, h⟩ | ⟨rfl, d, h⟩ | ⟨rfl, d, h⟩
    · rw [b_q_told]
      simp [entry]
      rw [try_n (ρ' := [.val (.int 0), .val a, .val b, .val c, .val .non, .un]) (by simp [ha, hb, hc, fa, fb, fc, callX_k h])]
      simp [callR_k refusal_n]
    · rw [b_q_told]
      simp [entry]
      rw [try_n (ρ' := [.val (.int 1), .val a, .val b, .val c, .val .non, .un]) (by simp [ha, hb, hc, fa, fb, fc, callX_k h])]
      simp [callR_k refusal_n]
    · rw [b_q_told]
      simp [entry]
      rw [try_n (ρ' := [.val (.int 2), .val a, .val b, .val c, .val .non, .un]) (by simp [ha, hb, hc, fa, fb, fc, callX_k h])]
      simp [callR_k refusal_n]
  · rcases h with ⟨rfl, h⟩ | ⟨rfl, h⟩ | ⟨rfl, h⟩
    · rw [b_q_told]
      simp [entry]
      rw [try_x (ρ' := [.val (.int 0), .val a, .val b, .val c, .val .non, .un]) (c := "BadForm") (by simp [ha, hb, hc, fa, fb, fc, callX_e h])]
      simp [sTail, show knF "BadForm" = true from rfl, callR_k refusal_x]
    · rw [b_q_told]
      simp [entry]
      rw [try_x (ρ' := [.val (.int 1), .val a, .val b, .val c, .val .non, .un]) (c := "BadForm") (by simp [ha, hb, hc, fa, fb, fc, callX_e h])]
      simp [sTail, show knF "BadForm" = true from rfl, callR_k refusal_x]
    · rw [b_q_told]
      simp [entry]
      rw [try_x (ρ' := [.val (.int 2), .val a, .val b, .val c, .val .non, .un]) (c := "BadForm") (by simp [ha, hb, hc, fa, fb, fc, callX_e h])]
      simp [sTail, show knF "BadForm" = true from rfl, callR_k refusal_x]
end VL.K43
end
section
namespace VL.K43
open VL PySem L2 Smx PX
def pre0 : SemS := (sSet 1 (xOf (vCall f_q_lines (aCons (vVar 0) (aCons (vC (.int 0)) aNil)))))
def pre1 : SemS := (sUnpack [2, 3] (xOf (vVar 1)))
def pre2 : SemS := (sSet 4 (xOf (v2 kTimesZ (vLst (aCons (vC (.int 1)) aNil)) (vCB kLen (aCons (vVar 3) aNil)))))
def pre3 : SemS := (sSet 5 (xOf (v2 kTimesZ (vTup (aCons (vC (.int 0)) aNil)) (v2 kPlusZ (vVar 2) (vC (.int 1))))))
def pre4 : SemS := (sSet 6 (xOf (vCall f_q_mix (aCons (vVar 0) (aCons (vC (.int 200)) aNil)))))
def pre5 : SemS := (sSet 7 (xOf (v2 kMod (vVar 6) (vC (.int 10)))))
def pre6 : SemS := (sSet 8 (xOf (v2 kDivB (vVar 6) (vC (.int 16)))))
def pre7 : SemS := (sUnpack [9, 10, 11] (xOf (v2 kIx (vVar 3) (vC (.int 0)))))
def pre8 : SemS := (sSet 12 (xOf (v2 kIx (vLst (aCons (vC (.int 1001)) (aCons (v1 (kU fun i => .int (-i)) (vC (.int 1001))) aNil))) (v2 kMod (vVar 8) (vC (.int 2))))))
def pre9 : SemS := (sSet 13 (xOf (vC (.str "form"))))
def way0 : SemS := (sSet 1 (xOf (vTup (aCons (v2 kIx (vLst (aCons (vC (.int 0)) (aCons (vC (.int 5)) (aCons (v1 (kU fun i => .int (-i)) (vC (.int 1))) aNil)))) (v2 kMod (vVar 8) (vC (.int 3)))) (aCons (vVar 3) aNil)))))
def way1 : SemS := (sSeq (sSet 1 (xOf (vTup (aCons (vVar 2) (aCons (v2 kIx (vLst (aCons (vLst aNil) (aCons (v2 kTimesZ (vSl (vVar 3) oNone (oInt (vC (.int 1)))) (vC (.int 9))) aNil))) (v2 kMod (vVar 8) (vC (.int 2)))) aNil))))) (sSet 4 (xOf (v2 kTimesZ (vLst (aCons (vC (.int 1)) aNil)) (vC (.int 9))))))
def way2 : SemS := (sSet 1 (xOf (vTup (aCons (vVar 2) (aCons (v2 kPlusZ (vLst (aCons (vTup (aCons (v2 kPlusZ (vVar 9) (v2 kTimesZ (vLst (aCons (vVar 11) aNil)) (v2 kSub (vC (.int 5)) (vCB kLen (aCons (vVar 9) aNil))))) (aCons (vVar 10) (aCons (vVar 11) aNil)))) aNil)) (vSl (vVar 3) (oInt (vC (.int 1))) oNone)) aNil)))))
def way3 : SemS := (sSet 1 (xOf (vTup (aCons (vVar 2) (aCons (v2 kPlusZ (vLst (aCons (vTup (aCons (vVar 9) (aCons (v2 kPlusZ (vVar 10) (vSl (vVar 10) oNone (oInt (vC (.int 1))))) (aCons (vVar 11) aNil)))) aNil)) (vSl (vVar 3) (oInt (vC (.int 1))) oNone)) aNil)))))
def way4 : SemS := (sSet 1 (xOf (vTup (aCons (vVar 2) (aCons (v2 kPlusZ (vLst (aCons (vTup (aCons (vVar 9) (aCons (vVar 10) (aCons (vSlT (vVar 11) (oInt (vC (.int 1))) oNone) aNil)))) aNil)) (vSl (vVar 3) (oInt (vC (.int 1))) oNone)) aNil)))))
def way5 : SemS := (sSet 1 (xOf (vTup (aCons (vVar 2) (aCons (v2 kPlusZ (vSl (vVar 3) (oInt (vC (.int 1))) oNone) (vLst (aCons (vTup (aCons (vVar 9) (aCons (v2 kPlusZ (vLst (aCons (v2 kPlusZ (v2 kIx (vVar 10) (vC (.int 0))) (vTup (aCons (vC (.int 1)) aNil))) aNil)) (vSl (vVar 10) (oInt (vC (.int 1))) oNone)) (aCons (vVar 11) aNil)))) aNil))) aNil)))))
def way6 : SemS := (sSet 1 (xOf (vTup (aCons (vVar 2) (aCons (v2 kPlusZ (vLst (aCons (vTup (aCons (vVar 9) (aCons (vVar 10) (aCons (v2 kPlusZ (vSlT (vVar 11) oNone (oInt (v1 (kU fun i => .int (-i)) (vC (.int 1))))) (vTup (aCons (vVar 12) aNil))) aNil)))) aNil)) (vSl (vVar 3) (oInt (vC (.int 1))) oNone)) aNil)))))
def way7 : SemS := (sSet 4 (xOf (v2 kIx (vLst (aCons (v2 kPlusZ (vVar 4) (vLst (aCons (vC (.int 1)) aNil))) (aCons (vSl (vVar 4) (oInt (vC (.int 1))) oNone) (aCons (v2 kPlusZ (vLst (aCons (vVar 12) aNil)) (vSl (vVar 4) (oInt (vC (.int 1))) oNone)) aNil)))) (v2 kMod (vVar 8) (vC (.int 3))))))
def way8 : SemS := (sSet 5 (xOf (v2 kIx (vLst (aCons (v2 kPlusZ (vVar 5) (vTup (aCons (vC (.int 0)) aNil))) (aCons (vSlT (vVar 5) (oInt (vC (.int 1))) oNone) (aCons (v2 kPlusZ (vTup (aCons (vVar 12) aNil)) (vSlT (vVar 5) (oInt (vC (.int 1))) oNone)) aNil)))) (v2 kMod (vVar 8) (vC (.int 3))))))
def way9 : SemS := (sSeq (sSet 1 (xOf (vTup (aCons (vVar 2) (aCons (v2 kPlusZ (vLst (aCons (vTup (aCons (v2 kPlusZ (vSl (vVar 9) oNone (oInt (vC (.int 3)))) (vLst (aCons (v2 kPlusZ (v2 kTimesZ (vTup (aCons (vC (.int 1000)) aNil)) (vVar 2)) (vTup (aCons (v1 (kU fun i => .int (-i)) (vC (.int 1000))) aNil))) aNil))) (aCons (vVar 10) (aCons (vVar 11) aNil)))) aNil)) (vSl (vVar 3) (oInt (vC (.int 1))) oNone)) aNil))))) (sSeq (sSet 4 (xOf (v2 kTimesZ (vLst (aCons (v2 kIx (vLst (aCons (vC (.int 1000)) (aCons (v1 (kU fun i => .int (-i)) (vC (.int 1000))) aNil))) (v2 kMod (vVar 8) (vC (.int 2)))) aNil)) (vCB kLen (aCons (vVar 3) aNil))))) (sSet 13 (xOf (vC (.str "ok"))))))
def fin : SemS := (sFrz [4] (sRet (xOf (v2 (kEq false) (vComp (iR1 (aCons (vC (.int 3)) aNil)) 1 [1, 4, 5] (bindD 0) tTrue (vCall f_q_told (aCons (vVar 0) (aCons (vVar 1) (aCons (vVar 2) (aCons (vVar 3) aNil)))))) (v2 kTimesZ (vLst (aCons (vVar 13) aNil)) (vC (.int 3)))))))
def ways : SemS := (sIf (tBool (v2 (kEq false) (vVar 7) (vC (.int 0)))) way0 (sIf (tBool (v2 (kEq false) (vVar 7) (vC (.int 1)))) way1 (sIf (tBool (v2 (kEq false) (vVar 7) (vC (.int 2)))) way2 (sIf (tBool (v2 (kEq false) (vVar 7) (vC (.int 3)))) way3 (sIf (tBool (v2 (kEq false) (vVar 7) (vC (.int 4)))) way4 (sIf (tBool (v2 (kEq false) (vVar 7) (vC (.int 5)))) way5 (sIf (tBool (v2 (kEq false) (vVar 7) (vC (.int 6)))) way6 (sIf (tBool (v2 (kEq false) (vVar 7) (vC (.int 7)))) way7 (sIf (tBool (v2 (kEq false) (vVar 7) (vC (.int 8)))) way8 way9)))))))))
theorem law_eq : b_law = (sSeq pre0 (sSeq pre1 (sSeq pre2 (sSeq pre3 (sSeq pre4 (sSeq pre5 (sSeq pre6 (sSeq pre7 (sSeq pre8 (sSeq pre9 (sSeq ways fin))))))))))) := rfl
end VL.K43
end
section
namespace VL.K43
open VL PySem L2 Smx PX
theorem cut_d1 {a : D} {ds : List D} : cutD (a :: ds) (some 1) none = ds := by
  have a1 : HT.sIx (a :: ds).length 0 (some 1) = 1 := by
    show (if (1 : Int) < 0 then ((1 : Int) + ((a :: ds).length : Int)).toNat else min (1 : Int).toNat (a :: ds).length) = _
    rw [if_neg (by decide)]; simp
  unfold cutD
  rw [a1]
  simp [HT.sIx]
theorem cut_tk {ds : List D} {k : Nat} : cutD ds none (some (k : Int)) = ds.take k := by
  have a1 : HT.sIx ds.length ds.length (some (k : Int)) = min k ds.length := by
    show (if (k : Int) < 0 then ((k : Int) + (ds.length : Int)).toNat else min (k : Int).toNat ds.length) = _
    rw [if_neg (by omega)]; simp
  unfold cutD
  rw [a1]
  simp [HT.sIx, List.take_eq_take_iff]
theorem cut_t1 {a : D} {ds : List D} : cutD (a :: ds) none (some 1) = [a] := cut_tk (k := 1)
theorem cut_t3 {gs : LI} : cutD (PX.TT gs) none (some 3) = PX.TT (gs.take 3) := by
  have := cut_tk (ds := PX.TT gs) (k := 3)
  rw [show (some ((3 : Nat) : Int)) = some (3 : Int) from rfl] at this
  rw [this]; simp [PX.TT]
theorem DD_cons (x : Deed) (xs : List Deed) : DD (x :: xs) = x.d :: DD xs := rfl
theorem TT_cons (x : List Int) (xs : LI) : PX.TT (x :: xs) = .tup (I x) :: PX.TT xs := rfl
theorem I_cons' (x : Int) (xs : List Int) : I (x :: xs) = .int x :: I xs := rfl
theorem slT_1 {a : Int} {l : List Int} {f : SemE} {ρ : Env} {b : Bool} (h : f ρ = .ok (.tup (I (a :: l)), b)) : vSlT f (oInt (vC (.int 1))) oNone ρ = .ok (.tup (I l), true) := by
  unfold vSlT
  rw [h]
  have a1 : HT.sIx (I (a :: l)).length 0 (some 1) = 1 := by
    show (if (1 : Int) < 0 then ((1 : Int) + ((I (a :: l)).length : Int)).toNat else min (1 : Int).toNat (I (a :: l)).length) = _
    rw [if_neg (by decide)]; simp
  show (if HT.sIx (I (a :: l)).length 0 (some 1) = 0 ∧ HT.sIx (I (a :: l)).length (I (a :: l)).length none = (I (a :: l)).length then R.bad else R.ok (D.tup (cutD (I (a :: l)) (some 1) none), true)) = _
  rw [if_neg (by rw [a1]; simp), I_cons', cut_d1]
theorem slT_i {l : List Int} {m : Nat} {f : SemE} {ρ : Env} {b : Bool} (h : f ρ = .ok (.tup (I l), b)) (hl : l.length = m + 1) : vSlT f oNone (oInt (v1 (kU fun i => .int (-i)) (vC (.int 1)))) ρ = .ok (.tup (I (l.take m)), true) := by
  unfold vSlT
  rw [h]
  have a1 : HT.sIx (I l).length (I l).length (some (-1)) = m := by
    rw [I_len, hl]
    show (if (-1 : Int) < 0 then (-1 + ((m + 1 : Nat) : Int)).toNat else min (-1 : Int).toNat (m + 1)) = m
    rw [if_pos (by omega)]; omega
  show (if HT.sIx (I l).length 0 none = 0 ∧ HT.sIx (I l).length (I l).length (some (-1)) = (I l).length then R.bad else R.ok (D.tup (cutD (I l) none (some (-1))), true)) = _
  rw [if_neg (by rw [a1, I_len, hl]; omega), cut_init hl]
theorem repT {x : Int} {k : Nat} {b c : Bool} (h1 : 1 ≤ k) (h2 : k ≤ 1000) : kTimesZ (.tup [.int x], b) (.int (k : Int), c) = .ok (.tup (I (List.replicate k x)), true) := by
  show (if (decide (1 ≤ (k : Int)) && decide ((k : Int) ≤ 1000) && decide (([] : List D).length + 1 ≤ 1000)) = true then R.ok (D.tup (List.replicate (k : Int).toNat [D.int x]).flatten, true) else R.bad) = _
  rw [if_pos (by simp; omega), Int.toNat_natCast]
  congr 3
  rw [I, List.map_replicate, List.flatten_replicate_singleton]
theorem repL {d : D} {k : Nat} {b c : Bool} (hd : d.calm = true) (h2 : k ≤ 1000) : kTimesZ (.lst true [d], b) (.int (k : Int), c) = .ok (.lst true (List.replicate k d), true) := by
  show (if (D.calms [d] && decide ((k : Int) < 1000000) && decide (-1000000 < (k : Int)) && decide ([d].length * (k : Int).toNat ≤ 1000000)) = true then R.ok (D.lst true (List.replicate (k : Int).toNat [d]).flatten, true) else R.bad) = _
  rw [if_pos (by simp [hd]; omega), Int.toNat_natCast, List.flatten_replicate_singleton]
theorem repI {x : Int} {k : Nat} {b c : Bool} (h2 : k ≤ 1000) : kTimesZ (.lst true [.int x], b) (.int (k : Int), c) = .ok (.lst true (I (List.replicate k x)), true) := by
  rw [repL rfl h2, I, List.map_replicate]
theorem repF {f : List Int} {k : Nat} {b c : Bool} (h2 : k ≤ 1000) : kTimesZ (.lst true [.tup (I f)], b) (.int (k : Int), c) = .ok (.lst true (PX.TT (List.replicate k f)), true) := by
  rw [repL (by simp) h2, PX.TT, List.map_replicate]
theorem repD {x : Deed} {k : Nat} {b c : Bool} (h2 : k ≤ 1000) : kTimesZ (.lst true [x.d], b) (.int (k : Int), c) = .ok (.lst true (DD (List.replicate k x)), true) := by
  rw [repL (by simp) h2, DD, List.map_replicate]
theorem T_app (a b : LI) : PX.TT a ++ PX.TT b = PX.TT (a ++ b) := by simp [PX.TT]
theorem dut_l {m : Int} {xs : List Deed} {ps purse : List Int} (h : linesB m xs = false) : dutB m xs ps purse = false := by simp [dutB, h]
theorem dut_p {m : Int} {xs : List Deed} {ps purse : List Int} (h : pricesB xs.length ps = false) : dutB m xs ps purse = false := by simp [dutB, h]
theorem dut_f {m : Int} {xs : List Deed} {ps purse : List Int} (h : formB m purse = false) : dutB m xs ps purse = false := by simp [dutB, h]
theorem lines_m {m : Int} {xs : List Deed} (h : ¬ (1 ≤ m ∧ m ≤ 4)) : linesB m xs = false := by simp only [linesB, h]; simp
theorem lines_n {m : Int} {xs : List Deed} (h : ¬ (1 ≤ (xs.length : Int) ∧ (xs.length : Int) ≤ 8)) : linesB m xs = false := by simp only [linesB, h]; simp
theorem lines_x {m : Int} {xs : List Deed} {x : Deed} (hx : x ∈ xs) (h : x.okB m = false) : linesB m xs = false := by
  have : xs.all (Deed.okB m) = false := List.all_eq_false.mpr ⟨x, hx, by simp [h]⟩
  simp only [linesB, this]; simp
theorem form_n {m : Int} {f : List Int} (h : ¬ ((f.length : Int) = m + 1)) : formB m f = false := by simp only [formB, h]; simp
theorem form_x {m : Int} {f : List Int} {x : Int} (hx : x ∈ f) (h : okI x = false) : formB m f = false := by
  have : f.all okI = false := List.all_eq_false.mpr ⟨x, hx, by simp [h]⟩
  simp only [formB, this]; simp
theorem forms_n {lo hi m : Int} {fs : LI} (h : ¬ (lo ≤ (fs.length : Int) ∧ (fs.length : Int) ≤ hi)) : formsB lo hi m fs = false := by simp only [formsB, h]; simp
theorem forms_x {lo hi m : Int} {fs : LI} {f : List Int} (hf : f ∈ fs) (h : formB m f = false) : formsB lo hi m fs = false := by
  have : fs.all (formB m) = false := List.all_eq_false.mpr ⟨f, hf, by simp [h]⟩
  simp only [formsB, this]; simp
theorem prices_n {n : Nat} {ps : List Int} (h : ¬ ((ps.length : Int) = (n : Int))) : pricesB n ps = false := by simp only [pricesB, h]; simp
theorem prices_x {n : Nat} {ps : List Int} {x : Int} (hx : x ∈ ps) (h : okI x = false) : pricesB n ps = false := by
  have : ps.all okI = false := List.all_eq_false.mpr ⟨x, hx, by simp [h]⟩
  simp only [pricesB, this]; simp
def env1 (ns : List Int) (m : Nat) (x : Deed) (rest : List Deed) (a k q b : Int) (L P S : D) (w : Str) : Env := [.val (.lst false (I ns)), .val L, .val (.int m), .val (.lst false (DD (x :: rest))), .val P, .val S, .val (.int a), .val (.int k), .val (.int q), .val (.lst false (PX.TT x.gs)), .val (.lst false (PX.TT x.cs)), .val (.tup (I x.cost)), .val (.int b), .val (.str w)]
def Told (m : Int) (xs : List Deed) (ps purse : List Int) (w : Str) : Prop := (w = "ok" ∧ ∃ n : Nat, m = n ∧ Good n xs ps purse) ∨ (w = "form" ∧ dutB m xs ps purse = false)
def FinE (ns : List Int) (m : Nat) (x : Deed) (rest : List Deed) (a k q b : Int) (ρ : Env) : Prop := ∃ m' xs' ps purse w, ρ = env1 ns m x rest a k q b (.tup [.int m', .lst false (DD xs')]) (.lst true (I ps)) (.tup (I purse)) w ∧ Told m' xs' ps purse w
abbrev env0 (ns : List Int) (m : Nat) (x : Deed) (rest : List Deed) (a k q b : Int) : Env := env1 ns m x rest a k q b (.tup [.int m, .lst false (DD (x :: rest))]) (.lst true (I (List.replicate (rest.length + 1) 1))) (.tup (I (List.replicate (m + 1) 0))) "form"
theorem mod3 {q : Int} (h : 0 ≤ q) : q % 3 = 0 ∨ q % 3 = 1 ∨ q % 3 = 2 := by omega
theorem mod2 {q : Int} (h : 0 ≤ q) : q % 2 = 0 ∨ q % 2 = 1 := by omega
end VL.K43
end
section
namespace VL.K43
open VL PySem L2 Smx PX
section
variable {ns : List Int} {m : Nat} {x : Deed} {rest : List Deed} {a k q b : Int}
theorem w0 (hq : 0 ≤ q) : out (way0 (env0 ns m x rest a k q b)) (FinE ns m x rest a k q b) (fun _ => False) := by
  have f3 : fits 3 = true := rfl
  rcases mod3 hq with e | e | e
  · simp [way0, env0, env1, e, atI_0, atI_1, atI_2]
    exact ⟨0, x :: rest, List.replicate (rest.length + 1) 1, List.replicate (m + 1) 0, "form", rfl, .inr ⟨rfl, dut_l (lines_m (by decide))⟩⟩
  · simp [way0, env0, env1, e, atI_0, atI_1, atI_2]
    exact ⟨5, x :: rest, List.replicate (rest.length + 1) 1, List.replicate (m + 1) 0, "form", rfl, .inr ⟨rfl, dut_l (lines_m (by decide))⟩⟩
  · simp [way0, env0, env1, e, atI_0, atI_1, atI_2]
    exact ⟨-1, x :: rest, List.replicate (rest.length + 1) 1, List.replicate (m + 1) 0, "form", rfl, .inr ⟨rfl, dut_l (lines_m (by decide))⟩⟩
theorem w1 (hq : 0 ≤ q) : out (way1 (env0 ns m x rest a k q b)) (FinE ns m x rest a k q b) (fun _ => False) := by
  have r9 : ∀ b c : Bool, kTimesZ (.lst true [x.d], b) (.int 9, c) = .ok (.lst true (DD (List.replicate 9 x)), true) := fun b c => repD (k := 9) (by decide)
  have r1 : ∀ b c : Bool, kTimesZ (.lst true [.int 1], b) (.int 9, c) = .ok (.lst true (I (List.replicate 9 1)), true) := fun b c => repI (k := 9) (by decide)
  rcases mod2 hq with e | e
  · simp [way1, env0, env1, e, atI_0, atI_1, DD_cons, cut_t1, r9, r1]
    exact ⟨m, [], List.replicate 9 1, List.replicate (m + 1) 0, "form", rfl, .inr ⟨rfl, dut_l (lines_n (by decide))⟩⟩
  · simp [way1, env0, env1, e, atI_0, atI_1, DD_cons, cut_t1, r9, r1]
    exact ⟨m, List.replicate 9 x, List.replicate 9 1, List.replicate (m + 1) 0, "form", rfl, .inr ⟨rfl, dut_l (lines_n (by simp))⟩⟩
theorem w2 (hx : x.Ok m) (hr : rest.length ≤ 8) : out (way2 (env0 ns m x rest a k q b)) (FinE ns m x rest a k q b) (fun _ => False) := by
  have hg := hx.gl
  have e5 : (5 : Int) - (x.gs.length : Int) = ((5 - x.gs.length : Nat) : Int) := by omega
  have hc : x.gs.length + (5 - x.gs.length) ≤ 1000000 := by omega
  have hn : 1 + rest.length ≤ 1000000 ∧ rest.length + 1 ≤ 1000000 := by omega
  simp [way2, env0, env1, DD_cons, cut_d1, e5, repF (show 5 - x.gs.length ≤ 1000 by omega), hc, hn, T_app]
  refine ⟨m, ⟨x.gs ++ List.replicate (5 - x.gs.length) x.cost, x.cs, x.cost⟩ :: rest, List.replicate (rest.length + 1) 1, List.replicate (m + 1) 0, "form", rfl, .inr ⟨rfl, dut_l (lines_x List.mem_cons_self ?_)⟩⟩
  simp only [Deed.okB, forms_n (lo := 0) (hi := 4) (m := m) (fs := x.gs ++ List.replicate (5 - x.gs.length) x.cost) (by simp; omega)]
  rfl
theorem w3 (hx : x.Ok m) (hm : 1 ≤ m) (hm2 : m ≤ 2) (hr : rest.length ≤ 8) : out (way3 (env0 ns m x rest a k q b)) (FinE ns m x rest a k q b) (fun _ => False) := by
  obtain ⟨gs, cs, cost⟩ := x
  have hc := hx.cl
  cases cs with
  | nil => simp at hc; omega
  | cons c cs =>
    have hn : 1 + rest.length ≤ 1000000 ∧ rest.length + 1 ≤ 1000000 := by omega
    have hl : cs.length + 1 + 1 ≤ 1000000 := by simp at hc; omega
    simp [way3, env0, env1, DD_cons, TT_cons, cut_d1, cut_t1, hl, hn]
    refine ⟨m, ⟨gs, c :: cs ++ [c], cost⟩ :: rest, List.replicate (rest.length + 1) 1, List.replicate (m + 1) 0, "form", rfl, .inr ⟨rfl, dut_l (lines_x List.mem_cons_self ?_)⟩⟩
    simp only [Deed.okB, forms_n (lo := m) (hi := m) (m := m) (fs := c :: cs ++ [c]) (by simp at hc ⊢; omega)]
    simp
theorem w4 (hx : x.Ok m) (hr : rest.length ≤ 8) : out (way4 (env0 ns m x rest a k q b)) (FinE ns m x rest a k q b) (fun _ => False) := by
  obtain ⟨gs, cs, cost⟩ := x
  have hc := hx.cost.1
  cases cost with
  | nil => simp at hc
  | cons c cost =>
    have hn : 1 + rest.length ≤ 1000000 ∧ rest.length + 1 ≤ 1000000 := by omega
    have es : ∀ ρ : Env, vSlT (vVar 11) (oInt (vC (.int 1))) oNone (env0 ns m ⟨gs, cs, c :: cost⟩ rest a k q b) = .ok (.tup (I cost), true) := fun ρ => slT_1 (a := c) (b := false) rfl
    have es := es []
    simp [env0, env1, DD_cons] at es
    simp [way4, env0, env1, es, DD_cons, cut_d1, hn]
    refine ⟨m, ⟨gs, cs, cost⟩ :: rest, List.replicate (rest.length + 1) 1, List.replicate (m + 1) 0, "form", rfl, .inr ⟨rfl, dut_l (lines_x List.mem_cons_self ?_)⟩⟩
    simp only [Deed.okB, form_n (m := m) (f := cost) (by simp at hc; omega)]
    simp
theorem w5 (hx : x.Ok m) (hm : 1 ≤ m) (hm2 : m ≤ 2) (hr : rest.length ≤ 8) : out (way5 (env0 ns m x rest a k q b)) (FinE ns m x rest a k q b) (fun _ => False) := by
  obtain ⟨gs, cs, cost⟩ := x
  have hc := hx.cl
  cases cs with
  | nil => simp at hc; omega
  | cons c cs =>
    have hcl := (hx.cs c List.mem_cons_self).1
    have hn : 1 + rest.length ≤ 1000000 ∧ rest.length + 1 ≤ 1000000 := by omega
    have hl : 1 + cs.length ≤ 1000000 ∧ cs.length + 1 ≤ 1000000 := by simp at hc; omega
    have ep : ∀ b d : Bool, kPlusZ (.tup (I c), b) (.tup [.int 1], d) = .ok (.tup (I (c ++ [1])), true) := fun b d => kPlusZ_I (ys := [1]) (by simp; omega)
    have ed : D.frzs (DD rest ++ [D.tup [.lst false (PX.TT gs), .lst false (.tup (I (c ++ [1])) :: PX.TT cs), .tup (I cost)]]) = DD (rest ++ [⟨gs, (c ++ [1]) :: cs, cost⟩]) := by
      have := D_snoc rest ⟨gs, (c ++ [1]) :: cs, cost⟩
      exact (congrArg D.frzs this).trans (frzs_Dd _)
    simp [way5, env0, env1, DD_cons, TT_cons, cut_d1, cut_t1, atI_0, ep, hl, hn, ed]
    refine ⟨m, rest ++ [⟨gs, (c ++ [1]) :: cs, cost⟩], List.replicate (rest.length + 1) 1, List.replicate (m + 1) 0, "form", rfl, .inr ⟨rfl, dut_l (lines_x (x := ⟨gs, (c ++ [1]) :: cs, cost⟩) (by simp) ?_)⟩⟩
    · simp only [Deed.okB, forms_x (lo := m) (hi := m) (m := m) (f := c ++ [1]) (fs := (c ++ [1]) :: cs) List.mem_cons_self (form_n (by simp; omega))]
      simp
theorem w6 (hx : x.Ok m) (hm2 : m ≤ 2) (hb : okI b = false) (hr : rest.length ≤ 8) : out (way6 (env0 ns m x rest a k q b)) (FinE ns m x rest a k q b) (fun _ => False) := by
  obtain ⟨gs, cs, cost⟩ := x
  have hc := hx.cost.1
  have hn : 1 + rest.length ≤ 1000000 ∧ rest.length + 1 ≤ 1000000 := by omega
  have es : vSlT (vVar 11) oNone (oInt (v1 (kU fun i => .int (-i)) (vC (.int 1)))) (env0 ns m ⟨gs, cs, cost⟩ rest a k q b) = .ok (.tup (I (cost.take m)), true) := slT_i (b := false) rfl hc
  have ep : ∀ p d : Bool, kPlusZ (.tup (I (cost.take m)), p) (.tup [.int b], d) = .ok (.tup (I (cost.take m ++ [b])), true) := fun p d => kPlusZ_I (ys := [b]) (by simp; omega)
  simp [env0, env1, DD_cons] at es
  simp [way6, env0, env1, es, ep, DD_cons, cut_d1, hn]
  refine ⟨m, ⟨gs, cs, cost.take m ++ [b]⟩ :: rest, List.replicate (rest.length + 1) 1, List.replicate (m + 1) 0, "form", rfl, .inr ⟨rfl, dut_l (lines_x List.mem_cons_self ?_)⟩⟩
  simp only [Deed.okB, form_x (m := m) (f := cost.take m ++ [b]) (x := b) (by simp) hb]
  simp
theorem w7 (hq : 0 ≤ q) (hb : okI b = false) (hr : rest.length ≤ 8) : out (way7 (env0 ns m x rest a k q b)) (FinE ns m x rest a k q b) (fun _ => False) := by
  have hn : rest.length + 1 + 1 ≤ 1000000 := by omega
  have hn' : rest.length + 1 ≤ 1000000 := by omega
  have hn2 : 1 + rest.length ≤ 1000000 := by omega
  rcases mod3 hq with e | e | e
  · simp [way7, env0, env1, e, atI_0, atI_1, atI_2, List.replicate_succ, I_cons', cut_d1, hn, hn', hn2]
    refine ⟨m, x :: rest, 1 :: (List.replicate rest.length 1 ++ [1]), List.replicate (m + 1) 0, "form", rfl, .inr ⟨rfl, dut_p (prices_n (by simp; omega))⟩⟩
  · simp [way7, env0, env1, e, atI_0, atI_1, atI_2, List.replicate_succ, I_cons', cut_d1, hn, hn', hn2]
    refine ⟨m, x :: rest, List.replicate rest.length 1, List.replicate (m + 1) 0, "form", rfl, .inr ⟨rfl, dut_p (prices_n (by simp; omega))⟩⟩
  · simp [way7, env0, env1, e, atI_0, atI_1, atI_2, List.replicate_succ, I_cons', cut_d1, hn, hn', hn2]
    refine ⟨m, x :: rest, b :: List.replicate rest.length 1, List.replicate (m + 1) 0, "form", rfl, .inr ⟨rfl, dut_p (prices_x List.mem_cons_self hb)⟩⟩
theorem w8 (hq : 0 ≤ q) (hb : okI b = false) (hm2 : m ≤ 2) : out (way8 (env0 ns m x rest a k q b)) (FinE ns m x rest a k q b) (fun _ => False) := by
  have es : vSlT (vVar 5) (oInt (vC (.int 1))) oNone (env0 ns m x rest a k q b) = .ok (.tup (I (List.replicate m 0)), true) := slT_1 (a := 0) (b := false) rfl
  have ep : ∀ p d : Bool, kPlusZ (.tup (I (List.replicate (m + 1) 0)), p) (.tup [.int 0], d) = .ok (.tup (I (List.replicate (m + 1) 0 ++ [0])), true) := fun p d => kPlusZ_I (ys := [0]) (by simp; omega)
  have eb : ∀ p d : Bool, kPlusZ (.tup [.int b], p) (.tup (I (List.replicate m 0)), d) = .ok (.tup (I (b :: List.replicate m 0)), true) := fun p d => kPlusZ_I (xs := [b]) (by simp; omega)
  simp [env0, env1] at es
  rcases mod3 hq with e | e | e
  · simp [way8, env0, env1, es, ep, eb, e, atI_0, atI_1, atI_2]
    refine ⟨m, x :: rest, List.replicate (rest.length + 1) 1, List.replicate (m + 1) 0 ++ [0], "form", ?_, .inr ⟨rfl, dut_f (form_n (by simp; omega))⟩⟩
    rfl
  · simp [way8, env0, env1, es, ep, eb, e, atI_0, atI_1, atI_2]
    refine ⟨m, x :: rest, List.replicate (rest.length + 1) 1, List.replicate m 0, "form", rfl, .inr ⟨rfl, dut_f (form_n (by simp; omega))⟩⟩
  · simp [way8, env0, env1, es, ep, eb, e, atI_0, atI_1, atI_2]
    refine ⟨m, x :: rest, List.replicate (rest.length + 1) 1, b :: List.replicate m 0, "form", rfl, .inr ⟨rfl, dut_f (form_x List.mem_cons_self hb)⟩⟩
theorem w9 (hq : 0 ≤ q) (hx : ∀ y ∈ x :: rest, Deed.Ok m y) (hm : 1 ≤ m) (hm2 : m ≤ 2) (hr : rest.length ≤ 1) : out (way9 (env0 ns m x rest a k q b)) (FinE ns m x rest a k q b) (fun _ => False) := by
  have hn : 1 + rest.length ≤ 1000000 ∧ rest.length + 1 ≤ 1000000 := by omega
  have hxo := hx x List.mem_cons_self
  have rt : ∀ p d : Bool, kTimesZ (.tup [.int 1000], p) (.int (m : Int), d) = .ok (.tup (I (List.replicate m 1000)), true) := fun p d => repT hm (by omega)
  have ep : ∀ p d : Bool, kPlusZ (.tup (I (List.replicate m 1000)), p) (.tup [.int (-1000)], d) = .ok (.tup (I (List.replicate m 1000 ++ [-1000])), true) := fun p d => kPlusZ_I (ys := [-1000]) (by simp; omega)
  have ri : ∀ (v : Int) (p d : Bool), kTimesZ (.lst true [.int v], p) (.int ((rest.length : Int) + 1), d) = .ok (.lst true (I (List.replicate (rest.length + 1) v)), true) := fun v p d => repI (k := rest.length + 1) (by omega)
  have h3 : min 3 x.gs.length + 1 ≤ 1000000 := by omega
  have good : ∀ v : Int, (-1000 ≤ v ∧ v ≤ 1000) → Good m (⟨x.gs.take 3 ++ [List.replicate m 1000 ++ [-1000]], x.cs, x.cost⟩ :: rest) (List.replicate (rest.length + 1) v) (List.replicate (m + 1) 0) := fun v hv => by
    refine ⟨fun y hy => ?_, hm, hm2, by simp, by simp; omega, by simp, fun p hp => ?_, by simp, fun z hz => ?_⟩
    · rcases List.mem_cons.mp hy with rfl | hy
      · refine ⟨fun f hf => ?_, by simp; omega, hxo.cs, hxo.cl, hxo.cost⟩
        rcases List.mem_append.mp hf with hf | hf
        · exact hxo.gs f (List.mem_of_mem_take hf)
        · rw [List.mem_singleton.mp hf]
          refine ⟨by simp, fun z hz => ?_⟩
          rcases List.mem_append.mp hz with hz | hz
          · rw [List.eq_of_mem_replicate hz]; decide
          · rw [List.mem_singleton.mp hz]; decide
      · exact hx y (List.mem_cons_of_mem _ hy)
    · rw [List.eq_of_mem_replicate hp]; exact hv
    · rw [List.eq_of_mem_replicate hz]; decide
  rcases mod2 hq with e | e
  · simp -implicitDefEqProofs [way9, env0, env1, e, atI_0, atI_1, DD_cons, cut_t3, cut_d1, rt, ep, ri, hn, h3]
    exact ⟨m, ⟨x.gs.take 3 ++ [List.replicate m 1000 ++ [-1000]], x.cs, x.cost⟩ :: rest, List.replicate (rest.length + 1) 1000, List.replicate (m + 1) 0, "ok", rfl, .inl ⟨rfl, m, rfl, good 1000 (by decide)⟩⟩
  · simp -implicitDefEqProofs [way9, env0, env1, e, atI_0, atI_1, DD_cons, cut_t3, cut_d1, rt, ep, ri, hn, h3]
    exact ⟨m, ⟨x.gs.take 3 ++ [List.replicate m 1000 ++ [-1000]], x.cs, x.cost⟩ :: rest, List.replicate (rest.length + 1) (-1000), List.replicate (m + 1) 0, "ok", rfl, .inl ⟨rfl, m, rfl, good (-1000) (by decide)⟩⟩
end
end VL.K43
end
section
namespace VL.K43
open VL PySem L2 Smx PX
theorem told3 {m : Int} {xs : List Deed} {ps purse : List Int} {w : Str} (h : Told m xs ps purse w) : ∀ k ∈ List.range 3, Ret f_q_told [.int (k : Int), .tup [.int m, .lst false (DD xs)], .lst false (I ps), .tup (I purse)] (.str w) := by
  intro k hk
  have hk := List.mem_range.mp hk
  refine told_of (by simp) (by simp) (by simp) ?_
  rcases h with ⟨rfl, n, rfl, hg⟩ | ⟨rfl, hb⟩
  · refine .inl ⟨rfl, ?_⟩
    match k, hk with
    | 0, _ => exact .inl ⟨rfl, settled_ok hg⟩
    | 1, _ => exact .inr (.inl ⟨rfl, _, shows_ok hg⟩)
    | 2, _ => exact .inr (.inr ⟨rfl, _, fails_ok hg⟩)
  · refine .inr ⟨rfl, ?_⟩
    match k, hk with
    | 0, _ => exact .inl ⟨rfl, settled_x hb⟩
    | 1, _ => exact .inr (.inl ⟨rfl, shows_x hb⟩)
    | 2, _ => exact .inr (.inr ⟨rfl, fails_x hb⟩)
theorem eq3 {w : Str} (h : w = "ok" ∨ w = "form") : ∀ b c : Bool, kEq false (.lst true [.str w, .str w, .str w], b) (.lst true [.str w, .str w, .str w], c) = .ok (.bl true, true) := by
  intro b c
  have key : eqOk (.lst true [.str w, .str w, .str w]) (.lst true [.str w, .str w, .str w]) = true ∧ eqD (.lst true [.str w, .str w, .str w]) (.lst true [.str w, .str w, .str w]) = true := by
    rcases h with rfl | rfl
    · exact ⟨by decide +kernel, by decide +kernel⟩
    · exact ⟨by decide +kernel, by decide +kernel⟩
  unfold kEq
  dsimp only
  rw [if_pos key.1, key.2]; rfl
theorem fin_ok {ns : List Int} {m : Nat} {x : Deed} {rest : List Deed} {a k q b : Int} {ρ : Env} (h : FinE ns m x rest a k q b ρ) : out (fin ρ) (fun _ => False) (fun d => d = .bl true) := by
  obtain ⟨m', xs', ps, purse, w, rfl, h⟩ := h
  have ht := told3 h
  have hw : w = "ok" ∨ w = "form" := by
    rcases h with ⟨h, _⟩ | ⟨h, _⟩
    · exact .inl h
    · exact .inr h
  have ec : vComp (iR1 (aCons (vC (.int 3)) aNil)) 1 [1, 4, 5] (bindD 0) tTrue (vCall f_q_told (aCons (vVar 0) (aCons (vVar 1) (aCons (vVar 2) (aCons (vVar 3) aNil))))) (env1 ns m x rest a k q b (.tup [.int m', .lst false (DD xs')]) (.lst false (I ps)) (.tup (I purse)) w) = .ok (.lst true [.str w, .str w, .str w], true) := by
    refine vComp1 [.val (.tup [.int m', .lst false (DD xs')]), .val (.lst false (I ps)), .val (.tup (I purse))] (List.range 3) (fun k => .int (k : Int)) (fun _ => .str w) (fun _ => true) ?_ (by decide) (by simp [env1]) ?_ (.inr fun _ _ => rfl)
    · have := rng_nat (n := 3) (by decide)
      simpa [env1] using this
    · intro k hk
      refine ⟨?_, rfl⟩
      simp [callR_k (ht k hk)]
  have er : ∀ b c : Bool, kTimesZ (.lst true [.str w], b) (.int 3, c) = .ok (.lst true (List.replicate 3 (.str w)), true) := fun b c => repL (k := 3) rfl (by decide)
  simp [env1] at ec
  simp [fin, env1, ec, er, eq3 hw]
theorem if_eq {i j : Int} {c : SemE} {f g : SemS} {ρ : Env} {b : Bool} {P : Env → Prop} {Q : D → Prop} (hc : c ρ = .ok (.int i, b)) (h1 : i = j → out (f ρ) P Q) (h2 : i ≠ j → out (g ρ) P Q) : out (sIf (tBool (v2 (kEq false) c (vC (.int j)))) f g ρ) P Q := by
  by_cases h : i = j
  · simp [hc, h]; exact h1 h
  · simp [hc, h]; exact h2 h
theorem ways_ok {ns : List Int} {m : Nat} {x : Deed} {rest : List Deed} {a k q b : Int} (hq : 0 ≤ q) (hb : okI b = false) (hx : ∀ y ∈ x :: rest, Deed.Ok m y) (hm : 1 ≤ m) (hm2 : m ≤ 2) (hr : rest.length ≤ 1) : out (ways (env0 ns m x rest a k q b)) (FinE ns m x rest a k q b) (fun _ => False) := by
  have hxo := hx x List.mem_cons_self
  have hr8 : rest.length ≤ 8 := by omega
  have hk : vVar 7 (env0 ns m x rest a k q b) = .ok (.int k, false) := rfl
  unfold ways
  refine if_eq hk (fun _ => w0 hq) fun _ => ?_
  refine if_eq hk (fun _ => w1 hq) fun _ => ?_
  refine if_eq hk (fun _ => w2 hxo hr8) fun _ => ?_
  refine if_eq hk (fun _ => w3 hxo hm hm2 hr8) fun _ => ?_
  refine if_eq hk (fun _ => w4 hxo hr8) fun _ => ?_
  refine if_eq hk (fun _ => w5 hxo hm hm2 hr8) fun _ => ?_
  refine if_eq hk (fun _ => w6 hxo hm2 hb hr8) fun _ => ?_
  refine if_eq hk (fun _ => w7 hq hb hr8) fun _ => ?_
  refine if_eq hk (fun _ => w8 hq hb hm2) fun _ => ?_
  exact w9 hq hx hm hm2 hr
@[simp] theorem unpack_at {is : List Nat} {f : SemE} {ρ : Env} : sUnpack is (xOf f) ρ = onOk (f ρ) fun d _ => match d with
    | .tup ds => (match bindDs is ds ρ with | some ρ2 => .next ρ2 | none => .bad) | _ => .bad := by
  unfold sUnpack xOf onOk
  cases f ρ with
  | ok x => obtain ⟨x, c⟩ := x; cases x <;> rfl
  | exc c => rfl
  | bad => rfl
theorem r_law {ns : List Int} : Ret f_law [.lst false (I ns)] (.bl true) := by
  refine retE ?_
  obtain ⟨dl, hl, m, xs, rfl, hm1, hm2, hx1, hx2, hx4⟩ := r_lines (ns := ns)
  have hl : Ret f_q_lines [.lst false (I ns), .int 0] (.tup [.int (m : Int), .lst false (DD xs)]) := hl
  have hx : ∀ y ∈ xs, y.Ok m := fun y h => (hx4 y h).ok
  cases xs with
  | nil => simp at hx1
  | cons x rest =>
    have hr : rest.length ≤ 1 := by simpa using hx2
    have e2 : Ret f_q_mix [.lst false (I ns), .int 200] (.int (mixV ns 200)) := r_mix (k := 200) (by omega)
    have n2 := mix_nn ns 200
    have ri : ∀ p d : Bool, kTimesZ (.lst true [.int 1], p) (.int ((rest.length : Int) + 1), d) = .ok (.lst true (I (List.replicate (rest.length + 1) 1)), true) := fun p d => repI (k := rest.length + 1) (by omega)
    have rt : ∀ p d : Bool, kTimesZ (.tup [.int 0], p) (.int ((m : Int) + 1), d) = .ok (.tup (I (List.replicate (m + 1) 0)), true) := fun p d => repT (k := m + 1) (by omega) (by omega)
    rw [law_eq]
    generalize hg : sSeq ways fin = g
    have hq : 0 ≤ mixV ns 200 / 16 := by omega
    have f16 : fits 16 = true := fits_small (by decide) (by decide)
    have go : ∀ b : Int, okI b = false → out (g (env0 ns m x rest (mixV ns 200) (mixV ns 200 % 10) (mixV ns 200 / 16) b)) (fun _ => False) (fun d => d = .bl true) := fun b hb => by
      rw [← hg, sSeq_at]
      exact out_then (out_mono (ways_ok hq hb hx hm1 hm2 hr) (fun _ h => h) fun _ h => h.elim) fun ρ h => fin_ok h
    simp -implicitDefEqProofs [pre0, pre1, pre2, pre3, pre4, pre5, pre6, pre7, pre8, pre9, entry, callR_k hl, callR_k e2, ri, rt, f16, DD_cons, atI_0, Deed.d]
    rcases mod2 hq with e | e
    · simp -implicitDefEqProofs [e, atI_0, atI_1]
      exact go 1001 rfl
    · simp -implicitDefEqProofs [e, atI_0, atI_1]
      exact go (-1001) rfl
end VL.K43
end
section
namespace VL.K43
open VL PySem PySem.Spec PyProof.Rows L2 PX
abbrev FO (n : Str) (t : Stmt) (kV dc pm : Value) (an : Option Addr) (cd ct : Value) := W.fnOf n n (defArgs t) (defBody t) (defScope t) .none kV dc pm an cd ct
theorem all_mk {P : Program} {w : World} {K : W.Frag} {h : Heap} {mg : Str → Option Value} {fa : Addr} (X : K.In h) (G : h.Ns mainGlobals mg) (hfa : mg "law" = some (.ref fa))
    {t0 t1 t2 t3 : Tok} {pT : Addr} {odT : Option Addr} {itT : Array Value} {nT : Nat} {slT : Array (Option Value)}
    (a0 : W.nsIn K mainGlobals "is_whole" = some (some (.ref f0))) (l0 : K.lookup f0 = some ⟨oc0, od0, .func (FO "is_whole" (top 9) kV0 dc0 pm0 an0 cd0 ct0), sl0⟩) (c0 : W.codeIn K cd0 "is_whole" = true) (k0 : W.keepIn K (.ref f0) = true)
    (a1 : W.nsIn K mainGlobals "is_between" = some (some (.ref f1))) (l1 : K.lookup f1 = some ⟨oc1, od1, .func (FO "is_between" (top 10) kV1 dc1 pm1 an1 cd1 ct1), sl1⟩) (c1 : W.codeIn K cd1 "is_between" = true) (k1 : W.keepIn K (.ref f1) = true)
    (a2 : W.nsIn K mainGlobals "common_divisor" = some (some (.ref f2))) (l2 : K.lookup f2 = some ⟨oc2, od2, .func (FO "common_divisor" (top 11) kV2 dc2 pm2 an2 cd2 ct2), sl2⟩) (c2 : W.codeIn K cd2 "common_divisor" = true) (k2 : W.keepIn K (.ref f2) = true)
    (a3 : W.nsIn K mainGlobals "fraction" = some (some (.ref f3))) (l3 : K.lookup f3 = some ⟨oc3, od3, .func (FO "fraction" (top 12) kV3 dc3 pm3 an3 cd3 ct3), sl3⟩) (c3 : W.codeIn K cd3 "fraction" = true) (k3 : W.keepIn K (.ref f3) = true)
    (a4 : W.nsIn K mainGlobals "is_fraction" = some (some (.ref f4))) (l4 : K.lookup f4 = some ⟨oc4, od4, .func (FO "is_fraction" (top 13) kV4 dc4 pm4 an4 cd4 ct4), sl4⟩) (c4 : W.codeIn K cd4 "is_fraction" = true) (k4 : W.keepIn K (.ref f4) = true)
    (a5 : W.nsIn K mainGlobals "are_from_nought" = some (some (.ref f5))) (l5 : K.lookup f5 = some ⟨oc5, od5, .func (FO "are_from_nought" (top 14) kV5 dc5 pm5 an5 cd5 ct5), sl5⟩) (c5 : W.codeIn K cd5 "are_from_nought" = true) (k5 : W.keepIn K (.ref f5) = true)
    (a6 : W.nsIn K mainGlobals "is_less" = some (some (.ref f6))) (l6 : K.lookup f6 = some ⟨oc6, od6, .func (FO "is_less" (top 15) kV6 dc6 pm6 an6 cd6 ct6), sl6⟩) (c6 : W.codeIn K cd6 "is_less" = true) (k6 : W.keepIn K (.ref f6) = true)
    (a7 : W.nsIn K mainGlobals "plus" = some (some (.ref f7))) (l7 : K.lookup f7 = some ⟨oc7, od7, .func (FO "plus" (top 16) kV7 dc7 pm7 an7 cd7 ct7), sl7⟩) (c7 : W.codeIn K cd7 "plus" = true) (k7 : W.keepIn K (.ref f7) = true)
    (a8 : W.nsIn K mainGlobals "weighed" = some (some (.ref f8))) (l8 : K.lookup f8 = some ⟨oc8, od8, .func (FO "weighed" (top 17) kV8 dc8 pm8 an8 cd8 ct8), sl8⟩) (c8 : W.codeIn K cd8 "weighed" = true) (k8 : W.keepIn K (.ref f8) = true)
    (a9 : W.nsIn K mainGlobals "look_form" = some (some (.ref f9))) (l9 : K.lookup f9 = some ⟨oc9, od9, .func (FO "look_form" (top 23) kV9 dc9 pm9 an9 cd9 ct9), sl9⟩) (c9 : W.codeIn K cd9 "look_form" = true) (k9 : W.keepIn K (.ref f9) = true)
    (a10 : W.nsIn K mainGlobals "look_forms" = some (some (.ref f10))) (l10 : K.lookup f10 = some ⟨oc10, od10, .func (FO "look_forms" (top 24) kV10 dc10 pm10 an10 cd10 ct10), sl10⟩) (c10 : W.codeIn K cd10 "look_forms" = true) (k10 : W.keepIn K (.ref f10) = true)
    (a11 : W.nsIn K mainGlobals "look_deed" = some (some (.ref f11))) (l11 : K.lookup f11 = some ⟨oc11, od11, .func (FO "look_deed" (top 25) kV11 dc11 pm11 an11 cd11 ct11), sl11⟩) (c11 : W.codeIn K cd11 "look_deed" = true) (k11 : W.keepIn K (.ref f11) = true)
    (a12 : W.nsIn K mainGlobals "look_lines" = some (some (.ref f12))) (l12 : K.lookup f12 = some ⟨oc12, od12, .func (FO "look_lines" (top 26) kV12 dc12 pm12 an12 cd12 ct12), sl12⟩) (c12 : W.codeIn K cd12 "look_lines" = true) (k12 : W.keepIn K (.ref f12) = true)
    (a13 : W.nsIn K mainGlobals "look_prices" = some (some (.ref f13))) (l13 : K.lookup f13 = some ⟨oc13, od13, .func (FO "look_prices" (top 27) kV13 dc13 pm13 an13 cd13 ct13), sl13⟩) (c13 : W.codeIn K cd13 "look_prices" = true) (k13 : W.keepIn K (.ref f13) = true)
    (a14 : W.nsIn K mainGlobals "purse_behind" = some (some (.ref f14))) (l14 : K.lookup f14 = some ⟨oc14, od14, .func (FO "purse_behind" (top 28) kV14 dc14 pm14 an14 cd14 ct14), sl14⟩) (c14 : W.codeIn K cd14 "purse_behind" = true) (k14 : W.keepIn K (.ref f14) = true)
    (a15 : W.nsIn K mainGlobals "left_over" = some (some (.ref f15))) (l15 : K.lookup f15 = some ⟨oc15, od15, .func (FO "left_over" (top 29) kV15 dc15 pm15 an15 cd15 ct15), sl15⟩) (c15 : W.codeIn K cd15 "left_over" = true) (k15 : W.keepIn K (.ref f15) = true)
    (a16 : W.nsIn K mainGlobals "duties_of" = some (some (.ref f16))) (l16 : K.lookup f16 = some ⟨oc16, od16, .func (FO "duties_of" (top 30) kV16 dc16 pm16 an16 cd16 ct16), sl16⟩) (c16 : W.codeIn K cd16 "duties_of" = true) (k16 : W.keepIn K (.ref f16) = true)
    (a17 : W.nsIn K mainGlobals "with_rests" = some (some (.ref f17))) (l17 : K.lookup f17 = some ⟨oc17, od17, .func (FO "with_rests" (top 32) kV17 dc17 pm17 an17 cd17 ct17), sl17⟩) (c17 : W.codeIn K cd17 "with_rests" = true) (k17 : W.keepIn K (.ref f17) = true)
    (a18 : W.nsIn K mainGlobals "row_below" = some (some (.ref f18))) (l18 : K.lookup f18 = some ⟨oc18, od18, .func (FO "row_below" (top 33) kV18 dc18 pm18 an18 cd18 ct18), sl18⟩) (c18 : W.codeIn K cd18 "row_below" = true) (k18 : W.keepIn K (.ref f18) = true)
    (a19 : W.nsIn K mainGlobals "column_below" = some (some (.ref f19))) (l19 : K.lookup f19 = some ⟨oc19, od19, .func (FO "column_below" (top 34) kV19 dc19 pm19 an19 cd19 ct19), sl19⟩) (c19 : W.codeIn K cd19 "column_below" = true) (k19 : W.keepIn K (.ref f19) = true)
    (a20 : W.nsIn K mainGlobals "lowered" = some (some (.ref f20))) (l20 : K.lookup f20 = some ⟨oc20, od20, .func (FO "lowered" (top 35) kV20 dc20 pm20 an20 cd20 ct20), sl20⟩) (c20 : W.codeIn K cd20 "lowered" = true) (k20 : W.keepIn K (.ref f20) = true)
    (a21 : W.nsIn K mainGlobals "solved_for" = some (some (.ref f21))) (l21 : K.lookup f21 = some ⟨oc21, od21, .func (FO "solved_for" (top 36) kV21 dc21 pm21 an21 cd21 ct21), sl21⟩) (c21 : W.codeIn K cd21 "solved_for" = true) (k21 : W.keepIn K (.ref f21) = true)
    (a22 : W.nsIn K mainGlobals "shares_told" = some (some (.ref f22))) (l22 : K.lookup f22 = some ⟨oc22, od22, .func (FO "shares_told" (top 37) kV22 dc22 pm22 an22 cd22 ct22), sl22⟩) (c22 : W.codeIn K cd22 "shares_told" = true) (k22 : W.keepIn K (.ref f22) = true)
    (a23 : W.nsIn K mainGlobals "shares_or_weights" = some (some (.ref f23))) (l23 : K.lookup f23 = some ⟨oc23, od23, .func (FO "shares_or_weights" (top 38) kV23 dc23 pm23 an23 cd23 ct23), sl23⟩) (c23 : W.codeIn K cd23 "shares_or_weights" = true) (k23 : W.keepIn K (.ref f23) = true)
    (a24 : W.nsIn K mainGlobals "guards_at" = some (some (.ref f24))) (l24 : K.lookup f24 = some ⟨oc24, od24, .func (FO "guards_at" (top 40) kV24 dc24 pm24 an24 cd24 ct24), sl24⟩) (c24 : W.codeIn K cd24 "guards_at" = true) (k24 : W.keepIn K (.ref f24) = true)
    (a25 : W.nsIn K mainGlobals "bounds_by" = some (some (.ref f25))) (l25 : K.lookup f25 = some ⟨oc25, od25, .func (FO "bounds_by" (top 41) kV25 dc25 pm25 an25 cd25 ct25), sl25⟩) (c25 : W.codeIn K cd25 "bounds_by" = true) (k25 : W.keepIn K (.ref f25) = true)
    (a26 : W.nsIn K mainGlobals "worth_of" = some (some (.ref f26))) (l26 : K.lookup f26 = some ⟨oc26, od26, .func (FO "worth_of" (top 42) kV26 dc26 pm26 an26 cd26 ct26), sl26⟩) (c26 : W.codeIn K cd26 "worth_of" = true) (k26 : W.keepIn K (.ref f26) = true)
    (a27 : W.nsIn K mainGlobals "gone_far" = some (some (.ref f27))) (l27 : K.lookup f27 = some ⟨oc27, od27, .func (FO "gone_far" (top 43) kV27 dc27 pm27 an27 cd27 ct27), sl27⟩) (c27 : W.codeIn K cd27 "gone_far" = true) (k27 : W.keepIn K (.ref f27) = true)
    (a28 : W.nsIn K mainGlobals "point_of" = some (some (.ref f28))) (l28 : K.lookup f28 = some ⟨oc28, od28, .func (FO "point_of" (top 44) kV28 dc28 pm28 an28 cd28 ct28), sl28⟩) (c28 : W.codeIn K cd28 "point_of" = true) (k28 : W.keepIn K (.ref f28) = true)
    (a29 : W.nsIn K mainGlobals "paper_or_point" = some (some (.ref f29))) (l29 : K.lookup f29 = some ⟨oc29, od29, .func (FO "paper_or_point" (top 45) kV29 dc29 pm29 an29 cd29 ct29), sl29⟩) (c29 : W.codeIn K cd29 "paper_or_point" = true) (k29 : W.keepIn K (.ref f29) = true)
    (a30 : W.nsIn K mainGlobals "settled" = some (some (.ref f30))) (l30 : K.lookup f30 = some ⟨oc30, od30, .func (FO "settled" (top 46) kV30 dc30 pm30 an30 cd30 ct30), sl30⟩) (c30 : W.codeIn K cd30 "settled" = true) (k30 : W.keepIn K (.ref f30) = true)
    (a31 : W.nsIn K mainGlobals "is_so" = some (some (.ref f31))) (l31 : K.lookup f31 = some ⟨oc31, od31, .func (FO "is_so" (top 47) kV31 dc31 pm31 an31 cd31 ct31), sl31⟩) (c31 : W.codeIn K cd31 "is_so" = true) (k31 : W.keepIn K (.ref f31) = true)
    (a32 : W.nsIn K mainGlobals "shows" = some (some (.ref f32))) (l32 : K.lookup f32 = some ⟨oc32, od32, .func (FO "shows" (top 48) kV32 dc32 pm32 an32 cd32 ct32), sl32⟩) (c32 : W.codeIn K cd32 "shows" = true) (k32 : W.keepIn K (.ref f32) = true)
    (a33 : W.nsIn K mainGlobals "worth_at" = some (some (.ref f33))) (l33 : K.lookup f33 = some ⟨oc33, od33, .func (FO "worth_at" (top 49) kV33 dc33 pm33 an33 cd33 ct33), sl33⟩) (c33 : W.codeIn K cd33 "worth_at" = true) (k33 : W.keepIn K (.ref f33) = true)
    (a34 : W.nsIn K mainGlobals "fails_at" = some (some (.ref f34))) (l34 : K.lookup f34 = some ⟨oc34, od34, .func (FO "fails_at" (top 50) kV34 dc34 pm34 an34 cd34 ct34), sl34⟩) (c34 : W.codeIn K cd34 "fails_at" = true) (k34 : W.keepIn K (.ref f34) = true)
    (a35 : W.nsIn K mainGlobals "_law_cell" = some (some (.ref f35))) (l35 : K.lookup f35 = some ⟨oc35, od35, .func (FO "_law_cell" (top 52) kV35 dc35 pm35 an35 cd35 ct35), sl35⟩) (c35 : W.codeIn K cd35 "_law_cell" = true) (k35 : W.keepIn K (.ref f35) = true)
    (a36 : W.nsIn K mainGlobals "_law_mix" = some (some (.ref f36))) (l36 : K.lookup f36 = some ⟨oc36, od36, .func (FO "_law_mix" (top 53) kV36 dc36 pm36 an36 cd36 ct36), sl36⟩) (c36 : W.codeIn K cd36 "_law_mix" = true) (k36 : W.keepIn K (.ref f36) = true)
    (a37 : W.nsIn K mainGlobals "_law_form" = some (some (.ref f37))) (l37 : K.lookup f37 = some ⟨oc37, od37, .func (FO "_law_form" (top 54) kV37 dc37 pm37 an37 cd37 ct37), sl37⟩) (c37 : W.codeIn K cd37 "_law_form" = true) (k37 : W.keepIn K (.ref f37) = true)
    (a38 : W.nsIn K mainGlobals "_law_lines" = some (some (.ref f38))) (l38 : K.lookup f38 = some ⟨oc38, od38, .func (FO "_law_lines" (top 55) kV38 dc38 pm38 an38 cd38 ct38), sl38⟩) (c38 : W.codeIn K cd38 "_law_lines" = true) (k38 : W.keepIn K (.ref f38) = true)
    (a39 : W.nsIn K mainGlobals "_law_refusal" = some (some (.ref f39))) (l39 : K.lookup f39 = some ⟨oc39, od39, .func (FO "_law_refusal" (top 56) kV39 dc39 pm39 an39 cd39 ct39), sl39⟩) (c39 : W.codeIn K cd39 "_law_refusal" = true) (k39 : W.keepIn K (.ref f39) = true)
    (a40 : W.nsIn K mainGlobals "_law_told" = some (some (.ref f40))) (l40 : K.lookup f40 = some ⟨oc40, od40, .func (FO "_law_told" (top 57) kV40 dc40 pm40 an40 cd40 ct40), sl40⟩) (c40 : W.codeIn K cd40 "_law_told" = true) (k40 : W.keepIn K (.ref f40) = true)
    (a41 : W.nsIn K mainGlobals "law" = some (some (.ref f41))) (l41 : K.lookup f41 = some ⟨oc41, od41, .func (FO "law" (top 58) kV41 dc41 pm41 an41 cd41 ct41), sl41⟩) (c41 : W.codeIn K cd41 "law" = true) (k41 : W.keepIn K (.ref f41) = true)
    (i0 : W.nsIn K mainGlobals "FARTHEST" = some (some (.int 1000 t0)))
    (i1 : W.nsIn K mainGlobals "MOST_NUMBERS" = some (some (.int 4 t1)))
    (i2 : W.nsIn K mainGlobals "MOST_DEEDS" = some (some (.int 8 t2)))
    (i3 : W.nsIn K mainGlobals "MOST_GUARDS" = some (some (.int 4 t3)))
    (z0 : W.nsIn K mainGlobals "ValueError" = some none)
    (z1 : W.nsIn K mainGlobals "abs" = some none)
    (z2 : W.nsIn K mainGlobals "all" = some none)
    (z3 : W.nsIn K mainGlobals "bool" = some none)
    (z4 : W.nsIn K mainGlobals "enumerate" = some none)
    (z5 : W.nsIn K mainGlobals "int" = some none)
    (z6 : W.nsIn K mainGlobals "isinstance" = some none)
    (z7 : W.nsIn K mainGlobals "len" = some none)
    (z8 : W.nsIn K mainGlobals "list" = some none)
    (z9 : W.nsIn K mainGlobals "max" = some none)
    (z10 : W.nsIn K mainGlobals "range" = some none)
    (z11 : W.nsIn K mainGlobals "sum" = some none)
    (z12 : W.nsIn K mainGlobals "tuple" = some none)
    (z13 : W.nsIn K mainGlobals "zip" = some none)
    (aT : W.nsIn K mainGlobals "NOUGHT" = some (some (.ref pT))) (lT : K.lookup pT = some ⟨.type "tuple", odT, .seq itT nT, slT⟩) (iT : IntsAre itT.toList [0, 1])
    {qP qM qR qC qD qF : Addr} {cdF : ClassData}
    (xP : W.nsIn K mainGlobals "PurseError" = some (some (.ref qP)))
    (xM : W.nsIn K mainGlobals "BadMachine" = some (some (.ref qM)))
    (xR : W.nsIn K mainGlobals "BadRow" = some (some (.ref qR)))
    (xC : W.nsIn K mainGlobals "BadPrices" = some (some (.ref qC)))
    (xD : W.nsIn K mainGlobals "BadModel" = some (some (.ref qD)))
    (xF : W.nsIn K mainGlobals "BadForm" = some (some (.ref qF)))
    (yX : W.excIn K qF bmV "ValueError.__new__" = true) (yE : W.exmOne K (.ref qF) (.ref qP) = some true)
    (y1 : W.clsIn K qF = some cdF) (y2 : W.findIn K (.ref qF) "__getattribute__" = some (some (.builtin "BaseException.__getattribute__"))) (y7 : W.findIn K (.ref qF) "__getattr__" = some none) (y3 : W.findIn K (.ref qF) "__class__" = some (some (.builtin "object.__class__"))) (y4 : W.specialIn K (.builtin "object.__class__") "__get__" = some (some (.builtin "getset_descriptor.__get__"))) (y5 : W.takesIn K (.builtin "object.__class__") = some true) (y6 : W.mroIn K qF (.type "object") = some true) (y8 : W.mroIn K qF (.type "BaseException") = some true)
    (yM : W.kitOne K (.ref qF) (.ref qM) = some false) (yR : W.kitOne K (.ref qF) (.ref qR) = some false) (yC : W.kitOne K (.ref qF) (.ref qC) = some false) (yD : W.kitOne K (.ref qF) (.ref qD) = some false) (yF : W.kitOne K (.ref qF) (.ref qF) = some true) (yV : W.kitOne K (.ref qF) (.type "ValueError") = some true) :
    ∃ fd : FuncData, (∀ (s : Shared) (u : Value), BindsTo s fd ⟨[u], []⟩ [("_law_script", u)]) ∧ ∀ base : Heap, K.In base → base.Ns mainGlobals mg → FnOk P w K mg base (CX1 P w) 10 fa fd ["_law_script"] (spV K 1 f_law) := by
  have T : Txt K mg := ⟨W.mg_none_of X G z0, W.mg_none_of X G z1, W.mg_none_of X G z2, W.mg_none_of X G z3, W.mg_none_of X G z4, W.mg_none_of X G z5, W.mg_none_of X G z6, W.mg_none_of X G z7, W.mg_none_of X G z8, W.mg_none_of X G z9, W.mg_none_of X G z10, W.mg_none_of X G z11, W.mg_none_of X G z12, W.mg_none_of X G z13,
    ⟨t0, W.mg_of X G i0⟩, ⟨t1, W.mg_of X G i1⟩, ⟨t2, W.mg_of X G i2⟩, ⟨t3, W.mg_of X G i3⟩,
    ⟨pT, _, itT, nT, W.mg_of X G aT, lT, rfl, rfl, iT⟩,
    fnAt_mk a0 l0 c0 k0, fnAt_mk a1 l1 c1 k1, fnAt_mk a2 l2 c2 k2, fnAt_mk a3 l3 c3 k3, fnAt_mk a4 l4 c4 k4, fnAt_mk a5 l5 c5 k5, fnAt_mk a6 l6 c6 k6, fnAt_mk a7 l7 c7 k7, fnAt_mk a8 l8 c8 k8, fnAt_mk a9 l9 c9 k9, fnAt_mk a10 l10 c10 k10, fnAt_mk a11 l11 c11 k11, fnAt_mk a12 l12 c12 k12, fnAt_mk a13 l13 c13 k13, fnAt_mk a14 l14 c14 k14, fnAt_mk a15 l15 c15 k15, fnAt_mk a16 l16 c16 k16, fnAt_mk a17 l17 c17 k17, fnAt_mk a18 l18 c18 k18, fnAt_mk a19 l19 c19 k19, fnAt_mk a20 l20 c20 k20, fnAt_mk a21 l21 c21 k21, fnAt_mk a22 l22 c22 k22, fnAt_mk a23 l23 c23 k23, fnAt_mk a24 l24 c24 k24, fnAt_mk a25 l25 c25 k25, fnAt_mk a26 l26 c26 k26, fnAt_mk a27 l27 c27 k27, fnAt_mk a28 l28 c28 k28, fnAt_mk a29 l29 c29 k29, fnAt_mk a30 l30 c30 k30, fnAt_mk a31 l31 c31 k31, fnAt_mk a32 l32 c32 k32, fnAt_mk a33 l33 c33 k33, fnAt_mk a34 l34 c34 k34, fnAt_mk a35 l35 c35 k35, fnAt_mk a36 l36 c36 k36, fnAt_mk a37 l37 c37 k37, fnAt_mk a38 l38 c38 k38, fnAt_mk a39 l39 c39 k39, fnAt_mk a40 l40 c40 k40, fnAt_mk a41 l41 c41 k41, ⟨qP, qM, qR, qC, qD, qF, xP, W.mg_of X G xP, W.mg_of X G xM, W.mg_of X G xR, W.mg_of X G xC, W.mg_of X G xD, xF, W.mg_of X G xF, yX, yE, ⟨by rw [y1]; rfl, y2, y7, y3, y4, y5, y6, y8⟩, yM, yR, yC, yD, yF, yV⟩⟩
  obtain ⟨f, fd, e, hb, hF⟩ := top_mk (P := P) (w := w) T.d_law X G sc_law rfl rfl (by decide) (fun _ _ _ _ _ _ us hl => match us, hl with | [_], _ => rfl) (fun base kb nb => sb_law T base kb nb)
  have e := hfa.symm.trans e
  cases e
  exact ⟨fd, fun s u => hb s [u] rfl, hF⟩
theorem walk {l : PySem.W.OpenLaw} {q : Program} {loose : List Str} {XP : (Str → Option Value) → Heap → Prop} {YP : World → Heap → Prop} {d : DefRec} {K : Params → FG} (hn : l.most = some 63) (hdf : d.params.defaults = [])
    (hY : ∀ (w : World) (h : Heap), YP w h → (K w.params).In h)
    (F : ∀ (w : World) (mg : Str → Option Value) (fa : Addr) (h : Heap), (K w.params).In h → h.Ns mainGlobals mg → mg d.name = some (.ref fa) →
      ∃ fd : FuncData, (∀ (s : Shared) (u : Value), BindsTo s fd ⟨[u], []⟩ [("_law_script", u)]) ∧ ∀ base : Heap, (K w.params).In base → base.Ns mainGlobals mg → FnOk l.prog w (K w.params) mg base (CX1 l.prog w) 10 fa fd ["_law_script"] (spV (K w.params) 1 f_law))
    (hK : ∀ p : Params, noListK (K p) = true) : PySem.W.WalkO q loose XP YP l.row.toRowW d [] (fun f vs => PySem.call f vs) :=
  L2.walk_of (n := 63) (k := 10) (x := "_law_script") (CX := fun w => CX1 l.prog w) (sp := fun w => spV (K w.params) 1 f_law) hn (by decide) hdf ⟨rfl, by decide, by decide⟩ hY F (fun w H a ns hl _ hS => sp_true (hK w.params) r_law hS) fun _ _ _ _ _ z => cx_false z
end VL.K43
namespace PySem.W.Fast
def tw8540884125100684030:=()
def tw1978031176892535039:=()
def tw9703919332183727491:=()
def tw1585925985563077387:=()
def tw934699118668129514:=()
def tw15653718339770199071:=()
def tw1577297474542268460:=()
def tw6469666023993431629:=()
def tw79922661222252483:=()
def tw12984466852543798701:=()
def tw1467762296062803889:=()
def tw697850617821528144:=()
def tw17633348074673946453:=()
def tw14290104888614936090:=()
def tw10222826498099825408:=()
def tw4840767033559172691:=()
def tw7415959515197423843:=()
def tw16881186587171439896:=()
def tw5230410901199244069:=()
def tw12059702158542038549:=()
def tw15258634417371353797:=()
def tw6253090099046618050:=()
def tw17153048035714037460:=()
def tw9023143876001181996:=()
def tw11016102521506187256:=()
def tw4134880637064634857:=()
def tw9934099349106774380:=()
def tw13671219782452155510:=()
def tw17903128205059826810:=()
def tw6966138555987940671:=()
def tw8458907988949304165:=()
def tw8534777397085348112:=()
def tw5982543626761710702:=()
def tw14698938712050489925:=()
def tw14624941773957618323:=()
def tw12646648163927462399:=()
def tw15381090355229030978:=()
def tw4703405528811297733:=()
def tw17778288427679770189:=()
def tw8662522060855521953:=()
def tw1635989006618562047:=()
def tw5648742581013797413:=()
def tw17813829924464519362:=()
def tw11577802130264200671:=()
def tw13496031662457162362:=()
def tw14389003989128324050:=()
def tw16577269019461550534:=()
def tw10787149993430696080:=()
def tw8257965527344918437:=()
def tw8080143300435174954:=()
def tw1542166567540734003:=()
def tw9935832732870494382:=()
def tw8149879137199314429:=()
def tw12815487849484241270:=()
def tw15068522220245070075:=()
def tw10849484448442255696:=()
end PySem.W.Fast
open PySem PySem.W PyProof.Rows
set_option maxRecDepth 100000 in
set_option maxHeartbeats 0 in
theorem PySem.Challenge.cw_pursehall_k43_no_lines_holds : PySem.Challenge.rw_pursehall_k43_no_lines.Holds := by
  w_on; o_law; k_head; (case hw => w_witness2)
  k_fill
  refine VL.K43.walk (l := PySem.Challenge.rw_pursehall_k43_no_lines) rfl rfl (fun w h Y => PySem.W.kIn_of Y) ?F ?hNL
  case F =>
    intro w mg fa h KX G hmg
    refine' VL.K43.all_mk KX G hmg ?a0 ?l0 ?c0 ?k0 ?a1 ?l1 ?c1 ?k1 ?a2 ?l2 ?c2 ?k2 ?a3 ?l3 ?c3 ?k3 ?a4 ?l4 ?c4 ?k4 ?a5 ?l5 ?c5 ?k5 ?a6 ?l6 ?c6 ?k6 ?a7 ?l7 ?c7 ?k7 ?a8 ?l8 ?c8 ?k8 ?a9 ?l9 ?c9 ?k9 ?a10 ?l10 ?c10 ?k10 ?a11 ?l11 ?c11 ?k11 ?a12 ?l12 ?c12 ?k12 ?a13 ?l13 ?c13 ?k13 ?a14 ?l14 ?c14 ?k14 ?a15 ?l15 ?c15 ?k15 ?a16 ?l16 ?c16 ?k16 ?a17 ?l17 ?c17 ?k17 ?a18 ?l18 ?c18 ?k18 ?a19 ?l19 ?c19 ?k19 ?a20 ?l20 ?c20 ?k20 ?a21 ?l21 ?c21 ?k21 ?a22 ?l22 ?c22 ?k22 ?a23 ?l23 ?c23 ?k23 ?a24 ?l24 ?c24 ?k24 ?a25 ?l25 ?c25 ?k25 ?a26 ?l26 ?c26 ?k26 ?a27 ?l27 ?c27 ?k27 ?a28 ?l28 ?c28 ?k28 ?a29 ?l29 ?c29 ?k29 ?a30 ?l30 ?c30 ?k30 ?a31 ?l31 ?c31 ?k31 ?a32 ?l32 ?c32 ?k32 ?a33 ?l33 ?c33 ?k33 ?a34 ?l34 ?c34 ?k34 ?a35 ?l35 ?c35 ?k35 ?a36 ?l36 ?c36 ?k36 ?a37 ?l37 ?c37 ?k37 ?a38 ?l38 ?c38 ?k38 ?a39 ?l39 ?c39 ?k39 ?a40 ?l40 ?c40 ?k40 ?a41 ?l41 ?c41 ?k41 ?i0 ?i1 ?i2 ?i3 ?z0 ?z1 ?z2 ?z3 ?z4 ?z5 ?z6 ?z7 ?z8 ?z9 ?z10 ?z11 ?z12 ?z13 ?aT ?lT ?iT ?xP ?xM ?xR ?xC ?xD ?xF ?yX ?yE ?y1 ?y2 ?y7 ?y3 ?y4 ?y5 ?y6 ?y8 ?yM ?yR ?yC ?yD ?yF ?yV
    any_goals first | k_is | k_exc | kts_exm | kit_is
    (case iT => repeat constructor)
  case hNL => intro p; rfl
end
