import PyProof.Rows.All
import Wide.All
import OpenK.AllK
import Wide.FinOn
import PyProof.EqAt
import PyProof.EqKinds
import PyProof.TupleCall
import PyProof.TupleKey
import KE.KSortTup
import Lean
import PySem.Challenge.RW_pursehall_k21_price_shown
set_option Elab.async false
set_option maxRecDepth 100000
set_option maxHeartbeats 8000000
set_option linter.all false
set_option exponentiation.threshold 500
abbrev FG:=PySem.W.Frag
abbrev LQ:=List (Int×Int)
abbrev LI:=List (List Int)
abbrev Y9:=PySem.Value->PySem.Shared->Prop
abbrev Y8:=List (PySem.Addr×PySem.Obj)
abbrev Y7:=List (List Int×PySem.Addr)
abbrev Y6:=PySem.Str->Option PySem.Value
abbrev Y5:=List (List PySem.Addr)
abbrev Y4:=List (Option Nat)
abbrev Y3:=Array (Int×PySem.Value)
abbrev Y2:=List PySem.Addr
abbrev Y1:=List PySem.Value
abbrev Y0:=List Int
abbrev T0:=List Nat
section
namespace L2
open PySem PySem.Spec PyProof.Rows
abbrev Key:=Sum Int Str
def yO:Key->Value->Bool
 | .inl k,v=>Value.isInt k v
 | .inr x,v=>Value.isStrOf x v
def aXo (w:World):Key->Int
 | .inl k=>hashInt k
 | .inr x=>hashStr w x
theorem dC:∀ {k:Key} {v:Value},yO k v=true->(∃i t,k=Sum.inl i/\v=Value.int i t)\/(∃x t,k=Sum.inr x/\v=Value.str x t)
 | .inl i,v,h=>by
  obtain ⟨t,e⟩:=Value.isInt_shape (k:=i) (v:=v) h
  exact .inl ⟨i,t,rfl,e⟩
 | .inr x,v,h=>by
  obtain ⟨t,e⟩:=Value.isStrOf_shape (x:=x) (v:=v) h
  exact .inr ⟨x,t,rfl,e⟩
theorem aGx (i:Int) (t:Tok):yO (.inl i) (.int i t)=true:=by simp [yO,Value.isInt]
theorem aF5 (x:Str) (t:Tok):yO (.inr x) (.str x t)=true:=by simp [yO,Value.isStrOf]
theorem aQ1 (a b:Int):decide ((Sum.inl a:Key)=Sum.inl b)=(a == b):=by
 by_cases e:a=b
 ·subst e;simp
 ·have h:¬ (Sum.inl a:Key)=Sum.inl b:=fun q=>e (Sum.inl.inj q)
  rw [decide_eq_false h]
  exact (beq_eq_false_iff_ne.mpr e).symm
theorem aQr (a b:Str):decide ((Sum.inr a:Key)=Sum.inr b)=decide (a=b):=by
 by_cases e:a=b
 ·subst e;simp
 ·have h:¬ (Sum.inr a:Key)=Sum.inr b:=fun q=>e (Sum.inr.inj q)
  rw [decide_eq_false h,decide_eq_false e]
theorem aRl (a:Int) (b:Str):decide ((Sum.inl a:Key)=Sum.inr b)=false:=decide_eq_false (fun q=>nomatch q)
theorem aQh (a:Str) (b:Int):decide ((Sum.inr a:Key)=Sum.inl b)=false:=decide_eq_false (fun q=>nomatch q)
def dG (prog:Program) (w:World):PySem.KeyKind prog w Key where
 is:=yO
 hash:=aXo w
 inj:=fun v a b ha hb=>by
  rcases dC ha with ⟨i,t,rfl,rfl⟩ | ⟨x,t,rfl,rfl⟩
  ·rcases dC hb with ⟨j,u,rfl,e⟩ | ⟨y,u,rfl,e⟩
   ·injection e with e1 _;rw [e1]
   ·exact nomatch e
  ·rcases dC hb with ⟨j,u,rfl,e⟩ | ⟨y,u,rfl,e⟩
   ·exact nomatch e
   ·injection e with e1 _;rw [e1]
 byValue:=fun k v h=>by
  rcases dC h with ⟨i,t,rfl,rfl⟩ | ⟨x,t,rfl,rfl⟩<;>rfl
 pyHash:=fun hv h=>by
  rcases dC hv with ⟨i,t,rfl,rfl⟩ | ⟨x,t,rfl,rfl⟩
  ·exact wpAny_pyHash_int h
  ·exact wpAny_pyHash_str h
 eqBool:=fun hu hv h=>by
  rcases dC hu with ⟨i,t,rfl,rfl⟩ | ⟨x,t,rfl,rfl⟩
  ·rcases dC hv with ⟨j,u,rfl,rfl⟩ | ⟨y,u,rfl,rfl⟩
   ·rw [aQ1] at h;exact wpAny_eqBool_int h
   ·rw [aRl] at h;exact SeqAt.EqAt.int_str i t y u _ _ _ _ h
  ·rcases dC hv with ⟨j,u,rfl,rfl⟩ | ⟨y,u,rfl,rfl⟩
   ·rw [aQh] at h;exact SeqAt.EqAt.str_int x t j u _ _ _ _ h
   ·rw [aQr] at h;exact wpAny_eqBool_str h
 «strs» :=fun k x t v h=>by
  rcases dC h with ⟨i,u,rfl,e⟩ | ⟨y,u,rfl,e⟩
  ·exact nomatch e
  ·injection e with e1 _
   subst e1
   cases v<;>rfl
theorem aA5 (prog:Program) (w:World) (i:Int) (t:Tok):(dG prog w).is (.inl i) (.int i t)=true:=aGx i t
theorem aCh (prog:Program) (w:World) (x:Str) (t:Tok):(dG prog w).is (.inr x) (.str x t)=true:=aF5 x t
end L2
namespace L2
open PySem PySem.Spec PyProof.Rows
inductive V where
 | non | bl (b:Bool) | int (i:Int) | str (x:Str) | byt (b:Array UInt8) | flt (b:UInt64) | ref (a:Addr) | ty (n:String)
 deriving DecidableEq
def RelV:V->Value->Prop
 | .non,u=>u=Value.none
 | .bl b,u=>u=Value.bool b
 | .int i,u=>∃t,u=Value.int i t
 | .str x,u=>∃t,u=Value.str x t
 | .byt b,u=>∃t,u=Value.bytes b t
 | .flt b,u=>∃t,u=Value.float b t
 | .ref a,u=>u=Value.ref a
 | .ty n,u=>u=Value.type n
abbrev Vals:List V->Y1->Prop:=Paired RelV
theorem Vals.length {xs:List V} {us:Y1} (r:Vals xs us):xs.length=us.length:=Paired.length r
theorem Vals.get:∀ {xs:List V} {us:Y1} {i:Nat} {x:V},Vals xs us->xs[i]?=some x->∃u,us[i]?=some u/\RelV x u
 | _,_,_,_,.nil,e=>by simp at e
 | _,_,0,_,.cons r _,e=>by simp at e;subst e;exact ⟨_,rfl,r⟩
 | _,_,i+1,x,.cons _ t,e=>by
  obtain ⟨u,h1,h2⟩:=Vals.get (i:=i) (x:=x) t (by simpa using e)
  exact ⟨u,by simpa using h1,h2⟩
theorem Vals.set {x:V} {u:Value} (r:RelV x u):∀ {xs:List V} {us:Y1} (i:Nat),Vals xs us->Vals (xs.set i x) (us.set i u)
 | _,_,_,.nil=>.nil
 | _,_,0,.cons _ t=>.cons r t
 | _,_,i+1,.cons q t=>.cons q (Vals.set r i t)
theorem Vals.append:∀ {xs ys:List V} {us ws:Y1},Vals xs us->Vals ys ws->Vals (xs++ys) (us++ws)
 | _,_,_,_,.nil,s=>s
 | _,_,_,_,.cons r t,s=>.cons r (Vals.append t s)
theorem Vals.take:∀ {xs:List V} {us:Y1} (n:Nat),Vals xs us->Vals (xs.take n) (us.take n)
 | _,_,0,_=>.nil
 | _,_,_+1,.nil=>.nil
 | _,_,n+1,.cons r t=>.cons r (Vals.take n t)
theorem Vals.drop:∀ {xs:List V} {us:Y1} (n:Nat),Vals xs us->Vals (xs.drop n) (us.drop n)
 | _,_,0,r=>r
 | _,_,_+1,.nil=>.nil
 | _,_,n+1,.cons _ t=>Vals.drop n t
def vO:Option V->Option Value->Prop
 | some v,some u=>RelV v u
 | none,none=>True
 | _,_=>False
def KV {κ:Type}:List (κ×V)->List (κ×Value)->Prop:=Paired fun (p:κ×V) (q:κ×Value)=>p.1=q.1/\RelV p.2 q.2
def kV:Key->V
 | .inl i=>.int i
 | .inr x=>.str x
inductive HO where
 | lst (xs:List V)
 | tup (xs:List V)
 | dK (kvs:List (Key×V)) | dT (kvs:List (List Key×V))
 | set (S:Int->Bool) (n:Nat)
 | ins (C dx:Addr) (fs:List (Str×V))
 | own (x:Addr)
 | xd (fs:List (Str×V))
 | met (f x:Addr)
 | rng (lo hi:Int)
 | frz (o:Obj) (u:HO)
 | tbl (ps:Array Value)
 | ext (φ:Heap->Prop)
abbrev Hp:=Addr->Option HO
def upd (H:Hp) (a:Addr) (o:HO):Hp:=fun b=>if b=a then some o else H b
theorem bN {H:Hp} {a:Addr} {o:HO}:upd H a o a=some o:=by unfold upd;rw [if_pos rfl]
theorem aZ {H:Hp} {a b:Addr} {o:HO} (h:b ≠ a):upd H a o b=H b:=by unfold upd;rw [if_neg h]
theorem aVa {H:Hp} {a b:Addr} {o u:HO} (h:H a=some o) (h':H b=some u) (d:o ≠ u):a ≠ b:=by
 intro e;subst e;rw [h] at h';exact d (Option.some.inj h')
theorem bM {H:Hp} {a b:Addr} {o:HO} (h:H a=some o) (h':H b=none):a ≠ b:=by
 intro e;subst e;rw [h] at h';cases h'
section
variable (P:Program) (w:World)
def cV (H:Hp) (h:Heap) (a:Addr):HO->Prop
 | .lst xs=>xs.length<=sizeLine/\∃(its:Y1) (n:Nat),Vals xs its/\h.get? a=some { cls:=.type "list",data:=.seq its.toArray n }
 | .tup xs=>xs.length<=sizeLine/\∃its:Y1,Vals xs its/\IsTup h a its.toArray
 | .dK kvs=>kvs.length<=sizeLine/\(a == sysModules)=false/\∃vs,KV kvs vs/\h.DictOf (dG P w) a vs
 | .dT kvs=>kvs.length<=sizeLine/\(a == sysModules)=false/\∃xs:List (List Key×Addr×Value),
   Paired (fun (p:List Key×V) (q:List Key×Addr×Value)=>p.1=q.1/\H q.2.1=some (.tup (p.1.map kV))/\RelV p.2 q.2.2) kvs xs /\
   ∃o es ep,h.get? a=some o/\o.ExactDict/\o.data=.dict es ep/\es.toList=xs.map (entryOfKey (tupleKind (dG P w)))/\(xs.map (·.1)).Nodup
 | .set S n=>h.SetOf (intKind P w) a S n
 | .ins C dx fs=>H dx=some (.own a)/\fs.length<=1000/\dx ≠ a/\h.get? a=some (PySem.W.instObj C dx) /\
   ∃mA,h.Ns1 dx mA/\(∀f,vO (fs.lookup f) (mA f))/\PySem.Within mA (fs.map (·.1))
 | .own _=>∃o,h.get? a=some o
 | .xd fs=>∃mA,h.Ns1 a mA/\∀f,vO (fs.lookup f) (mA f)
 | .rng lo hi=>∃t u v,h.get? a=some { cls:=.type "range",data:=.fields #[.int lo t,.int hi u,.int 1 v] }
 | .frz o u=>h.get? a=some o/\cV H h a u
 | .tbl ps=>h.get? a=some { cls:=.none,data:=.fields ps }
 | .met f x=>h.get? a=some (PySem.W.methodObj (.ref f) (.ref x))
 | .ext φ=>φ h/\(∃o,h.get? a=some o)/\∀h1 h2:Heap,φ h1->(∀o,h1.get? a=some o->h2.get? a=some o)->φ h2
def HOk (H:Hp) (h:Heap):Prop:=∀a o,H a=some o->cV P w H h a o
end
section
variable {P:Program} {w:World} {H H':Hp} {h h':Heap} {a:Addr} {o:HO}
theorem cV.lt (x:cV P w H h a o):a<h.objs.size:=by
 cases o with
 | lst xs=>obtain ⟨_,_,_,_,e⟩:=x;exact Heap.lt_size e
 | tup xs=>obtain ⟨_,_,_,p⟩:=x;exact p.lt
 | dK kvs=>obtain ⟨_,_,_,_,o,_,_,e,_⟩:=x;exact Heap.lt_size e
 | dT kvs=>obtain ⟨_,_,_,_,o,_,_,e,_⟩:=x;exact Heap.lt_size e
 | set S n=>obtain ⟨o,_,_,_,e,_⟩:=x;exact Heap.lt_size e
 | ins C dx fs=>obtain ⟨_,_,_,e,_⟩:=x;exact Heap.lt_size e
 | own y=>obtain ⟨_,e⟩:=x;exact Heap.lt_size e
 | xd fs=>obtain ⟨_,⟨_,_,_,e,_⟩,_⟩:=x;exact Heap.lt_size e
 | rng lo hi=>obtain ⟨_,_,_,e⟩:=x;exact Heap.lt_size e
 | frz ob u=>obtain ⟨e,_⟩:=x;exact Heap.lt_size e
 | tbl ps=>exact Heap.lt_size (show h.get? a=some _ from x)
 | met f y=>exact Heap.lt_size (show h.get? a=some _ from x)
 | ext φ=>obtain ⟨_,⟨_,e⟩,_⟩:=x;exact Heap.lt_size e
theorem Paired.aS3 {α β:Type} {F G:α->β->Prop}:∀ {l₁:List α} {l₂:List β},Paired F l₁ l₂->(∀a b,F a b->G a b)->Paired G l₁ l₂
 | _,_,.nil,_=>.nil
 | _,_,.cons r t,f=>.cons (f _ _ r) (Paired.aS3 t f)
theorem cV.stay (x:cV P w H h a o) (k:∀b u,(b=a\/H b=some (.own a))->h.get? b=some u->h'.get? b=some u)
  (ho:∀b,H b=some (.own a)->H' b=some (.own a)) (ht:∀b xs,H b=some (.tup xs)->H' b=some (.tup xs)):cV P w H' h' a o:=by
 induction o with
 | lst xs=>obtain ⟨z,its,n,r,e⟩:=x;exact ⟨z,its,n,r,k _ _ (.inl rfl) e⟩
 | tup xs=>obtain ⟨z,its,r,ob,e,c⟩:=x;exact ⟨z,its,r,ob,k _ _ (.inl rfl) e,c⟩
 | dK kvs=>obtain ⟨z,y,vs,r,ob,es,ep,e,c⟩:=x;exact ⟨z,y,vs,r,ob,es,ep,k _ _ (.inl rfl) e,c⟩
 | dT kvs =>
  obtain ⟨z,y,xs,r,ob,es,ep,e,c⟩:=x
  exact ⟨z,y,xs,Paired.aS3 r fun p q z=>⟨z.1,ht _ _ z.2.1,z.2.2⟩,ob,es,ep,k _ _ (.inl rfl) e,c⟩
 | set S n=>obtain ⟨ob,es,ep,t,e,c⟩:=x;exact ⟨ob,es,ep,t,k _ _ (.inl rfl) e,c⟩
 | ins C dx fs =>
  obtain ⟨d,z,ne,e,mA,⟨od,es,ep,e2,c⟩,r⟩:=x
  exact ⟨ho _ d,z,ne,k _ _ (.inl rfl) e,mA,⟨od,es,ep,k _ _ (.inr d) e2,c⟩,r⟩
 | own y=>obtain ⟨ob,e⟩:=x;exact ⟨ob,k _ _ (.inl rfl) e⟩
 | xd fs=>obtain ⟨mA,⟨od,es,ep,e,c⟩,r⟩:=x;exact ⟨mA,⟨od,es,ep,k _ _ (.inl rfl) e,c⟩,r⟩
 | rng lo hi=>obtain ⟨t,u,v,e⟩:=x;exact ⟨t,u,v,k _ _ (.inl rfl) e⟩
 | frz ob u ih=>obtain ⟨e,q⟩:=x;exact ⟨k _ _ (.inl rfl) e,ih q⟩
 | tbl ps =>
  have e:h.get? a=some { cls:=.none,data:=.fields ps }:=x
  show h'.get? a=some { cls:=.none,data:=.fields ps }
  exact k a _ (.inl rfl) e
 | met f y =>
  have e:h.get? a=some (PySem.W.methodObj (.ref f) (.ref y)):=x
  show h'.get? a=some (PySem.W.methodObj (.ref f) (.ref y))
  exact k a _ (.inl rfl) e
 | ext φ=>obtain ⟨p,⟨o,e⟩,st⟩:=x;exact ⟨st _ _ p fun o q=>k _ _ (.inl rfl) q,⟨o,k _ _ (.inl rfl) e⟩,st⟩
theorem HOk.lt (x:HOk P w H h) (e:H a=some o):a<h.objs.size:=(x a o e).lt
theorem HOk.fresh (x:HOk P w H h) (e:h.objs.size<=a):H a=none:=by
 cases q:H a with
 | none=>rfl
 | some u=>exact absurd (Nat.lt_of_lt_of_le (x.lt q) e) (Nat.lt_irrefl _)
theorem HOk.kept (x:HOk P w H h) (k:∀b u,h.get? b=some u->h'.get? b=some u):HOk P w H h':=fun a o e =>
 (x a o e).stay (fun b u _ q=>k b u q) (fun _ q=>q) fun _ _ q=>q
theorem HOk.laid (x:HOk P w H h) (k:∀b u,h.get? b=some u->h'.get? b=some u) (hp:h.objs.size<=a) (new:cV P w (upd H a o) h' a o):HOk P w (upd H a o) h':=fun b u e=>by
 have hn:=x.fresh hp
 by_cases hb:b=a
 ·subst hb;rw [bN] at e;cases e;exact new
 ·rw [aZ hb] at e
  exact (x b u e).stay (fun c v _ q=>k c v q) (fun c q=>by rw [aZ (bM q hn)];exact q) fun c xs q=>by rw [aZ (bM q hn)];exact q
end
def Rd (H:Hp) (a:Addr) (u:HO):Prop:=H a=some u\/∃o,H a=some (.frz o u)
theorem Rd.ok {P:Program} {w:World} {H:Hp} {h:Heap} {a:Addr} {u:HO} (r:Rd H a u) (x:HOk P w H h):cV P w H h a u:=by
 rcases r with r | ⟨o,r⟩
 ·exact x a u r
 ·obtain ⟨_,q⟩:=x a _ r
  exact q
def Mut:Option HO->Prop
 | some (.lst _)=>True
 | some (.dK _)=>True
 | some (.dT _)=>True
 | some (.set _ _)=>True
 | some (.ins _ _ _)=>True
 | some (.ext _)=>True
 | _=>False
section
variable {P:Program} {w:World} {H:Hp} {h h':Heap} {x e:Addr} {o':HO}
theorem HOk.write (ok:HOk P w H h) (mu:Mut (H x)) (he:e=x\/H e=some (.own x)) (k:∀b u,b ≠ e->h.get? b=some u->h'.get? b=some u) (heo:∃u,h'.get? e=some u)
  (new:cV P w (upd H x o') h' x o'):HOk P w (upd H x o') h':=fun b u q=>by
 have nown:∀c y,H c=some (.own y)->c ≠ x:=fun c y r z=>by subst z;rw [r] at mu;exact mu
 have ntup:∀c xs,H c=some (.tup xs)->c ≠ x:=fun c xs r z=>by subst z;rw [r] at mu;exact mu
 by_cases hb:b=x
 ·subst hb;rw [bN] at q;cases q;exact new
 ·rw [aZ hb] at q
  by_cases hbe:b=e
  ·have q':H b=some (.own x):=by
    rcases he with z | z
    ·exact absurd (hbe.trans z) hb
    ·rw [hbe];exact z
   rw [q] at q';cases q'
   obtain ⟨v,hv⟩:=heo
   exact ⟨v,by rw [hbe];exact hv⟩
  ·refine (ok b u q).stay (fun c v hc r=>k c v ?_ r) (fun c r=>by rw [aZ (nown c b r)];exact r) fun c xs r=>by rw [aZ (ntup c xs r)];exact r
   rcases hc with rfl | hc
   ·exact hbe
   ·rintro rfl
    rcases he with z | z
    ·exact nown c b hc z
    ·rw [hc] at z;cases z;exact hb rfl
end
structure Un (fs ex:Y2) (H H':Hp) (h h':Heap):Prop where
 keep:∀b o,h.get? b=some o->H b=none->b ∉ fs->b ∉ ex->h'.get? b=some o
 slot:∀b o,h.get? b=some o->H b=none->b∈fs->b ∉ ex->∃sl,h'.get? b=some { o with slots:=sl }
 free:∀b o,h.get? b=some o->H b=none->b ∉ ex->H' b=none
 there:∀b o,h.get? b=some o->b ∉ ex->∃o',h'.get? b=some o'
 tups:∀b xs,H b=some (.tup xs)->H' b=some (.tup xs)
 frzs:∀b o u,H b=some (.frz o u)->H' b=some (.frz o u)
 tbls:∀b ps,H b=some (.tbl ps)->∃more,H' b=some (.tbl (ps++more))
section
variable {fs fs' ex ex':Y2} {H H1 H2:Hp} {h h1 h2 h':Heap} {a x e:Addr} {o:HO}
theorem Un.any (u:Un fs ex H H1 h h1) {b:Addr} {ob:Obj} (q:h.get? b=some ob) (n:H b=none) (hx:b ∉ ex):∃sl,h1.get? b=some { ob with slots:=sl }:=by
 by_cases hb:b∈fs
 ·exact u.slot b ob q n hb hx
 ·exact ⟨ob.slots,u.keep b ob q n hb hx⟩
theorem Un.trans (a:Un fs ex H H1 h h1) (b:Un fs ex H1 H2 h1 h2):Un fs ex H H2 h h2 where
 keep:=fun c ob q n hc hx=>b.keep c ob (a.keep c ob q n hc hx) (a.free c ob q n hx) hc hx
 slot:=fun c ob q n hc hx=>by
  obtain ⟨sl,e1⟩:=a.slot c ob q n hc hx
  obtain ⟨sl',e2⟩:=b.slot c _ e1 (a.free c ob q n hx) hc hx
  exact ⟨sl',e2⟩
 free:=fun c ob q n hx=>by
  obtain ⟨o',e1⟩:=a.there c ob q hx
  exact b.free c o' e1 (a.free c ob q n hx) hx
 there:=fun c ob q hx=>by
  obtain ⟨o',e1⟩:=a.there c ob q hx
  exact b.there c o' e1 hx
 tups:=fun c xs q=>b.tups c xs (a.tups c xs q)
 frzs:=fun c ob xs q=>b.frzs c ob xs (a.frzs c ob xs q)
 tbls:=fun c ps q=>by
  obtain ⟨m1,e1⟩:=a.tbls c ps q
  obtain ⟨m2,e2⟩:=b.tbls c _ e1
  exact ⟨m1++m2,by rw [e2,Array.append_assoc]⟩
theorem Un.kept (k:∀b u,h.get? b=some u->h'.get? b=some u):Un fs ex H H h h' :=
 ⟨fun b ob q _ _ _=>k b ob q,fun b ob q _ _ _=>⟨ob.slots,k b ob q⟩,fun _ _ _ n _=>n,fun b ob q _=>⟨ob,k b ob q⟩,fun _ _ q=>q,fun _ _ _ q=>q,fun _ ps q=>⟨#[],by rw [q];simp⟩⟩
theorem Un.refl:Un fs ex H H h h:=Un.kept fun _ _ q=>q
theorem Un.laid (k:∀b u,h.get? b=some u->h'.get? b=some u) (hp:h.objs.size<=a) (hn:H a=none):Un fs ex H (upd H a o) h h' where
 keep:=fun b u q _ _ _=>k b u q
 slot:=fun b u q _ _ _=>⟨u.slots,k b u q⟩
 free:=fun b u q n _=>by rw [aZ (Nat.ne_of_lt (Nat.lt_of_lt_of_le (Heap.lt_size q) hp))];exact n
 there:=fun b u q _=>⟨u,k b u q⟩
 tups:=fun b xs q=>by rw [aZ (bM q hn)];exact q
 frzs:=fun b u xs q=>by rw [aZ (bM q hn)];exact q
 tbls:=fun b ps q=>⟨#[],by rw [aZ (bM q hn),q];simp⟩
theorem Un.write (mu:Mut (H x)) (he:e=x\/H e=some (.own x)) (k:∀b u,b ≠ e->h.get? b=some u->h'.get? b=some u) (heo:∃u,h'.get? e=some u):Un fs ex H (upd H x o) h h':=by
 have hx:∀b,H b=none->b ≠ x:=fun b n z=>by subst z;rw [n] at mu;exact mu
 have hb:∀b,H b=none->b ≠ e:=fun b n z=>by
  subst z
  rcases he with r | r
  ·exact hx b n r
  ·rw [n] at r;cases r
 have hm:∀b u,H b=some u->¬ Mut (some u)->b ≠ x:=fun b u q nm z=>by subst z;rw [q] at mu;exact nm mu
 refine ⟨fun b u q n _ _=>k b u (hb b n) q,fun b u q n _ _=>⟨u.slots,k b u (hb b n) q⟩,fun b u q n _=>by rw [aZ (hx b n)];exact n,fun b u q _=>?_,
  fun b xs q=>by rw [aZ (hm b _ q fun z=>z)];exact q,fun b u xs q=>by rw [aZ (hm b _ q fun z=>z)];exact q,fun b ps q=>⟨#[],by rw [aZ (hm b _ q fun z=>z),q];simp⟩⟩
 by_cases hbe:b=e
 ·subst hbe;exact heo
 ·exact ⟨u,k b u hbe q⟩
end
def trk (h:Heap) (H:Hp):Y2:=(List.range h.objs.size).filter fun a=>(H a).isSome
def zF (h:Heap) (H:Hp):Heap:=PySem.W.hideAll h (trk h H)
theorem aGl (h:Heap) (H:Hp):(zF h H).objs.size=h.objs.size:=PySem.W.hideAll_size _ _
theorem aH5 {h:Heap} {H:Hp} {b:Addr} {o:Obj} (e:h.get? b=some o) (n:H b=none):(zF h H).get? b=some o :=
 PySem.W.hideAll_get _ e fun hm=>by
  have q:(H b).isSome=true:=(List.mem_filter.mp hm).2
  rw [n] at q;simp at q
theorem aL4 {h:Heap} {H:Hp} {b:Addr} {o:Obj} (e:(zF h H).get? b=some o):h.get? b=some o/\H b=none:=by
 have e':h.get? b=some o:=PySem.W.of_hideAll (trk h H) e
 refine ⟨e',?_⟩
 cases q:H b with
 | none=>rfl
 | some x =>
  have hm:b∈trk h H:=List.mem_filter.mpr ⟨List.mem_range.mpr (Heap.lt_size e'),by simp [q]⟩
  have z:(zF h H).get? b=none:=PySem.W.hideAll_none (trk h H) hm
  rw [z] at e;cases e
end L2
namespace L2
open PySem PySem.Spec PyProof.Rows
structure Mod (K:FG) (mg:Y6) (base:Heap):Prop where
 kin:K.In base
 glob:base.Ns mainGlobals mg
 blt:∃mb,base.Ns builtinsNs mb/\∀x:Str,x ≠ "__name__" ->mb x=bootBuiltins x
 nolimit:base.NoLimit
structure Cx where
 prog:Program
 w:World
 K:FG
 mg:Str->Option Value
 base:Heap
 A:Around
 N:List Str
 s₀:Shared
 H₀:Hp
 env:Env
 outer:List Env
 stack:List Env
 ex:Y2
 fn:Str->Bool
 calm:Bool
 pn:Y8
 xe:Value->Shared->Prop
def frs (l:List Env):Y2:=l.filterMap (·.frame)
abbrev Cx.fs (X:Cx):Y2:=frs X.outer
def Vis (sc:Scope) (x:Str):Prop:=sc.names.lookup x=some .local\/sc.names.lookup x=some .cell\/sc.names.lookup x=some .free
def Loc (sc:Scope) (x:Str):Prop:=sc.names.lookup x=some .local\/sc.names.lookup x=some .cell
def Look (env:Env) (h:Heap) (m:Y6) (x:Str) (u:Value):Prop :=
 (env.kindOf x=some .local/\m x=some u)\/((env.kindOf x=some .cell\/env.kindOf x=some .free)/\∃c,env.cells.lookup x=some c/\h.IsCell c (some u))
structure Cx.Ok (X:Cx):Prop where
 mod:Mod X.K X.mg X.base
 kind:X.env.scope.kind=.function
 glob:X.env.globals=mainGlobals
 blt:X.env.builtins=builtinsNs
 above:X.s₀.heap.objs.size<=X.env.locals
 inj:∀x y c,X.env.cells.lookup x=some c->X.env.cells.lookup y=some c->x=y
 has:∀x,(X.env.kindOf x=some .cell\/X.env.kindOf x=some .free)->∃c,X.env.cells.lookup x=some c
 cab:∀x c,X.fn x=true->X.env.cells.lookup x=some c->X.s₀.heap.objs.size<=c
 hd:X.calm=true->X.A.handled=none
 frames:X.A.frames=some X.stack
 stk:X.stack=X.outer\/(X.stack=X.env::X.outer/\X.env.frame=some X.env.locals)
 exf:∀b∈X.ex,b ≠ X.env.locals/\∀x c,X.env.cells.lookup x=some c->c ≠ b
 bs:∀b o,X.base.get? b=some o->X.s₀.heap.get? b=some o/\X.H₀ b=none
 bsz:X.base.objs.size<=X.s₀.heap.objs.size
 noex:∀b o,X.base.get? b=some o->b ∉ X.ex
 exfs:∀b∈X.ex,b ∉ X.fs
 funs:X.s₀.heap.FunFrames X.base X.outer
 frf:∀b∈X.fs,X.H₀ b=none
structure Inv (X:Cx) (pins:Y8) (σ:List (Option V)) (H:Hp) (s:Shared):Prop where
 ok:X.Ok
 os:s.os=X.s₀.os
 bare:AllBare s.gens
 base:Un X.fs X.ex X.H₀ H X.s₀.heap s.heap
 loc:∃m,s.heap.Ns X.env.locals m/\∀(i:Nat) (x:Str) (v:V),X.N[i]?=some x->σ[i]?=some (some v)->Vis X.env.scope x->∃u,RelV v u/\Look X.env s.heap m x u
 cell:∀x c,X.env.cells.lookup x=some c->∃v,s.heap.IsCell c v
 free:H X.env.locals=none
 freeC:∀x c,X.env.cells.lookup x=some c->H c=none
 pin:∀p∈X.pn++pins,s.heap.get? p.1=some p.2/\H p.1=none/\p.1 ≠ X.env.locals/\p.1 ∉ X.fs/\∀v,p.2.data ≠ .cell v
 hok:HOk X.prog X.w H s.heap
 len:σ.length=X.N.length
section
variable {X:Cx} {pins:Y8} {σ:List (Option V)} {H H':Hp} {s:Shared} {h':Heap}
theorem Cx.Ok.aX4 (ok:X.Ok) {b:Addr} {o:Obj} (e:X.base.get? b=some o):b ∉ X.fs:=fun hb=>by
 have:=(ok.funs.mem hb).1
 rw [e] at this;cases this
theorem Inv.bs (I:Inv X pins σ H s):∀b o,X.base.get? b=some o->s.heap.get? b=some o/\H b=none:=fun b o e =>
 ⟨I.base.keep b o (I.ok.bs b o e).1 (I.ok.bs b o e).2 (I.ok.aX4 e) (I.ok.noex b o e),I.base.free b o (I.ok.bs b o e).1 (I.ok.bs b o e).2 (I.ok.noex b o e)⟩
theorem Inv.bk (I:Inv X pins σ H s):∀b o,X.base.get? b=some o->s.heap.get? b=some o:=fun b o e=>(I.bs b o e).1
theorem Inv.mod (I:Inv X pins σ H s):Mod X.K X.mg X.base:=I.ok.mod
theorem Inv.kIn (I:Inv X pins σ H s):X.K.In s.heap:=I.ok.mod.kin.keeps I.bk
theorem Inv.lt (I:Inv X pins σ H s):X.env.locals<s.heap.objs.size:=let ⟨_,hn,_⟩:=I.loc;hn.lt
theorem Inv.sz (I:Inv X pins σ H s):X.s₀.heap.objs.size<=s.heap.objs.size:=Nat.le_trans I.ok.above (Nat.le_of_lt I.lt)
theorem Inv.aX7 (I:Inv X pins σ H s) {a:Addr} (h:s.heap.objs.size<=a):a ∉ X.fs:=fun hb=>by
 obtain ⟨_,o,ho,_⟩:=I.ok.funs.mem hb
 exact absurd (Nat.lt_of_lt_of_le (Heap.lt_size ho) (Nat.le_trans I.sz h)) (Nat.lt_irrefl _)
theorem Inv.cne (I:Inv X pins σ H s):∀x c,X.env.cells.lookup x=some c->c ≠ X.env.locals:=fun x c e z=>by
 obtain ⟨v,o,ho,hd⟩:=I.cell x c e
 obtain ⟨m,⟨o',es,ep,ho',hd',_⟩,_⟩:=I.loc
 rw [z,ho'] at ho;cases ho;rw [hd'] at hd;cases hd
theorem Inv.funs (I:Inv X pins σ H s):s.heap.FunFrames X.base X.outer:=by
 have all:∀(l:List Env),(∀b∈frs l,b∈X.fs)->X.s₀.heap.FunFrames X.base l->s.heap.FunFrames X.base l:=by
  intro l
  induction l with
  | nil=>intro _ _;trivial
  | cons env r ih =>
   intro hs hl
   obtain ⟨hk,⟨L,o,hf,hn,ho,hd⟩,hr⟩:=hl
   have hL:L∈X.fs:=hs L (by unfold frs;rw [List.filterMap_cons,hf];exact List.mem_cons_self)
   obtain ⟨sl,e⟩:=I.base.slot L o ho (I.ok.frf L hL) hL fun z=>I.ok.exfs L z hL
   exact ⟨hk,⟨L,_,hf,hn,e,hd⟩,ih (fun b hb=>hs b (by unfold frs;rw [List.filterMap_cons,hf];exact List.mem_cons_of_mem _ hb)) hr⟩
 exact all X.outer (fun _ hb=>hb) I.ok.funs
theorem Inv.stack (I:Inv X pins σ H s):s.heap.FunFrames X.base X.stack:=by
 rcases I.ok.stk with e | ⟨e,hf⟩
 ·rw [e];exact I.funs
 ·rw [e]
  obtain ⟨m,hn,_⟩:=I.loc
  refine .cons (by rw [I.ok.kind];decide) hf hn ?_ I.funs
  exact Heap.get?_none_of_le (Nat.le_trans I.ok.bsz I.ok.above)
theorem Inv.aAx (I:Inv X pins σ H s):∀b∈frs X.stack,b∈X.env.locals::X.fs:=fun b hb=>by
 rcases I.ok.stk with e | ⟨e,hf⟩
 ·rw [e] at hb;exact List.mem_cons_of_mem _ hb
 ·rw [e] at hb
  unfold frs at hb
  rw [List.filterMap_cons,hf] at hb
  exact hb
theorem Inv.tU (I:Inv X pins σ H s):∀b∈frs X.stack,H b=none:=fun b hb=>by
 rcases List.mem_cons.mp (I.aAx b hb) with e | hb
 ·rw [e];exact I.free
 ·obtain ⟨_,o,ho,_⟩:=I.ok.funs.mem hb
  exact I.base.free b o ho (I.ok.frf b hb) fun z=>I.ok.exfs b z hb
theorem Inv.step {g':Array GenState} {t':Nat} {d':Drawn} {ch:Y2} (I:Inv X pins σ H s)
  (hch:∀b∈ch,(b∈X.ex\/X.s₀.heap.objs.size<=b)/\b ≠ X.env.locals/\(∀x c,X.env.cells.lookup x=some c->c ≠ b)/\∀p∈X.pn++pins,p.1 ≠ b)
  (keep:∀b o,b ≠ X.env.locals->b ∉ X.fs->b ∉ ch->s.heap.get? b=some o->H b=none->h'.get? b=some o)
  (slot:∀b o,b ≠ X.env.locals->b∈X.fs->b ∉ ch->s.heap.get? b=some o->H b=none->∃sl,h'.get? b=some { o with slots:=sl }) (free:∀b o,b ∉ ch->s.heap.get? b=some o->H b=none->H' b=none)
  (there:∀b o,b ∉ ch->s.heap.get? b=some o->∃o',h'.get? b=some o')
  (tups:∀b xs,H b=some (.tup xs)->H' b=some (.tup xs)) (frzs:∀b o u,H b=some (.frz o u)->H' b=some (.frz o u)) (tbls:∀b ps,H b=some (.tbl ps)->∃more,H' b=some (.tbl (ps++more)))
  (ns:∀m,s.heap.Ns X.env.locals m->h'.Ns X.env.locals m) (hok:HOk X.prog X.w H' h') (hg:AllBare g') :
  Inv X pins σ H' { s with heap:=h',gens:=g',drawn:=d',toks:=t' }:=by
 have neL:∀b o,X.s₀.heap.get? b=some o->b ≠ X.env.locals:=fun b o e=>Nat.ne_of_lt (Nat.lt_of_lt_of_le (Heap.lt_size e) I.ok.above)
 have neC:∀b o,X.s₀.heap.get? b=some o->b ∉ X.ex->b ∉ ch:=fun b o e hx hb=>by
  rcases (hch b hb).1 with z | z
  ·exact hx z
  ·exact absurd (Nat.lt_of_lt_of_le (Heap.lt_size e) z) (Nat.lt_irrefl _)
 have cellK:∀x c,X.env.cells.lookup x=some c->∀v,s.heap.IsCell c v->h'.IsCell c v:=fun x c e v ⟨o,ho,hd⟩=>by
  have nch:c ∉ ch:=fun z=>(hch c z).2.2.1 x c e rfl
  by_cases hc:c∈X.fs
  ·obtain ⟨sl,q⟩:=slot c o (I.cne x c e) hc nch ho (I.freeC x c e)
   exact ⟨_,q,hd⟩
  ·exact ⟨o,keep c o (I.cne x c e) hc nch ho (I.freeC x c e),hd⟩
 refine ⟨I.ok,I.os,hg,⟨fun b o e n hb hx=>?_,fun b o e n hb hx=>?_,fun b o e n hx=>?_,fun b o e hx=>?_,fun b xs e=>tups b xs (I.base.tups b xs e),fun b o xs e=>frzs b o xs (I.base.frzs b o xs e),fun b ps e=>?_⟩,?_,fun x c e=>?_,?_,fun x c e=>?_,fun p hp=>?_,hok,I.len⟩
 ·exact keep b o (neL b o e) hb (neC b o e hx) (I.base.keep b o e n hb hx) (I.base.free b o e n hx)
 ·obtain ⟨sl,e1⟩:=I.base.slot b o e n hb hx
  obtain ⟨sl',e2⟩:=slot b _ (neL b o e) hb (neC b o e hx) e1 (I.base.free b o e n hx)
  exact ⟨sl',e2⟩
 ·obtain ⟨o',e1⟩:=I.base.there b o e hx
  exact free b o' (neC b o e hx) e1 (I.base.free b o e n hx)
 ·obtain ⟨o',e1⟩:=I.base.there b o e hx
  exact there b o' (neC b o e hx) e1
 ·obtain ⟨m1,e1⟩:=I.base.tbls b ps e
  obtain ⟨m2,e2⟩:=tbls b _ e1
  exact ⟨m1++m2,by rw [e2,Array.append_assoc]⟩
 ·obtain ⟨m,hn,hl⟩:=I.loc
  refine ⟨m,ns m hn,fun i x v e1 e2 e3=>?_⟩
  obtain ⟨u,r,l⟩:=hl i x v e1 e2 e3
  refine ⟨u,r,?_⟩
  rcases l with l | ⟨k,c,e,z⟩
  ·exact .inl l
  ·exact .inr ⟨k,c,e,cellK x c e _ z⟩
 ·obtain ⟨v,z⟩:=I.cell x c e
  exact ⟨v,cellK x c e v z⟩
 ·obtain ⟨m,⟨o,_,_,ho,_⟩,_⟩:=I.loc
  exact free _ o (fun z=>(hch _ z).2.1 rfl) ho I.free
 ·obtain ⟨v,o,ho,hd⟩:=I.cell x c e
  exact free c o (fun z=>(hch c z).2.2.1 x c e rfl) ho (I.freeC x c e)
 ·obtain ⟨e,n,ne,nf,d⟩:=I.pin p hp
  have nch:p.1 ∉ ch:=fun z=>(hch p.1 z).2.2.2 p hp rfl
  exact ⟨keep p.1 p.2 ne nf nch e n,free p.1 p.2 nch e n,ne,nf,d⟩
theorem Inv.un {t':Nat} (I:Inv X pins σ H s) (u:Un X.fs [] H H' s.heap h') (hok:HOk X.prog X.w H' h'):Inv X pins σ H' { s with heap:=h',toks:=t' }:=by
 obtain ⟨m,⟨o,es,ep,ho,r⟩,_⟩:=id I.loc
 obtain ⟨sl,hL⟩:=u.any ho I.free (by simp)
 exact I.step (g':=s.gens) (d':=s.drawn) (ch:=[]) (fun _ z=>nomatch z) (fun b o _ hb _ e n=>u.keep b o e n hb (by simp)) (fun b o _ hb _ e n=>u.slot b o e n hb (by simp)) (fun b o _ e n=>u.free b o e n (by simp)) (fun b o _ e=>u.there b o e (by simp)) u.tups u.frzs u.tbls (fun m' hm=>by
  obtain ⟨o',es',ep',ho',r'⟩:=hm
  rw [ho] at ho';cases ho'
  exact ⟨_,es',ep',hL,r'⟩) hok I.bare
theorem Inv.call {g':Array GenState} {t':Nat} {d':Drawn} {ch:Y2} (I:Inv X pins σ H s) (u:Un (frs X.stack) ch H H' s.heap h') (hok:HOk X.prog X.w H' h') (hg:AllBare g')
  (hch:∀b∈ch,(b∈X.ex\/X.s₀.heap.objs.size<=b)/\b ≠ X.env.locals/\(∀x c,X.env.cells.lookup x=some c->c ≠ b)/\∀p∈X.pn++pins,p.1 ≠ b) :
  Inv X pins σ H' { s with heap:=h',gens:=g',drawn:=d',toks:=t' }:=by
 obtain ⟨m,⟨o,es,ep,ho,r⟩,_⟩:=id I.loc
 obtain ⟨sl,hL⟩:=u.any ho I.free fun z=>(hch _ z).2.1 rfl
 exact I.step (ch:=ch) hch (fun b o hL hb hc e n=>u.keep b o e n (fun z=>(List.mem_cons.mp (I.aAx b z)).elim hL hb) hc) (fun b o _ _ hc e n=>u.any e n hc) (fun b o hc e n=>u.free b o e n hc) (fun b o hc e=>u.there b o e hc) u.tups u.frzs u.tbls (fun m' hm=>by
  obtain ⟨o',es',ep',ho',r'⟩:=hm
  rw [ho] at ho';cases ho'
  exact ⟨_,es',ep',hL,r'⟩) hok hg
theorem Inv.turned {t':Nat} {it:Addr} (I:Inv X pins σ H s) (k:∀b o,b ≠ it->s.heap.get? b=some o->h'.get? b=some o) (hn:H it=none) (hL:it ≠ X.env.locals)
  (h1:it∈X.ex\/X.s₀.heap.objs.size<=it) (h2:∀x c,X.env.cells.lookup x=some c->c ≠ it) (h3:∀p∈X.pn++pins,p.1 ≠ it):Inv X pins σ H { s with heap:=h',toks:=t' }:=by
 have nit:∀b u,H b=some u->b ≠ it:=fun b u e z=>by rw [z,hn] at e;cases e
 refine I.step (g':=s.gens) (d':=s.drawn) (ch:=[it]) (fun b hb=>?_) (fun b o _ _ hc e _=>k b o (fun z=>hc (by simp [z])) e) (fun b o _ _ hc e _=>⟨o.slots,k b o (fun z=>hc (by simp [z])) e⟩) (fun _ _ _ _ n=>n)
  (fun b o hc e=>⟨o,k b o (fun z=>hc (by simp [z])) e⟩) (fun _ _ e=>e) (fun _ _ _ e=>e) (fun b ps e=>⟨#[],by rw [e];simp⟩) (fun m hm=>?_) (fun b u e=>?_) I.bare
 ·have e:b=it:=by simpa using hb
  subst e
  exact ⟨h1,hL,h2,h3⟩
 ·obtain ⟨o,es,ep,ho,r⟩:=hm
  exact ⟨o,es,ep,k _ o (Ne.symm hL) ho,r⟩
 ·refine (I.hok b u e).stay (fun c v hc q=>k c v ?_ q) (fun _ q=>q) fun _ _ q=>q
  rcases hc with z | z
  ·rw [z];exact nit b u e
  ·exact nit c _ z
theorem Inv.tok (I:Inv X pins σ H s) (t:Nat):Inv X pins σ H { s with toks:=t }:=I.un (h':=s.heap) (t':=t) Un.refl I.hok
theorem Inv.kept {t':Nat} (I:Inv X pins σ H s) (k:∀b u,s.heap.get? b=some u->h'.get? b=some u):Inv X pins σ H { s with heap:=h',toks:=t' }:=I.un (Un.kept k) (I.hok.kept k)
theorem Inv.laid {a:Addr} {o:HO} {t':Nat} (I:Inv X pins σ H s) (k:∀b u,s.heap.get? b=some u->h'.get? b=some u) (hp:s.heap.objs.size<=a) (new:cV X.prog X.w (upd H a o) h' a o) :
  Inv X pins σ (upd H a o) { s with heap:=h',toks:=t' }:=I.un (Un.laid k hp (I.hok.fresh hp)) (I.hok.laid k hp new)
theorem Inv.write {x e:Addr} {o:HO} {t':Nat} (I:Inv X pins σ H s) (mu:Mut (H x)) (he:e=x\/H e=some (.own x)) (k:∀b u,b ≠ e->s.heap.get? b=some u->h'.get? b=some u) (heo:∃u,h'.get? e=some u)
  (new:cV X.prog X.w (upd H x o) h' x o):Inv X pins σ (upd H x o) { s with heap:=h',toks:=t' }:=I.un (Un.write mu he k heo) (I.hok.write mu he k heo new)
theorem Inv.aFr {pins':Y8} (I:Inv X pins σ H s) (h:∀p∈pins',s.heap.get? p.1=some p.2/\H p.1=none/\p.1 ≠ X.env.locals/\p.1 ∉ X.fs/\∀v,p.2.data ≠ .cell v):Inv X pins' σ H s :=
 ⟨I.ok,I.os,I.bare,I.base,I.loc,I.cell,I.free,I.freeC,fun p hp=>(List.mem_append.mp hp).elim (fun z=>I.pin p (List.mem_append_left _ z)) (h p),I.hok,I.len⟩
theorem uG {N:List Str} (hN:N.Nodup) {i j:Nat} {x:Str} (a:N[i]?=some x) (b:N[j]?=some x):i=j:=by
 obtain ⟨h1,e1⟩:=List.getElem?_eq_some_iff.mp a
 obtain ⟨h2,e2⟩:=List.getElem?_eq_some_iff.mp b
 exact (List.getElem_inj hN).mp (e1.trans e2.symm)
theorem yY {M:Model} {A:Around} {E:Y9} {i:Nat} {x:Str} {v:V} {u:Value} {Q:Unit->Shared->Prop} (I:Inv X pins σ H s) (hN:X.N.Nodup) (hi:X.N[i]?=some x) (hx:Loc X.env.scope x) (r:RelV v u)
  (h:∀s',Inv X pins (σ.set i (some v)) H s'->(∃a,Heap.SameBut a s.heap s'.heap/\(a=X.env.locals\/X.env.cells.lookup x=some a))->Q () s') (hf:X.fn x=true\/X.env.scope.names.lookup x=some .local:=by first | exact .inl rfl | exact .inr rfl | assumption):wpAny M A (storeName X.env x u) Q E s:=by
 obtain ⟨m,hn,hl⟩:=id I.loc
 have hcls:(X.env.scope.kind == .class || (X.env.scope.kind == .module && X.env.locals != X.env.globals))=false:=by rw [I.ok.kind];rfl
 have hiσ:i < σ.length:=by rw [I.len];exact (List.getElem?_eq_some_iff.mp hi).1
 have cne:=I.cne
 have tracked:∀ {a:Addr} {h':Heap},(∃o,s.heap.get? a=some o/\H a=none)->Heap.SameBut a s.heap h'->HOk X.prog X.w H h':=fun {a h'} ha hs b ob e=>by
  obtain ⟨_,_,hfree⟩:=ha
  refine (I.hok b ob e).stay (fun c w' hc q=>(hs.2 c ?_).trans q) (fun _ q=>q) fun _ _ q=>q
  rintro rfl
  rcases hc with rfl | hc
  ·rw [hfree] at e;cases e
  ·rw [hfree] at hc;cases hc
 rcases hx with hk | hk
 ·refine wpAny_storeName_local hk hn (fun h' hn' hs=>?_) hcls
  obtain ⟨oL,_,_,hoL,_⟩:=id hn
  refine h _ ⟨I.ok,I.os,I.bare,⟨fun b o e n hb hx=>?_,fun b o e n hb hx=>?_,I.base.free,fun b o e hx=>?_,I.base.tups,I.base.frzs,I.base.tbls⟩,⟨_,hn',fun j y v' e1 e2 e3=>?_⟩,fun y c e=>?_,I.free,I.freeC,fun p hp=>?_,tracked ⟨oL,hoL,I.free⟩ hs,by simpa using I.len⟩ ⟨_,hs,.inl rfl⟩
  ·exact (hs.2 b (Nat.ne_of_lt (Nat.lt_of_lt_of_le (Heap.lt_size e) I.ok.above))).trans (I.base.keep b o e n hb hx)
  ·obtain ⟨sl,e1⟩:=I.base.slot b o e n hb hx
   exact ⟨sl,(hs.2 b (Nat.ne_of_lt (Nat.lt_of_lt_of_le (Heap.lt_size e) I.ok.above))).trans e1⟩
  ·obtain ⟨o',e1⟩:=I.base.there b o e hx
   exact ⟨o',(hs.2 b (Nat.ne_of_lt (Nat.lt_of_lt_of_le (Heap.lt_size e) I.ok.above))).trans e1⟩
  ·by_cases hj:j=i
   ·subst hj
    rw [hi] at e1;cases e1
    rw [List.getElem?_set_self hiσ] at e2
    cases e2
    exact ⟨u,r,.inl ⟨hk,by simp⟩⟩
   ·rw [List.getElem?_set_ne (Ne.symm hj)] at e2
    obtain ⟨u',r',q⟩:=hl j y v' e1 e2 e3
    refine ⟨u',r',?_⟩
    rcases q with ⟨k,e⟩ | ⟨k,c,e,z⟩
    ·refine .inl ⟨k,?_⟩
     have:y ≠ x:=fun e=>hj (uG hN e1 (e ▸ hi))
     simp [this,e]
    ·exact .inr ⟨k,c,e,z.sameBut hs (cne y c e)⟩
  ·obtain ⟨w',z⟩:=I.cell y c e
   exact ⟨w',z.sameBut hs (cne y c e)⟩
  ·obtain ⟨e,n,ne,nf,d⟩:=I.pin p hp
   exact ⟨(hs.2 p.1 ne).trans e,n,ne,nf,d⟩
 ·have hfn:X.fn x=true:=by
   rcases hf with z | z
   ·exact z
   ·rw [z] at hk;cases hk
  obtain ⟨c,hc⟩:=I.ok.has x (.inl hk)
  obtain ⟨w',z⟩:=I.cell x c hc
  refine wpAny_storeName_cell I.ok.kind hk hc z (fun h' hc' hs=>?_)
  obtain ⟨oc,hoc,hocd⟩:=id z
  refine h { s with heap:=h' } ⟨I.ok,I.os,I.bare,⟨fun b o e n hb hx=>?_,fun b o e n hb hx=>?_,I.base.free,fun b o e hx=>?_,I.base.tups,I.base.frzs,I.base.tbls⟩,⟨m,hn.sameBut hs (Ne.symm (cne x c hc)),fun j y v' e1 e2 e3=>?_⟩,fun y c' e=>?_,I.free,I.freeC,fun p hp=>?_,tracked ⟨oc,hoc,I.freeC x c hc⟩ hs,by simpa using I.len⟩ ⟨c,hs,.inr hc⟩
  ·exact (hs.2 b (Nat.ne_of_lt (Nat.lt_of_lt_of_le (Heap.lt_size e) (I.ok.cab x c hfn hc)))).trans (I.base.keep b o e n hb hx)
  ·obtain ⟨sl,e1⟩:=I.base.slot b o e n hb hx
   exact ⟨sl,(hs.2 b (Nat.ne_of_lt (Nat.lt_of_lt_of_le (Heap.lt_size e) (I.ok.cab x c hfn hc)))).trans e1⟩
  ·obtain ⟨o',e1⟩:=I.base.there b o e hx
   exact ⟨o',(hs.2 b (Nat.ne_of_lt (Nat.lt_of_lt_of_le (Heap.lt_size e) (I.ok.cab x c hfn hc)))).trans e1⟩
  ·by_cases hj:j=i
   ·subst hj
    rw [hi] at e1;cases e1
    rw [List.getElem?_set_self hiσ] at e2
    cases e2
    exact ⟨u,r,.inr ⟨.inl hk,c,hc,hc'⟩⟩
   ·rw [List.getElem?_set_ne (Ne.symm hj)] at e2
    obtain ⟨u',r',q⟩:=hl j y v' e1 e2 e3
    refine ⟨u',r',?_⟩
    rcases q with q | ⟨k,c',e,z'⟩
    ·exact .inl q
    ·refine .inr ⟨k,c',e,z'.sameBut hs ?_⟩
     rintro rfl
     exact hj (uG hN e1 (I.ok.inj _ _ _ e hc ▸ hi))
  ·by_cases hcc:c'=c
   ·subst hcc;exact ⟨_,hc'⟩
   ·obtain ⟨w2,z2⟩:=I.cell y c' e
    exact ⟨w2,z2.sameBut hs hcc⟩
  ·obtain ⟨e,n,ne,nf,d⟩:=I.pin p hp
   refine ⟨(hs.2 p.1 ?_).trans e,n,ne,nf,d⟩
   intro q
   rw [q,hoc] at e
   have q':oc=p.2:=Option.some.inj e
   exact d w' (by rw [<- q'];exact hocd)
theorem qE {M:Model} {A:Around} {E:Y9} {i:Nat} {x:Str} {v:V} {u:Value} {Q:Unit->Shared->Prop} (I:Inv X pins σ H s) (hN:X.N.Nodup) (hi:X.N[i]?=some x) (hx:Loc X.env.scope x) (r:RelV v u)
  (h:∀s',Inv X pins (σ.set i (some v)) H s'->Q () s') (hf:X.fn x=true\/X.env.scope.names.lookup x=some .local:=by first | exact .inl rfl | exact .inr rfl | assumption):wpAny M A (storeName X.env x u) Q E s :=
 yY I hN hi hx r (fun s' I' _=>h s' I') hf
theorem Inv.aCm {s':Shared} {ch:Y2} (I:Inv X pins σ H s) (ho:s'.os=s.os) (u:Un (frs X.stack) ch H H' s.heap s'.heap) (hok:HOk X.prog X.w H' s'.heap) (hg:AllBare s'.gens)
  (hch:∀b∈ch,(b∈X.ex\/X.s₀.heap.objs.size<=b)/\b ≠ X.env.locals/\(∀x c,X.env.cells.lookup x=some c->c ≠ b)/\∀p∈X.pn++pins,p.1 ≠ b):Inv X pins σ H' s':=by
 obtain ⟨h',g',d',t',o'⟩:=s'
 have e:o'=s.os:=ho
 subst e
 exact I.call (g':=g') (t':=t') (d':=d') u hok hg hch
end
abbrev XK:=Value->Option Addr->Hp->Prop
abbrev St:=List (Option V)
abbrev VK:=V->Hp->Prop
abbrev TE:=St->Hp->VK->Prop
abbrev TT:=St->Hp->(Bool->Hp->Prop)->Prop
abbrev TA:=St->Hp->(List V->Hp->Prop)->Prop
structure Ends where
 nx:St->Hp->Prop
 rt:VK
 bk:St->Hp->Prop:=fun _ _=>False
 ct:St->Hp->Prop:=fun _ _=>False
abbrev TS:=Ends->St->Hp->Prop
def EP (X:Cx) (pins:Y8) (σ:St) (Q:VK) (u:Value) (s':Shared):Prop:=∃v H',Inv X pins σ H' s'/\RelV v u/\Q v H'
def TP (X:Cx) (pins:Y8) (σ:St) (Q:Bool->Hp->Prop) (b:Bool) (s':Shared):Prop:=∃H',Inv X pins σ H' s'/\Q b H'
def AP (X:Cx) (pins:Y8) (σ:St) (Q:List V->Hp->Prop) (us:Y1) (s':Shared):Prop:=∃vs H',Inv X pins σ H' s'/\Vals vs us/\Q vs H'
def SP (X:Cx) (pins:Y8) (D:Ends) (f:Flow) (s':Shared):Prop :=
 match f with
 | .next=>∃σ' H',Inv X pins σ' H' s'/\D.nx σ' H'
 | .brk=>∃σ' H',Inv X pins σ' H' s'/\D.bk σ' H'
 | .cont=>∃σ' H',Inv X pins σ' H' s'/\D.ct σ' H'
 | .ret u=>∃v σ' H',Inv X pins σ' H' s'/\RelV v u/\D.rt v H'
def PE (X:Cx) (e:Expr) (t:TE):Prop :=
 ∀(pins:Y8) (s:Shared) (σ:St) (H:Hp) (Q:VK),Inv X pins σ H s->t σ H Q->wpAny (model X.prog X.w) X.A (eval e X.env) (EP X pins σ Q) X.xe s
def PT (X:Cx) (e:Expr) (t:TT):Prop :=
 ∀(pins:Y8) (s:Shared) (σ:St) (H:Hp) (Q:Bool->Hp->Prop),Inv X pins σ H s->t σ H Q->wpAny (model X.prog X.w) X.A (isTrue e X.env (eval e X.env)) (TP X pins σ Q) X.xe s
def PW (X:Cx) (e:Expr) (t:TT):Prop :=
 ∀(whole:Sem Value) (pins:Y8) (s:Shared) (σ:St) (H:Hp) (Q:Bool->Hp->Prop),Inv X pins σ H s->t σ H Q->wpAny (model X.prog X.w) X.A (isTrue e X.env whole) (TP X pins σ Q) X.xe s
theorem PW.pt {X:Cx} {e:Expr} {t:TT} (h:PW X e t):PT X e t:=h _
def PA (X:Cx) (es:List Expr) (t:TA):Prop :=
 ∀(pos:Pos) (pins:Y8) (s:Shared) (σ:St) (H:Hp) (Q:List V->Hp->Prop),Inv X pins σ H s->t σ H Q->wpAny (model X.prog X.w) X.A (spliced (backTo pos (starEach es X.env))) (AP X pins σ Q) X.xe s
def PS (X:Cx) (st:Stmt) (t:TS):Prop :=
 ∀(pins:Y8) (s:Shared) (σ:St) (H:Hp) (D:Ends),Inv X pins σ H s->t D σ H->wpAny (model X.prog X.w) X.A (exec st X.env) (SP X pins D) X.xe s
def PSs (X:Cx) (st:List Stmt) (t:TS):Prop :=
 ∀(pins:Y8) (s:Shared) (σ:St) (H:Hp) (D:Ends),Inv X pins σ H s->t D σ H->wpAny (model X.prog X.w) X.A (execs st X.env) (SP X pins D) X.xe s
theorem thn {α:Type} {t:Sem α} {Q Q':α->Shared->Prop} {M:Model} {A:Around} {E:Y9} {s:Shared} (h:wpAny M A t Q E s) (hQ:∀a s,Q a s->Q' a s):wpAny M A t Q' E s:=wpAny_mono h hQ fun _ _ x=>x
end L2
namespace L2
open PySem PySem.Spec PyProof.Rows
section
variable {X:Cx}
def aAf (i:Nat):TE:=fun σ H Q=>∃v,σ[i]?=some (some v)/\Q v H
def tC (v:V):TE:=fun _ H Q=>Q v H
theorem nG {i:Nat} {x:Str} {pos:Pos} (hN:X.N[i]?=some x) (hv:Vis X.env.scope x) (hd:(x == ("__debug__" : Str))=false:=by decide) (hcd:(x == ("__classdict__" : Str))=false:=by decide):PE X (.Name x pos) (aAf i):=by
 intro pins s σ H Q I h
 obtain ⟨v,e,h⟩:=h
 obtain ⟨m,hn,hl⟩:=I.loc
 obtain ⟨u,r,l⟩:=hl i x v hN e hv
 have fin:EP X pins σ Q u s:=⟨v,H,I,r,h⟩
 rcases l with ⟨hk,hm⟩ | ⟨hk,c,hc,hcell⟩
 ·exact wpAny_Name (wpAny_loadName_local I.ok.kind hk hn hm fin) hd
 ·rcases hk with hk | hk
  ·exact wpAny_Name (wpAny_loadName_cell I.ok.kind hk hc hcell fin) hd
  ·exact wpAny_Name (wpAny_loadName_free I.ok.kind hk hc hcell fin hcd) hd
theorem aSg {i j pos}:PE X (.Constant (.int i) j pos) (tC (.int i)):=fun _ _ _ H _ I h=>wpAny_Constant_int ⟨.int i,H,I.tok _,⟨_,rfl⟩,h⟩
theorem aUa {b j pos}:PE X (.Constant (.bool b) j pos) (tC (.bl b)):=fun _ _ _ H _ I h=>Constant_bool ⟨.bl b,H,I,rfl,h⟩
theorem aQk {j pos}:PE X (.Constant .none j pos) (tC .non):=fun _ _ _ H _ I h=>Constant_none ⟨.non,H,I,rfl,h⟩
theorem aRn {x j pos}:PE X (.Constant (.str x) j pos) (tC (.str x)):=fun _ _ _ H _ I h=>Calls.Constant_str ⟨.str x,H,I.tok _,⟨_,rfl⟩,h⟩
def Gl (X:Cx) (x:Str):Prop:=X.env.kindOf x=some .globalImplicit
theorem qQ {E:Y9} {pins:Y8} {s:Shared} {σ:St} {H:Hp} {x:Str} {u:Value} {pos:Pos} {Q:Y9} (I:Inv X pins σ H s) (hg:Gl X x) (hm:X.mg x=some u) (h:Q u s)
  (hd:(x == ("__debug__" : Str))=false:=by decide):wpAny (model X.prog X.w) X.A (eval (.Name x pos) X.env) Q E s :=
 Calls.Name_function_global I.ok.kind hg (Calls.loadGlobal_global (by rw [I.ok.glob];exact I.mod.glob.keeps I.bk) hm h) hd
theorem nQ {E:Y9} {pins:Y8} {s:Shared} {σ:St} {H:Hp} {x:Str} {u:Value} {pos:Pos} {Q:Y9} (I:Inv X pins σ H s) (hg:Gl X x) (hm:X.mg x=none) (hv:bootBuiltins x=some u) (h:Q u s)
  (hn:x ≠ "__name__" :=by decide) (hd:(x == ("__debug__" : Str))=false:=by decide):wpAny (model X.prog X.w) X.A (eval (.Name x pos) X.env) Q E s:=by
 obtain ⟨mb,h1,h2⟩:=I.mod.blt
 exact Calls.Name_function_global I.ok.kind hg (Calls.loadGlobal_builtin (by rw [I.ok.glob];exact I.mod.glob.keeps I.bk) hm (by rw [I.ok.blt];exact h1.keeps I.bk) ((h2 x hn).trans hv) h) hd
theorem tI {x:Str} {v:V} {u:Value} {pos:Pos} (hg:Gl X x) (hm:X.mg x=some u) (r:RelV v u) (hd:(x == ("__debug__" : Str))=false:=by decide):PE X (.Name x pos) (tC v) :=
 fun _ _ _ H _ I h=>qQ I hg hm ⟨v,H,I,r,h⟩ hd
theorem aLx {x:Str} {v:V} {u:Value} {pos:Pos} (hg:Gl X x) (hm:X.mg x=none) (hv:bootBuiltins x=some u) (r:RelV v u) (hn:x ≠ "__name__" :=by decide) (hd:(x == ("__debug__" : Str))=false:=by decide):PE X (.Name x pos) (tC v) :=
 fun _ _ _ H _ I h=>nQ I hg hm hv ⟨v,H,I,r,h⟩ hn hd
variable {a b:Expr} {ta tb:TE} {pos:Pos}
def PC (X:Cx) (op:CmpOp) (a b:Expr) (t:TE):Prop :=
 ∀(pins:Y8) (s:Shared) (σ:St) (H:Hp) (Q:VK),Inv X pins σ H s->t σ H Q ->
  wpAny (model X.prog X.w) X.A (eval a X.env) (fun v s₁=>wpAny (model X.prog X.w) X.A (eval b X.env) (fun u s₂=>wpAny (model X.prog X.w) X.A (compareOp op v u) (EP X pins σ Q) X.xe s₂) X.xe s₁) X.xe s
def tB (t:TE):TT:=fun σ H Q=>t σ H fun x H1=>∃c,x=.bl c/\Q c H1
theorem aR1 {op:CmpOp} {t:TE} (h:PC X op a b t) (h1:behindInMarks op b=false:=by first | exact nobehind _ (by decide) (by decide) | rfl):PT X (.Compare a [op] [b] pos) (tB t):=by
 intro pins s σ H Q I hw
 refine wpAny_isTrue_Compare1 (thn (h pins s σ H _ I hw) fun v s1 h1=>thn h1 fun u s2 h2=>thn h2 fun c s3 ⟨x,H1,I1,r1,q1⟩=>?_) h1
 obtain ⟨d,rfl,q⟩:=q1
 cases r1
 exact wpAny_truthy_bool ⟨H1,I1,q⟩
variable {tA tB':TT} {rest:List Expr}
def aU2 (t u:TT):TT:=fun σ H Q=>t σ H fun c H1=>if c=true then u σ H1 Q else Q false H1
def tOr (t u:TT):TT:=fun σ H Q=>t σ H fun c H1=>if c=true then Q true H1 else u σ H1 Q
def aTl (t:TT):TT:=fun σ H Q=>t σ H fun c H1=>Q (!c) H1
theorem aLz (ha:PT X a tA):PW X (.BoolOp .And [a] pos) tA:=by
 intro wh pins s σ H Q I h
 refine isTrue_and (thn (ha pins s σ H Q I h) fun c s1 e=>?_)
 cases c with
 | true=>exact isTrue_and_nil e
 | false=>exact e
theorem aQ0 (ha:PT X a tA):PW X (.BoolOp .Or [a] pos) tA:=by
 intro wh pins s σ H Q I h
 refine isTrue_or (thn (ha pins s σ H Q I h) fun c s1 e=>?_)
 cases c with
 | false=>exact isTrue_or_nil e
 | true=>exact e
theorem aSb (ha:PT X a tA) (hb:PW X (.BoolOp .And (b::rest) pos) tB'):PW X (.BoolOp .And (a::b::rest) pos) (aU2 tA tB'):=by
 intro wh pins s σ H Q I h
 refine isTrue_and (thn (ha pins s σ H _ I h) fun c s1 ⟨H1,I1,q1⟩=>?_)
 cases c with
 | true=>exact hb wh pins s1 σ H1 Q I1 q1
 | false=>exact ⟨H1,I1,q1⟩
theorem aVm (ha:PT X a tA) (hb:PW X (.BoolOp .Or (b::rest) pos) tB'):PW X (.BoolOp .Or (a::b::rest) pos) (tOr tA tB'):=by
 intro wh pins s σ H Q I h
 refine isTrue_or (thn (ha pins s σ H _ I h) fun c s1 ⟨H1,I1,q1⟩=>?_)
 cases c with
 | true=>exact ⟨H1,I1,q1⟩
 | false=>exact hb wh pins s1 σ H1 Q I1 q1
theorem aP6 (ha:PT X a tA):PT X (.UnaryOp .Not a pos) (aTl tA):=by
 intro pins s σ H Q I h
 exact isTrue_not (ha pins s σ H (fun c H1=>Q (!c) H1) I h)
def aN7 (ta tb:TE):TE:=fun σ H Q=>ta σ H fun x H1=>∃c,x=.bl c/\if c=true then tb σ H1 Q else Q (.bl false) H1
def aT9 (ta tb:TE):TE:=fun σ H Q=>ta σ H fun x H1=>∃c,x=.bl c/\if c=true then Q (.bl true) H1 else tb σ H1 Q
def aOt (ta:TE):TE:=fun σ H Q=>ta σ H fun x H1=>∃c,x=.bl c/\Q (.bl (!c)) H1
theorem aQw {op} {t:TE} (h:PE X a t):PE X (.BoolOp op [a] pos) t:=fun pins s σ H Q I hw=>BoolOp_one (h pins s σ H Q I hw)
theorem aPw (ha:PE X a ta) (hb:PE X (.BoolOp .And (b::rest) pos) tb):PE X (.BoolOp .And (a::b::rest) pos) (aN7 ta tb):=by
 intro pins s σ H Q I h
 refine BoolOp_and (thn (ha pins s σ H _ I h) fun v s1 ⟨x,H1,I1,r1,q1⟩=>?_)
 obtain ⟨c,rfl,q1⟩:=q1
 cases r1
 refine wpAny_truthy_bool ?_
 cases c with
 | true=>exact hb pins s1 σ H1 Q I1 q1
 | false=>exact ⟨.bl false,H1,I1,rfl,q1⟩
theorem aVp (ha:PE X a ta) (hb:PE X (.BoolOp .Or (b::rest) pos) tb):PE X (.BoolOp .Or (a::b::rest) pos) (aT9 ta tb):=by
 intro pins s σ H Q I h
 refine BoolOp_or (thn (ha pins s σ H _ I h) fun v s1 ⟨x,H1,I1,r1,q1⟩=>?_)
 obtain ⟨c,rfl,q1⟩:=q1
 cases r1
 refine wpAny_truthy_bool ?_
 cases c with
 | false=>exact hb pins s1 σ H1 Q I1 q1
 | true=>exact ⟨.bl true,H1,I1,rfl,q1⟩
theorem aSm (ha:PE X a ta):PE X (.UnaryOp .Not a pos) (aOt ta):=by
 intro pins s σ H Q I h
 refine UnaryOp_ (thn (ha pins s σ H _ I h) fun v s1 ⟨x,H1,I1,r1,q1⟩=>?_)
 obtain ⟨c,rfl,q1⟩:=q1
 cases r1
 exact not_of (wpAny_truthy_bool ⟨.bl (!c),H1,I1,rfl,q1⟩)
end
end L2
namespace L2
open PySem PySem.Spec PyProof.Rows
def SqL (K:FG) (H:Hp) (a:Addr) (xs:List V):Prop :=
 Rd H a (.lst xs) \/
  ∃(o:Obj) (its:Array Value) (n:Nat),K.lookup a=some o/\o.cls=.type "list" /\o.dict=none/\o.data=.seq its n/\its.size<=sizeLine/\Vals xs its.toList
def SqT (K:FG) (H:Hp) (a:Addr) (xs:List V):Prop :=
 Rd H a (.tup xs) \/
  ∃(o:Obj) (its:Array Value) (n:Nat),K.lookup a=some o/\o.cls=.type "tuple" /\o.data=.seq its n/\its.size<=sizeLine/\Vals xs its.toList
def aXd:Value->Option V
 | .none=>some .non
 | .bool b=>some (.bl b)
 | .int i _=>some (.int i)
 | .str x _=>some (.str x)
 | .bytes b _=>some (.byt b)
 | .float b _=>some (.flt b)
 | .ref a=>some (.ref a)
 | .type n=>some (.ty n)
 | _=>none
theorem RelV.abs {x:V} {u:Value} (r:RelV x u):aXd u=some x:=by
 cases x with
 | non=>cases r;rfl
 | bl _=>cases r;rfl
 | int _=>obtain ⟨t,rfl⟩:=r;rfl
 | str _=>obtain ⟨t,rfl⟩:=r;rfl
 | byt _=>obtain ⟨t,rfl⟩:=r;rfl
 | flt _=>obtain ⟨t,rfl⟩:=r;rfl
 | ref _=>cases r;rfl
 | ty _=>cases r;rfl
theorem RelV.inj {x y:V} {u:Value} (r:RelV x u) (q:RelV y u):x=y:=Option.some.inj (r.abs.symm.trans q.abs)
theorem Vals.inj:∀ {xs ys:List V} {us:Y1},Vals xs us->Vals ys us->xs=ys
 | _,_,_,.nil,.nil=>rfl
 | _,_,_,.cons r t,.cons r' t'=>by rw [r.inj r',Vals.inj t t']
section
variable {X:Cx} {pins:Y8} {σ:St} {H:Hp} {s:Shared} {a:Addr} {xs ys:List V}
theorem SqL.of {K:FG} (h:H a=some (.lst xs)):SqL K H a xs:=.inl (.inl h)
theorem SqT.of {K:FG} (h:H a=some (.tup xs)):SqT K H a xs:=.inl (.inl h)
theorem Inv.list (I:Inv X pins σ H s) (h:SqL X.K H a xs):∃its:Y1,Vals xs its/\PlainL s.heap a its.toArray/\xs.length<=sizeLine:=by
 rcases h with h | ⟨o,its,n,hk,hc,hd,hs,hz,r⟩
 ·obtain ⟨z,its,n,r,e⟩:=h.ok I.hok
  exact ⟨its,r,⟨_,n,e,rfl,rfl,rfl⟩,z⟩
 ·refine ⟨its.toList,r,⟨o,n,I.kIn a o hk,hc,hd,by simpa using hs⟩,?_⟩
  have e:=r.length
  simp only [Array.length_toList] at e
  omega
theorem Inv.tuple (I:Inv X pins σ H s) (h:SqT X.K H a xs):∃its:Y1,Vals xs its/\IsTup s.heap a its.toArray/\xs.length<=sizeLine:=by
 rcases h with h | ⟨o,its,n,hk,hc,hs,hz,r⟩
 ·obtain ⟨z,its,r,p⟩:=h.ok I.hok
  exact ⟨its,r,p,z⟩
 ·refine ⟨its.toList,r,⟨o,I.kIn a o hk,hc,n,by simpa using hs⟩,?_⟩
  have e:=r.length
  simp only [Array.length_toList] at e
  omega
theorem Inv.aCp (I:Inv X pins σ H s) (h:SqL X.K H a xs) (h':SqL X.K H a ys):xs=ys:=by
 obtain ⟨its,r,⟨o,n,e,_,_,d⟩,_⟩:=I.list h
 obtain ⟨its',r',⟨o',n',e',_,_,d'⟩,_⟩:=I.list h'
 rw [e] at e';cases e'
 rw [d] at d'
 injection d' with d1 _
 have:its=its':=by simpa using congrArg Array.toList d1
 subst this
 exact r.inj r'
theorem Inv.aHj (I:Inv X pins σ H s) (h:SqT X.K H a xs) (h':SqT X.K H a ys):xs=ys:=by
 obtain ⟨its,r,⟨o,e,_,n,d⟩,_⟩:=I.tuple h
 obtain ⟨its',r',⟨o',e',_,n',d'⟩,_⟩:=I.tuple h'
 rw [e] at e';cases e'
 rw [d] at d'
 injection d' with d1 _
 have:its=its':=by simpa using congrArg Array.toList d1
 subst this
 exact r.inj r'
end
section
variable {X:Cx} {pins:Y8} {σ:St} {H:Hp} {s:Shared} {E:Y9}
end
section
variable {X:Cx} {st:Stmt} {rest:List Stmt} {t u:TS} {e:Expr} {te:TE} {pos:Pos}
def aOu:TS:=fun D σ H=>D.nx σ H
def aTy (t u:TS):TS:=fun D σ H=>t { D with nx:=u D } σ H
theorem aMs:PSs X [] aOu:=fun _ _ σ H _ I h=>wpAny_execs_nil ⟨σ,H,I,h⟩
theorem aI3 (h1:PS X st t) (h2:PSs X rest u):PSs X (st::rest) (aTy t u):=by
 intro pins s σ H D I h
 refine wpAny_execs_cons (thn (h1 pins s σ H { D with nx:=u D } I h) fun f s1 q=>?_)
 cases f with
 | next =>
  obtain ⟨σ',H',I',q⟩:=q
  exact h2 pins s1 σ' H' D I' q
 | ret v=>exact q
 | brk=>exact q
 | cont=>exact q
theorem aL2 (h1:PS X st t):PSs X [st] t:=by
 intro pins s σ H D I h
 refine wpAny_execs_cons (thn (h1 pins s σ H D I h) fun f s1 q=>?_)
 cases f with
 | next=>exact wpAny_execs_nil q
 | ret v=>exact q
 | brk=>exact q
 | cont=>exact q
theorem Inv.quiet {pins:Y8} {σ:St} {H:Hp} {s:Shared} (I:Inv X pins σ H s):interactive X.env=false:=by simp [interactive,I.ok.kind]
def aB6 (te:TE):TS:=fun D σ H=>te σ H fun _ H1=>D.nx σ H1
theorem tM (he:PE X e te) (hs:swapsWith e none pos.line X.env=pure false:=by rfl):PS X (.Expr e pos) (aB6 te):=by
 intro pins s σ H D I h
 exact wpAny_Expr_any (thn (he pins s σ H _ I h) fun v s1 ⟨x,H1,I1,r1,q1⟩=>⟨σ,H1,I1,q1⟩) I.quiet hs
def aRk (te:TE):TS:=fun D σ H=>te σ H D.rt
theorem aKc (he:PE X e te):PS X (.Return (some e) pos) (aRk te):=by
 intro pins s σ H D I h
 exact wpAny_Return_some (thn (he pins s σ H _ I h) fun v s1 ⟨x,H1,I1,r1,q1⟩=>⟨x,σ,H1,I1,r1,q1⟩)
def aT8 (c:TT) (t u:TS):TS:=fun D σ H=>c σ H fun b H1=>if b=true then t D σ H1 else u D σ H1
theorem aTj {c:Expr} {a b:List Stmt} {tc:TT} (hc:PT X c tc) (ha:PSs X a t) (hb:PSs X b u):PS X (.If c a b pos) (aT8 tc t u):=by
 intro pins s σ H D I h
 refine wpAny_If (thn (hc pins s σ H _ I h) fun d s1 ⟨H1,I1,q1⟩=>?_)
 cases d with
 | true=>exact ha pins s1 σ H1 D I1 q1
 | false=>exact hb pins s1 σ H1 D I1 q1
end
abbrev TG:=V->St->Hp->(St->Hp->Prop)->Prop
abbrev TGs:=List V->St->Hp->(St->Hp->Prop)->Prop
def PG (X:Cx) (target:Expr) (t:TG):Prop :=
 ∀(pins:Y8) (s:Shared) (σ:St) (H:Hp) (v:V) (u:Value) (Q:St->Hp->Prop),Inv X pins σ H s->RelV v u->t v σ H Q ->
  wpAny (model X.prog X.w) X.A (assign target X.env u) (fun _ s'=>∃σ' H',Inv X pins σ' H' s'/\Q σ' H') X.xe s
def PGs (X:Cx) (ts:List Expr) (t:TGs):Prop :=
 ∀(pins:Y8) (s:Shared) (σ:St) (H:Hp) (vs:List V) (us:Y1) (Q:St->Hp->Prop),Inv X pins σ H s->Vals vs us->t vs σ H Q ->
  wpAny (model X.prog X.w) X.A (assignInOrder ((assignEach ts X.env).map (·.2)) us) (fun _ s'=>∃σ' H',Inv X pins σ' H' s'/\Q σ' H') X.xe s
abbrev aQ9:=V->V->V->Hp->(Hp->Prop)->Prop
def aUu (X:Cx) (t:aQ9):Prop :=
 ∀(pins:Y8) (s:Shared) (σ:St) (H:Hp) (o i v:V) (ov iv u:Value) (Q:Hp->Prop),Inv X pins σ H s->RelV o ov->RelV i iv->RelV v u->t o i v H Q ->
  wpAny (model X.prog X.w) X.A (setItem ov iv u) (fun _ s'=>∃H',Inv X pins σ H' s'/\Q H') X.xe s
abbrev TIp:=V->V->Hp->VK->Prop
def PIp (X:Cx) (op:Operator) (t:TIp):Prop :=
 ∀(pins:Y8) (s:Shared) (σ:St) (H:Hp) (x y:V) (v u:Value) (Q:VK),Inv X pins σ H s->RelV x v->RelV y u->t x y H Q ->
  wpAny (model X.prog X.w) X.A (inplaceOp op v u) (EP X pins σ Q) X.xe s
section
variable {X:Cx} {pos:Pos}
def sS (i:Nat):TG:=fun v σ H Q=>Q (σ.set i (some v)) H
theorem aNo {i:Nat} {x:Str} (hN:X.N.Nodup) (hi:X.N[i]?=some x) (hx:Loc X.env.scope x) (hf:X.fn x=true\/X.env.scope.names.lookup x=some .local:=by first | exact .inl rfl | exact .inr rfl | assumption):PG X (.Name x pos) (sS i):=by
 intro pins s σ H v u Q I r h
 exact wpAny_assign_Name (qE I hN hi hx r (fun s' I'=>⟨_,H,I',h⟩) hf)
def aVd:TGs:=fun vs σ H Q=>vs=[]/\Q σ H
def aOe (t:TG) (u:TGs):TGs:=fun vs σ H Q=>∃v r,vs=v::r/\t v σ H fun σ' H'=>u r σ' H' Q
theorem aM3:PGs X [] aVd:=by
 intro pins s σ H vs us Q I r h
 obtain ⟨e,h⟩:=h
 subst e
 cases r
 exact assignInOrder_nil ⟨σ,H,I,h⟩
theorem aKx {e:Expr} {es:List Expr} {t:TG} {u:TGs} (h1:PG X e t) (h2:PGs X es u)
  (hs:(assignEach (e::es) X.env).map (·.2)=assign e X.env::(assignEach es X.env).map (·.2):=by rfl):PGs X (e::es) (aOe t u):=by
 intro pins s σ H vs us Q I r h
 obtain ⟨v,vr,e1,h⟩:=h
 subst e1
 cases r with
 | cons r rr =>
  rw [hs]
  refine assignInOrder_cons (thn (h1 pins s σ H _ _ _ I r h) fun _ s1 ⟨σ1,H1,I1,q1⟩=>?_)
  exact h2 pins s1 σ1 H1 _ _ Q I1 rr q1
def aPi (K:FG) (n:Nat) (t:TGs):TG:=fun v σ H Q=>∃a xs,v=.ref a/\SqT K H a xs/\xs.length=n/\t xs σ H Q
theorem nH {es:List Expr} {k:Nat} {t:TGs} {n:Nat} (hc:X.calm=true) (h:PGs X es t)
  (hn:(assignEach es X.env).length=n:=by rfl) (hst:(assignEach es X.env).findIdx? (·.1)=none:=by rfl):PG X (.Tuple es k pos) (aPi X.K n t):=by
 intro pins s σ H v u Q I r hw
 obtain ⟨a,xs,e1,hq,hl,hw⟩:=hw
 subst e1
 cases r
 obtain ⟨its,rv,ht,hz⟩:=I.tuple hq
 refine assign_Tuple_tuple (I.ok.hd hc) ht (by simp [hn,<- hl,rv.length]) hst fun h' hx=>?_
 have I1:Inv X pins σ H { s with heap:=h' }:=I.kept (t':=s.toks) fun b o e=>hx b o (Nat.ne_of_lt (Heap.lt_size e)) e
 exact h pins _ σ H xs _ Q I1 (by simpa using rv) hw
def aVc (to ti:TE) (t:aQ9):TG:=fun v σ H Q=>to σ H fun o H1=>ti σ H1 fun i H2=>t o i v H2 fun H3=>Q σ H3
theorem aP7 {o i:Expr} {to ti:TE} {t:aQ9} (ho:PE X o to) (hi:PE X i ti) (hs:aUu X t)
  (ha:∀v,assign (.Subscript o i pos) X.env v=(do
   let ov <- holding [v] (eval o X.env)
   let iv <- holding [v,ov] (eval i X.env)
   standAt pos
   holding [v,ov,iv] (setItem ov iv v)
   release [v,ov,iv] []):=by intro _;rfl):PG X (.Subscript o i pos) (aVc to ti t):=by
 intro pins s σ H v u Q I r h
 rw [ha]
 refine wpAny_bind (wpAny_holding (thn (ho pins s σ H _ I h) fun ov s1 ⟨x,H1,I1,r1,q1⟩=>?_))
 refine wpAny_bind (wpAny_holding (thn (hi pins s1 σ H1 _ I1 q1) fun iv s2 ⟨y,H2,I2,r2,q2⟩=>?_))
 refine wpAny_bind (wpAny_standAt (wpAny_bind (wpAny_holding (thn (hs pins s2 σ H2 x y v ov iv u _ I2 r1 r2 r q2) fun _ s3 ⟨H3,I3,q3⟩=>?_))))
 exact wpAny_release ⟨σ,H3,I3,q3⟩
def aGt (te:TE) (g:TG):TS:=fun D σ H=>te σ H fun x H1=>g x σ H1 D.nx
theorem aH6 {tg e:Expr} {te:TE} {g:TG} (he:PE X e te) (hg:PG X tg g) (hs:swapsWithSole [tg] e pos.line X.env=pure false:=by rfl) (hw:swappedStores [tg] e X.env=pure none:=by rfl)
  (h1:(assignEach [tg] X.env).map (·.2)=[assign tg X.env]:=by rfl):PS X (.Assign [tg] e pos) (aGt te g):=by
 intro pins s σ H D I h
 refine wpAny_Assign_stores (thn (he pins s σ H _ I h) fun v s1 ⟨x,H1,I1,r1,q1⟩=>?_) hs hw
 rw [h1]
 exact thn (hg pins s1 σ H1 x v _ I1 r1 q1) fun _ s2 q=>q
theorem aRq {i:Nat} {x:Str} {e:Expr} {te:TE} {pos':Pos} (hN:X.N.Nodup) (hi:X.N[i]?=some x) (hx:Loc X.env.scope x) (he:PE X e te) (hs:swapsWith e (some (.Name x pos')) pos.line X.env=pure false:=by rfl) (hf:X.fn x=true\/X.env.scope.names.lookup x=some .local:=by first | exact .inl rfl | exact .inr rfl | assumption) :
  PS X (.Assign [.Name x pos'] e pos) (aGt te (sS i)):=by
 intro pins s σ H D I h
 refine wpAny_Assign_Name (thn (he pins s σ H _ I h) fun v s1 ⟨y,H1,I1,r1,q1⟩=>?_) hs
 exact qE I1 hN hi hx r1 (fun s2 I2=>⟨_,H1,I2,q1⟩) hf
def aTv (i:Nat) (te:TE) (ti:TIp):TS:=fun D σ H=>∃x,σ[i]?=some (some x)/\te σ H fun y H1=>ti x y H1 fun z H2=>D.nx (σ.set i (some z)) H2
theorem aRc {i:Nat} {x:Str} {e:Expr} {te:TE} {op:Operator} {ti:TIp} {pos':Pos} (hN:X.N.Nodup) (hi:X.N[i]?=some x) (hx:Loc X.env.scope x) (he:PE X e te) (ho:PIp X op ti) (hf:X.fn x=true\/X.env.scope.names.lookup x=some .local:=by first | exact .inl rfl | exact .inr rfl | assumption) :
  PS X (.AugAssign (.Name x pos') op e pos) (aTv i te ti):=by
 intro pins s σ H D I h
 obtain ⟨v,e1,h⟩:=h
 obtain ⟨m,hn,hl⟩:=I.loc
 have vis:Vis X.env.scope x:=by rcases hx with k | k;exact .inl k;exact .inr (.inl k)
 obtain ⟨u,r,l⟩:=hl i x v hi e1 vis
 refine wpAny_AugAssign_Name ?_
 have go:wpAny (model X.prog X.w) X.A (eval e X.env) (fun w s₂=>wpAny (model X.prog X.w) X.A (inplaceOp op u w) (fun r s₃=>wpAny (model X.prog X.w) X.A (storeName X.env x r) (fun _=>SP X pins D .next) X.xe s₃) X.xe s₂) X.xe s:=by
  refine thn (he pins s σ H _ I h) fun w s1 ⟨y,H1,I1,r1,q1⟩=>?_
  refine thn (ho pins s1 σ H1 v y u w _ I1 r r1 q1) fun z s2 ⟨zv,H2,I2,r2,q2⟩=>?_
  exact qE I2 hN hi hx r2 (fun s3 I3=>⟨_,H2,I3,q2⟩) hf
 rcases l with ⟨hk,hm⟩ | ⟨hk,c,hc,hcell⟩
 ·exact wpAny_loadName_local I.ok.kind hk hn hm go
 ·rcases hk with hk | hk
  ·exact wpAny_loadName_cell I.ok.kind hk hc hcell go
  ·rcases hx with k | k
   ·have:X.env.scope.names.lookup x=some .free:=hk
    rw [k] at this;cases this
   ·have:X.env.scope.names.lookup x=some .free:=hk
    rw [k] at this;cases this
def ipI (f:Int->Int->Int):TIp:=fun x y H Q=>∃i j,x=.int i/\y=.int j/\Q (.int (f i j)) H
theorem aIj:PIp X .Add (ipI fun i j=>i+j):=by
 intro pins s σ H x y v u Q I r1 r2 h
 obtain ⟨i,j,e1,e2,q⟩:=h
 subst e1;subst e2
 obtain ⟨t,rfl⟩:=r1
 obtain ⟨t',rfl⟩:=r2
 exact iadd_int ⟨.int _,H,I.tok _,⟨_,rfl⟩,q⟩
theorem aQ3:PIp X .Sub (ipI fun i j=>i - j):=by
 intro pins s σ H x y v u Q I r1 r2 h
 obtain ⟨i,j,e1,e2,q⟩:=h
 subst e1;subst e2
 obtain ⟨t,rfl⟩:=r1
 obtain ⟨t',rfl⟩:=r2
 exact isub_int ⟨.int _,H,I.tok _,⟨_,rfl⟩,q⟩
end
section
variable {X:Cx} {pos:Pos}
def aIz (c:TT) (tb:TS):TS:=fun D σ H=>∃W:Nat->St->Hp->Prop,(∃m,W m σ H)/\∀m σ H,W m σ H ->
 c σ H fun b H1=>if b=true then ∃N:St->Hp->Prop,(∀σ' H',N σ' H'->∃m',m'<m/\W m' σ' H')/\tb { D with nx:=N,ct:=N,bk:=D.nx } σ H1 else D.nx σ H1
theorem aIg {c:Expr} {body:List Stmt} {tc:TT} {tb:TS} (hp:PassesOwn (model X.prog X.w) X.A X.env X.xe) (hc:PT X c tc) (hb:PSs X body tb):PS X (.While c body [] pos) (aIz tc tb):=by
 intro pins s σ H D I h
 obtain ⟨W,⟨m0,w0⟩,turn⟩:=h
 refine wpAny_While (codeAny_whileLoop (fun n s'=>∃σ' H',Inv X pins σ' H' s'/\W n σ' H') ?_ m0 ⟨σ,H,I,w0⟩)
 rintro n s1 ⟨σ1,H1,I1,w1⟩
 refine wpAny_passesOwn hp (thn (hc pins s1 σ1 H1 _ I1 (turn n σ1 H1 w1)) fun b s2 ⟨H2,I2,q2⟩=>?_)
 cases b with
 | true =>
  obtain ⟨N,hN,q2⟩:=q2
  rw [if_pos rfl]
  refine wpAny_passesOwn hp (thn (hb pins s2 σ1 H2 _ I2 q2) fun f s3 q3=>?_)
  cases f with
  | next =>
   obtain ⟨σ3,H3,I3,n3⟩:=q3
   obtain ⟨m',hm,w3⟩:=hN σ3 H3 n3
   exact ⟨m',hm,σ3,H3,I3,w3⟩
  | cont =>
   obtain ⟨σ3,H3,I3,n3⟩:=q3
   obtain ⟨m',hm,w3⟩:=hN σ3 H3 n3
   exact ⟨m',hm,σ3,H3,I3,w3⟩
  | brk=>exact q3
  | ret v=>exact q3
 | false =>
  rw [if_neg Bool.false_ne_true]
  exact wpAny_execs_nil ⟨σ1,H2,I2,q2⟩
end
structure It where
 go:Nat->Hp->Prop
 yld:Nat->Hp->V->Hp->Prop
 stop:Nat->Hp->Prop
def wA (X:Cx) (pins:Y8) (H:Hp) (b:Addr):Prop :=
 H b=none/\b ≠ X.env.locals/\b ∉ X.fs/\(b∈X.ex\/X.s₀.heap.objs.size<=b)/\(∀x c,X.env.cells.lookup x=some c->c ≠ b)/\∀p∈X.pn++pins,p.1 ≠ b
theorem Inv.aK9 {X:Cx} {pins:Y8} {σ:St} {H H':Hp} {s:Shared} {b:Addr} (I:Inv X pins σ H s) (hb:s.heap.objs.size<=b) (hn:H' b=none):wA X pins H' b:=by
 refine ⟨hn,Nat.ne_of_gt (Nat.lt_of_lt_of_le I.lt hb),I.aX7 hb,.inr (Nat.le_trans I.sz hb),fun x c e z=>?_,fun p hp z=>?_⟩
 ·obtain ⟨v,q⟩:=I.cell x c e
  exact absurd (Nat.lt_of_lt_of_le q.lt (by rw [z];exact hb)) (Nat.lt_irrefl _)
 ·exact absurd (Nat.lt_of_lt_of_le (Heap.lt_size (I.pin p hp).1) (by rw [z];exact hb)) (Nat.lt_irrefl _)
structure Turn (P:Program) (w:World) (K:FG) (tg:Expr) (J:It) (fp:Y2) (it:Addr) (tn:Nat->Heap->Prop):Prop where
 mem:it∈fp
 obj:∀i h,tn i h->∀b∈fp,∃o,h.get? b=some o/\∀v,o.data ≠ .cell v
 keep:∀i h h',tn i h->(∀b∈fp,∀o,h.get? b=some o->h'.get? b=some o)->tn i h'
 item:∀(X:Cx),X.prog=P->X.w=w->X.K=K->X.calm=true->∀(i:Nat) (pins:Y8) (s:Shared) (σ:St) (H:Hp) (E:Y9),Inv X pins σ H s->(∀b∈fp,wA X pins H b)->tn i s.heap->J.go i H ->
  wpAny (model P w) X.A (pyNext (.ref it)) (fun r s1=>∃u,r=some u /\
   wpAny (model P w) X.A (letOwnedTupleGo tg (.ref it) u) (fun _ s2=>∃x H',Inv X pins σ H' s2/\RelV x u/\J.yld i H x H'/\tn (i+1) s2.heap/\∀b∈fp,H' b=none) E s1) E s
 done:∀(X:Cx),X.prog=P->X.w=w->X.K=K->X.calm=true->∀(i:Nat) (pins:Y8) (s:Shared) (σ:St) (H:Hp) (E:Y9),Inv X pins σ H s->(∀b∈fp,wA X pins H b)->tn i s.heap->J.stop i H ->
  wpAny (model P w) X.A (pyNext (.ref it)) (fun r s1=>r=none/\Inv X pins σ H s1) E s
 self:∀(A:Around) (i:Nat) (s:Shared) (Q:Y9) (E:Y9),tn i s.heap->Q (.ref it) s->wpAny (model P w) A (pyIter (.ref it)) Q E s
abbrev TI:=St->Hp->(It->Hp->Prop)->Prop
def PIE (X:Cx) (pins:Y8) (σ:St) (tg:Expr) (R:It->Hp->Prop) (itv:Value) (s2:Shared):Prop :=
 ∃(it:Addr) (fp:Y2) (tn:Nat->Heap->Prop) (J:It) (H':Hp),itv=.ref it/\Inv X pins σ H' s2/\Turn X.prog X.w X.K tg J fp it tn/\tn 0 s2.heap/\(∀b∈fp,wA X pins H' b)/\R J H'
def PI (X:Cx) (tg iter:Expr) (wi:TI):Prop :=
 ∀(pins:Y8) (s:Shared) (σ:St) (H:Hp) (R:It->Hp->Prop),Inv X pins σ H s->wi σ H R ->
  wpAny (model X.prog X.w) X.A (eval iter X.env) (fun v s1=>wpAny (model X.prog X.w) X.A (pyIter v) (PIE X pins σ tg R) X.xe s1) X.xe s
theorem aKi {M:Model} {A:Around} {E:Y9} {s:Shared} {tg:Expr} {it:Addr} {u:Value} {o:Obj} {n:String} {vs:Array Value} {Q:Unit->Shared->Prop} (ho:s.heap.get? it=some o) (hc:o.cls=.type n) (hd:o.data=.fields vs)
  (hn:["enumerate", "zip", "dict_itemiterator", "dict_reverseitemiterator", "odict_iterator", "itertools.zip_longest", "itertools.pairwise"].contains n=false) (hQ:Q () s):wpAny M A (letOwnedTupleGo tg (.ref it) u) Q E s:=by
 unfold letOwnedTupleGo
 cases tg<;>first
  | exact wpAny_pure hQ
  | (cases u<;>first
    | exact wpAny_pure hQ
    | (refine wpAny_bind (wpAny_load ho ?_)
       rw [hc,hd]
       show wpAny M A (if (["enumerate", "zip", "dict_itemiterator", "dict_reverseitemiterator", "odict_iterator", "itertools.zip_longest", "itertools.pairwise"].contains n && vs[0]? == some (rawInt _))=true then _ else _) Q E s
       rw [if_neg (by intro h;rw [hn,Bool.false_and] at h;cases h)]
       exact wpAny_pure hQ))
def Itl (K:FG) (a:Addr):It :=
 ⟨fun i H=>∃xs x,SqL K H a xs/\xs[i]?=some x,fun i H x H'=>H'=H/\∀xs,SqL K H a xs->xs[i]?=some x,fun i H=>∃xs,SqL K H a xs/\xs.length<=i⟩
def Itt (K:FG) (a:Addr):It :=
 ⟨fun i H=>∃xs x,SqT K H a xs/\xs[i]?=some x,fun i H x H'=>H'=H/\∀xs,SqT K H a xs->xs[i]?=some x,fun i H=>∃xs,SqT K H a xs/\xs.length<=i⟩
def Itr (lo:Int) (n:Nat):It:=⟨fun i _=>i<n,fun i H x H'=>H'=H/\x=.int (lo+i),fun i _=>n<=i⟩
theorem aG2 {P:Program} {w:World} {K:FG} {tg:Expr} (a it:Addr):Turn P w K tg (Itl K a) [it] it (fun i h=>h.IsListIter it a i) where
 mem:=by simp
 obj:=fun i h st b hb=>by
  have e:b=it:=by simpa using hb
  subst e
  obtain ⟨o,e,c,d⟩:=st
  exact ⟨o,e,fun v z=>by rw [d] at z;cases z⟩
 keep:=fun i h h' st k=>st.at fun o e=>k it (by simp) o e
 item:=by
  intro X hP hw hK hc i pins s σ H E I hf st hg
  subst hP hw hK
  obtain ⟨xs,x,hq,hx⟩:=hg
  obtain ⟨its,rv,p,hz⟩:=I.list hq
  obtain ⟨u,hu,ru⟩:=rv.get hx
  obtain ⟨f0,f1,f2,f3,f4,f5⟩:=hf it (by simp)
  refine wpAny_pyNext_list_item st p.isList (x:=u) (by simpa using hu) fun h' st' sb=>?_
  have I1:Inv X pins σ H { s with heap:=h' }:=I.turned (t':=s.toks) (fun b o hb e=>(sb.2 b hb).trans e) f0 f1 f3 f4 f5
  obtain ⟨o,e,c,d⟩:=id st'
  exact ⟨u,rfl,aKi (s:={ s with heap:=h' }) e c d (by decide) ⟨x,H,I1,ru,⟨rfl,fun ys hy=>by rw [I.aCp hy hq];exact hx⟩,st',fun b hb=>(hf b hb).1⟩⟩
 done:=by
  intro X hP hw hK hc i pins s σ H E I hf st hg
  subst hP hw hK
  obtain ⟨xs,hq,hx⟩:=hg
  obtain ⟨its,rv,p,hz⟩:=I.list hq
  obtain ⟨f0,f1,f2,f3,f4,f5⟩:=hf it (by simp)
  have hl:=rv.length
  exact wpAny_pyNext_list_end (I.ok.hd hc) st p.isList (by simp;omega) fun h' eb=>⟨rfl,I.turned (t':=s.toks) (fun b o hb e=>eb b o hb e) f0 f1 f3 f4 f5⟩
 self:=fun _ _ _ _ _ st h=>wpAny_pyIter_listiter st h
theorem aDd {P:Program} {w:World} {K:FG} {tg:Expr} (a it:Addr):Turn P w K tg (Itt K a) [it] it (fun i h=>h.IsTupleIter it a i) where
 mem:=by simp
 obj:=fun i h st b hb=>by
  have e:b=it:=by simpa using hb
  subst e
  obtain ⟨o,e,c,d⟩:=st
  exact ⟨o,e,fun v z=>by rw [d] at z;cases z⟩
 keep:=fun i h h' st k=>st.at fun o e=>k it (by simp) o e
 item:=by
  intro X hP hw hK hc i pins s σ H E I hf st hg
  subst hP hw hK
  obtain ⟨xs,x,hq,hx⟩:=hg
  obtain ⟨its,rv,p,hz⟩:=I.tuple hq
  obtain ⟨u,hu,ru⟩:=rv.get hx
  obtain ⟨f0,f1,f2,f3,f4,f5⟩:=hf it (by simp)
  refine wpAny_pyNext_tuple_item st (show s.heap.IsTuple a its.toArray from p) (x:=u) (by simpa using hu) fun h' st' sb=>?_
  have I1:Inv X pins σ H { s with heap:=h' }:=I.turned (t':=s.toks) (fun b o hb e=>(sb.2 b hb).trans e) f0 f1 f3 f4 f5
  obtain ⟨o,e,c,d⟩:=id st'
  exact ⟨u,rfl,aKi (s:={ s with heap:=h' }) e c d (by decide) ⟨x,H,I1,ru,⟨rfl,fun ys hy=>by rw [I.aHj hy hq];exact hx⟩,st',fun b hb=>(hf b hb).1⟩⟩
 done:=by
  intro X hP hw hK hc i pins s σ H E I hf st hg
  subst hP hw hK
  obtain ⟨xs,hq,hx⟩:=hg
  obtain ⟨its,rv,p,hz⟩:=I.tuple hq
  obtain ⟨f0,f1,f2,f3,f4,f5⟩:=hf it (by simp)
  have hl:=rv.length
  exact wpAny_pyNext_tuple_end (I.ok.hd hc) st (show s.heap.IsTuple a its.toArray from p) (by simp;omega) fun h' eb=>⟨rfl,I.turned (t':=s.toks) (fun b o hb e=>eb b o hb e) f0 f1 f3 f4 f5⟩
 self:=fun _ _ _ _ _ st h=>wpAny_pyIter_tupleiter st h
theorem aCu {P:Program} {w:World} {K:FG} {tg:Expr} (it:Addr) (lo:Int) (n:Nat):Turn P w K tg (Itr lo n) [it] it (fun i h=>IsRangeIter h it (lo+(i:Nat) * 1) ((n:Int) - (i:Nat)) 1) where
 mem:=by simp
 obj:=fun i h st b hb=>by
  have e:b=it:=by simpa using hb
  subst e
  exact ⟨_,st,fun v z=>by
   have z':Data.fields _=Data.cell v:=z
   cases z'⟩
 keep:=fun i h h' st k=>k it (by simp) _ st
 item:=by
  intro X hP hw hK hc i pins s σ H E I hf st hg
  subst hP hw hK
  obtain ⟨f0,f1,f2,f3,f4,f5⟩:=hf it (by simp)
  have W:=Walks.range (prog:=X.prog) (w:=X.w) (I.ok.hd hc) it lo 1 n
  refine W.item i s _ _ hg st fun v h' tk hv st' kk=>?_
  obtain ⟨t,rfl⟩:=hv
  have I1:Inv X pins σ H { s with heap:=h',toks:=tk }:=I.turned (fun b o hb e=>kk b o (by simpa using hb) e) f0 f1 f3 f4 f5
  refine ⟨_,rfl,aKi (s:={ s with heap:=h',toks:=tk }) (n := "range_iterator") st' rfl rfl (by decide) ⟨.int (lo+i),H,I1,⟨t,?_⟩,⟨rfl,rfl⟩,st',fun b hb=>(hf b hb).1⟩⟩
  rw [Int.mul_one]
 done:=by
  intro X hP hw hK hc i pins s σ H E I hf st hg
  subst hP hw hK
  obtain ⟨f0,f1,f2,f3,f4,f5⟩:=hf it (by simp)
  exact wpAny_pyNext_range_end (I.ok.hd hc) st (by have:n<=i:=hg;omega) fun h' eb=>⟨rfl,I.turned (t':=s.toks) (fun b o hb e=>eb b o hb e) f0 f1 f3 f4 f5⟩
 self:=fun _ _ _ _ _ st h=>wpAny_pyIter_rangeiter st h
end L2
namespace L2
open PySem PySem.Spec PyProof.Rows
section
variable {X:Cx} {tg:Expr}
def aKa (K:FG) (tl:TE):TI:=fun σ H R=>tl σ H fun x H1=>∃a,x=.ref a/\(∃xs,SqL K H1 a xs)/\R (Itl K a) H1
def aPp (K:FG) (tl:TE):TI:=fun σ H R=>tl σ H fun x H1=>∃a,x=.ref a/\(∃xs,SqT K H1 a xs)/\R (Itt K a) H1
theorem aLa {l:Expr} {tl:TE} (hl:PE X l tl):PI X tg l (aKa X.K tl):=by
 intro pins s σ H R I h
 refine thn (hl pins s σ H _ I h) fun v s1 ⟨x,H1,I1,r1,q1⟩=>?_
 obtain ⟨a,e,⟨xs,hq⟩,q⟩:=q1
 subst e
 cases r1
 obtain ⟨its,rv,p,hz⟩:=I1.list hq
 refine wpAny_pyIter_list p.isList ?_
 refine ⟨s1.heap.objs.size,[s1.heap.objs.size],_,_,H1,rfl,I1.kept (t':=s1.toks) fun b o e=>Heap.get?_push_of_some _ e,aG2 a _,⟨_,Heap.get?_push_size _ rfl,rfl,rfl⟩,fun b hb=>?_,q⟩
 have e:b=s1.heap.objs.size:=by simpa using hb
 subst e
 exact I1.aK9 (Nat.le_refl _) (I1.hok.fresh (Nat.le_refl _))
theorem aSl {l:Expr} {tl:TE} (hl:PE X l tl):PI X tg l (aPp X.K tl):=by
 intro pins s σ H R I h
 refine thn (hl pins s σ H _ I h) fun v s1 ⟨x,H1,I1,r1,q1⟩=>?_
 obtain ⟨a,e,⟨xs,hq⟩,q⟩:=q1
 subst e
 cases r1
 obtain ⟨its,rv,p,hz⟩:=I1.tuple hq
 refine wpAny_pyIter_tuple (show s1.heap.IsTuple a its.toArray from p) ?_
 refine ⟨s1.heap.objs.size,[s1.heap.objs.size],_,_,H1,rfl,I1.kept (t':=s1.toks) fun b o e=>Heap.get?_push_of_some _ e,aDd a _,⟨_,Heap.get?_push_size _ rfl,rfl,rfl⟩,fun b hb=>?_,q⟩
 have e:b=s1.heap.objs.size:=by simpa using hb
 subst e
 exact I1.aK9 (Nat.le_refl _) (I1.hok.fresh (Nat.le_refl _))
theorem aCj {pins:Y8} {σ:St} {H:Hp} {s:Shared} {R:It->Hp->Prop} {E:Y9} {lo hi:Int} {t u v:Tok} {tk:Nat} (I:Inv X pins σ H s) (h1:-(2 ^ 62)<=lo) (h2:lo<2 ^ 62) (h3:-(2 ^ 62)<=hi) (h4:hi<2 ^ 62)
  (q:R (Itr lo (hi - lo).toNat) H):wpAny (model X.prog X.w) X.A (pyIter (.ref s.heap.objs.size)) (PIE X pins σ tg R) E { s with heap:=s.heap.push { cls:=.type "range",data:=.fields #[.int lo t,.int hi u,.int 1 v] },toks:=tk }:=by
 refine wpAny_pyIter_range (IsRange.new ..) (small_one h1 h2 h3 h4) ?_
 have I1:Inv X pins σ H { s with heap:=s.heap.push { cls:=.type "range",data:=.fields #[.int lo t,.int hi u,.int 1 v] },toks:=tk }:=I.kept fun b o e=>Heap.get?_push_of_some _ e
 refine ⟨(s.heap.push { cls:=.type "range",data:=.fields #[.int lo t,.int hi u,.int 1 v] }).objs.size,[(s.heap.push { cls:=.type "range",data:=.fields #[.int lo t,.int hi u,.int 1 v] }).objs.size],_,_,H,rfl,
  I1.kept (t':=tk) fun b o e=>Heap.get?_push_of_some _ e,aCu _ lo (hi - lo).toNat,?_,fun b hb=>?_,q⟩
 ·have e1:lo+((0:Nat):Int) * 1=lo:=by simp
  have e2:(((hi - lo).toNat:Nat):Int) - ((0:Nat):Int)=Builtin.Range.rangeSize lo hi 1:=by rw [rangeSize_one];split<;>omega
  show IsRangeIter _ _ (lo+((0:Nat):Int) * 1) ((((hi - lo).toNat:Nat):Int) - ((0:Nat):Int)) 1
  rw [e1,e2]
  exact Heap.get?_push_size _ rfl
 ·have e:b=(s.heap.push { cls:=.type "range",data:=.fields #[.int lo t,.int hi u,.int 1 v] }).objs.size:=by simpa using hb
  subst e
  exact I1.aK9 (Nat.le_refl _) (I1.hok.fresh (Nat.le_refl _))
def aOl (ta:TA):TI:=fun σ H R=>ta σ H fun vs H1=>∃j:Int,vs=[.int j]/\-(2 ^ 62)<=j/\j<2 ^ 62/\R (Itr 0 j.toNat) H1
def aO0 (ta:TA):TI:=fun σ H R=>ta σ H fun vs H1=>∃i j:Int,vs=[.int i,.int j]/\(-(2 ^ 62)<=i/\i<2 ^ 62/\-(2 ^ 62)<=j/\j<2 ^ 62)/\R (Itr i (j - i).toNat) H1
theorem aGj {a:Expr} {ta:TA} {p pos:Pos} (hg:Gl X "range") (hm:X.mg "range" = none) (ha:PA X [a] ta) (hs:starEach [a] X.env=[(false,eval a X.env)]:=by rfl):PI X tg (.Call (.Name "range" p) [a] [] pos) (aOl ta):=by
 intro pins s σ H R I h
 refine Call_ (nQ I hg hm boot_range (PyProof.Rows.callWith_type1 (thn (ha pos pins s σ H _ I h) fun us s1 ⟨vs,H1,I1,r1,q1⟩=>?_) hs rfl))
 obtain ⟨j,e,q1,q2,q⟩:=q1
 subst e
 cases r1 with
 | cons r rr =>
  cases rr
  obtain ⟨t,rfl⟩:=r
  exact call_range_1 (aCj I1 (by omega) (by omega) q1 q2 (by simpa using q))
theorem aG4 {a b:Expr} {ta:TA} {p pos:Pos} (hg:Gl X "range") (hm:X.mg "range" = none) (ha:PA X [a,b] ta) (hs:starEach [a,b] X.env=[(false,eval a X.env),(false,eval b X.env)]:=by rfl) (hs2:starEach [b] X.env=[(false,eval b X.env)]:=by rfl) :
  PI X tg (.Call (.Name "range" p) [a,b] [] pos) (aO0 ta):=by
 intro pins s σ H R I h
 refine Call_ (nQ I hg hm boot_range (PyProof.Rows.callWith_type1 (thn (ha pos pins s σ H _ I h) fun us s1 ⟨vs,H1,I1,r1,q1⟩=>?_) (by rw [hs,hs2]) (by rw [hs2];rfl)))
 obtain ⟨i,j,e,⟨q1,q2,q3,q4⟩,q⟩:=q1
 subst e
 cases r1 with
 | cons r rr =>
  cases rr with
  | cons r' rr =>
   cases rr
   obtain ⟨t,rfl⟩:=r
   obtain ⟨t',rfl⟩:=r'
   exact call_range_2 (aCj I1 q1 q2 q3 q4 q)
def aTm (wi:TI) (g:TG) (tb:TS):TS:=fun D σ H=>wi σ H fun J H1=>∃W:Nat->Nat->St->Hp->Prop,(∃m,W 0 m σ H1)/\∀i m σ H,W i m σ H ->
 (J.stop i H/\D.nx σ H)\/(J.go i H/\∃N:St->Hp->Prop,(∀σ' H',N σ' H'->∃m',m'<m/\W (i+1) m' σ' H')/\∀x H',J.yld i H x H'->g x σ H' fun σ2 H2=>tb { D with nx:=N,ct:=N,bk:=D.nx } σ2 H2)
def tY (fp:Y2) (h:Heap):Y8:=fp.filterMap fun b=>(h.get? b).map fun o=>(b,o)
theorem lP {fp:Y2} {h:Heap} {b:Addr} {o:Obj} (hb:b∈fp) (e:h.get? b=some o):(b,o)∈tY fp h:=List.mem_filterMap.mpr ⟨b,hb,by rw [e];rfl⟩
theorem aGh {fp:Y2} {h:Heap} {p:Addr×Obj} (hp:p∈tY fp h):p.1∈fp/\h.get? p.1=some p.2:=by
 obtain ⟨b,hb,e⟩:=List.mem_filterMap.mp hp
 cases q:h.get? b with
 | none=>rw [q] at e;cases e
 | some o =>
  rw [q] at e
  have e':(b,o)=p:=Option.some.inj e
  subst e'
  exact ⟨hb,q⟩
theorem Inv.pinned {pins:Y8} {σ:St} {H:Hp} {s:Shared} {fp:Y2} (I:Inv X pins σ H s) (hf:∀b∈fp,wA X pins H b) (ho:∀b∈fp,∃o,s.heap.get? b=some o/\∀v,o.data ≠ .cell v):Inv X (pins++tY fp s.heap) σ H s :=
 I.aFr fun p hp=>(List.mem_append.mp hp).elim (fun z=>I.pin p (List.mem_append_right _ z)) fun z=>by
  obtain ⟨hb,e⟩:=aGh z
  obtain ⟨f0,f1,f2,_⟩:=hf p.1 hb
  obtain ⟨o,e',d⟩:=ho p.1 hb
  rw [e] at e';cases e'
  exact ⟨e,f0,f1,f2,d⟩
theorem Inv.rJ {pins pl:Y8} {σ:St} {H:Hp} {s:Shared} (I:Inv X (pins++pl) σ H s):Inv X pins σ H s:=I.aFr fun p hp=>I.pin p (List.mem_append_right _ (List.mem_append_left _ hp))
theorem aQ2 {iter:Expr} {body:List Stmt} {wi:TI} {g:TG} {tb:TS} {pos:Pos} (hp:PassesOwn (model X.prog X.w) X.A X.env X.xe) (hc:X.calm=true) (hi:PI X tg iter wi) (hg:PG X tg g) (hb:PSs X body tb)
  (hs:∀x,foldedSetIterable iter X.env x=pure x:=by intro _;rfl):PS X (.For tg iter body [] pos) (aTm wi g tb):=by
 intro pins s σ H D I h
 refine wpAny_For (thn (hi pins s σ H _ I h) fun v s1 h1=>thn h1 fun itv s2 h2=>?_) hs
 obtain ⟨it,fp,tn,J,H2,e,I2,T,st2,f2,W,⟨m0,w0⟩,turn⟩:=h2
 subst e
 have stat:∀ {H':Hp},(∀b∈fp,H' b=none)->∀b∈fp,wA X pins H' b:=fun hn b hb=>⟨hn b hb,(f2 b hb).2⟩
 refine codeAny_forLoop_any (fun n s'=>∃i σ' H',Inv X pins σ' H' s'/\tn i s'.heap/\(∀b∈fp,H' b=none)/\W i n σ' H') ?_ m0 ⟨0,σ,H2,I2,st2,fun b hb=>(f2 b hb).1,w0⟩
 rintro n s3 ⟨i,σ3,H3,I3,st3,fr3,w3⟩
 rcases turn i n σ3 H3 w3 with ⟨stop,qn⟩ | ⟨go,N,hN,step⟩
 ·refine wpAny_passesOwn hp (thn (T.done X rfl rfl rfl hc i pins s3 σ3 H3 X.xe I3 (stat fr3) st3 stop) fun r s4 ⟨hr,I4⟩=>?_)
  subst hr
  exact wpAny_execs_nil ⟨σ3,H3,I4,qn⟩
 ·refine wpAny_passesOwn hp (thn (T.item X rfl rfl rfl hc i pins s3 σ3 H3 X.xe I3 (stat fr3) st3 go) fun r s4 ⟨u,hr,h4⟩=>?_)
  subst hr
  refine wpAny_passesOwn hp (thn h4 fun _ s5 ⟨x,H5,I5,r5,y5,st5,fr5⟩=>?_)
  have I5':=I5.pinned (stat fr5) (T.obj _ _ st5)
  refine wpAny_passesOwn hp (thn (hg _ s5 σ3 H5 x u _ I5' r5 (step x H5 y5)) fun _ s6 ⟨σ6,H6,I6,q6⟩=>?_)
  refine wpAny_passesOwn hp (thn (hb _ s6 σ6 H6 _ I6 q6) fun f s7 q7=>?_)
  have again:∀ {σ7:St} {H7:Hp},Inv X (pins++tY fp s5.heap) σ7 H7 s7->N σ7 H7->∃m,m<n/\∃i σ' H',Inv X pins σ' H' s7/\tn i s7.heap/\(∀b∈fp,H' b=none)/\W i m σ' H':=fun {σ7 H7} I7 n7=>by
   obtain ⟨m',hm,w7⟩:=hN σ7 H7 n7
   refine ⟨m',hm,i+1,σ7,H7,I7.rJ,T.keep _ _ _ st5 fun b hb o e=>(I7.pin (b,o) (List.mem_append_right _ (List.mem_append_right _ (lP hb e)))).1,fun b hb=>?_,w7⟩
   obtain ⟨o,e,d⟩:=T.obj _ _ st5 b hb
   exact (I7.pin (b,o) (List.mem_append_right _ (List.mem_append_right _ (lP hb e)))).2.1
  cases f with
  | next=>obtain ⟨σ7,H7,I7,n7⟩:=q7;exact again I7 n7
  | cont=>obtain ⟨σ7,H7,I7,n7⟩:=q7;exact again I7 n7
  | brk=>obtain ⟨σ7,H7,I7,q7⟩:=q7;exact ⟨σ7,H7,I7.rJ,q7⟩
  | ret v=>obtain ⟨x7,σ7,H7,I7,r7,q7⟩:=q7;exact ⟨x7,σ7,H7,I7.rJ,r7,q7⟩
end
end L2
namespace L2
open PySem PySem.Spec PyProof.Rows
abbrev R2:=V->V->Hp->VK->Prop
def OpR (X:Cx) (f:Value->Value->Sem Value) (r:R2):Prop :=
 ∀(pins:Y8) (s:Shared) (σ:St) (H:Hp) (x y:V) (v u:Value) (Q:VK),Inv X pins σ H s->RelV x v->RelV y u->r x y H Q ->
  wpAny (model X.prog X.w) X.A (f v u) (EP X pins σ Q) X.xe s
def UnR (X:Cx) (f:Value->Sem Value) (r:V->Hp->VK->Prop):Prop :=
 ∀(pins:Y8) (s:Shared) (σ:St) (H:Hp) (x:V) (v:Value) (Q:VK),Inv X pins σ H s->RelV x v->r x H Q ->
  wpAny (model X.prog X.w) X.A (f v) (EP X pins σ Q) X.xe s
def lD (X:Cx) (f:Value) (r:List V->Hp->VK->Prop):Prop :=
 ∀(pins:Y8) (s:Shared) (σ:St) (H:Hp) (xs:List V) (us:Y1) (Q:VK),Inv X pins σ H s->Vals xs us->r xs H Q ->
  wpAny (model X.prog X.w) X.A (call f us) (EP X pins σ Q) X.xe s
def aW7 (X:Cx) (r:V->Hp->(Bool->Hp->Prop)->Prop):Prop :=
 ∀(pins:Y8) (s:Shared) (σ:St) (H:Hp) (x:V) (v:Value) (Q:Bool->Hp->Prop),Inv X pins σ H s->RelV x v->r x H Q ->
  wpAny (model X.prog X.w) X.A (truthy v) (TP X pins σ Q) X.xe s
def tOp (r:R2) (ta tb:TE):TE:=fun σ H Q=>ta σ H fun x H1=>tb σ H1 fun y H2=>r x y H2 Q
def tUn (r:V->Hp->VK->Prop) (ta:TE):TE:=fun σ H Q=>ta σ H fun x H1=>r x H1 Q
def rI (C:Int->Int->Prop) (g:Int->Int->V):R2:=fun x y H Q=>∃i j,x=.int i/\y=.int j/\C i j/\Q (g i j) H
def rI0 (g:Int->Int->V):R2:=fun x y H Q=>∃i j,x=.int i/\y=.int j/\Q (g i j) H
def rU (g:Int->V):V->Hp->VK->Prop:=fun x H Q=>∃i,x=.int i/\Q (g i) H
section
variable {X:Cx} {a b c:Expr} {ta tb tc:TE} {pos:Pos}
theorem aR9 (ha:PE X a ta) (hb:PE X b tb) {pins:Y8} {s:Shared} {σ:St} {H:Hp} {R:V->V->Hp->Prop} (I:Inv X pins σ H s)
  (h:ta σ H fun x H1=>tb σ H1 fun y H2=>R x y H2) {Q:Y9} {f:Value->Value->Sem Value}
  (hf:∀v u s2 x y H2,Inv X pins σ H2 s2->RelV x v->RelV y u->R x y H2->wpAny (model X.prog X.w) X.A (f v u) Q X.xe s2) :
  wpAny (model X.prog X.w) X.A (eval a X.env) (fun v s₁=>wpAny (model X.prog X.w) X.A (eval b X.env) (fun u s₂=>wpAny (model X.prog X.w) X.A (f v u) Q X.xe s₂) X.xe s₁) X.xe s:=by
 refine thn (ha pins s σ H _ I h) fun v s1 ⟨x,H1,I1,r1,q1⟩=>?_
 refine thn (hb pins s1 σ H1 _ I1 q1) fun u s2 ⟨y,H2,I2,r2,q2⟩=>?_
 exact hf v u s2 x y H2 I2 r1 r2 q2
theorem aUb {op:Operator} {r:R2} (ho:OpR X (binaryOp op) r) (ha:PE X a ta) (hb:PE X b tb):PE X (.BinOp a op b pos) (tOp r ta tb):=by
 intro pins s σ H Q I h
 exact wpAny_BinOp (aR9 ha hb I h fun v u s2 x y H2 I2 rx ry q=>ho pins s2 σ H2 x y v u Q I2 rx ry q)
theorem aVr {op:UnaryOp} {r:V->Hp->VK->Prop} (ho:UnR X (unaryOp op) r) (ha:PE X a ta):PE X (.UnaryOp op a pos) (tUn r ta):=by
 intro pins s σ H Q I h
 exact UnaryOp_ (thn (ha pins s σ H _ I h) fun v s1 ⟨x,H1,I1,r1,q1⟩=>ho pins s1 σ H1 x v Q I1 r1 q1)
theorem opI {f:Value->Value->Sem Value} {C:Int->Int->Prop} {g:Int->Int->Int}
  (rule:∀(i j:Int) (t u:Tok) (s:Shared) (Q:Y9) (E:Y9),C i j->Q (.int (g i j) s.toks) { s with toks:=s.toks+1 }->wpAny (model X.prog X.w) X.A (f (.int i t) (.int j u)) Q E s) :
  OpR X f (rI C fun i j=>.int (g i j)):=by
 intro pins s σ H x y v u Q I rx ry h
 obtain ⟨i,j,rfl,rfl,hc,q⟩:=h
 obtain ⟨t,rfl⟩:=rx
 obtain ⟨t',rfl⟩:=ry
 exact rule i j t t' s _ _ hc ⟨.int (g i j),H,I.tok _,⟨_,rfl⟩,q⟩
theorem aUf {f:Value->Value->Sem Value} {g:Int->Int->Int}
  (rule:∀(i j:Int) (t u:Tok) (s:Shared) (Q:Y9) (E:Y9),Q (.int (g i j) s.toks) { s with toks:=s.toks+1 }->wpAny (model X.prog X.w) X.A (f (.int i t) (.int j u)) Q E s) :
  OpR X f (rI0 fun i j=>.int (g i j)):=by
 intro pins s σ H x y v u Q I rx ry h
 obtain ⟨i,j,rfl,rfl,q⟩:=h
 obtain ⟨t,rfl⟩:=rx
 obtain ⟨t',rfl⟩:=ry
 exact rule i j t t' s _ _ ⟨.int (g i j),H,I.tok _,⟨_,rfl⟩,q⟩
theorem aQz {f:Value->Value->Sem Value} {g:Int->Int->Bool}
  (rule:∀(i j:Int) (t u:Tok) (s:Shared) (Q:Y9) (E:Y9),Q (.bool (g i j)) s->wpAny (model X.prog X.w) X.A (f (.int i t) (.int j u)) Q E s) :
  OpR X f (rI0 fun i j=>.bl (g i j)):=by
 intro pins s σ H x y v u Q I rx ry h
 obtain ⟨i,j,rfl,rfl,q⟩:=h
 obtain ⟨t,rfl⟩:=rx
 obtain ⟨t',rfl⟩:=ry
 exact rule i j t t' s _ _ ⟨.bl (g i j),H,I,rfl,q⟩
theorem aPt:OpR X (binaryOp .Add) (rI0 fun i j=>.int (i+j)):=aUf fun _ _ _ _ _ _ _ q=>add_int q
theorem aSk:OpR X (binaryOp .Sub) (rI0 fun i j=>.int (i - j)):=aUf fun _ _ _ _ _ _ _ q=>sub_int q
theorem aR5:OpR X (binaryOp .Mod) (rI (fun _ j=>0<j) fun i j=>.int (i % j)):=opI fun i j _ _ _ _ _ hc q=>by
 have h1:(0:Int)<j:=hc
 exact mod_int' (by omega) (by rw [Int.fmod_eq_emod_of_nonneg i (by omega)];exact q)
theorem unI {f:Value->Sem Value} {g:Int->Int}
  (rule:∀(i:Int) (t:Tok) (s:Shared) (Q:Y9) (E:Y9),Q (.int (g i) s.toks) { s with toks:=s.toks+1 }->wpAny (model X.prog X.w) X.A (f (.int i t)) Q E s) :
  UnR X f (rU fun i=>.int (g i)):=by
 intro pins s σ H x v Q I rx h
 obtain ⟨i,rfl,q⟩:=h
 obtain ⟨t,rfl⟩:=rx
 exact rule i t s _ _ ⟨.int (g i),H,I.tok _,⟨_,rfl⟩,q⟩
theorem aR6:UnR X (unaryOp .USub) (rU fun i=>.int (-i)):=unI fun _ _ _ _ _ q=>neg_int q
end
section
variable {X:Cx} {a b c:Expr} {ta tb tc:TE} {pos:Pos}
theorem aJb {pins:Y8} {σ:St} {H:Hp} {s:Shared} {Q:VK} {k k':Bool} (I:Inv X pins σ H s) (q:Q (.bl k) H) (e:k=k'):EP X pins σ Q (.bool k') s:=by
 subst e
 exact ⟨.bl k,H,I,rfl,q⟩
theorem aJ6:OpR X (compareOp .Lt) (rI0 fun i j=>.bl (decide (i<j))):=aQz fun _ _ _ _ _ _ _ q=>lt_int q
theorem aK6:OpR X (compareOp .LtE) (rI0 fun i j=>.bl (decide (i<=j))):=aQz fun _ _ _ _ _ _ _ q=>le_int q
theorem aOz:OpR X (compareOp .Gt) (rI0 fun i j=>.bl (decide (j<i))):=aQz fun _ _ _ _ _ _ _ q=>gt_int q
theorem aRr:OpR X (compareOp .Is) (fun x y H Q=>y=.non/\Q (.bl (decide (x=.non))) H):=by
 intro pins s σ H x y v u Q I rx ry h
 obtain ⟨rfl,q⟩:=h
 cases ry
 refine is_none_gen (aJb I q ?_)
 cases x<;>first
  | (cases rx;rfl)
  | (obtain ⟨t,rfl⟩:=rx;rfl)
theorem aE2:OpR X (compareOp .IsNot) (fun x y H Q=>y=.non/\Q (.bl (!decide (x=.non))) H):=by
 intro pins s σ H x y v u Q I rx ry h
 obtain ⟨rfl,q⟩:=h
 cases ry
 refine isnot_none_gen (aJb I q ?_)
 cases x<;>first
  | (cases rx;rfl)
  | (obtain ⟨t,rfl⟩:=rx;rfl)
theorem OpR.or {f:Value->Value->Sem Value} {r r':R2} (h:OpR X f r) (h':OpR X f r'):OpR X f (fun x y H Q=>r x y H Q\/r' x y H Q):=by
 intro pins s σ H x y v u Q I rx ry q
 rcases q with q | q
 ·exact h pins s σ H x y v u Q I rx ry q
 ·exact h' pins s σ H x y v u Q I rx ry q
theorem jF (b:Expr) {op:CmpOp} (h:op ≠ .In:=by decide) (h2:op ≠ .NotIn:=by decide):behindInMarks op b=false:=by
 have e1:(op == CmpOp.In)=false:=by cases op<;>first | rfl | exact absurd rfl h
 have e2:(op == CmpOp.NotIn)=false:=by cases op<;>first | rfl | exact absurd rfl h2
 cases b<;>simp [behindInMarks,e1,e2]
theorem aL1 {op:CmpOp} {r:R2} (ho:OpR X (compareOp op) r) (ha:PE X a ta) (hb:PE X b tb) (hm:behindInMarks op b=false):PE X (.Compare a [op] [b] pos) (tOp r ta tb):=by
 intro pins s σ H Q I h
 exact wpAny_Compare1 (aR9 ha hb I h fun v u s2 x y H2 I2 rx ry q=>ho pins s2 σ H2 x y v u Q I2 rx ry q) hm
def aE5 (t:TE):TT:=fun σ H Q=>t σ H fun x H'=>∃k,x=.bl k/\Q k H'
theorem aLb {op:CmpOp} {r:R2} (ho:OpR X (compareOp op) r) (ha:PE X a ta) (hb:PE X b tb) (hm:behindInMarks op b=false):PT X (.Compare a [op] [b] pos) (aE5 (tOp r ta tb)):=by
 intro pins s σ H Q I h
 refine wpAny_isTrue_Compare1 (thn (ha pins s σ H _ I h) fun v s1 ⟨x,H1,I1,r1,q1⟩=>thn (hb pins s1 σ H1 _ I1 q1) fun u s2 ⟨y,H2,I2,r2,q2⟩ =>
  thn (ho pins s2 σ H2 x y v u _ I2 r1 r2 q2) fun c s3 ⟨z,H3,I3,r3,k,e,q3⟩=>?_) hm
 subst e
 cases r3
 exact wpAny_truthy_bool ⟨H3,I3,q3⟩
def aI1 (r r':R2) (ta tb tc:TE):TE:=fun σ H Q=>ta σ H fun x H1=>tb σ H1 fun y H2=>r x y H2 fun z H3=>∃k,z=.bl k /\
 (if k=true then tc σ H3 fun w' H4=>r' y w' H4 Q else Q (.bl false) H3)
theorem aIl {op op':CmpOp} {r r':R2} (ho:OpR X (compareOp op) r) (ho':OpR X (compareOp op') r') (ha:PE X a ta) (hb:PE X b tb) (hc:PE X c tc)
  (hm:lastMarks [op,op'] [b,c]=false:=by with_unfolding_all rfl):PE X (.Compare a [op,op'] [b,c] pos) (aI1 r r' ta tb tc):=by
 intro pins s σ H Q I h
 refine Compare_chain (thn (ha pins s σ H _ I h) fun v s1 ⟨x,H1,I1,r1,q1⟩=>chain_link (thn (hb pins s1 σ H1 _ I1 q1) fun u s2 ⟨y,H2,I2,r2,q2⟩ =>
  thn (ho pins s2 σ H2 x y v u _ I2 r1 r2 q2) fun d s3 ⟨z,H3,I3,r3,k,e,q3⟩=>?_)) hm
 subst e
 cases r3
 refine wpAny_truthy_bool ?_
 cases k with
 | false=>exact ite_ff ⟨.bl false,H3,I3,rfl,q3⟩
 | true=>exact ite_tt (chain_last (thn (hc pins s3 σ H3 _ I3 q3) fun w' s4 ⟨z',H4,I4,r4,q4⟩=>ho' pins s4 σ H4 y z' u w' Q I4 r2 r4 q4))
def aRe (K:FG) (x:V) (H:Hp) (k:Bool):Prop :=
 match x with
 | .non=>k=false
 | .bl b=>k=b
 | .int i=>k=(i != 0)
 | .str y=>y.length<=sizeLine/\k=((y.length:Int) != 0)
 | .byt y=>y.size<=sizeLine/\k=((y.size:Int) != 0)
 | .ref p=>(∃xs,SqL K H p xs/\k = !xs.isEmpty)\/(∃xs,SqT K H p xs/\k = !xs.isEmpty)\/∃kvs,H p=some (.dK kvs)/\k = !kvs.isEmpty
 | _=>False
theorem aDw {κ:Type} {kvs:List (κ×V)} {vs:List (κ×Value)} (r:KV kvs vs):(!vs.isEmpty) = !kvs.isEmpty:=by
 cases r<;>rfl
theorem uY {xs:List V} {its:Y1} (r:Vals xs its):(!its.toArray.isEmpty) = !xs.isEmpty:=by
 cases r<;>simp
theorem vD:(sizeLine:Nat)<2 ^ 63:=by rw [sizeLine_eq];decide
theorem aSu:aW7 X (fun x H Q=>∃k,aRe X.K x H k/\Q k H):=by
 intro pins s σ H x v Q I rx h
 obtain ⟨k,e,q⟩:=h
 have hl:=vD
 have hs:sizeLine=16777216:=sizeLine_eq
 cases x with
 | non =>
  cases rx
  have e':k=false:=e
  subst e'
  exact truthy_none ⟨H,I,q⟩
 | bl b =>
  cases rx
  have e':k=b:=e
  subst e'
  exact wpAny_truthy_bool ⟨H,I,q⟩
 | int i =>
  obtain ⟨t,rfl⟩:=rx
  have e':k=(i != 0):=e
  subst e'
  exact PySem.P.truthy_int ⟨H,I,q⟩
 | str y =>
  obtain ⟨t,rfl⟩:=rx
  obtain ⟨hy,e'⟩:y.length<=sizeLine/\k=((y.length:Int) != 0):=e
  subst e'
  exact PySem.P.truthy_str (by omega) ⟨H,I.tok _,q⟩
 | byt y =>
  obtain ⟨t,rfl⟩:=rx
  obtain ⟨hy,e'⟩:y.size<=sizeLine/\k=((y.size:Int) != 0):=e
  subst e'
  exact PySem.W.truthy_bytes (by omega) ⟨H,I.tok _,q⟩
 | ref p =>
  cases rx
  have e':(∃xs,SqL X.K H p xs/\k = !xs.isEmpty)\/(∃xs,SqT X.K H p xs/\k = !xs.isEmpty)\/∃kvs,H p=some (.dK kvs)/\k = !kvs.isEmpty:=e
  rcases e' with ⟨xs,hx,e'⟩ | ⟨xs,hx,e'⟩ | ⟨kvs,hx,e'⟩
  ·subst e'
   obtain ⟨its,r,pl,hz⟩:=I.list hx
   have hlen:=r.length
   exact wpAny_truthy_list pl.isList (by simp only [List.size_toArray];omega) ⟨H,I.tok _,by rw [uY r];exact q⟩
  ·subst e'
   obtain ⟨its,r,pl,hz⟩:=I.tuple hx
   have hlen:=r.length
   exact truthy_tuple pl (by simp only [List.size_toArray];omega) ⟨H,I.tok _,by rw [uY r];exact q⟩
  ·subst e'
   obtain ⟨hz,hS,vs,r,m⟩:kvs.length<=sizeLine/\(p == sysModules)=false/\∃vs,KV kvs vs/\s.heap.DictOf (dG X.prog X.w) p vs:=I.hok p _ hx
   have hlen:kvs.length=vs.length:=Paired.length r
   exact wpAny_truthy_dict hS m (by omega) ⟨H,I.tok _,by rw [aDw r];exact q⟩
 | _=>exact (show False from e).elim
theorem aHx (ha:PE X a ta) (he:∀whole,isTrue a X.env whole=(do let v <- whole;standAt a.pos;holding [v] (truthy v))) :
  PT X a (fun σ H Q=>ta σ H fun x H'=>∃k,aRe X.K x H' k/\Q k H'):=by
 intro pins s σ H Q I h
 exact isTrue_plain (thn (ha pins s σ H _ I h) fun v s1 ⟨x,H1,I1,r1,q1⟩=>aSu pins s1 σ H1 x v Q I1 r1 q1) (he _)
theorem vals1 {x:V} {us:Y1} (r:Vals [x] us):∃u,us=[u]/\RelV x u:=by
 cases r with
 | cons r1 r2=>cases r2;exact ⟨_,rfl,r1⟩
theorem aH7:lD X (.builtin "abs") (fun xs H Q=>∃i,xs=[.int i]/\Q (.int (if i<0 then -i else i)) H):=by
 intro pins s σ H xs us Q I r h
 obtain ⟨i,rfl,q⟩:=h
 obtain ⟨u,rfl,t,rfl⟩:=vals1 r
 exact call_abs_int fun u tk=>⟨.int (if i<0 then -i else i),H,I.tok _,⟨_,rfl⟩,q⟩
end
end L2
namespace L2
open PySem PySem.Spec PyProof.Rows
structure ObjM (h:Heap) (x dx C:Addr) (mA:Y6):Prop where
 obj:h.get? x=some (PySem.W.instObj C dx)
 ns:h.Ns1 dx mA
 ne:dx ≠ x
theorem aF8 {h:Heap} {dx:Addr} {mA:Y6} (n:h.Ns1 dx mA):∃od,h.get? dx=some od/\∀name,PySem.W.lookIn name od=some (mA name):=by
 obtain ⟨o,es,ep,ho,hd,hk,_,hm⟩:=n
 refine ⟨o,ho,fun name=>?_⟩
 have e:=hm name
 unfold nsFind findBy at e
 rw [<- Array.find?_toList] at e
 unfold PySem.W.lookIn
 rw [hd]
 dsimp only
 split
 ·rename_i y q
  rw [q] at e
  exact congrArg some e
 ·rename_i q
  rw [q] at e
  have a:es.toList.any (·.refKey)=false:=by
   rw [List.any_eq_false]
   intro y hy
   obtain ⟨z,t,hkey⟩:=hk y (Array.mem_toList_iff.mp hy)
   simp [DictEntry.refKey,hkey]
  have a':¬ es.toList.any (·.refKey)=true:=by rw [a];exact Bool.false_ne_true
  rw [if_neg a']
  exact congrArg some e
theorem ObjM.look {h:Heap} {x dx C:Addr} {mA:Y6} (I:ObjM h x dx C mA):∃od,PySem.W.InstAt h x (PySem.W.instObj C dx) C (some od)/\∀name,PySem.W.lookIn name od=some (mA name) :=
 let ⟨od,ho,hl⟩:=aF8 I.ns
 ⟨od,⟨I.obj,rfl,rfl,ho⟩,hl⟩
section
variable {prog:Program} {w:World} {A:Around} {E:Y9} {s:Shared} {K:FG} {x dx C f:Addr} {mA:Y6} {name:Str} {v:Value}
end
theorem vO.some_of {v:V} {o:Option Value} (r:vO (some v) o):∃u,o=some u/\RelV v u:=by
 cases o with
 | none=>exact (show False from r).elim
 | some u=>exact ⟨u,rfl,r⟩
section
variable {P:Program} {w:World} {H H':Hp} {h h':Heap} {a C dx:Addr} {fs fs':List (Str×V)}
theorem iM (hok:HOk P w H h) (e:H a=some (.ins C dx fs)):∃mA,ObjM h a dx C mA/\(∀f,vO (fs.lookup f) (mA f))/\PySem.Within mA (fs.map (·.1))/\fs.length<=1000/\H dx=some (.own a):=by
 obtain ⟨d,z,ne,ob,mA,n,r,q⟩:=(show cV P w H h a (.ins C dx fs) from hok a _ e)
 exact ⟨mA,⟨ob,n,ne⟩,r,q,z,d⟩
end
structure Cls (K:FG) (C:Addr):Prop where
 pg:PySem.W.plainGet K C Str.empty=true
 hd:PySem.W.hasDictIn K C=true
 po:PySem.W.plainOver K C=true
 sa:PySem.W.findIn K (.ref C) "__setattr__" = some (some (.builtin "object.__setattr__"))
theorem Cls.get {K:FG} {C:Addr} (c:Cls K C) (f:Str):PySem.W.plainGet K C f=true:=c.pg
section
variable {X:Cx} {pins:Y8} {σ:St} {H:Hp} {s:Shared} {a C dx:Addr} {fs:List (Str×V)} {f:Str} {v:V} {A:Around} {E:Y9}
end
section
variable {X:Cx} {o e value:Expr} {f:Str} {pos pos' tpos:Pos} {ta tv:TE}
end
section
variable {X:Cx} {pins:Y8} {σ:St} {H:Hp} {s:Shared} {A:Around} {E:Y9} {Q:Y9} {c:Value} {b:Bool}
inductive TyOf (K:FG) (H:Hp):V->Value->Prop where
 | non:TyOf K H .non (.type "NoneType")
 | bl (x:Bool):TyOf K H (.bl x) (.type "bool")
 | int (i:Int):TyOf K H (.int i) (.type "int")
 | str (x:Str):TyOf K H (.str x) (.type "str")
 | flt (x:UInt64):TyOf K H (.flt x) (.type "float")
 | lst {a:Addr} {xs:List V} (e:H a=some (.lst xs)):TyOf K H (.ref a) (.type "list")
 | frz {a:Addr} {o:Obj} {xs:List V} (e:H a=some (.frz o (.lst xs))):TyOf K H (.ref a) (.type "list")
 | tup {a:Addr} {xs:List V} (e:H a=some (.tup xs)):TyOf K H (.ref a) (.type "tuple")
 | dK {a:Addr} {kvs:List (Key×V)} (e:H a=some (.dK kvs)):TyOf K H (.ref a) (.type "dict")
 | dT {a:Addr} {kvs:List (List Key×V)} (e:H a=some (.dT kvs)):TyOf K H (.ref a) (.type "dict")
 | ins {a C dx:Addr} {fs:List (Str×V)} (e:H a=some (.ins C dx fs)) (cl:Cls K C) (ha:PySem.W.findIn K (.ref C) "__class__" = some (some (.builtin "object.__class__")))
   (hn:PySem.W.specialIn K (.builtin "object.__class__") "__get__" = some (some (.builtin "getset_descriptor.__get__"))) (htk:PySem.W.takesIn K (.builtin "object.__class__")=some true)
   (hm:PySem.W.mroIn K C (.type "object")=some true):TyOf K H (.ref a) (.ref C)
theorem iQ {x:V} {u t:Value} (I:Inv X pins σ H s) (rx:RelV x u) (ty:TyOf X.K H x t) (e:PySem.W.kitOne X.K t c=some b) (h:∀tk,Q (.bool b) { s with toks:=tk }) :
  wpAny (model X.prog X.w) A (call (.builtin "isinstance") [u,c]) Q E s:=by
 cases ty with
 | non=>cases (show u=Value.none from rx);exact PySem.W.kia_one PySem.W.kitx_none I.kIn True.intro e (fun z=>nomatch z) h
 | bl y=>cases (show u=Value.bool y from rx);exact PySem.W.kia_one PySem.W.kitx_bool I.kIn True.intro e (fun z=>nomatch z) h
 | int i=>obtain ⟨t,q⟩:=(show ∃t,u=Value.int i t from rx);cases q;exact PySem.W.kia_one PySem.W.kitx_int I.kIn True.intro e (fun z=>nomatch z) h
 | str y=>obtain ⟨t,q⟩:=(show ∃t,u=Value.str y t from rx);cases q;exact PySem.W.kia_one PySem.W.kitx_str I.kIn True.intro e (fun z=>nomatch z) h
 | flt y=>obtain ⟨t,q⟩:=(show ∃t,u=Value.float y t from rx);cases q;exact PySem.W.kia_one PySem.W.kitx_float I.kIn True.intro e (fun z=>nomatch z) h
 | @lst a xs ea =>
  cases (show u=Value.ref a from rx)
  obtain ⟨_,_,n,_,h1⟩:=(show cV X.prog X.w H s.heap a (.lst xs) from I.hok a _ ea)
  exact PySem.W.kia_one PySem.W.kitx_list I.kIn ⟨_,h1,rfl⟩ e (fun z=>nomatch z) h
 | @frz a ob xs ea =>
  cases (show u=Value.ref a from rx)
  obtain ⟨_,_,_,n,_,h1⟩:=(show cV X.prog X.w H s.heap a (.frz ob (.lst xs)) from I.hok a _ ea)
  exact PySem.W.kia_one PySem.W.kitx_list I.kIn ⟨_,h1,rfl⟩ e (fun z=>nomatch z) h
 | @tup a xs ea =>
  cases (show u=Value.ref a from rx)
  obtain ⟨_,_,_,p⟩:=(show cV X.prog X.w H s.heap a (.tup xs) from I.hok a _ ea)
  obtain ⟨o,h1,h2,_⟩:=p
  exact PySem.W.kia_one PySem.W.kitx_tuple I.kIn ⟨o,h1,h2⟩ e (fun z=>nomatch z) h
 | @dK a kvs ea =>
  cases (show u=Value.ref a from rx)
  obtain ⟨_,_,vs,_,p⟩:=(show cV X.prog X.w H s.heap a (.dK kvs) from I.hok a _ ea)
  obtain ⟨o,es,ep,h1,h2,_⟩:=p
  exact PySem.W.kia_one PySem.W.kitx_dict I.kIn ⟨o,h1,h2.1⟩ e (fun z=>nomatch z) h
 | @dT a kvs ea =>
  cases (show u=Value.ref a from rx)
  obtain ⟨_,_,xs,_,o,es,ep,h1,h2,_⟩:=(show cV X.prog X.w H s.heap a (.dT kvs) from I.hok a _ ea)
  exact PySem.W.kia_one PySem.W.kitx_dict I.kIn ⟨o,h1,h2.1⟩ e (fun z=>nomatch z) h
 | @ins a C dx fs ea cl ha hn htk hm =>
  cases (show u=Value.ref a from rx)
  obtain ⟨mA,O,_⟩:=iM I.hok ea
  obtain ⟨od,J,_⟩:=O.look
  exact PySem.W.kia_one (PySem.W.kitx_own (cl.get _) cl.hd ha hn htk hm) I.kIn J e (fun z=>nomatch z) h
end
end L2
namespace L2
open PySem PySem.Spec PyProof.Rows
structure Room (k:Nat) (A:Around):Prop where
 hd:A.handled=none
 dp:A.depth+3 * k+5<recursionLimit
 un:A.units+16 * k+200<cLine
theorem Room.mono {j k:Nat} {A:Around} (r:Room k A) (h:j<=k):Room j A:=⟨r.hd,by have:=r.dp;omega,by have:=r.un;omega⟩
theorem Room.deeper {k:Nat} {A:Around} (r:Room (k+1) A) (env:Env):Room k (A.deeper env) :=
 ⟨r.hd,by have:=r.dp;show A.depth+1+3 * k+5<_;omega,by have:=r.un;show A.units+3+16 * k+200<_;omega⟩
theorem Room.depth {k:Nat} {A:Around} (r:Room k A):A.depth<recursionLimit:=by have:=r.dp;omega
def aFx:TA:=fun _ H Q=>Q [] H
def xQ (ta:TE) (tr:TA):TA:=fun σ H Q=>ta σ H fun x H1=>tr σ H1 fun xs H2=>Q (x::xs) H2
section
variable {X:Cx} {e:Expr} {es:List Expr} {te:TE} {t:TA} {pos:Pos}
theorem nO:PA X [] aFx:=fun _ _ _ _ H Q I h=>Calls.spliced_nil ⟨[],H,I,.nil,h⟩
theorem fI (ha:PE X e te) (hr:PA X es t) (hs:starEach (e::es) X.env=(false,eval e X.env)::starEach es X.env:=by rfl):PA X (e::es) (xQ te t):=by
 intro pos pins s σ H Q I h
 rw [hs]
 show wpAny _ _ (spliced ((false,eval e X.env)::backTo pos (starEach es X.env))) _ _ s
 refine Calls.spliced_cons (thn (ha pins s σ H _ I h) fun u s1 ⟨x,H1,I1,r1,q1⟩=>?_)
 exact thn (hr pos pins s1 σ H1 _ I1 q1) fun us s2 ⟨xs,H2,I2,r2,q2⟩=>⟨x::xs,H2,I2,.cons r1 r2,q2⟩
def aP8 (t:TA):TE:=fun σ H Q=>t σ H fun xs H1=>xs.length<=sizeLine/\∀p,H1 p=none->Q (.ref p) (upd H1 p (.tup xs))
def aTr (t:TA):TE:=fun σ H Q=>t σ H fun xs H1=>xs.length<=sizeLine/\∀p,H1 p=none->Q (.ref p) (upd H1 p (.lst xs))
theorem aJa {x1} (h:PA X es t):PE X (.Tuple es x1 pos) (aP8 t):=by
 intro pins s σ H Q I hq
 refine wpAny_Tuple_spliced (thn (h pos pins s σ H _ I hq) fun us s1 ⟨xs,H1,I1,r,z,q⟩=>⟨by rw [<- r.length];exact z,?_⟩)
 have hf:H1 s1.heap.objs.size=none:=I1.hok.fresh (Nat.le_refl _)
 refine ⟨.ref s1.heap.objs.size,upd H1 s1.heap.objs.size (.tup xs),I1.laid (t':=s1.toks) (fun b u e=>Heap.get?_push_of_some _ e) (Nat.le_refl _) ?_,rfl,q _ hf⟩
 exact ⟨z,us,r,⟨_,Heap.get?_push_size _ rfl,rfl,_,rfl⟩⟩
theorem aQu (h:PA X es t):PE X (.List es pos) (aTr t):=by
 intro pins s σ H Q I hq
 refine wpAny_List_spliced (thn (h pos pins s σ H _ I hq) fun us s1 ⟨xs,H1,I1,r,z,q⟩=>⟨by rw [<- r.length];exact z,?_⟩)
 have hf:H1 s1.heap.objs.size=none:=I1.hok.fresh (Nat.le_refl _)
 refine ⟨.ref s1.heap.objs.size,upd H1 s1.heap.objs.size (.lst xs),I1.laid (t':=s1.toks) (fun b u e=>Heap.get?_push_of_some _ e) (Nat.le_refl _) ?_,rfl,q _ hf⟩
 exact ⟨z,us,0,r,Heap.get?_push_size _ rfl⟩
end
abbrev Sp:=List V->Hp->VK->XK->Prop
abbrev CXT:=List Env->Hp->Shared->XK->Value->Shared->Prop
structure Env0 (P:Program) (w:World) (K:FG) (mg:Y6) (base:Heap) (A:Around) (outer:List Env) (s:Shared) (H:Hp):Prop where
 frames:A.frames=some outer
 mod:Mod K mg base
 bs:∀b o,base.get? b=some o->s.heap.get? b=some o/\H b=none
 bsz:base.objs.size<=s.heap.objs.size
 funs:s.heap.FunFrames base outer
 frf:∀b∈frs outer,H b=none
 hok:HOk P w H s.heap
 bare:AllBare s.gens
def CE (outer:List Env) (P:Program) (w:World) (H:Hp) (s:Shared) (Q:VK) (u:Value) (s':Shared):Prop :=
 ∃v H',s'.os=s.os/\AllBare s'.gens/\Un (frs outer) [] H H' s.heap s'.heap/\HOk P w H' s'.heap/\RelV v u/\Q v H'
def CR (CX:CXT) (outer:List Env) (P:Program) (w:World) (H:Hp) (s:Shared) (Q:VK) (E:XK) (r:Result) (s':Shared):Prop :=
 match r with
 | .ok (.ret u)=>CE outer P w H s Q u s'
 | .ok _=>False
 | .error e=>CX outer H s E e s'
structure FnOk (P:Program) (w:World) (K:FG) (mg:Y6) (base:Heap) (CX:CXT) (k:Nat) (f:Addr) (fd:FuncData) (ps:List Str) (sp:Sp):Prop where
 len:∀vs H Q E,sp vs H Q E->vs.length=ps.length
 run:∀(A:Around) (outer:List Env) (s:Shared) (H:Hp) (args:Args) (us:Y1) (vs:List V) (Q:VK) (E:XK),Room k A->Env0 P w K mg base A outer s H->BindsTo s fd args (ps.zip us)->Vals vs us->sp vs H Q E ->
  codeAny (model P w) A (.call (.ref f) args) (CR CX outer P w H s Q E) s
section
variable {X:Cx} {pins:Y8} {σ:St} {H:Hp} {s s':Shared}
theorem Inv.aVv (I:Inv X pins σ H s):Env0 X.prog X.w X.K X.mg X.base X.A X.stack s H :=
 ⟨I.ok.frames,I.ok.mod,I.bs,Nat.le_trans I.ok.bsz I.sz,I.stack,I.tU,I.hok,I.bare⟩
theorem Inv.after {Q:VK} {u:Value} (I:Inv X pins σ H s) (h:CE X.stack X.prog X.w H s Q u s'):EP X pins σ Q u s':=by
 obtain ⟨v,H',os,bare,un,hok,r,q⟩:=h
 obtain ⟨hh,g,d,t,os'⟩:=s'
 obtain rfl:os'=s.os:=os
 exact ⟨v,H',I.call (h':=hh) (g':=g) (d':=d) (t':=t) (ch:=[]) un hok bare (fun b z=>absurd z (by simp)),r,q⟩
end
def aIb (sp:Sp) (dvs:List V) (E:XK) (t:TA):TE:=fun σ H Q=>t σ H fun vs H1=>sp (vs++dvs) H1 Q E
def Binds (K:FG) (fd:FuncData) (ps:List Str) (ds:Y1):Prop :=
 ∀(s:Shared) (us:Y1),K.In s.heap->(us++ds).length=ps.length->BindsTo s fd ⟨us,[]⟩ (ps.zip (us++ds))
theorem Binds.all {K:FG} {fd:FuncData} {ps:List Str} (h:∀us:Y1,us.length=ps.length->bindArgs fd ⟨us,[]⟩=pure (ps.zip us)):Binds K fd ps []:=fun s us _ hl=>by
 rw [List.append_nil] at hl ⊢
 exact .of_eq (h us hl)
def Passes (CX:CXT) (X:Cx) (E:XK):Prop:=∀(pins:Y8) (σ:St) (H:Hp) (s:Shared) (e:Value) (s':Shared),Inv X pins σ H s->CX X.stack H s E e s'->X.xe e s'
section
variable {X:Cx} {CX:CXT} {k:Nat} {f C:Addr} {fd:FuncData} {ps:List Str} {sp:Sp} {dvs:List V} {ds:Y1} {E:XK} {x m:Str} {p pos apos:Pos} {e o:Expr} {es:List Expr} {ta:TE} {t:TA}
theorem aQ7 {pins:Y8} {σ:St} {H:Hp} {s:Shared} {Q:VK} {us:Y1} {vs:List V} (F:FnOk X.prog X.w X.K X.mg X.base CX k f fd ps sp) (hr:Room k X.A) (hb:Binds X.K fd ps ds) (hd:Vals dvs ds) (hx:Passes CX X E)
  (I:Inv X pins σ H s) (r:Vals vs us) (h:sp (vs++dvs) H Q E):wpAny (model X.prog X.w) X.A (call (.ref f) us) (EP X pins σ Q) X.xe s:=by
 have r2:Vals (vs++dvs) (us++ds):=r.append hd
 have hl:(us++ds).length=ps.length:=by rw [<- r2.length];exact F.len _ _ _ _ h
 refine wpAny_call (codeAny_mono (F.run X.A X.stack s H ⟨us,[]⟩ (us++ds) (vs++dvs) Q E hr I.aVv (hb s us I.kIn hl) r2 h) fun r s' hq=>?_)
 cases r with
 | error e=>exact hx pins σ H s e s' I hq
 | ok fl =>
  cases fl with
  | ret u=>exact I.after hq
  | next=>exact False.elim hq
  | brk=>exact False.elim hq
  | cont=>exact False.elim hq
theorem aEt (F:FnOk X.prog X.w X.K X.mg X.base CX k f fd ps sp) (hr:Room k X.A) (hg:Gl X x) (hm:X.mg x=some (.ref f)) (hk:PySem.W.keepIn X.K (.ref f)=true) (hb:Binds X.K fd ps ds) (hd:Vals dvs ds) (hx:Passes CX X E)
  (ha:PA X (e::es) t) (hdb:(x == ("__debug__" : Str))=false:=by decide) (he:starEach (e::es) X.env=(false,eval e X.env)::starEach es X.env:=by rfl) (hpl:(backTo pos (starEach es X.env)).any (·.1)=false:=by rfl) :
  PE X (.Call (.Name x p) (e::es) [] pos) (aIb sp dvs E t):=by
 intro pins s σ H Q I h
 refine wpAny_Call_Name_kw (qQ I hg hm ?_ hdb)
 refine PySem.W.callWith_K (h₀:=X.base) I.ok.mod.kin hk (thn (ha pos pins s σ H _ I h) fun us s1 ⟨vs,H1,I1,r,q⟩=>⟨I1.kIn,?_⟩) he hpl
 exact aQ7 F hr hb hd hx I1 r q
end
section
variable {X:Cx} {CX:CXT} {k:Nat} {f C:Addr} {fd:FuncData} {ps ks:List Str} {sp:Sp} {E:XK} {x m:Str} {p pos apos kpos:Pos} {e o:Expr} {es:List Expr} {kws:List Keyword} {te ta:TE} {t tk:TA} {nm:Option Str}
variable {g:Y1->Y1->Y1} {gV:List V->List V->List V}
end
structure FnScope (N P:List Str) (sc:Scope):Prop where
 kind:sc.kind=.function
 co:sc.isCoroutine=false
 gen:sc.isGenerator=false
 nd:N.Nodup
 pre:N.take P.length=P
 par:∀x∈P,sc.names.lookup x=some .local\/sc.names.lookup x=some .cell
 nofree:∀y∈sc.names,y.2 ≠ .free
theorem yR {kindOf:Str->Option NameKind} {x:Str}:∀ {binds:List (Str×Value)} {m:Y6},(∀v,(x,v) ∉ binds)->bindL kindOf binds m x=m x
 | [],_,_=>rfl
 | (n,v)::r,m,h=>by
  unfold bindL
  rw [yR fun w hw=>h w (List.mem_cons_of_mem _ hw)]
  split
  ·have:x ≠ n:=by rintro rfl;exact h v List.mem_cons_self
   simp [this]
  ·rfl
theorem yB {kindOf:Str->Option NameKind} {x:Str}:∀ {binds:List (Str×Value)} {m:Y6},(∀v,(x,v) ∉ binds)->bindC kindOf binds m x=m x
 | [],_,_=>rfl
 | (n,v)::r,m,h=>by
  unfold bindC
  rw [yB fun w hw=>h w (List.mem_cons_of_mem _ hw)]
  split
  ·rfl
  ·have:x ≠ n:=by rintro rfl;exact h v List.mem_cons_self
   simp [this]
theorem yL {kindOf:Str->Option NameKind} {x:Str} {v:Value}:∀ {P:List Str} {vs:Y1} {i:Nat} {m:Y6},P.Nodup->P[i]?=some x->vs[i]?=some v->kindOf x=some .local ->
  bindL kindOf (P.zip vs) m x=some v
 | [],_,_,_,_,h,_,_=>by simp at h
 | _::_,[],_,_,_,_,h,_=>by simp at h
 | p::P,w::vs,0,m,nd,h1,h2,hk=>by
  simp at h1 h2;subst h1;subst h2
  show bindL kindOf ((p,w)::P.zip vs) m p=_
  unfold bindL
  rw [yR fun v hv=>(List.nodup_cons.mp nd).1 (List.of_mem_zip hv).1,if_pos hk]
  simp
 | p::P,w::vs,i+1,m,nd,h1,h2,hk=>by
  show bindL kindOf ((p,w)::P.zip vs) m x=_
  unfold bindL
  exact yL (i:=i) (List.nodup_cons.mp nd).2 (by simpa using h1) (by simpa using h2) hk
theorem yP {kindOf:Str->Option NameKind} {x:Str} {v:Value}:∀ {P:List Str} {vs:Y1} {i:Nat} {m:Y6},P.Nodup->P[i]?=some x->vs[i]?=some v->kindOf x ≠ some .local ->
  bindC kindOf (P.zip vs) m x=some v
 | [],_,_,_,_,h,_,_=>by simp at h
 | _::_,[],_,_,_,_,h,_=>by simp at h
 | p::P,w::vs,0,m,nd,h1,h2,hk=>by
  simp at h1 h2;subst h1;subst h2
  show bindC kindOf ((p,w)::P.zip vs) m p=_
  unfold bindC
  rw [yB fun v hv=>(List.nodup_cons.mp nd).1 (List.of_mem_zip hv).1,if_neg hk]
  simp
 | p::P,w::vs,i+1,m,nd,h1,h2,hk=>by
  show bindC kindOf ((p,w)::P.zip vs) m x=_
  unfold bindC
  exact yP (i:=i) (List.nodup_cons.mp nd).2 (by simpa using h1) (by simpa using h2) hk
def start (N:List Str) (vs:List V):St:=vs.map some++List.replicate (N.length - vs.length) none
def fK (CX:CXT) (P:Program) (w:World) (K:FG) (mg:Y6) (base:Heap) (N:List Str) (qual:Str) (scope:Scope) (f:Addr) (cd:Value) (A:Around) (outer:List Env) (s:Shared) (H:Hp) (E:XK):Cx where
 prog:=P
 w:=w
 K:=K
 mg:=mg
 base:=base
 A:=A.deeper (envOfC qual scope s.heap.objs.size f cd)
 N:=N
 s₀:=s
 H₀:=H
 env:=envOfC qual scope s.heap.objs.size f cd
 outer:=outer
 stack:=envOfC qual scope s.heap.objs.size f cd::outer
 ex:=[]
 calm:=true
 fn:=fun _=>true
 pn:=[]
 xe:=fun e s'=>wpAny (model P w) (A.deeper (envOfC qual scope s.heap.objs.size f cd)) (leaving (envOfC qual scope s.heap.objs.size f cd) e) (fun _ s''=>CX outer H s E e s'') (fun e' s''=>CX outer H s E e' s'') s'
theorem aB9 {sc:Scope} {n:Nat} {x:Str} (h:sc.names.lookup x=some .cell):∃c,(cellsFrom n sc.names []).lookup x=some c:=by
 have q:=PySem.W.cellsFrom_some sc.names n [] (.inl h)
 exact Option.isSome_iff_exists.mp q
theorem aGg {CX:CXT} {P:Program} {w:World} {K:FG} {mg:Y6} {base:Heap} {N ps:List Str} {qual:Str} {scope:Scope} {f:Addr} {cd:Value} {A:Around} {outer:List Env} {s s1:Shared} {H:Hp} {E:XK} {us:Y1} {vs:List V}
  (S:FnScope N ps scope) (hd:A.handled=none) (e0:Env0 P w K mg base A outer s H) (hl:vs.length=ps.length) (r:Vals vs us)
  (x:InCallC s s.heap.objs.size (bindL (envOfC qual scope s.heap.objs.size f cd).kindOf (ps.zip us) fun _=>none) (cellsFrom (s.heap.objs.size+1) scope.names []) (bindC (envOfC qual scope s.heap.objs.size f cd).kindOf (ps.zip us) fun _=>none) s1) :
  Inv (fK CX P w K mg base N qual scope f cd A outer s H E) [] (start N vs) H s1:=by
 have hpl:ps.length<=N.length:=by have:=congrArg List.length S.pre;rw [List.length_take] at this;omega
 obtain ⟨h1,tk,rfl,hk⟩:=x.done
 have noA:∀b:Addr,b ∉ (fK CX P w K mg base N qual scope f cd A outer s H E).ex:=fun b z=>absurd (show b∈([]:Y2) from z) (by simp)
 refine ⟨⟨e0.mod,S.kind,rfl,rfl,Nat.le_refl _,fun y z c h1 h2=>?_,fun y hy=>?_,fun y c _ h=>?_,fun _=>hd,Around.frames_deeper e0.frames,.inr ⟨rfl,rfl⟩,fun b z=>absurd z (noA b),e0.bs,e0.bsz,fun b _ _=>noA b,fun b z=>absurd z (noA b),e0.funs,e0.frf⟩,
  rfl,e0.bare,Un.kept hk,⟨_,x.toInCall.ns,fun i y v h1 h2 h3=>?_⟩,fun y c h=>⟨_,x.cell y c h⟩,e0.hok.fresh (Nat.le_refl _),fun y c h=>?_,fun p hp=>absurd (show p∈([]:Y8) from hp) (by simp),e0.hok.kept hk,?_⟩
 ·exact name_of_addr x.apart (PySem.mem_of_lookup h1) (PySem.mem_of_lookup h2)
 ·have hy:scope.names.lookup y=some .cell\/scope.names.lookup y=some .free:=hy
  rcases hy with hy | hy
  ·exact aB9 hy
  ·exact absurd rfl (S.nofree _ (PySem.mem_of_lookup hy))
 ·exact Nat.le_of_lt (x.above y c (PySem.mem_of_lookup h))
 ·have hi:i<vs.length:=by
   unfold start at h2
   by_cases hi:i<vs.length
   ·exact hi
   ·rw [List.getElem?_append_right (by simpa using hi)] at h2
    rw [List.getElem?_replicate] at h2
    split at h2<;>cases h2
  have ha:vs[i]?=some v:=by
   unfold start at h2
   rw [List.getElem?_append_left (by simpa using hi),List.getElem?_map] at h2
   cases e:vs[i]? with
   | none=>rw [e] at h2;cases h2
   | some a=>rw [e] at h2;cases h2;rfl
  obtain ⟨u,hu,rv⟩:=r.get ha
  have hp:ps[i]?=some y:=by
   rw [<- S.pre,List.getElem?_take_of_lt (by omega)];exact h1
  have ndP:ps.Nodup:=by rw [<- S.pre];exact S.nd.sublist (List.take_sublist _ _)
  refine ⟨u,rv,?_⟩
  rcases S.par y (List.mem_of_getElem? hp) with k | k
  ·exact .inl ⟨k,yL ndP hp hu k⟩
  ·obtain ⟨c,e⟩:=aB9 (n:=s.heap.objs.size+1) k
   refine .inr ⟨.inl k,c,e,?_⟩
   have q:=x.cell y c e
   rw [yP ndP hp hu (by show scope.names.lookup y ≠ _;rw [k];decide)] at q
   exact q
 ·exact e0.hok.fresh (Nat.le_of_lt (x.above y c (PySem.mem_of_lookup h)))
 ·unfold start
  show _=N.length
  rw [List.length_append,List.length_map,List.length_replicate]
  omega
theorem aOr {CX:CXT} {P:Program} {w:World} {K:FG} {mg:Y6} {base:Heap} {k:Nat} {f:Addr} {name qual:Str} {params:Arguments} {body:List Stmt} {scope:Scope} {dV kV doc pm cdv ct oc:Value} {an od:Option Addr}
  {osl:Array (Option Value)} {N ps:List Str} {sp:Sp} (lk:K.lookup f=some ⟨oc,od,.func (PySem.W.fnOf name qual params body scope dV kV doc pm an cdv ct),osl⟩) (hcd:PySem.W.codeIn K cdv qual=true) (S:FnScope N ps scope)
  (len:∀vs H Q E,sp vs H Q E->vs.length=ps.length)
  (hbody:∀(A:Around) (outer:List Env) (s:Shared) (H:Hp) (vs:List V) (Q:VK) (E:XK),Room k (A.deeper (envOfC qual scope s.heap.objs.size f cdv))->sp vs H Q E ->
   ∃t,PSs (fK CX P w K mg base N qual scope f cdv A outer s H E) body t/\t { nx:=fun _ H'=>Q .non H',rt:=Q } (start N vs) H) :
  FnOk P w K mg base CX (k+1) f (PySem.W.fnOf name qual params body scope dV kV doc pm an cdv ct) ps sp:=by
 refine ⟨len,fun A outer s H args us vs Q E hr e0 hb r hsp=>?_⟩
 have hl:=len _ _ _ _ hsp
 have KX:K.In s.heap:=e0.mod.kin.keeps fun b o e=>(e0.bs b o e).1
 have lim:s.heap.NoLimit:=e0.mod.nolimit.keeps fun b o e=>(e0.bs b o e).1
 have hkind:∀y∈ps.zip us,scope.names.lookup y.1=some .local\/(scope.names.lookup y.1=some .cell/\((cellsFrom (s.heap.objs.size+1) scope.names []).lookup y.1).isSome=true):=fun ⟨n,v⟩ hy=>by
  rcases S.par n (List.of_mem_zip hy).1 with q | q
  ·exact .inl q
  ·exact .inr ⟨q,PySem.W.cellsFrom_some _ _ _ (.inl q)⟩
 refine codeAny_call_function hr.depth (KX _ _ lk) rfl S.co S.gen rfl (PySem.W.codeRec_of KX hcd) (hb _ _ _ _ ?_)
 refine wpAny_newFunctionEnv_cells S.kind hkind fun env he s1 x=>?_
 subst he
 refine ⟨lim.keeps x.toInCall.keep,codeAny_func ?_⟩
 obtain ⟨t,ht,hq⟩:=hbody A outer s H vs Q E (hr.deeper _) hsp
 have I:Inv (fK CX P w K mg base N qual scope f cdv A outer s H E) [] (start N vs) H s1:=aGg S hr.hd e0 hl r x
 refine wpAny_mono (ht [] s1 (start N vs) H _ I hq) (fun fl s' hs=>?_) fun e s' hs=>hs
 have fin:∀ {σ':St} {H':Hp} {v:V} {u:Value},Inv (fK CX P w K mg base N qual scope f cdv A outer s H E) [] σ' H' s'->RelV v u->Q v H'->CE outer P w H s Q u s' :=
  fun {σ' H' v u} J rv q=>⟨v,H',J.os,J.bare,J.base,J.hok,rv,q⟩
 cases fl with
 | ret u =>
  obtain ⟨v,σ',H',J,rv,q⟩:=hs
  exact fin J rv q
 | next =>
  obtain ⟨σ',H',J,q⟩:=hs
  exact fin (v:=V.non) (u:=Value.none) J rfl q
 | brk =>
  obtain ⟨_,_,_,q⟩:=hs
  exact False.elim q
 | cont =>
  obtain ⟨_,_,_,q⟩:=hs
  exact False.elim q
end L2
namespace L2
open PySem PySem.Spec PyProof.Rows
section
variable {X:Cx} {x:Str} {p pos:Pos} {e:Expr} {es:List Expr} {t:TA} {id T:String} {r:List V->Hp->VK->Prop}
def tCB (r:List V->Hp->VK->Prop) (t:TA):TE:=fun σ H Q=>t σ H fun vs H1=>r vs H1 Q
theorem rE (hc:lD X (.builtin id) r) (hg:Gl X x) (hm:X.mg x=none) (hv:bootBuiltins x=some (.builtin id)) (ha:PA X (e::es) t) (hn:x ≠ "__name__" :=by decide) (hdb:(x == ("__debug__" : Str))=false:=by decide)
  (he:starEach (e::es) X.env=(false,eval e X.env)::starEach es X.env:=by rfl) (hpl:(backTo pos (starEach es X.env)).any (·.1)=false:=by rfl):PE X (.Call (.Name x p) (e::es) [] pos) (tCB r t):=by
 intro pins s σ H Q I h
 refine wpAny_Call_Name_kw (nQ I hg hm hv ?_ hn hdb)
 exact PyProof.Rows.callWith_builtin1 (thn (ha pos pins s σ H _ I h) fun us s1 ⟨vs,H1,I1,r1,q1⟩=>hc pins s1 σ H1 vs us Q I1 r1 q1) he hpl
theorem aF4 (hc:lD X (.type T) r) (hg:Gl X x) (hm:X.mg x=none) (hv:bootBuiltins x=some (.type T)) (ha:PA X (e::es) t) (hn:x ≠ "__name__" :=by decide) (hdb:(x == ("__debug__" : Str))=false:=by decide)
  (he:starEach (e::es) X.env=(false,eval e X.env)::starEach es X.env:=by rfl) (hpl:(backTo pos (starEach es X.env)).any (·.1)=false:=by rfl):PE X (.Call (.Name x p) (e::es) [] pos) (tCB r t):=by
 intro pins s σ H Q I h
 refine wpAny_Call_Name_kw (nQ I hg hm hv ?_ hn hdb)
 exact PyProof.Rows.callWith_type1 (thn (ha pos pins s σ H _ I h) fun us s1 ⟨vs,H1,I1,r1,q1⟩=>hc pins s1 σ H1 vs us Q I1 r1 q1) he hpl
end
end L2
namespace HT
open PySem PyProof.Rows
theorem aJy (A:Around) (s:Shared) (a:Int) (t:Tok) (c:Int) (u:Tok):∃e,SeqAt.EqAt A s (.int a t) (.int c u) e/\(e=true ↔ a=c) :=
 ⟨(a == c),SeqAt.EqAt.int_int a t c u,by simp⟩
section
open PySem.SeqAt
open PySem.AutoSeq1 (wpAny_loadPart')
open PySem.MeetsSeq PySem.MeetsSeq2 PySem.MeetsSeq3
end
section
variable {prog:Program} {w:World} {A:Around} {E:Y9} {s:Shared}
theorem cat_tup {t b:Addr} {vs ws:Y1} {Q:Y9} (ht:IsTup s.heap t vs.toArray) (hb:IsTup s.heap b ws.toArray) (hv:vs ≠ [])
  (h1:ws=[]->Q (.ref t) s) (h2:ws ≠ []->Q (.ref s.heap.objs.size) { s with heap:=s.heap.push { cls:=.type "tuple",data:=.seq (vs++ws).toArray } })
  (hsz:vs.length+ws.length<=sizeLine):wpAny (model prog w) A (binaryOp .Add (.ref t) (.ref b)) Q E s:=by
 obtain ⟨⟨cls,dd,data,sl⟩,ho,hc,n,hd⟩:=id ht
 obtain ⟨⟨cls2,dd2,data2,sl2⟩,ho2,hc2,n2,hd2⟩:=id hb
 simp only at hc hd hc2 hd2
 subst hc hd hc2 hd2
 have e:vs.toArray++ws.toArray=(vs++ws).toArray:=by simp
 by_cases hw:ws=[]
 ·exact concat_meets ⟨_,ho,rfl⟩ ⟨_,ho2,rfl⟩ noFill_tuple_add seq_tuple_add PySem.F.slot_tuple_add PySem.F.entry_tuple_add (PySem.F.args_tuple_add_2 _ _)
   (tuple_addW1 t b vs.toArray ws.toArray n n2 dd dd2 sl sl2 (by simpa using hv) (by simp [hw])) ⟨ho,ho2,h1 hw⟩
 ·refine concat_meets ⟨_,ho,rfl⟩ ⟨_,ho2,rfl⟩ noFill_tuple_add seq_tuple_add PySem.F.slot_tuple_add PySem.F.entry_tuple_add (PySem.F.args_tuple_add_2 _ _)
   (tuple_addW2 t b vs.toArray ws.toArray n n2 dd dd2 sl sl2 (by simpa using hv) (by simpa using hw) (by rw [List.size_toArray,List.size_toArray];exact hsz)) ⟨ho,ho2,?_⟩
  rw [e]
  exact h2 hw
def sIx (n d:Nat):Option Int->Nat
 | none=>d
 | some v=>if v<0 then (v+(n:Int)).toNat else min v.toNat n
theorem sIx_none (n d:Nat):sIx n d none=d:=rfl
theorem sIx_nat (n d k:Nat):sIx n d (some (k:Int))=min k n:=by
 show (if (k:Int)<0 then ((k:Int)+(n:Int)).toNat else min (k:Int).toNat n)=min k n
 rw [if_neg (by omega),Int.toNat_natCast]
end
end HT
namespace L2
open PySem PySem.Spec PyProof.Rows
abbrev TO:=St->Hp->(Option Int->Hp->Prop)->Prop
def PO (X:Cx) (e:Option Expr) (t:TO):Prop :=
 ∀(pins:Y8) (s:Shared) (σ:St) (H:Hp) (Q:Option Int->Hp->Prop),Inv X pins σ H s->t σ H Q ->
  wpAny (model X.prog X.w) X.A (evalPart e X.env) (fun u s'=>∃o H',Inv X pins σ H' s'/\IsPart u o/\Q o H') X.xe s
def aEx:TO:=fun _ H Q=>Q none H
def aOd (t:TE):TO:=fun σ H Q=>t σ H fun x H1=>∃i,x=.int i/\Q (some i) H1
theorem intsAre_of {ns:Y0}:∀ {us:Y1},Vals (ns.map V.int) us->IntsAre us ns:=by
 induction ns with
 | nil=>intro us r;rw [List.map_nil] at r;cases r;exact .nil
 | cons n ns ih =>
  intro us r
  rw [List.map_cons] at r
  cases r with
  | cons r1 r2 =>
   obtain ⟨t,e⟩:=r1
   subst e
   exact .cons n t (ih r2)
section
variable {X:Cx} {e:Expr} {te:TE} {lo hi:Option Expr} {tl th:TO} {pos p2:Pos}
theorem aLw:PO X none aEx:=by
 intro pins s σ H Q I h
 rw [evalPart_none]
 exact wpAny_pure ⟨none,H,I,.none,h⟩
theorem aLk (h:PE X e te):PO X (some e) (aOd te):=by
 intro pins s σ H Q I hw
 rw [evalPart_some]
 refine thn (h pins s σ H _ I hw) fun u s1 ⟨x,H1,I1,r1,q1⟩=>?_
 obtain ⟨i,rfl,q⟩:=q1
 obtain ⟨t,rfl⟩:=r1
 exact ⟨some i,H1,I1,.int i t,q⟩
def SlR (X:Cx) (r:V->Option Int->Option Int->Hp->VK->Prop):Prop :=
 ∀(pins:Y8) (s:Shared) (σ:St) (H:Hp) (x:V) (v vl vu:Value) (lo hi:Option Int) (sl:Addr) (Q:VK),Inv X pins σ H s->RelV x v->s.heap.IsSliceOf sl vl vu .none->IsPart vl lo->IsPart vu hi->r x lo hi H Q ->
  ∃T id,typeLookup (.type T) "__getitem__" = pure (some (.builtin id))/\s.TypeIs v T/\wpAny (model X.prog X.w) X.A (getItem v (.ref sl)) (EP X pins σ Q) X.xe s
def tSl (r:V->Option Int->Option Int->Hp->VK->Prop) (te:TE) (tl th:TO):TE:=fun σ H Q=>te σ H fun x H1=>tl σ H1 fun l H2=>th σ H2 fun u H3=>r x l u H3 Q
theorem aK1 {r:V->Option Int->Option Int->Hp->VK->Prop} (hr:SlR X r) (he:PE X e te) (hl:PO X lo tl) (hu:PO X hi th):PE X (.Subscript e (.Slice lo hi none p2) pos) (tSl r te tl th):=by
 intro pins s σ H Q I h
 refine Subscript_ (thn (he pins s σ H _ I h) fun v s1 ⟨x,H1,I1,r1,q1⟩=>?_)
 refine wpAny_Slice (thn (hl pins s1 σ H1 _ I1 q1) fun vl s2 ⟨l,H2,I2,pl,q2⟩=>thn (hu pins s2 σ H2 _ I2 q2) fun vu s3 ⟨u,H3,I3,pu,q3⟩=>?_)
 rw [evalPart_none]
 refine wpAny_pure ?_
 have I4:Inv X pins σ H3 { s3 with heap:=s3.heap.push { cls:=.type "slice",data:=.fields #[vl,vu,.none] } }:=I3.kept (t':=s3.toks) fun b ob q=>Heap.get?_push_of_some _ q
 obtain ⟨T,id,hT,ht,hg⟩:=hr pins { s3 with heap:=s3.heap.push { cls:=.type "slice",data:=.fields #[vl,vu,.none] } } σ H3 x v vl vu l u s3.heap.objs.size Q I4 r1 (Heap.IsSliceOf.new ..) pl pu q3
 show wpAny (model X.prog X.w) X.A (subscriptTail e (.Slice lo hi none p2) v (.ref s3.heap.objs.size)) (EP X pins σ Q) X.xe { s3 with heap:=s3.heap.push { cls:=.type "slice",data:=.fields #[vl,vu,.none] } }
 exact tail_any (ops:=[.ref s3.heap.objs.size,v]) ht hT hg (by with_unfolding_all rfl)
def aG8 (xs:List V) (lo hi:Option Int):List V:=(xs.drop (HT.sIx xs.length 0 lo)).take (HT.sIx xs.length xs.length hi - HT.sIx xs.length 0 lo)
theorem aA6 (xs:List V) (lo hi:Option Int):(aG8 xs lo hi).length<=xs.length:=by
 unfold aG8
 rw [List.length_take,List.length_drop]
 omega
def aN5 (K:FG):R2:=fun x y H Q=>∃a b xs ys,x=.ref a/\y=.ref b/\SqT K H a xs/\SqT K H b ys/\xs ≠ []/\xs.length+ys.length<=sizeLine /\
 (ys=[]->Q (.ref a) H)/\(ys ≠ []->∀p,H p=none->Q (.ref p) (upd H p (.tup (xs++ys))))
theorem Vals.aAw {xs:List V} {us:Y1} (r:Vals xs us):us=[] ↔ xs=[]:=by
 cases r with
 | nil=>simp
 | cons _ _=>simp
theorem aMh:OpR X (binaryOp .Add) (aN5 X.K):=by
 intro pins s σ H x y v u Q I rx ry h
 obtain ⟨a,b,xs,ys,rfl,rfl,ha,hb,hx,hz,q1,q2⟩:=h
 cases rx
 cases ry
 obtain ⟨its,r1,p1,_⟩:=I.tuple ha
 obtain ⟨its2,r2,p2,_⟩:=I.tuple hb
 refine HT.cat_tup p1 p2 (fun z=>hx (r1.aAw.mp z)) (fun z=>⟨.ref a,H,I,rfl,q1 (r2.aAw.mp z)⟩) (fun z=>?_) (by rw [<- r1.length,<- r2.length];exact hz)
 refine ⟨.ref s.heap.objs.size,_,I.laid (t':=s.toks) (o:=.tup (xs++ys)) (fun b ob q=>Heap.get?_push_of_some _ q) (Nat.le_refl _) ?_,rfl,q2 (fun w=>z (r2.aAw.mpr w)) _ (I.hok.fresh (Nat.le_refl _))⟩
 exact ⟨by rw [List.length_append];exact hz,_,r1.append r2,IsTup.new _ _⟩
end
end L2
namespace L2
open PySem PySem.Spec PyProof.Rows
def ixN (n:Nat) (i:Int):Option Nat:=if 0<=i then (if i<n then some i.toNat else none) else if -(n:Int)<=i then some (i+n).toNat else none
def atI {α:Type} (xs:List α) (i:Int):Option α:=(ixN xs.length i).bind fun j=>xs[j]?
theorem aFl {n:Nat} {i:Int} {j:Nat} (h:ixN n i=some j):seqIndex? i n=some j/\j<n/\-(n:Int)<=i/\i<n:=by
 unfold ixN at h
 by_cases h0:0<=i
 ·rw [if_pos h0] at h
  by_cases h1:i<n
  ·rw [if_pos h1] at h
   have e:i.toNat=j:=Option.some.inj h
   exact ⟨by rw [seqIndex_of h0 h1,e],by omega,by omega,h1⟩
  ·rw [if_neg h1] at h;cases h
 ·rw [if_neg h0] at h
  by_cases h1:-(n:Int)<=i
  ·rw [if_pos h1] at h
   have e:(i+n).toNat=j:=Option.some.inj h
   exact ⟨by rw [seqIndex_neg (by omega) h1,e],by omega,h1,by omega⟩
  ·rw [if_neg h1] at h;cases h
theorem aEo {α:Type} {xs:List α} {i:Int} {v:α} (h:atI xs i=some v):∃j,seqIndex? i xs.length=some j/\xs[j]?=some v/\j<xs.length/\-(xs.length:Int)<=i/\i<xs.length:=by
 unfold atI at h
 cases e:ixN xs.length i with
 | none=>rw [e] at h;cases h
 | some j =>
  rw [e] at h
  obtain ⟨h1,h2,h3,h4⟩:=aFl e
  exact ⟨j,h1,h,h2,h3,h4⟩
def zL (b:Expr):Prop:=∀o i,subscripted b false o i=operate [o,i] (getItem o i)
def IxR (X:Cx) (r:R2):Prop :=
 ∀(value slice:Expr) (pins:Y8) (s:Shared) (σ:St) (H:Hp) (x y:V) (v u:Value) (Q:VK),Inv X pins σ H s->RelV x v->RelV y u->r x y H Q ->
  subscripted slice false v u=operate [v,u] (getItem v u)->wpAny (model X.prog X.w) X.A (subscriptTail value slice v u) (EP X pins σ Q) X.xe s
def MtR (X:Cx) (id:String) (r:V->List V->Hp->VK->Prop):Prop :=
 ∀(pins:Y8) (s:Shared) (σ:St) (H:Hp) (x:V) (xs:List V) (v:Value) (us:Y1) (Q:VK),Inv X pins σ H s->RelV x v->Vals xs us->r x xs H Q ->
  wpAny (model X.prog X.w) X.A (call (.builtin id) (v::us)) (EP X pins σ Q) X.xe s
section
variable {X:Cx} {a b:Expr} {ta tb:TE} {pos:Pos}
theorem IxR.or {r r':R2} (h:IxR X r) (h':IxR X r'):IxR X (fun x y H Q=>r x y H Q\/r' x y H Q):=by
 intro value slice pins s σ H x y v u Q I rx ry q hs
 rcases q with q | q
 ·exact h value slice pins s σ H x y v u Q I rx ry q hs
 ·exact h' value slice pins s σ H x y v u Q I rx ry q hs
theorem aOg {r:R2} (hr:IxR X r) (ha:PE X a ta) (hb:PE X b tb) (hs:zL b):PE X (.Subscript a b pos) (tOp r ta tb):=by
 intro pins s σ H Q I h
 exact Subscript_ (aR9 ha hb I h fun v u s2 x y H2 I2 rx ry q=>hr a b pins s2 σ H2 x y v u Q I2 rx ry q (hs _ _))
def aSp (K:FG):R2:=fun x y H Q=>∃p xs i v,x=.ref p/\y=.int i/\SqL K H p xs/\atI xs i=some v/\Q v H
def aU0 (K:FG):R2:=fun x y H Q=>∃p xs i v,x=.ref p/\y=.int i/\SqT K H p xs/\atI xs i=some v/\Q v H
theorem aE8:IxR X (aSp X.K):=by
 intro value slice pins s σ H x y v u Q I rx ry h hs
 obtain ⟨p,xs,i,z,rfl,rfl,hq,he,q⟩:=h
 cases rx
 obtain ⟨t,rfl⟩:=ry
 obtain ⟨its,r,pl,hz⟩:=I.list hq
 obtain ⟨j,h1,h2,h3,h4,h5⟩:=aEo he
 obtain ⟨w,ew,rw'⟩:=r.get h2
 have hl:=r.length
 have hn:=vD
 have fin:EP X pins σ Q w s:=⟨z,H,I,rw',q⟩
 by_cases h0:0<=i
 ·have hj:i.toNat=j:=by
   rw [seqIndex_of h0 h5] at h1
   exact Option.some.inj h1
  exact item_listR pl.isList h0 (by omega) (by rw [hj];simpa using ew) fin hs
 ·have hj:(i+(its.toArray.size:Int)).toNat=j:=by
   rw [seqIndex_neg (by omega) h4] at h1
   rw [List.size_toArray,<- hl]
   exact Option.some.inj h1
  exact subscriptTail_builtinR (x:=w) pl.isList.typeIs slot_list_getitem.lookup
   (wpAny_getItem_list_neg (Q:=fun r s'=>r=w/\EP X pins σ Q r s') pl.isList (by omega) (by rw [List.size_toArray]<;>omega) (by omega) (by rw [hj];simpa using ew) ⟨rfl,fin⟩) hs
theorem aP9:IxR X (aU0 X.K):=by
 intro value slice pins s σ H x y v u Q I rx ry h hs
 obtain ⟨p,xs,i,z,rfl,rfl,hq,he,q⟩:=h
 cases rx
 obtain ⟨t,rfl⟩:=ry
 obtain ⟨its,r,pl,hz⟩:=I.tuple hq
 obtain ⟨j,h1,h2,h3,h4,h5⟩:=aEo he
 obtain ⟨w,ew,rw'⟩:=r.get h2
 have hl:=r.length
 have hn:=vD
 have fin:EP X pins σ Q w s:=⟨z,H,I,rw',q⟩
 exact subscriptTail_builtinR (x:=w) pl.typeIs slot_tuple_getitem.lookup
  (getItem_tuple (j:=j) (Q:=fun r s'=>r=w/\EP X pins σ Q r s') pl (by omega) (by omega) (by rw [List.size_toArray,<- hl];exact h1) (by simpa using ew) ⟨rfl,fin⟩) hs
theorem aCr (its:Y1) (n j:Nat) (u:Value):Obj.mapSeq (·.setIfInBounds j u) { cls:=.type "list",data:=.seq its.toArray n }={ cls:=.type "list",data:=.seq (its.set j u).toArray n }:=by
 simp [Obj.mapSeq]
theorem Inv.lst {pins:Y8} {σ:St} {H:Hp} {s:Shared} {p:Addr} {xs:List V} (I:Inv X pins σ H s) (h:H p=some (.lst xs)) :
  ∃(its:Y1) (n:Nat),Vals xs its/\s.heap.get? p=some { cls:=.type "list",data:=.seq its.toArray n }/\xs.length<=sizeLine:=by
 obtain ⟨z,its,n,r,e⟩:=I.hok p _ h
 exact ⟨its,n,r,e,z⟩
theorem Inv.aS1 {pins:Y8} {σ:St} {H:Hp} {s:Shared} {p:Addr} {xs ys:List V} {its its':Y1} {n n':Nat} {f:Obj->Obj} (I:Inv X pins σ H s) (h:H p=some (.lst xs))
  (ho:s.heap.get? p=some { cls:=.type "list",data:=.seq its.toArray n }) (hf:f { cls:=.type "list",data:=.seq its.toArray n }={ cls:=.type "list",data:=.seq its'.toArray n' }) (r:Vals ys its') (hz:ys.length<=sizeLine) (t:Nat) :
  Inv X pins σ (upd H p (.lst ys)) { s with heap:=s.heap.update p f,toks:=t }:=by
 have e:(s.heap.update p f).get? p=some { cls:=.type "list",data:=.seq its'.toArray n' }:=by
  rw [Heap.get?_update_self f ho (by rw [hf]<;>rfl),hf]
 refine I.write (x:=p) (e:=p) (by rw [h];trivial) (.inl rfl) (fun b u hb q=>(Heap.get?_update_other _ _ (Ne.symm hb)).trans q) ⟨_,e⟩ ?_
 exact ⟨hz,its',n',r,e⟩
def aO3:V->V->V->Hp->(Hp->Prop)->Prop:=fun o i v H Q=>∃p xs k j,o=.ref p/\i=.int k/\H p=some (.lst xs)/\ixN xs.length k=some j/\Q (upd H p (.lst (xs.set j v)))
theorem set_list:aUu X aO3:=by
 intro pins s σ H o i v ov iv u Q I ro ri rv h
 obtain ⟨p,xs,k,j,rfl,rfl,hp,hj,q⟩:=h
 cases ro
 obtain ⟨t,rfl⟩:=ri
 obtain ⟨its,n,r,ho,hz⟩:=I.lst hp
 obtain ⟨h1,h2,h3,h4⟩:=aFl hj
 have hl:=r.length
 have hn:=vD
 have I':Inv X pins σ (upd H p (.lst (xs.set j v))) { s with heap:=s.heap.update p (Obj.mapSeq (·.setIfInBounds j u)) } :=
  I.aS1 hp ho (aCr its n j u) (r.set rv j) (by rw [List.length_set];exact hz) s.toks
 by_cases h0:0<=k
 ·have hk:k.toNat=j:=by
   rw [seqIndex_of h0 h4] at h1
   exact Option.some.inj h1
  exact PySem.W.ki_setAt ho h0 (by omega) (by rw [List.size_toArray,<- hl];exact h4) (by rw [hk];exact ⟨_,I',q⟩)
 ·have hk:(k+(its.toArray.size:Int)).toNat=j:=by
   rw [seqIndex_neg (by omega) h3] at h1
   rw [List.size_toArray,<- hl]
   exact Option.some.inj h1
  exact PySem.W.ki_setBack ho (by omega) (by rw [List.size_toArray,<- hl];exact h3) (by omega) (by rw [hk];exact ⟨_,I',q⟩)
theorem zW (lo hi:Option Int) (n:Nat):(sliceBounds lo hi none n).1=((HT.sIx n 0 lo:Nat):Int)/\(sliceBounds lo hi none n).2.1=((HT.sIx n n hi:Nat):Int)/\(sliceBounds lo hi none n).2.2=1:=by
 refine ⟨?_,?_,rfl⟩
 ·cases lo with
  | none=>simp [sliceBounds,HT.sIx]
  | some i =>
   simp only [sliceBounds,HT.sIx,Option.getD_none,show (1:Int) > 0 by decide,if_true]
   by_cases h:i<0
   ·simp only [h,if_true]<;>omega
   ·simp only [h,if_false]<;>omega
 ·cases hi with
  | none=>simp [sliceBounds,HT.sIx]
  | some i =>
   simp only [sliceBounds,HT.sIx,Option.getD_none,show (1:Int) > 0 by decide,if_true]
   by_cases h:i<0
   ·simp only [h,if_true]<;>omega
   ·simp only [h,if_false]<;>omega
theorem xE (its:Y1) (lo hi:Option Int):slicePick its.toArray lo hi none=((its.drop (HT.sIx its.length 0 lo)).take (HT.sIx its.length its.length hi - HT.sIx its.length 0 lo)).toArray:=by
 obtain ⟨h1,h2,h3⟩:=zW lo hi its.toArray.size
 unfold slicePick
 rw [h1,h2,h3]
 simp only [sliceRange_one,pick_run,List.size_toArray]<;>rfl
def aUr (K:FG):V->Option Int->Option Int->Hp->VK->Prop:=fun x lo hi H Q=>∃a xs,x=.ref a/\SqL K H a xs/\∀p,H p=none->Q (.ref p) (upd H p (.lst (aG8 xs lo hi)))
theorem aNi:SlR X (aUr X.K):=by
 intro pins s σ H x v vl vu lo hi sl Q I rx hs pl pu h
 obtain ⟨a,xs,rfl,hx,q⟩:=h
 cases rx
 obtain ⟨its,r,ht,hz⟩:=I.list hx
 have hlen:=r.length
 refine ⟨"list",_,slot_list_getitem.lookup,ht.isList.typeIs,?_⟩
 refine wpAny_getItem_list_slice ht.isList hs pl pu .none (by simp) ?_ (by rw [List.size_toArray]<;>omega)
 rw [xE,<- hlen]
 refine ⟨.ref s.heap.objs.size,_,I.laid (t':=s.toks) (o:=.lst (aG8 xs lo hi)) (fun b ob q=>Heap.get?_push_of_some _ q) (Nat.le_refl _) ?_,rfl,q _ (I.hok.fresh (Nat.le_refl _))⟩
 exact ⟨Nat.le_trans (aA6 xs lo hi) hz,_,0,(r.drop (HT.sIx xs.length 0 lo)).take (HT.sIx xs.length xs.length hi - HT.sIx xs.length 0 lo),Heap.get?_push_size _ rfl⟩
theorem zC:lD X (.builtin "len") (fun xs H Q=>∃p ys,xs=[.ref p]/\(SqL X.K H p ys\/SqT X.K H p ys)/\Q (.int ys.length) H):=by
 intro pins s σ H xs us Q I r h
 obtain ⟨p,ys,rfl,hq,q⟩:=h
 obtain ⟨u,rfl,rx⟩:=vals1 r
 cases rx
 have hn:=vD
 rcases hq with hq | hq
 ·obtain ⟨its,r',pl,hz⟩:=I.list hq
  have hlen:=r'.length
  exact Calls.call_len_list pl.isList (by simp only [List.size_toArray]<;>omega) ⟨.int ys.length,H,I.tok _,⟨s.toks+1,by rw [List.size_toArray,hlen]⟩,q⟩
 ·obtain ⟨its,r',pl,hz⟩:=I.tuple hq
  have hlen:=r'.length
  exact len_tuple pl (by simp only [List.size_toArray]<;>omega) ⟨.int ys.length,H,I.tok _,⟨s.toks+1,by rw [List.size_toArray,hlen]⟩,q⟩
theorem zD:lD X (.type "list") (fun xs H Q=>∃p ys,xs=[.ref p]/\(SqL X.K H p ys\/SqT X.K H p ys)/\∀l,H l=none->Q (.ref l) (upd H l (.lst ys))):=by
 intro pins s σ H xs us Q I r h
 obtain ⟨p,ys,rfl,hq,q⟩:=h
 obtain ⟨u,rfl,rx⟩:=vals1 r
 cases rx
 have fin:∀(its:Y1),Vals ys its->ys.length<=sizeLine->∀(h':Heap) (c':Nat),(∀b o',s.heap.get? b=some o'->h'.get? b=some o') ->
   h'.get? s.heap.objs.size=some { cls:=.type "list",dict:=none,data:=.seq its.toArray c',slots:=#[] }->EP X pins σ Q (.ref s.heap.objs.size) { s with heap:=h' }:=fun its r' hz h' c' kp e =>
  ⟨.ref s.heap.objs.size,_,I.laid (t':=s.toks) kp (Nat.le_refl _) (show cV X.prog X.w _ h' _ (.lst ys) from ⟨hz,its,c',r',e⟩),rfl,q _ (I.hok.fresh (Nat.le_refl _))⟩
 rcases hq with hq | hq
 ·obtain ⟨its,r',pl,hz⟩:=I.list hq
  have hlen:=r'.length
  obtain ⟨o,ho,hc,n,hd⟩:=pl.isList
  exact call_list_seq p (.inl rfl) ho hc hd (fun h' c' kp e=>fin its r' hz h' c' kp e) (by simp only [List.size_toArray]<;>omega)
 ·obtain ⟨its,r',pl,hz⟩:=I.tuple hq
  have hlen:=r'.length
  obtain ⟨o,ho,hc,n,hd⟩:=pl
  exact call_list_seq p (.inr rfl) ho hc hd (fun h' c' kp e=>fin its r' hz h' c' kp e) (by simp only [List.size_toArray]<;>omega)
def tyV (K:FG) (T:String) (x:V) (H:Hp):Prop:=match x with
 | .str _=>T = "str"
 | .int _=>T = "int"
 | .ref p=>(T = "list" /\∃xs,SqL K H p xs)\/(T = "tuple" /\∃o,K.lookup p=some o/\o.cls=.type "tuple" /\o.dict=none) \/
   (T = "dict" /\((∃kvs,H p=some (.dK kvs))\/∃kvs,H p=some (.dT kvs)))\/(T = "set" /\∃S n,H p=some (.set S n))
 | _=>False
theorem aJe {pins:Y8} {σ:St} {H:Hp} {s:Shared} {T:String} {x:V} {v:Value} (I:Inv X pins σ H s) (r:RelV x v) (ty:tyV X.K T x H) :
  s.TypeIs v T/\∀a,v=.ref a->∃ob,s.heap.get? a=some ob/\ob.dict=none:=by
 cases x with
 | str z =>
  obtain ⟨t,rfl⟩:=r
  cases (show T = "str" from ty)
  exact ⟨typeIs_str s z t,fun _ e=>nomatch e⟩
 | int i =>
  obtain ⟨t,rfl⟩:=r
  cases (show T = "int" from ty)
  exact ⟨typeIs_int s i t,fun _ e=>nomatch e⟩
 | ref p =>
  cases r
  rcases ty with ⟨rfl,xs,hq⟩ | ⟨rfl,o,hk,hc,hd⟩ | ⟨rfl,hk⟩ | ⟨rfl,S,n,hk⟩
  ·obtain ⟨its,_,pl,_⟩:=I.list hq
   refine ⟨pl.isList.typeIs,fun a e=>?_⟩
   cases e
   obtain ⟨o,n,e,c,hd,_⟩:=pl
   exact ⟨o,e,hd⟩
  ·refine ⟨⟨o,I.kIn p o hk,hc⟩,fun a e=>?_⟩
   cases e
   exact ⟨o,I.kIn _ o hk,hd⟩
  ·have z:∃o,s.heap.get? p=some o/\o.ExactDict:=by
    rcases hk with ⟨kvs,hk⟩ | ⟨kvs,hk⟩
    ·obtain ⟨_,_,_,_,o,_,_,e,ex,_⟩:=I.hok p _ hk
     exact ⟨o,e,ex⟩
    ·obtain ⟨_,_,_,_,o,_,_,e,ex,_⟩:=I.hok p _ hk
     exact ⟨o,e,ex⟩
   obtain ⟨o,e,ex⟩:=z
   refine ⟨⟨o,e,ex.1⟩,fun a e2=>?_⟩
   cases e2
   exact ⟨o,e,ex.2.1⟩
  ·obtain ⟨o,_,_,_,e,ex,_⟩:=I.hok p _ hk
   refine ⟨⟨o,e,ex.1⟩,fun a e2=>?_⟩
   cases e2
   exact ⟨o,e,ex.2.1⟩
 | _=>exact False.elim ty
def aUd (K:FG) (T:String) (r:V->List V->Hp->VK->Prop) (to:TE):TE:=fun σ H Q=>to σ H fun x H1=>tyV K T x H1/\r x [] H1 Q
def tBM (K:FG) (T:String) (r:V->List V->Hp->VK->Prop) (to:TE) (t:TA):TE:=fun σ H Q=>to σ H fun x H1=>tyV K T x H1/\t σ H1 fun xs H2=>r x xs H2 Q
variable {o e:Expr} {es:List Expr} {to:TE} {t:TA} {name:Str} {apos cpos:Pos} {T id:String} {r:V->List V->Hp->VK->Prop}
theorem aPs (pa:PlainAttrs T) (slot:Slot T name id) (hty:typeOf (.builtin id)=pure (.type "method_descriptor")) (hm:MtR X id r) (ho:PE X o to)
  (hbase:attributeBase o name X.env (eval o X.env)=eval o X.env:=by rfl) (hline:(apos.endLine == cpos.line)=true:=by rfl):PE X (.Call (.Attribute o name apos) [] [] cpos) (aUd X.K T r to):=by
 intro pins s σ H Q I h
 refine wpAny_Call_method0_late hbase hline (thn (ho pins s σ H _ I h) fun v s1 ⟨x,H1,I1,r1,ty,q1⟩=>?_)
 obtain ⟨h1,h2⟩:=aJe I1 r1 ty
 exact ⟨T,id,pa,slot,hty,h1,h2,Calls.callWith_builtin rfl (PySem.evalArgs_none (hm pins s1 σ H1 x [] v [] Q I1 r1 .nil q1))⟩
theorem aO9 (pa:PlainAttrs T) (slot:Slot T name id) (hty:typeOf (.builtin id)=pure (.type "method_descriptor")) (hm:MtR X id r) (ho:PE X o to) (ha:PA X (e::es) t)
  (hbase:attributeBase o name X.env (eval o X.env)=eval o X.env:=by rfl)
  (hfew:((backTo cpos (starEach (e::es) X.env)).all (fun x=>!x.1) && (backToKw cpos (keywordEach [] X.env)).all (fun x=>x.1.isSome)
   && decide ((e::es).length+([]:List Keyword).length+(if ([]:List Keyword).isEmpty then 0 else 1)<30))=true:=by rfl)
  (hline:(apos.endLine == cpos.line)=true:=by rfl) (hs:starEach (e::es) X.env=(false,eval e X.env)::starEach es X.env:=by rfl) (hplain:(backTo cpos (starEach es X.env)).any (·.1)=false:=by rfl) :
  PE X (.Call (.Attribute o name apos) (e::es) [] cpos) (tBM X.K T r to t):=by
 intro pins s σ H Q I h
 refine wpAny_Call_method_late hbase hfew hline rfl (thn (ho pins s σ H _ I h) fun v s1 ⟨x,H1,I1,r1,ty,q1⟩=>?_)
 obtain ⟨h1,h2⟩:=aJe I1 r1 ty
 refine ⟨T,id,pa,slot,hty,h1,h2,?_⟩
 have hA:=ha cpos pins s1 σ H1 _ I1 q1
 rw [hs] at hA ⊢
 refine Calls.callWith_builtin (by show (false || (backTo cpos (starEach es X.env)).any (·.1))=false;rw [hplain]<;>rfl) (Calls.evalArgs_plain ?_)
 exact thn hA fun us s2 ⟨vs,H2,I2,r2,q2⟩=>hm pins s2 σ H2 x vs v us Q I2 r1 r2 q2
end
end L2
namespace L2
open PySem PySem.Spec PyProof.Rows
def MtM (X:Cx) (id:String) (r:V->List V->Hp->VK->Prop):Prop :=
 ∀(pins:Y8) (s:Shared) (σ:St) (H:Hp) (x:V) (xs:List V) (v:Value) (us:Y1) (Q:VK),Inv X pins σ H s->RelV x v->Vals xs us->r x xs H Q ->
  wpAny (model X.prog X.w) X.A (call (.builtin id) (v::us)) (EP X pins σ Q) X.xe s
theorem Vals.one:∀ {x:V} {us:Y1},Vals [x] us->∃u,us=[u]/\RelV x u
 | _,_,.cons r .nil=>⟨_,rfl,r⟩
theorem Vals.two:∀ {x y:V} {us:Y1},Vals [x,y] us->∃u v,us=[u,v]/\RelV x u/\RelV y v
 | _,_,_,.cons r (.cons q .nil)=>⟨_,_,rfl,r,q⟩
theorem Vals.zero:∀ {us:Y1},Vals [] us->us=[]
 | _,.nil=>rfl
theorem Vals.reverse {xs:List V} {us:Y1} (h:Vals xs us):Vals xs.reverse us.reverse:=by
 induction h with
 | nil=>exact .nil
 | cons r t ih=>rw [List.reverse_cons,List.reverse_cons];exact Vals.append ih (.cons r .nil)
theorem Vals.rep {xs:List V} {us:Y1} (h:Vals xs us):∀k:Nat,Vals (List.replicate k xs).flatten (List.replicate k us).flatten
 | 0=>.nil
 | k+1=>by
  rw [List.replicate_succ,List.replicate_succ,List.flatten_cons,List.flatten_cons]
  exact Vals.append h (Vals.rep h k)
theorem foldl_rep (its:Y1):∀(k:Nat) (acc:Y1),
  List.foldl (fun x1 x2=>x1++x2) acc.toArray (List.replicate k its.toArray)=(acc++(List.replicate k its).flatten).toArray
 | 0,acc=>by simp
 | k+1,acc=>by
  have e:acc.toArray++its.toArray=(acc++its).toArray:=by simp
  have e2:(acc++its)++(List.replicate k its).flatten=acc++(List.replicate (k+1) its).flatten:=by
   rw [List.replicate_succ,List.flatten_cons,List.append_assoc]
  rw [<- e2,<- foldl_rep its k (acc++its),<- e,List.replicate_succ,List.foldl_cons]
section
variable {X:Cx} {pins:Y8} {σ:St} {H:Hp} {s:Shared} {l b:Addr} {xs ys zs:List V}
theorem Inv.aVu {its its':Y1} {n:Nat} {f:Array Value->Array Value} {t':Nat} (I:Inv X pins σ H s) (hH:H l=some (.lst xs))
  (e:s.heap.get? l=some { cls:=.type "list",data:=.seq its.toArray n }) (hf:f its.toArray=its'.toArray) (hv:Vals ys its') (hz:ys.length<=sizeLine) :
  Inv X pins σ (upd H l (.lst ys)) { s with heap:=s.heap.update l (Obj.mapSeq f),toks:=t' }:=by
 have q:=PySem.IsL.update e f
 rw [hf] at q
 refine I.write (x:=l) (e:=l) (by rw [hH];exact trivial) (.inl rfl) (fun b' u hb hu=>(Heap.get?_update_other s.heap (Obj.mapSeq f) (Ne.symm hb)).trans hu) ⟨_,q⟩ ?_
 exact ⟨hz,its',_,hv,q⟩
theorem Inv.aS5 {its:Y1} {t':Nat} (I:Inv X pins σ H s) (hv:Vals ys its) (hz:ys.length<=sizeLine) :
  Inv X pins σ (upd H s.heap.objs.size (.lst ys)) { s with heap:=s.heap.push { cls:=.type "list",data:=.seq its.toArray },toks:=t' } :=
 I.laid (fun _ _ q=>Heap.get?_push_of_some _ q) (Nat.le_refl _) ⟨hz,its,0,hv,Heap.get?_push_size _ rfl⟩
theorem Inv.fresh (I:Inv X pins σ H s):H s.heap.objs.size=none:=I.hok.fresh (Nat.le_refl _)
theorem Inv.aS4 (I:Inv X pins σ H s) (hH:H l=some (.lst xs)):xs.length<=sizeLine/\∃(its:Y1) (n:Nat),Vals xs its/\xs.length=its.length/\s.heap.get? l=some { cls:=.type "list",data:=.seq its.toArray n }:=by
 obtain ⟨z,its,n,r,e⟩:=I.hok l _ hH
 exact ⟨z,its,n,r,r.length,e⟩
theorem aKm {n:Nat} (h:n<=sizeLine):Builtin.List.listTooLong n=false:=by
 unfold Builtin.List.listTooLong
 exact decide_eq_false (by omega)
end
section
variable {X:Cx}
def zN:V->List V->Hp->VK->Prop:=fun x vs H Q=>∃l xs y,x=.ref l/\vs=[y]/\H l=some (.lst xs)/\xs.length<sizeLine/\Q .non (upd H l (.lst (xs ++ [y])))
theorem rL:MtM X "list.append" zN:=by
 intro pins s σ H x vs v us Q I rx rv h
 obtain ⟨l,xs,y,rfl,rfl,hH,hz,q⟩:=h
 cases rx
 obtain ⟨u,rfl,ru⟩:=rv.one
 obtain ⟨z,its,n,r,hl,e⟩:=I.aS4 hH
 refine call_meets F.slot_list_append ⟨_,e,rfl⟩ F.entry_list_append (F.args_list_append_2 _ _) (PySem.list_append l its.toArray n u (by rw [List.size_toArray];omega)) ⟨e,?_⟩
 refine ⟨.non,_,I.aVu (its':=its ++ [u]) hH e (by simp) (r.append (.cons ru .nil)) ?_,rfl,q⟩
 rw [List.length_append,List.length_singleton]
 omega
def aAz:V->List V->Hp->VK->Prop:=fun x vs H Q=>∃l xs,x=.ref l/\vs=[]/\H l=some (.lst xs)/\Q .non (upd H l (.lst xs.reverse))
theorem aD0:MtM X "list.reverse" aAz:=by
 intro pins s σ H x vs v us Q I rx rv h
 obtain ⟨l,xs,rfl,rfl,hH,q⟩:=h
 cases rx
 have hus:=rv.zero
 subst hus
 obtain ⟨z,its,n,r,hl,e⟩:=I.aS4 hH
 refine call_meets F.slot_list_reverse ⟨_,e,rfl⟩ F.entry_list_reverse (F.args_list_reverse_1 _) (AutoSeq1.list_reverse_list_0 l its.toArray n (by rw [List.size_toArray];omega)) ⟨e,?_⟩
 refine ⟨.non,_,I.aVu (its':=its.reverse) hH e (by simp) r.reverse ?_,rfl,q⟩
 rw [List.length_reverse]
 omega
def aUm:R2:=fun x y H Q=>∃l k xs,x=.ref l/\y=.int k/\H l=some (.lst xs)/\-(2 ^ 63)<=k/\k<2 ^ 63/\xs.length * k.toNat<=sizeLine /\
 ∀p,H p=none->Q (.ref p) (upd H p (.lst (List.replicate k.toNat xs).flatten))
theorem len_rep {α:Type} (xs:List α) (k:Nat):(List.replicate k xs).flatten.length=k * xs.length:=by
 induction k with
 | zero=>simp
 | succ k ih=>rw [List.replicate_succ,List.flatten_cons,List.length_append,ih,Nat.succ_mul,Nat.add_comm]
theorem aPk:OpR X (binaryOp .Mult) aUm:=by
 intro pins s σ H x y v u Q I rx ry h
 obtain ⟨l,k,xs,rfl,rfl,hH,h1,h2,hz,q⟩:=h
 cases rx
 obtain ⟨t,rfl⟩:=ry
 obtain ⟨z,its,n,r,hl,e⟩:=I.aS4 hH
 have hlen:its.toArray.size * k.toNat<=sizeLine:=by rw [List.size_toArray,<- hl];exact hz
 have hcap:¬ its.toArray.size * k.toNat > (2 ^ 63 - 1) / 8:=by
  have:(sizeLine:Nat)<=(2 ^ 63 - 1) / 8:=by decide
  omega
 have hfit:¬ (!Builtin.List.listFitsIndex k)=true:=by
  rw [fitsIndex_both h1 h2]
  exact Bool.false_ne_true
 have hlong:¬ Builtin.List.listTooLong (its.toArray.size * k.toNat)=true:=by
  rw [aKm hlen]
  exact Bool.false_ne_true
 have hnew:List.foldl (fun x1 x2=>x1++x2) #[] (List.replicate (if its.toArray.isEmpty=true then 0 else k.toNat) its.toArray)=(List.replicate k.toNat its).flatten.toArray:=by
  have f0:∀m:Nat,List.foldl (fun x1 x2=>x1++x2) #[] (List.replicate m its.toArray)=(List.replicate m its).flatten.toArray:=fun m=>by
   have:=foldl_rep its m []
   rw [List.nil_append] at this
   exact this
  rw [f0]
  cases its with
  | nil=>simp
  | cons a r'=>rw [if_neg (by simp)]
 refine wpAny_binaryOp_repeat_ref (T := "list") (U := "int") (by decide) ⟨_,e,rfl⟩ (fun s'=>typeIs_int s' k t) noFill_list_mul F.fills_int_mul F.slot_int_rmul repeat_list F.slot_int_index.lookup
  (call_meets F.slot_int_rmul (typeIs_int s k t) F.entry_int_rmul (F.args_int_rmul_2 _ _) (int___rmul___int_list k t l its.toArray n)
   ⟨e,rfl,⟨_,e,rfl⟩,call_meets F.slot_list_mul ⟨_,e,rfl⟩ F.entry_list_mul (F.args_list_mul_2 _ _) (AutoListH.list___mul___list_int_3 l its.toArray n k t hfit hcap hlong) ⟨e,?_⟩⟩)
 rw [hnew]
 exact ⟨.ref _,_,I.aS5 (t':=s.toks) (r.rep k.toNat) (by rw [len_rep,Nat.mul_comm];exact hz),rfl,q _ I.fresh⟩
end
section
variable {prog:Program} {w:World} {A:Around} {E:Y9} {s:Shared}
end
section
variable {X:Cx}
end
end L2
namespace Att
open PySem PySem.W PySem.Calls PyProof.Rows
theorem tG {P:Params} {h:Heap}:∀(ns:Y0) (vs:Y1),WellAll P h vs (ns.map WData.int)->IntsAre vs ns:=by
 intro ns
 induction ns with
 | nil =>
  intro vs w
  rw [List.map_nil] at w
  cases w
  exact .nil
 | cons n ns ih =>
  intro vs w
  rw [List.map_cons] at w
  cases w with
  | cons a b =>
   cases a
   exact .cons _ _ (ih _ b)
theorem aGd {l:OpenLaw} {n:Nat} (hn:l.most=some n) {P:Params} {h:Heap} {args:List WData} {vals:Y1}
  (hpre:l.row.toRowW.claim.pre args=true) (hwl:WellAll P h vals args) :
  ∃a vs ns,vals=[Value.ref a]/\args=[WData.list (ns.map WData.int)]/\h.get? a=some { cls:=.type "list",data:=.seq vs.toArray }/\IntsAre vs ns/\ns.length<=n:=by
 have hsh:WShape.hasAll [] args [.list .int]=true:=(pre_splitW hpre).1
 have hc:l.pre.holds [] { args:=args }=true:=(pre_splitW hpre).2
 obtain ⟨d,r,rfl,h1,h2⟩:=hasAllW_cons hsh
 obtain rfl:=hasAllW_nil h2
 obtain ⟨xs,rfl,h3⟩:=hasW_list h1
 obtain ⟨ns,rfl⟩:=items_int h3
 have hlen:ns.length<=n:=by
  unfold OpenLaw.pre at hc
  have h4:(WTm.not (.lt (.lit (.int (n:Int))) (.len (.arg 0)))).holds [] { args:=[.list (ns.map .int)] }=true:=by
   have h4:=(holds_andW hc).1
   rw [hn] at h4
   exact h4
  have h5:=condW_of h4 (w_not (w_lt w_lit (w_len_list (w_arg rfl))))
  rw [List.length_map] at h5
  refine Nat.le_of_not_lt fun q=>?_
  have q':(n:Int)<((ns.length:Nat):Int):=by omega
  first
   | (rw [decide_eq_true q'] at h5;exact absurd h5 (by decide))
   | (simp at h5;omega)
 cases hwl with
 | cons w1 w2 =>
  cases w2
  cases w1 with
  | list ho hall=>exact ⟨_,_,ns,rfl,rfl,ho,tG ns _ hall,hlen⟩
theorem aF2 (l:OpenLaw) (args:List WData):l.row.toRowW.claim.post args (.bool true) args=true :=
 postW_of (r:=l.row.toRowW) (X:=(true == true))
  (show WShape.has [] (.bool true) .bool=true by first | rfl | decide | simp [WShape.has,WShape.arms,WShape.armsAll])
  (show (WTm.eq .res (.lit (.bool true))).value [] { args:=args,res:=some (.bool true),after:=args }=some (.bool (true == true)) from w_eq_bool (w_res rfl) w_lit) rfl
theorem attach_call {l:OpenLaw} {n:Nat} {q:Program} {loose:List Str} {XP:(Str->Option Value)->Heap->Prop} {YP:World->Heap->Prop} {d:DefRec}
  (hn:l.most=some n) (hdf:d.params.defaults=[])
  (call:∀(w:World) (s₀ s₁:Shared) (mg mb:Y6) (fa:Addr) (o:Obj) (pm cd doc:Value) (a:Addr) (vs:Y1) (ns:Y0),
   Ground q loose [] XP w s₀ mg mb s₁.heap->YP w s₁.heap ->
   s₁.heap.get? fa=some o->o.data=.func (docDef d.name d.params d.body d.scope pm cd doc)->s₁.heap.CodeRec cd d.name->mg d.name=some (.ref fa) ->
   s₁.heap.get? a=some { cls:=.type "list",data:=.seq vs.toArray }->IntsAre vs ns->ns.length<=n->s₁.gens = #[] ->
   codeAny (model l.prog w) callerA (.call (.ref fa) ⟨[.ref a],[]⟩) (fun r s'=>r=.ok (.ret (.bool true))/\OldK s₁.heap s'.heap/\s'.os=s₁.os/\AllBare s'.gens) s₁) :
  WalkO q loose XP YP l.row.toRowW d [] (fun f vs=>PySem.call f vs):=by
 intro w s₀ s₁ mg mb G Y fa o pm cd doc dV kV ho hd hcd hD hmg hg args vals as hpre hlay hrd hwl hlo
 obtain rfl:dV=.none:=Dflts.none hD hdf
 obtain rfl:kV=.none:=Dflts.noKw hD
 obtain ⟨a,vs,ns,rfl,rfl,hobj,hints,hlen⟩:=aGd hn hpre hwl
 refine enter_call (codeAny_mono (call w s₀ s₁ mg mb fa o pm cd doc a vs ns G Y ho (fd_plain hd) hcd hmg hobj hints hlen hg) fun r s' hq=>?_)
 obtain ⟨rfl,h2,h3,h4⟩:=hq
 exact ⟨.inl ⟨.bool true,.bool true,[],rfl,fun _=>rfl,.bool true,aF2 l _,fun _=>⟨List.Pairwise.nil,fun _ hm=>(nomatch hm)⟩⟩,h2,h3,h4⟩
section
variable {prog:Program} {w:World} {A:Around} {E:Y9} {s:Shared} {K:Frag}
end
end Att
namespace L2
open PySem PySem.Spec PyProof.Rows
theorem rO:∀ {vs:Y1} {ns:Y0},IntsAre vs ns->Vals (ns.map V.int) vs
 | _,_,.nil=>.nil
 | _,_,.cons n t h=>.cons ⟨t,rfl⟩ (rO h)
def aSc (H:Hp):Prop:=∀b,H b=none\/∃o xs,H b=some (.frz o (.lst xs))
theorem aK3 {P:Program} {w:World} {K:FG} {mg mb:Y6} {CX:CXT} {k:Nat} {fa a:Addr} {fd:FuncData} {x:Str} {sp:Sp} {s₁:Shared} {vs:Y1} {ns:Y0}
  (KX:K.In s₁.heap) (hns:s₁.heap.Ns mainGlobals mg) (hb:s₁.heap.Ns builtinsNs mb) (hbb:∀x:Str,x ≠ "__name__" ->mb x=bootBuiltins x) (hlim:s₁.heap.NoLimit) (hg:s₁.gens = #[])
  (ha:s₁.heap.get? a=some { cls:=.type "list",data:=.seq vs.toArray }) (hi:IntsAre vs ns) (hl:ns.length<=sizeLine) (hr:Room k callerA)
  (F:∀base:Heap,K.In base->base.Ns mainGlobals mg->FnOk P w K mg base CX k fa fd [x] sp) (hbind:∀(s:Shared) (u:Value),BindsTo s fd ⟨[u],[]⟩ [(x,u)])
  (hsp:∀H:Hp,aSc H->SqL K H a (ns.map V.int)->sp [.ref a] H (fun v _=>v=.bl true) fun _ _ _=>False)
  (hCX:∀H e s',CX [] H s₁ (fun _ _ _=>False) e s'->False) :
  codeAny (model P w) callerA (.call (.ref fa) ⟨[.ref a],[]⟩) (fun r s'=>r=.ok (.ret (.bool true))/\OldK s₁.heap s'.heap/\s'.os=s₁.os/\AllBare s'.gens) s₁:=by
 have rv:=rO hi
 have lenV:=hi.length
 have core:∀H:Hp,aSc H->SqL K H a (ns.map V.int)->HOk P w H s₁.heap->(∀b,H b ≠ none->b=a)->(H a ≠ none->K.lookup a=none) ->
   codeAny (model P w) callerA (.call (.ref fa) ⟨[.ref a],[]⟩) (fun r s'=>r=.ok (.ret (.bool true))/\OldK s₁.heap s'.heap/\s'.os=s₁.os/\AllBare s'.gens) s₁:=by
  intro H hO hS hok hA hK
  have base_of:∀ {b:Addr} {o:Obj},s₁.heap.get? b=some o->H b=none->(zF s₁.heap H).get? b=some o:=fun e n=>aH5 e n
  have noA:∀ {b:Addr} {o:Obj} {es:Array DictEntry} {ep:Nat},s₁.heap.get? b=some o->o.data=.dict es ep->H b=none:=fun {b o es ep} e d=>by
   cases q:H b with
   | none=>rfl
   | some u =>
    have e':b=a:=hA b (by rw [q];simp)
    subst e'
    rw [ha] at e;cases e
    have d':Data.seq vs.toArray _=Data.dict es ep:=d
    cases d'
  have nsK:∀ {b:Addr} {m:Y6},s₁.heap.Ns b m->(zF s₁.heap H).Ns b m:=fun {b m} ⟨o,es,ep,e,d,r⟩=>⟨o,es,ep,base_of e (noA e d),d,r⟩
  have hKb:K.In (zF s₁.heap H):=fun b o e=>base_of (KX b o e) (by
   cases q:H b with
   | none=>rfl
   | some u =>
    have e':b=a:=hA b (by rw [q];simp)
    subst e'
    rw [hK (by rw [q];simp)] at e;cases e)
  have hM:Mod K mg (zF s₁.heap H):=⟨hKb,nsK hns,⟨mb,nsK hb,hbb⟩,let ⟨mc,h1,h2⟩:=hlim;⟨mc,nsK h1,h2⟩⟩
  have e0:Env0 P w K mg (zF s₁.heap H) callerA [] s₁ H:=⟨rfl,hM,fun b o e=>aL4 e,Nat.le_of_eq (aGl _ _),trivial,fun b hb=>absurd (show b∈([]:Y2) from hb) (by simp),hok,.of_eq hg⟩
  refine codeAny_mono ((F _ hKb (nsK hns)).run callerA [] s₁ H ⟨[.ref a],[]⟩ [.ref a] [.ref a] _ _ hr e0 (hbind s₁ (.ref a)) (.cons rfl .nil) (hsp H hO hS)) fun r s' h=>?_
  cases r with
  | error e=>exact (hCX H e s' h).elim
  | ok fl =>
   cases fl with
   | next=>exact False.elim h
   | brk=>exact False.elim h
   | cont=>exact False.elim h
   | ret u =>
    obtain ⟨v,H',os,bare,un,hok',r',q⟩:=h
    have q':v=.bl true:=q
    subst q'
    obtain rfl:u=Value.bool true:=r'
    refine ⟨rfl,OldK.of_keep fun b o e=>?_,os,bare⟩
    cases q:H b with
    | none=>exact un.keep b o e q (by intro z;exact absurd (show b∈([]:Y2) from z) (by simp)) (by simp)
    | some u =>
     rcases hO b with z | ⟨ob,xs,z⟩
     ·rw [q] at z;cases z
     ·have z2:=un.frzs b ob _ z
      obtain ⟨e1,_⟩:=hok b _ z
      obtain ⟨e2,_⟩:=hok' b _ z2
      rw [e] at e1;cases e1
      exact e2
 cases hk:K.lookup a with
 | some o =>
  have e:=KX a o hk
  rw [ha] at e
  cases e
  refine core (fun _=>none) (fun _=>.inl rfl) (.inr ⟨_,vs.toArray,_,hk,rfl,rfl,rfl,by rw [List.size_toArray,lenV];exact hl,by simpa using rv⟩) (fun b u z=>by have z':(none:Option HO)=some u:=z;cases z') (fun b z=>absurd rfl z) fun z=>absurd rfl z
 | none =>
  refine core (fun b=>if b=a then some (.frz { cls:=.type "list",data:=.seq vs.toArray } (.lst (ns.map V.int))) else none) (fun b=>?_) (.inl (.inr ⟨{ cls:=.type "list",data:=.seq vs.toArray },if_pos rfl⟩)) (fun b u z=>?_) (fun b z=>?_) fun _=>hk
  ·by_cases hb:b=a
   ·exact .inr ⟨_,_,if_pos hb⟩
   ·exact .inl (if_neg hb)
  ·by_cases hb:b=a
   ·have z':=(if_pos hb).symm.trans z
    cases z'
    subst hb
    exact ⟨ha,by rw [List.length_map];exact hl,vs,_,rv,ha⟩
   ·have z':=(if_neg hb).symm.trans z
    cases z'
  ·by_cases hb:b=a
   ·exact hb
   ·exact absurd (if_neg hb) z
end L2
namespace L2
open PySem PySem.Spec PyProof.Rows
theorem walk_of {l:PySem.W.OpenLaw} {n k:Nat} {q:Program} {loose:List Str} {XP:(Str->Option Value)->Heap->Prop} {YP:World->Heap->Prop} {d:DefRec} {K:Params->FG} {CX:World->CXT} {sp:World->Sp} {x:Str}
  (hn:l.most=some n) (hn2:n<=sizeLine) (hdf:d.params.defaults=[]) (hr:Room k callerA)
  (hY:∀(w:World) (h:Heap),YP w h->(K w.params).In h)
  (F:∀(w:World) (mg:Y6) (fa:Addr) (h:Heap),(K w.params).In h->h.Ns mainGlobals mg->mg d.name=some (.ref fa) ->
   ∃fd:FuncData,(∀(s:Shared) (u:Value),BindsTo s fd ⟨[u],[]⟩ [(x,u)]) /\
    ∀base:Heap,(K w.params).In base->base.Ns mainGlobals mg->FnOk l.prog w (K w.params) mg base (CX w) k fa fd [x] (sp w))
  (hsp:∀(w:World) (H:Hp) (a:Addr) (ns:Y0),ns.length<=n->aSc H->SqL (K w.params) H a (ns.map V.int)->sp w [.ref a] H (fun v _=>v=.bl true) fun _ _ _=>False)
  (hCX:∀(w:World) (H:Hp) (s:Shared) (e:Value) (s':Shared),CX w [] H s (fun _ _ _=>False) e s'->False) :
  PySem.W.WalkO q loose XP YP l.row.toRowW d [] (fun f vs=>PySem.call f vs):=by
 refine Att.attach_call hn hdf fun w s₀ s₁ mg mb fa o pm cd doc a vs ns G Y ho hd hcd hmg hobj hints hlen hg=>?_
 have KX:=hY w _ Y
 obtain ⟨fd,hb,hF⟩:=F w mg fa _ KX G.T.g hmg
 exact aK3 KX G.T.g G.T.b G.T.builtins G.T.nolimit hg hobj hints (Nat.le_trans hlen hn2) hr hF hb (fun H hO hS=>hsp w H a ns hlen hO hS) fun H e s'=>hCX w H s₁ e s'
end L2
namespace L2
open PySem PySem.Spec PyProof.Rows
def jT (s:Stmt):Arguments:=match s with
 | .FunctionDef _ a _ _ _ _ _ _ _ _=>a
 | _=>{ posonlyargs:=[],args:=[],vararg:=none,kwonlyargs:=[],kw_defaults:=[],kwarg:=none,defaults:=[] }
def fJ (s:Stmt):List Stmt:=match s with
 | .FunctionDef _ _ b _ _ _ _ _ _ _=>b
 | _=>[]
def aH (s:Stmt):Scope:=match s with
 | .FunctionDef _ _ _ _ _ _ sc _ _ _=>sc
 | _=>{ kind:=.function,names:=[],isGenerator:=false,isCoroutine:=false }
abbrev E0:XK:=fun _ _ _=>False
structure Fun (K:FG) (x qual:Str) (st:Stmt) (f:Addr) (fd:FuncData):Prop where
 ex:∃(oc:Value) (od:Option Addr) (kV doc pm:Value) (an:Option Addr) (cdv ct:Value) (osl:Array (Option Value)),
  fd=PySem.W.fnOf x qual (jT st) (fJ st) (aH st) .none kV doc pm an cdv ct/\K.lookup f=some ⟨oc,od,.func fd,osl⟩/\PySem.W.codeIn K cdv qual=true
 kp:PySem.W.keepIn K (.ref f)=true
section
variable {P:Program} {w:World} {K:FG} {mg:Y6} {base:Heap}
theorem Fun.binds {x qual:Str} {st:Stmt} {f:Addr} {fd:FuncData} {ps:List Str} (F:Fun K x qual st f fd)
  (h:∀(kV doc pm:Value) (an:Option Addr) (cdv ct:Value) (us:Y1),us.length=ps.length->bindArgs (PySem.W.fnOf x qual (jT st) (fJ st) (aH st) .none kV doc pm an cdv ct) ⟨us,[]⟩=pure (ps.zip us)):Binds K fd ps []:=by
 obtain ⟨oc,od,kV,doc,pm,an,cdv,ct,osl,rfl,lk,hcd⟩:=F.ex
 exact .all (h kV doc pm an cdv ct)
theorem aQl {x qual:Str} {st:Stmt} {f:Addr} {oc:Value} {od an:Option Addr} {osl:Array (Option Value)} {kV doc pm cdv ct:Value} (l:K.lookup f=some ⟨oc,od,.func (PySem.W.fnOf x qual (jT st) (fJ st) (aH st) .none kV doc pm an cdv ct),osl⟩)
  (c:PySem.W.codeIn K cdv qual=true) (k:PySem.W.keepIn K (.ref f)=true):Fun K x qual st f (PySem.W.fnOf x qual (jT st) (fJ st) (aH st) .none kV doc pm an cdv ct):=⟨⟨oc,od,kV,doc,pm,an,cdv,ct,osl,rfl,l,c⟩,k⟩
end
section
variable {X:Cx}
end
def bB (H H':Hp):Prop:=∀b o,H b=some o->H' b=some o
theorem bB.refl (H:Hp):bB H H:=fun _ _ h=>h
theorem bB.trans {H H1 H2:Hp} (a:bB H H1) (b:bB H1 H2):bB H H2:=fun c o h=>b c o (a c o h)
theorem bB.free {H H':Hp} (e:bB H H') {l:Addr} (h:H' l=Option.none):H l=Option.none:=by
 cases q:H l with
 | none=>rfl
 | some o =>
  rw [e l o q] at h
  cases h
theorem bB.seq {K:FG} {H H':Hp} {a:Addr} {xs:List V} (e:bB H H') (h:SqL K H a xs):SqL K H' a xs:=by
 rcases h with (h | ⟨o,h⟩) | h
 ·exact .inl (.inl (e _ _ h))
 ·exact .inl (.inr ⟨o,e _ _ h⟩)
 ·exact .inr h
end L2
end
section
namespace L2
open PySem PySem.Spec PyProof.Rows
section
variable {κ:Type} [DecidableEq κ]
def pK (kvs:List (κ×V)) (k:κ):Option V:=(kvs.find? fun kv=>decide (kv.1=k)).map (·.2)
def putK (kvs:List (κ×V)) (k:κ) (v:V):List (κ×V) :=
 if (kvs.any fun kv=>decide (kv.1=k))=true then kvs.map (fun kv=>if kv.1=k then (kv.1,v) else kv) else kvs ++ [(k,v)]
theorem uV {p:κ×V} {r:List (κ×V)} {k:κ} (e:p.1=k):pK (p::r) k=some p.2:=by simp [pK,List.find?_cons,e]
theorem uB {p:κ×V} {r:List (κ×V)} {k:κ} (e:¬ p.1=k):pK (p::r) k=pK r k:=by simp [pK,List.find?_cons,e]
theorem aBj (k:κ):∀kvs:List (κ×V),(kvs.any fun kv=>decide (kv.1=k))=(pK kvs k).isSome
 | []=>rfl
 | p::r=>by
  rw [List.any_cons]
  by_cases e:p.1=k
  ·simp only [uV e,decide_eq_true e,Bool.true_or,Option.isSome_some]
  ·rw [uB e,decide_eq_false e,Bool.false_or];exact aBj k r
theorem mS (kvs:List (κ×V)) (k:κ) (v:V):(putK kvs k v).length<=kvs.length+1:=by
 unfold putK
 split
 ·rw [List.length_map];omega
 ·rw [List.length_append,List.length_cons,List.length_nil];omega
theorem vO.isSome_eq {o:Option V} {u:Option Value} (r:vO o u):o.isSome=u.isSome:=by
 cases o with
 | none=>cases u with
  | none=>rfl
  | some _=>exact (show False from r).elim
 | some _=>cases u with
  | none=>exact (show False from r).elim
  | some _=>rfl
theorem KV.val {kvs:List (κ×V)} {vs:List (κ×Value)} (r:KV kvs vs) (k:κ):vO (pK kvs k) (valueAt vs k):=by
 unfold KV at r
 induction r with
 | nil=>exact True.intro
 | @cons p q ps qs h t ih =>
  obtain ⟨h1,h2⟩:=h
  by_cases e:p.1=k
  ·have e':q.1=k:=h1.symm.trans e
   have b:valueAt (q::qs) k=some q.2:=by simp [valueAt,List.find?_cons,e']
   rw [uV e,b];exact h2
  ·have e':¬ q.1=k:=fun z=>e (h1.trans z)
   have b:valueAt (q::qs) k=valueAt qs k:=by simp [valueAt,List.find?_cons,e']
   rw [uB e,b];exact ih
theorem KV.any {kvs:List (κ×V)} {vs:List (κ×Value)} (r:KV kvs vs) (k:κ):(kvs.any fun kv=>decide (kv.1=k))=vs.any fun kv=>decide (kv.1=k):=by
 unfold KV at r
 induction r with
 | nil=>rfl
 | cons h t ih=>rw [List.any_cons,List.any_cons,ih,h.1]
theorem KV.aSz {kvs:List (κ×V)} {vs:List (κ×Value)} (r:KV kvs vs) (k:κ) {y:V} {u:Value} (ry:RelV y u) :
  KV (kvs.map fun kv=>if kv.1=k then (kv.1,y) else kv) (vs.map fun kv=>if kv.1=k then (kv.1,u) else kv):=by
 unfold KV at r ⊢
 induction r with
 | nil=>exact .nil
 | @cons p q ps qs h t ih =>
  rw [List.map_cons,List.map_cons]
  refine .cons ?_ ih
  obtain ⟨h1,h2⟩:=h
  by_cases e:p.1=k
  ·rw [if_pos e,if_pos (h1.symm.trans e)];exact ⟨h1,ry⟩
  ·rw [if_neg e,if_neg (fun z=>e (h1.trans z))];exact ⟨h1,h2⟩
theorem KV.put {kvs:List (κ×V)} {vs:List (κ×Value)} (r:KV kvs vs) (k:κ) {y:V} {u:Value} (ry:RelV y u):KV (putK kvs k y) (stored vs k u):=by
 unfold putK stored
 rw [r.any k]
 by_cases e:(vs.any fun kv=>decide (kv.1=k))=true
 ·rw [if_pos e,if_pos e];exact r.aSz k ry
 ·rw [if_neg e,if_neg e];exact Paired.snoc r ⟨rfl,ry⟩
theorem KV.length {kvs:List (κ×V)} {vs:List (κ×Value)} (r:KV kvs vs):kvs.length=vs.length:=Paired.length r
end
theorem aA9 {P:Program} {w:World} {k:Key} {u:Value} (r:RelV (kV k) u):(dG P w).is k u=true:=by
 cases k with
 | inl i=>obtain ⟨t,e⟩:=(show ∃t,u=Value.int i t from r);subst e;exact aA5 P w i t
 | inr x=>obtain ⟨t,e⟩:=(show ∃t,u=Value.str x t from r);subst e;exact aCh P w x t
theorem yA {P:Program} {w:World}:∀ {ks:List Key} {us:Y1},Vals (ks.map kV) us->ItemsAre (dG P w) ks us
 | [],_,r=>by rw [List.map_nil] at r;cases r;exact .nil
 | k::ks,_,r=>by
  rw [List.map_cons] at r
  cases r with
  | cons h t=>exact .cons (aA9 h) (yA t)
abbrev KT (H:Hp):List (List Key×V)->List (List Key×Addr×Value)->Prop:=Paired fun p q=>p.1=q.1/\H q.2.1=some (.tup (p.1.map kV))/\RelV p.2 q.2.2
theorem KT.val {H:Hp} {kvs:List (List Key×V)} {xs:List (List Key×Addr×Value)} (r:KT H kvs xs) (k:List Key):vO (pK kvs k) ((atKey xs k).map (·.2)):=by
 induction r with
 | nil=>exact True.intro
 | @cons p q ps qs h t ih =>
  obtain ⟨h1,_,h2⟩:=h
  by_cases e:p.1=k
  ·have e':q.1=k:=h1.symm.trans e
   have b:atKey (q::qs) k=some q.2:=by simp [atKey,List.find?_cons,e']
   rw [uV e,b];exact h2
  ·have e':¬ q.1=k:=fun z=>e (h1.trans z)
   have b:atKey (q::qs) k=atKey qs k:=by simp [atKey,List.find?_cons,e']
   rw [uB e,b];exact ih
theorem KT.aSz {H:Hp} {kvs:List (List Key×V)} {xs:List (List Key×Addr×Value)} (r:KT H kvs xs) (k:List Key) {y:V} {u:Value} (ry:RelV y u) :
  KT H (kvs.map fun kv=>if kv.1=k then (kv.1,y) else kv) (xs.map (putAt k u)):=by
 induction r with
 | nil=>exact .nil
 | @cons p q ps qs h t ih =>
  rw [List.map_cons,List.map_cons]
  refine .cons ?_ ih
  obtain ⟨h1,h2,h3⟩:=h
  unfold putAt
  by_cases e:p.1=k
  ·rw [if_pos e,if_pos (h1.symm.trans e)];exact ⟨h1,h2,ry⟩
  ·rw [if_neg e,if_neg (fun z=>e (h1.trans z))];exact ⟨h1,h2,h3⟩
theorem KT.put {H:Hp} {kvs:List (List Key×V)} {xs:List (List Key×Addr×Value)} (r:KT H kvs xs) (k:List Key) {b:Addr} {y:V} {u:Value} (hb:H b=some (.tup (k.map kV))) (ry:RelV y u) :
  KT H (putK kvs k y) (storedH xs k b u):=by
 have e:(kvs.any fun kv=>decide (kv.1=k))=(atKey xs k).isSome:=by
  rw [aBj,(r.val k).isSome_eq,Option.isSome_map]
 unfold putK storedH
 rw [e]
 by_cases q:(atKey xs k).isSome=true
 ·rw [if_pos q,if_pos q];exact r.aSz k ry
 ·rw [if_neg q,if_neg q];exact Paired.snoc r ⟨rfl,hb,ry⟩
theorem KT.keeps {H H':Hp} {kvs:List (List Key×V)} {xs:List (List Key×Addr×Value)} (r:KT H kvs xs) (ht:∀b ys,H b=some (.tup ys)->H' b=some (.tup ys)):KT H' kvs xs :=
 Paired.aS3 r fun _ _ z=>⟨z.1,ht _ _ z.2.1,z.2.2⟩
section
variable {P:Program} {w:World} {H:Hp} {h:Heap} {a:Addr}
theorem aN6 {u:HO} (ok:HOk P w H h) (e:Rd H a u):cV P w H h a u:=e.ok ok
theorem aEy {kvs:List (Key×V)} (ok:HOk P w H h) (e:Rd H a (.dK kvs)):kvs.length<=sizeLine/\(a == sysModules)=false/\∃vs,KV kvs vs/\h.DictOf (dG P w) a vs :=
 show cV P w H h a (.dK kvs) from aN6 ok e
theorem aN8 {kvs:List (Key×V)} (ok:HOk P w H h) (e:H a=some (.dK kvs)):kvs.length<=sizeLine/\(a == sysModules)=false/\∃vs,KV kvs vs/\h.DictOf (dG P w) a vs:=aEy ok (.inl e)
theorem aAs {ks:List Key} (ok:HOk P w H h) (e:H a=some (.tup (ks.map kV))):(tupleKind (dG P w)).is h ks a:=by
 obtain ⟨_,its,r,o,h1,h2,n,h3⟩:=(show cV P w H h a (.tup (ks.map kV)) from ok a _ e)
 exact ⟨o,its.toArray,n,h1,h2,h3,by simpa using yA r⟩
theorem aEi {kvs:List (List Key×V)} (ok:HOk P w H h) (e:Rd H a (.dT kvs)):kvs.length<=sizeLine/\(a == sysModules)=false /\
  ∃xs,KT H kvs xs/\h.DictOfH (tupleKind (dG P w)) a xs:=by
 obtain ⟨z,y,xs,r,o,es,ep,h1,h2,h3,h4,h5⟩:=(show cV P w H h a (.dT kvs) from aN6 ok e)
 refine ⟨z,y,xs,r,o,es,ep,h1,h2,h3,h4,fun x hx=>?_,h5⟩
 have all:∀ {l:List (List Key×V)} {m:List (List Key×Addr×Value)},KT H l m->∀x∈m,(tupleKind (dG P w)).is h x.1 x.2.1:=by
  intro l m q
  induction q with
  | nil=>intro x hx;exact nomatch hx
  | @cons p q ps qs hq t ih =>
   intro x hx
   rcases List.mem_cons.mp hx with e | hx
   ·subst e
    exact aAs ok (by rw [<- hq.1];exact hq.2.1)
   ·exact ih x hx
 exact all r x hx
theorem aU6 {kvs:List (List Key×V)} (ok:HOk P w H h) (e:H a=some (.dT kvs)):kvs.length<=sizeLine/\(a == sysModules)=false /\
  ∃xs,KT H kvs xs/\h.DictOfH (tupleKind (dG P w)) a xs:=aEi ok (.inl e)
end
def zT (H:Hp) (a:Addr) (y:V) (r:Option V):Prop :=
 (∃kvs k,Rd H a (.dK kvs)/\y=kV k/\r=pK kvs k)\/∃kvs k b,Rd H a (.dT kvs)/\y=.ref b/\H b=some (.tup (k.map kV))/\r=pK kvs k
def aJ1 (H:Hp) (a:Addr) (y v:V) (H':Hp):Prop :=
 (∃kvs k,H a=some (.dK kvs)/\y=kV k/\kvs.length<sizeLine/\H'=upd H a (.dK (putK kvs k v))) \/
 ∃kvs k b,H a=some (.dT kvs)/\y=.ref b/\H b=some (.tup (k.map kV))/\kvs.length<sizeLine/\H'=upd H a (.dT (putK kvs k v))
theorem zT.k {H:Hp} {a:Addr} {kvs:List (Key×V)} {k:Key} (e:H a=some (.dK kvs)):zT H a (kV k) (pK kvs k):=.inl ⟨kvs,k,.inl e,rfl,rfl⟩
theorem aJ1.k {H:Hp} {a:Addr} {kvs:List (Key×V)} {k:Key} {v:V} (e:H a=some (.dK kvs)) (hl:kvs.length<sizeLine):aJ1 H a (kV k) v (upd H a (.dK (putK kvs k v))):=.inl ⟨kvs,k,e,rfl,hl,rfl⟩
section
variable {X:Cx} {pins:Y8} {σ:St} {H:Hp} {s:Shared} {a:Addr} {y v:V} {u r:Value} {o:Option V} {A:Around} {E:Y9}
theorem Inv.big (I:Inv X pins σ H s):sysModules<s.heap.objs.size:=by
 have h:mainGlobals<s.heap.objs.size:=(I.mod.glob.keeps I.bk).lt
 exact Nat.lt_trans (by decide) h
theorem aF6 {Q:Y9} (hu:A.units+1<cLine) (I:Inv X pins σ H s) (g:zT H a y (some v)) (ry:RelV y u) (h:∀w' s',Inv X pins σ H s'->RelV v w'->Q w' s') :
  wpAny (model X.prog X.w) A (getItem (.ref a) u) Q E s:=by
 rcases g with ⟨kvs,k,e,ey,l⟩ | ⟨kvs,k,b,e,ey,eb,l⟩
 ·subst ey
  obtain ⟨z,hd,vs,rel,dd⟩:=aEy I.hok e
  obtain ⟨w',hw,rw'⟩:=vO.some_of (v:=v) (o:=valueAt vs k) (by rw [l];exact rel.val k)
  exact wpAny_getItem_of (aA9 ry) dd.mapOf hw (h w' _ (I.tok _) rw')
 ·subst ey
  cases (show u=Value.ref b from ry)
  obtain ⟨z,hd,xs,rel,dd⟩:=aEi I.hok e
  obtain ⟨w',hw,rw'⟩:=vO.some_of (v:=v) (o:=(atKey xs k).map (·.2)) (by rw [l];exact rel.val k)
  obtain ⟨p,hp,hp2⟩:=Option.map_eq_some_iff.mp hw
  refine wpAny_getItem_heap (tupleKind_room_in1 hu) (aAs I.hok eb) dd hp ?_
  rw [hp2]
  exact h w' _ (I.tok _) rw'
theorem aX1 {Q:Y9} (hu:A.units+1<cLine) (I:Inv X pins σ H s) (g:zT H a y o) (ry:RelV y u) (h:∀s',Inv X pins σ H s'->Q (.bool o.isSome) s') :
  wpAny (model X.prog X.w) A (compareOp .In u (.ref a)) Q E s:=by
 rcases g with ⟨kvs,k,e,ey,l⟩ | ⟨kvs,k,b,e,ey,eb,l⟩
 ·subst ey
  obtain ⟨z,hd,vs,rel,dd⟩:=aEy I.hok e
  refine wpAny_in_of (aA9 ry) hd dd.mapOf ?_
  rw [<- (rel.val k).isSome_eq,<- l]
  exact h _ (I.tok _)
 ·subst ey
  cases (show u=Value.ref b from ry)
  obtain ⟨z,hd,xs,rel,dd⟩:=aEi I.hok e
  refine wpAny_in_heap (tupleKind_room_in1 hu) (aAs I.hok eb) hd dd ?_
  have q:=(rel.val k).isSome_eq
  rw [Option.isSome_map] at q
  rw [<- q,<- l]
  exact h _ (I.tok _)
theorem zS {h':Heap} {t':Nat} {ob:HO} (I:Inv X pins σ H s) (mu:Mut (H a)) (hs:Heap.SameBut a s.heap h') (he:∃q,h'.get? a=some q) (new:cV X.prog X.w (upd H a ob) h' a ob) :
  Inv X pins σ (upd H a ob) { s with heap:=h',toks:=t' } :=
 I.write (x:=a) (e:=a) mu (.inl rfl) (fun b q hb z=>(hs.2 b hb).trans z) he new
theorem aIo {P:Program} {w:World} {H':Hp} {h':Heap} {kvs:List (Key×V)} {vs:List (Key×Value)} (z:kvs.length<=sizeLine) (hd:(a == sysModules)=false) (rel:KV kvs vs) (dd:h'.DictOf (dG P w) a vs) :
  cV P w H' h' a (.dK kvs):=⟨z,hd,vs,rel,dd⟩
theorem aHg {H':Hp} {Q:Unit->Shared->Prop} (hu:A.units+1<cLine) (I:Inv X pins σ H s) (g:aJ1 H a y v H') (ry:RelV y u) (rv:RelV v r) (h:∀s',Inv X pins σ H' s'->Q () s') :
  wpAny (model X.prog X.w) A (setItem (.ref a) u r) Q E s:=by
 rcases g with ⟨kvs,k,e,ey,l,eH⟩ | ⟨kvs,k,b,e,ey,eb,l,eH⟩
 ·subst ey eH
  obtain ⟨z,hd,vs,rel,dd⟩:=aN8 I.hok e
  have hz:vs.length<=sizeLine:=by rw [<- rel.length];exact z
  have hl:(putK kvs k v).length<=sizeLine:=by have:=mS kvs k v;omega
  refine wpAny_setItem_pairs (hsz:=hz) (aA9 ry) dd fun h' dd' hs=>h _ ?_
  have he:∃q,h'.get? a=some q:=let ⟨q,_,_,hq,_⟩:=dd';⟨q,hq⟩
  exact zS I (by rw [e];exact True.intro) hs he (aIo hl hd (rel.put k rv) dd')
 ·subst ey eH
  cases (show u=Value.ref b from ry)
  obtain ⟨z,hd,xs,rel,dd⟩:=aU6 I.hok e
  have hz:xs.length<=sizeLine:=by rw [<- Paired.length rel];exact z
  have hl:(putK kvs k v).length<=sizeLine:=by have:=mS kvs k v;omega
  refine wpAny_setItem_heap (hsz:=hz) (tupleKind_room_in1 hu) (aAs I.hok eb) dd fun h' dd' hs=>h _ ?_
  obtain ⟨q,es,ep,hq,h2,h3,h4,_,h5⟩:=dd'
  refine zS I (by rw [e];exact True.intro) hs ⟨q,hq⟩ ⟨hl,hd,_,(rel.put k eb rv).keeps fun c ys ec=>?_,q,es,ep,hq,h2,h3,h4,h5⟩
  rw [aZ (aVa ec e (fun z=>nomatch z))]
  exact ec
end
section
variable {X:Cx} {pins:Y8} {σ:St} {H:Hp} {s:Shared} {a:Addr} {kvs:List (Key×V)} {k:Key} {u:Value} {A:Around} {E:Y9}
end
def aQv (i:Expr):Prop:=∀ov iv,subscripted i false ov iv=operate [ov,iv] (getItem ov iv)
theorem aM9 {prog:Program} {w:World} {A:Around} {E:Y9} {s:Shared} {env:Env} {value slice:Expr} {pos:Pos} {T id:String} {Q:Y9}
  (hl:typeLookup (.type T) "__getitem__" = pure (some (.builtin id))) (hs:aQv slice)
  (h:wpAny (model prog w) A (eval value env) (fun o s₁=>wpAny (model prog w) A (eval slice env) (fun i s₂=>s₂.TypeIs o T/\wpAny (model prog w) A (getItem o i) Q E s₂) E s₁) E s) :
  wpAny (model prog w) A (eval (.Subscript value slice pos) env) Q E s:=by
 refine Subscript_ (wpAny_mono h (fun o s₁ h₁=>wpAny_mono h₁ (fun i s₂ h₂=>?_) fun _ _ x=>x) fun _ _ x=>x)
 obtain ⟨hT,h₂⟩:=h₂
 unfold subscriptTail
 refine wpAny_bind ?_
 rw [getitemInPython_of_ne hT.not_modules]
 refine wpAny_bind (wpAny_specialOf hT hl ?_)
 have fin:wpAny (model prog w) A (subscripted slice false o i) (fun r s₃=>wpAny (model prog w) A (letTemporaryGo value o r >>= fun _=>pure r) Q E s₃) E s₂:=by
  rw [hs o i]
  exact wpAny_operating (wpAny_mono h₂ (fun r s₃ h₃=>wpAny_bind (wpAny_letTemporaryGo (wpAny_pure h₃))) fun _ _ x=>x)
 first
  | exact wpAny_pure (wpAny_bind fin)
  | exact wpAny_bind (wpAny_pure (wpAny_bind fin))
  | exact wpAny_bind fin
theorem aBq {X:Cx} {pins:Y8} {σ:St} {H:Hp} {s:Shared} {a:Addr} {y:V} {o:Option V} (I:Inv X pins σ H s) (g:zT H a y o):s.TypeIs (.ref a) "dict" :=by
 rcases g with ⟨kvs,k,e,_,_⟩ | ⟨kvs,k,b,e,_,_,_⟩
 ·obtain ⟨_,_,vs,_,dd⟩:=aEy I.hok e
  exact dd.typeIs
 ·obtain ⟨_,_,xs,_,dd⟩:=aEi I.hok e
  exact dd.typeIs
def aOi (td ty:TE):TE:=fun σ H Q=>td σ H fun x H1=>ty σ H1 fun y H2=>∃a v,x=.ref a/\zT H2 a y (some v)/\Q v H2
def aTi (ty td:TE):TE:=fun σ H Q=>ty σ H fun y H1=>td σ H1 fun x H2=>∃a o,x=.ref a/\zT H2 a y o/\Q (.bl o.isSome) H2
def aOy (td ty tv:TE):TS:=fun D σ H=>tv σ H fun v H1=>td σ H1 fun x H2=>ty σ H2 fun y H3=>∃a H4,x=.ref a/\aJ1 H3 a y v H4/\D.nx σ H4
section
variable {X:Cx} {o i e value:Expr} {pos pos' tpos:Pos} {td ty tv:TE}
theorem aMb (hu:X.A.units+1<cLine) (ho:PE X o td) (hi:PE X i ty) (hs:aQv i):PE X (.Subscript o i pos) (aOi td ty):=by
 intro pins s σ H Q I h
 refine aM9 PySem.F.slot_dict_getitem.lookup hs (thn (ho pins s σ H _ I h) fun u s1 ⟨x,H1,I1,rx,q1⟩=>thn (hi pins s1 σ H1 _ I1 q1) fun iv s2 ⟨y,H2,I2,ry,a,v,ex,g,q2⟩=>?_)
 subst ex
 obtain rfl:u=Value.ref a:=rx
 exact ⟨aBq I2 g,aF6 hu I2 g ry fun w' s3 I3 rw'=>⟨v,H2,I3,rw',q2⟩⟩
theorem aSs (hu:X.A.units+1<cLine) (hi:PE X i ty) (ho:PE X o td):PC X .In i o (aTi ty td):=by
 intro pins s σ H Q I h
 refine thn (hi pins s σ H _ I h) fun iv s1 ⟨y,H1,I1,ry,q1⟩=>thn (ho pins s1 σ H1 _ I1 q1) fun u s2 ⟨x,H2,I2,rx,a,ov,ex,g,q2⟩=>?_
 subst ex
 obtain rfl:u=Value.ref a:=rx
 exact aX1 hu I2 g ry fun s3 I3=>⟨.bl ov.isSome,H2,I3,rfl,q2⟩
theorem aLm (hu:X.A.units+1<cLine) (ho:PE X o td) (hi:PE X i ty) (hv:PE X value tv) (hs:swapsWith value (some (.Subscript o i pos')) pos.line X.env=pure false) :
  PS X (.Assign [.Subscript o i pos'] value pos) (aOy td ty tv):=by
 intro pins s σ H D I h
 refine wpAny_Assign_Subscript (thn (hv pins s σ H _ I h) fun r s1 ⟨v,H1,I1,rv,q1⟩=>thn (ho pins s1 σ H1 _ I1 q1) fun u s2 ⟨x,H2,I2,rx,q2⟩=>thn (hi pins s2 σ H2 _ I2 q2) fun iv s3 ⟨y,H3,I3,ry,a,H4,ex,g,q3⟩=>?_) hs
 subst ex
 obtain rfl:u=Value.ref a:=rx
 exact aHg hu I3 g ry rv fun s4 I4=>⟨σ,H4,I4,q3⟩
end
theorem aI0 {P:Program} {w:World} {H:Hp} (h:Heap) (hb:sysModules<h.objs.size):cV P w H (h.push { cls:=.type "dict",data:=.dict #[] }) h.objs.size (.dK []) :=
 ⟨Nat.zero_le _,beq_eq_false_iff_ne.mpr (Ne.symm (Nat.ne_of_lt hb)),[],.nil,Heap.DictOf.new h⟩
section
variable {X:Cx} {pos:Pos}
end
def aC9:List (TE×TE)->St->Hp->(List (V×V)->Hp->Prop)->Prop
 | [],_,H,Q=>Q [] H
 | (tk,tv)::r,σ,H,Q=>tk σ H fun x H1=>tv σ H1 fun y H2=>aC9 r σ H2 fun ps H3=>Q ((x,y)::ps) H3
abbrev VV:List (V×V)->List (Value×Value)->Prop:=Paired fun p q=>RelV p.1 q.1/\RelV p.2 q.2
def PPs (X:Cx) (pos:Pos) (keys:List (Option Expr)) (values:List Expr) (trs:List (TE×TE)):Prop :=
 ∀(pins:Y8) (s:Shared) (σ:St) (H:Hp) (Q:List (V×V)->Hp->Prop),Inv X pins σ H s->aC9 trs σ H Q ->
  wpAny (model X.prog X.w) X.A (evalPairs (pairTrees keys values X.env pos)) (fun vs s'=>∃ps H',Inv X pins σ H' s'/\VV ps vs/\Q ps H') X.xe s
theorem aLj {X:Cx} {pos:Pos}:PPs X pos [] [] []:=fun pins s σ H Q I h=>pairTrees_nil_walk ⟨[],H,I,.nil,h⟩
theorem aJ9 {X:Cx} {pos:Pos} {k v:Expr} {ks:List (Option Expr)} {vs:List Expr} {tk tv:TE} {trs:List (TE×TE)} (hk:PE X k tk) (hv:PE X v tv) (hr:PPs X pos ks vs trs) :
  PPs X pos (some k::ks) (v::vs) ((tk,tv)::trs):=fun pins s σ H Q I h =>
 pairTrees_cons_walk (thn (hk pins s σ H _ I h) fun u s1 ⟨x,H1,I1,rx,q1⟩=>thn (hv pins s1 σ H1 _ I1 q1) fun w2 s2 ⟨y,H2,I2,ry,q2⟩ =>
  thn (hr pins s2 σ H2 _ I2 q2) fun ws s3 ⟨ps,H3,I3,rel,q3⟩=>⟨(x,y)::ps,H3,I3,.cons ⟨rx,ry⟩ rel,q3⟩)
def uF (kvs more:List (Key×V)):List (Key×V):=more.foldl (fun acc kv=>putK acc kv.1 kv.2) kvs
theorem KV.merge:∀ {more:List (Key×V)} {rs:List (Key×Value)} {kvs:List (Key×V)} {vs:List (Key×Value)},KV more rs->KV kvs vs->KV (uF kvs more) (merged vs rs):=by
 intro more rs kvs vs r
 unfold KV at r
 induction r generalizing kvs vs with
 | nil=>intro q;exact q
 | @cons p q ps qs h t ih =>
  intro r0
  have e:KV (putK kvs p.1 p.2) (stored vs q.1 q.2):=by
   have:=r0.put p.1 h.2
   rw [<- h.1];exact this
  exact ih e
theorem oR:∀(more kvs:List (Key×V)),(uF kvs more).length<=kvs.length+more.length
 | [],kvs=>by show kvs.length<=kvs.length+0;omega
 | p::r,kvs=>by
  have h1:=oR r (putK kvs p.1 p.2)
  have h2:=mS kvs p.1 p.2
  show (uF (putK kvs p.1 p.2) r).length<=_
  rw [List.length_cons];omega
theorem uZ {P:Program} {w:World}:∀ {kvs:List (Key×V)} {ws:List (Value×Value)},VV (kvs.map fun kv=>(kV kv.1,kv.2)) ws->∃rs,Carries (dG P w) ws rs/\KV kvs rs
 | [],_,r=>by rw [List.map_nil] at r;cases r;exact ⟨[],True.intro,.nil⟩
 | p::kvs,_,r=>by
  rw [List.map_cons] at r
  cases r with
  | @cons a b as bs h t =>
   obtain ⟨rs,c,q⟩:=uZ (P:=P) (w:=w) t
   obtain ⟨b1,b2⟩:=b
   exact ⟨(p.1,b2)::rs,⟨aA9 h.1,rfl,c⟩,.cons ⟨rfl,h.2⟩ q⟩
def aN0 (trs:List (TE×TE)):TE:=fun σ H Q=>∀p,H p=none->aC9 trs σ (upd H p (.dK [])) fun ps H2=>H2 p=some (.dK [])/\∃kvs:List (Key×V),ps=kvs.map (fun kv=>(kV kv.1,kv.2))/\kvs.length<=15/\Q (.ref p) (upd H2 p (.dK (uF [] kvs)))
theorem aMd {X:Cx} {pos:Pos} {keys:List (Option Expr)} {values:List Expr} {trs:List (TE×TE)} (h:PPs X pos keys values trs) (hall:keys.all (·.isSome)=true) (hl:keys.length=values.length) (h0:keys ≠ [])
  (h15:keys.length<=15):PE X (.Dict keys values pos) (aN0 trs):=by
 intro pins s σ H Q I q
 have hn:=I.hok.fresh (Nat.le_refl s.heap.objs.size)
 have I1:=I.laid (a:=s.heap.objs.size) (o:=.dK []) (h':=s.heap.push { cls:=.type "dict",data:=.dict #[] }) (t':=s.toks) (fun _ _ q=>Heap.get?_push_of_some _ q) (Nat.le_refl _) (aI0 s.heap I.big)
 refine wpAny_Dict_walk (knd:=dG X.prog X.w) hall hl h0 h15 (thn (h pins _ σ _ _ I1 (q _ hn)) fun ws s2 ⟨ps,H2,I2,rel,e,kvs,ep,lk,q2⟩=>?_)
 subst ep
 obtain ⟨rs,c,rk⟩:=uZ (P:=X.prog) (w:=X.w) rel
 obtain ⟨z,hd,vs0,r0,dd⟩:=aN8 I2.hok e
 cases r0
 refine ⟨rs,c,dd,fun h' dd' hs=>⟨.ref s.heap.objs.size,_,?_,rfl,q2⟩⟩
 have hz:(uF [] kvs).length<=sizeLine:=by
  have h1:=oR kvs []
  rw [List.length_nil] at h1
  rw [sizeLine_eq];omega
 have he:∃q,h'.get? s.heap.objs.size=some q:=let ⟨q,_,_,hq,_⟩:=dd';⟨q,hq⟩
 exact zS I2 (by rw [e];exact True.intro) hs he (aIo hz hd (rk.merge .nil) dd')
end L2
end
section
namespace VL
open PySem PySem.Spec PyProof.Rows L2
theorem pL (env:Env):∀(l:List (Str×NameKind)) (acc:List (Str×Addr)),(∀y∈l,y.2=.free->∃c,env.cells.lookup y.1=some c)->(∀x c,acc.lookup x=some c->env.cells.lookup x=some c) ->
  ∃cl,(forIn l acc (fun (x:Str×NameKind) (cs:List (Str×Addr))=>(if x.2 == NameKind.free then (do let a <- cellOf env x.1;pure (ForInStep.yield ((x.1,a)::cs))) else pure (ForInStep.yield cs):Sem (ForInStep (List (Str×Addr))))):Sem (List (Str×Addr)))=pure cl /\
   (∀x c,cl.lookup x=some c->env.cells.lookup x=some c)/\(∀x c,acc.lookup x=some c->cl.lookup x=some c)/\∀y∈l,y.2=.free->cl.lookup y.1=env.cells.lookup y.1
 | [],acc,_,ha=>⟨acc,by simp,ha,fun _ _ h=>h,fun y hy=>by cases hy⟩
 | (n,k)::l,acc,hl,ha=>by
  by_cases hk:k=.free
  ·subst hk
   obtain ⟨c,hc⟩:=hl (n,.free) List.mem_cons_self rfl
   have ha':∀x d,((n,c)::acc).lookup x=some d->env.cells.lookup x=some d:=fun x d e=>by
    rw [List.lookup_cons] at e
    cases q:x == n with
    | true =>
     rw [q] at e
     have:x=n:=by simpa using q
     subst this;cases e;exact hc
    | false=>rw [q] at e;exact ha x d e
   obtain ⟨cl,e1,e2,e3,e4⟩:=pL env l ((n,c)::acc) (fun y hy=>hl y (List.mem_cons_of_mem _ hy)) ha'
   have up:∀x d,acc.lookup x=some d->((n,c)::acc).lookup x=some d:=fun x d e=>by
    rw [List.lookup_cons]
    cases q:x == n with
    | true =>
     have:x=n:=by simpa using q
     subst this
     have:=ha _ _ e
     rw [hc] at this;exact this
    | false=>exact e
   refine ⟨cl,?_,e2,fun x d e=>e3 x d (up x d e),fun y hy hf=>?_⟩
   ·rw [List.forIn_cons]
    have:cellOf env n=pure c:=by unfold cellOf;rw [hc]
    simp only [this,beq_self_eq_true,if_true,pure_bind]
    exact e1
   ·rcases List.mem_cons.mp hy with rfl | hy
    ·rw [hc]
     exact e3 n c (by rw [List.lookup_cons,beq_self_eq_true])
    ·exact e4 y hy hf
  ·obtain ⟨cl,e1,e2,e3,e4⟩:=pL env l acc (fun y hy=>hl y (List.mem_cons_of_mem _ hy)) ha
   refine ⟨cl,?_,e2,e3,fun y hy hf=>?_⟩
   ·rw [List.forIn_cons]
    have:(k == NameKind.free)=false:=by simpa using hk
    simp only [this,Bool.false_eq_true,if_false,pure_bind]
    exact e1
   ·rcases List.mem_cons.mp hy with rfl | hy
    ·exact absurd hf hk
    ·exact e4 y hy hf
theorem aC4 (scope:Scope) (env:Env) (h:∀y∈scope.names,y.2=.free->∃c,env.cells.lookup y.1=some c) :
  ∃cl,closureFor scope env=pure cl/\(∀x c,cl.lookup x=some c->env.cells.lookup x=some c)/\∀y∈scope.names,y.2=.free->cl.lookup y.1=env.cells.lookup y.1:=by
 obtain ⟨cl,e1,e2,_,e4⟩:=pL env scope.names [] h (fun x c e=>by simp at e)
 refine ⟨cl,?_,e2,e4⟩
 unfold closureFor
 have:(forIn scope.names ([]:List (Str×Addr)) fun (x:Str×NameKind) (r:List (Str×Addr))=>(match x with
   | (name,kind)=>if (kind == NameKind.free)=true then (do let a <- cellOf env name;pure (ForInStep.yield ((name,a)::r))) else pure (ForInStep.yield r):Sem (ForInStep (List (Str×Addr)))))=pure cl:=e1
 first
  | (simp only [this,pure_bind])
  | (rw [this];rfl)
  | (show (forIn _ _ _ >>= _)=_;rw [this];rfl)
theorem iE {env:Env}:∀ {names:List (Str×NameKind)} {x:Str},names.lookup x=some .free ->
  (names.map fun (n,k)=>if (k == NameKind.free && env.scope.kind == .function && env.kindOf n == some .cell) then (n,NameKind.cell) else (n,k)).lookup x=some .cell \/
  (names.map fun (n,k)=>if (k == NameKind.free && env.scope.kind == .function && env.kindOf n == some .cell) then (n,NameKind.cell) else (n,k)).lookup x=some .free
 | [],_,h=>by simp at h
 | (n,k)::r,x,h=>by
  have ih:=@iE env r x
  rw [List.map_cons]
  cases hx:x == n with
  | true =>
   simp only [List.lookup_cons,hx] at h
   cases h
   by_cases hc:(NameKind.free == NameKind.free && env.scope.kind == .function && env.kindOf n == some .cell)=true
   ·left;simp only [hc,if_true,List.lookup_cons,hx]
   ·right;simp only [hc,Bool.false_eq_true,if_false,List.lookup_cons,hx]
  | false =>
   simp only [List.lookup_cons,hx] at h
   by_cases hc:(k == NameKind.free && env.scope.kind == .function && env.kindOf n == some .cell)=true
   ·simp only [hc,if_true,List.lookup_cons,hx];exact ih h
   ·simp only [hc,Bool.false_eq_true,if_false,List.lookup_cons,hx];exact ih h
theorem nR {env:Env}:∀ {names:List (Str×NameKind)} {x:Str} {k:NameKind},(names.map fun (n,k)=>if (k == NameKind.free && env.scope.kind == .function && env.kindOf n == some .cell) then (n,NameKind.cell) else (n,k)).lookup x=some k->k=.cell\/k=.free ->
  ∃y∈names,y.1=x/\(y.2=.free\/y.2=.cell)
 | [],_,_,h,_=>by simp at h
 | (n,k)::r,x,k',h,hk=>by
  rw [List.map_cons] at h
  cases hx:x == n with
  | true =>
   have e:x=n:=by simpa using hx
   subst e
   by_cases hc:(k == NameKind.free && env.scope.kind == .function && env.kindOf x == some .cell)=true
   ·refine ⟨(x,k),List.mem_cons_self,rfl,.inl ?_⟩
    simp only [Bool.and_eq_true] at hc
    simpa using hc.1.1
   ·simp only [hc,Bool.false_eq_true,if_false,List.lookup_cons,hx] at h
    cases h
    exact ⟨(x,k),List.mem_cons_self,rfl,hk.symm⟩
  | false =>
   have h':(r.map fun (n,k)=>if (k == NameKind.free && env.scope.kind == .function && env.kindOf n == some .cell) then (n,NameKind.cell) else (n,k)).lookup x=some k':=by
    by_cases hc:(k == NameKind.free && env.scope.kind == .function && env.kindOf n == some .cell)=true
    ·simp only [hc,if_true,List.lookup_cons,hx] at h;exact h
    ·simp only [hc,Bool.false_eq_true,if_false,List.lookup_cons,hx] at h;exact h
   obtain ⟨y,hy,e⟩:=nR h' hk
   exact ⟨y,List.mem_cons_of_mem _ hy,e⟩
def blk (X:Cx) (scope:Scope) (cl:List (Str×Addr)) (N:List Str) (s3:Shared) (H3:Hp) (fp:Y2):Cx :=
 { X with N:=N,s₀:=s3,H₀:=H3,env:=compEnvC scope cl s3.heap.objs.size X.env,outer:=X.stack,ex:=fp,fn:=fun _=>false,pn:=[],xe:=fun _ _=>False }
def PTs (Y:Cx) (ifs:List Expr) (t:TT):Prop :=
 ∀(pins:Y8) (s:Shared) (σ:L2.St) (H:Hp) (Q:Bool->Hp->Prop),L2.Inv Y pins σ H s->t σ H Q ->
  wpAny (model Y.prog Y.w) Y.A (forIn ifs true fun c r=>if r=true then do let ok <- isTrue c Y.env (eval c Y.env);pure (ForInStep.yield ok) else pure (ForInStep.yield r)) (TP Y pins σ Q) Y.xe s
theorem aM4 {Y:Cx}:PTs Y [] (fun _ H Q=>Q true H):=fun _ _ _ H _ I h=>wpAny_tests_nil ⟨H,I,h⟩
theorem aL3 {Y:Cx} {c:Expr} {t:TT} (h:PT Y c t):PTs Y [c] t:=fun pins s σ H Q I q=>wpAny_tests_one (h pins s σ H Q I q)
def aFn (wi:TI) (nt:Nat) (js:T0) (g:TG) (tc:TT) (te:TE):TE:=fun σ H Q=>wi σ H fun J H1=>∀acc,H1 acc=none->∃W:Nat->Nat->L2.St->Hp->Prop,
 (∃m,W 0 m (List.replicate nt none++js.map fun j=>(σ[j]?).join) (upd H1 acc (.lst [])))/\∀i m σ' H',W i m σ' H' ->
  (J.stop i H'/\Q (.ref acc) H')\/(J.go i H'/\∀x H2,J.yld i H' x H2->g x σ' H2 fun σ2 H3=>tc σ2 H3 fun b H4 =>
   if b=true then te σ2 H4 fun y H5=>∃xs,H5 acc=some (.lst xs)/\xs.length<sizeLine/\∃m',m'<m/\W (i+1) m' σ2 (upd H5 acc (.lst (xs ++ [y])))
   else ∃m',m'<m/\W (i+1) m' σ2 H4)
section
variable {prog:Program} {w:World} {A:Around} {R:Result->Shared->Prop} {s:Shared}
theorem aCd {elt target iter:Expr} {ifs:List Expr} {scope:Scope} {pos:Pos} {it acc:Value} {env:Env} (I:Nat->Shared->Prop)
  (turn:∀n s,I n s->wpAny (model prog w) A (pyNext it) (fun r s₁=>match r with
   | none=>R (.ok .next) s₁
   | some v=>wpAny (model prog w) A (letOwnedTupleGo target it v) (fun _ s₁=>wpAny (model prog w) A (assign target env v) (fun _ s₂ =>
     wpAny (model prog w) A (forIn ifs true fun c r=>if r=true then do let ok <- isTrue c env (eval c env);pure (ForInStep.yield ok) else pure (ForInStep.yield r)) (fun ok s₃ =>
      if ok=true then wpAny (model prog w) A (eval elt env) (fun x s₄ =>
       wpAny (model prog w) A (call (.builtin "list.append") [acc,x]) (fun _ s₅=>∃m,m<n/\I m s₅) (fun _ _=>False) s₄) (fun _ _=>False) s₃
      else ∃m,m<n/\I m s₃) (fun _ _=>False) s₂) (fun _ _=>False) s₁) (fun _ _=>False) s₁) (fun _ _=>False) s)
  (n:Nat) (h:I n s):codeAny (model prog w) A (.compLoop (.ListComp elt [⟨target,iter,ifs,0⟩] scope pos) 0 it acc env) R s:=by
 refine codeAny_loop rfl I (fun n s hI=>?_) n h
 show wpAny _ A ((compTurn (.ListComp elt [⟨target,iter,ifs,0⟩] scope pos) 0 it acc env).onRaise (fun x=>do noteFrame x env;theTreesLotGoes x)) _ _ s
 refine wpAny_noted ?_
 rw [compTurn_list]
 refine wpAny_bind (wpAny_standAt (wpAny_bind (wpAny_mono (turn n s hI) (fun r s₁ h₁=>?_) fun _ _ h'=>h'.elim)))
 cases r with
 | none=>exact wpAny_pure h₁
 | some v =>
  refine wpAny_bind (wpAny_mono h₁ (fun _ s₁' h₁'=>?_) fun _ _ h'=>h'.elim)
  refine wpAny_bind (wpAny_mono h₁' (fun _ s₂ h₂=>wpAny_bind (wpAny_mono h₂ (fun ok s₃ h₃=>?_) fun _ _ h'=>h'.elim)) fun _ _ h'=>h'.elim)
  cases ok with
  | false=>exact wpAny_pure ⟨rfl,h₃⟩
  | true =>
   exact wpAny_bind (wpAny_bind (wpAny_mono h₃ (fun x s₄ h₄=>wpAny_bind (wpAny_mono h₄ (fun _ s₅ h₅=>wpAny_pure (wpAny_pure ⟨rfl,h₅⟩)) fun _ _ h'=>h'.elim)) fun _ _ h'=>h'.elim))
end
section
variable {X:Cx} {pos:Pos}
theorem yD {elt iter tg:Expr} {ifs:List Expr} {scope:Scope} {wi:TI} {N:List Str} {nt:Nat} {js:T0} {g:TG} {tc:TT} {te:TE}
  (hc:X.calm=true) (hi:PI X tg iter wi) (hkind:scope.kind=.function) (hcell:∀y∈scope.names,y.2 ≠ .cell) (hnames:∀y∈scope.names,y.2=.local->scope.names.lookup y.1=some .local)
  (hfr:∀y∈scope.names,y.2=.free->X.env.kindOf y.1=some .cell\/X.env.kindOf y.1=some .free)
  (hlen:nt+js.length=N.length)
  (hjs:∀(k:Nat) (j:Nat),js[k]?=some j->∃x,N[nt+k]?=some x/\X.N[j]?=some x/\scope.names.lookup x=some .free)
  (hb:∀cl s3 H3 fp,PG (blk X scope cl N s3 H3 fp) tg g/\PTs (blk X scope cl N s3 H3 fp) ifs tc/\PE (blk X scope cl N s3 H3 fp) elt te)
  (hs:∀x,foldedSetIterable iter X.env x=pure x) {pins:Y8} {s:Shared} {σ:L2.St} {H:Hp} {Q:VK} {use:Option (Value->Sem Unit)} {QQ:Y9} (p0:Pos) (I:L2.Inv X pins σ H s) (h:aFn wi nt js g tc te σ H Q)
  (fin:∀(a C:Addr) (s6:Shared) (H5:Hp) (m:Y6),L2.Inv X pins σ H5 s6->s6.heap.Ns C m->wA X pins H5 C->Q (.ref a) H5->compPost (model X.prog X.w) X.A X.xe use QQ (.ref a) C (.ok .next) s6) :
  wpAny (model X.prog X.w) X.A (comprehension (.ListComp elt [⟨tg,iter,ifs,0⟩] scope pos) scope X.env p0 (newList []) false (eval iter X.env) use) QQ X.xe s:=by
 obtain ⟨cl,hcl,cl1,cl2⟩:=aC4 scope X.env fun y hy hf=>I.ok.has y.1 (hfr y hy hf)
 refine wpAny_comprehension_free (use:=use) rfl hs hcl hkind hnames (wpAny_mono (hi pins s σ H _ I h) (fun xv s1 h1=>wpAny_mono h1 (fun itv s2 h2=>?_) fun _ _ z=>z) fun _ _ z=>z)
 obtain ⟨it,fp,tn,J,H2,rfl,I2,T,st2,hfp,h2⟩:=h2
 obtain ⟨W,⟨m0,w0⟩,turn⟩:=h2 s2.heap.objs.size I2.fresh
 refine wpAny_newObj_type (wpAny_newFunctionEnv hcell (by intro y hy;simp at hy) (fun h₁ hns₁ hsb₁=>?_) hkind)
 dsimp only at hns₁ hsb₁ ⊢
 have I3:L2.Inv X pins σ (upd H2 s2.heap.objs.size (.lst [])) { s2 with heap:=s2.heap.push { cls:=.type "list",data:=.seq ([]:Y1).toArray } }:=I2.aS5 (its:=[]) (t':=s2.toks) .nil (Nat.zero_le _)
 generalize hs3:({ s2 with heap:=s2.heap.push { cls:=.type "list",data:=.seq ([]:Y1).toArray } }:Shared)=s3 at I3
 have e3:s3.heap=s2.heap.push { cls:=.type "list",dict:=none,data:=.seq ([]:Y1).toArray }:=by rw [<- hs3]
 rw [<- e3] at hns₁ hsb₁
 have hH3:∃H3,H3=upd H2 s2.heap.objs.size (.lst []):=⟨_,rfl⟩
 obtain ⟨H3,eH3⟩:=hH3
 rw [<- eH3] at I3 w0
 have hC:s3.heap.objs.size=s2.heap.objs.size+1:=by rw [e3,Heap.size_push]
 have k1:∀b u,s3.heap.get? b=some u->h₁.get? b=some u:=fun b u e=>hsb₁.extBut b u (Nat.ne_of_lt (Heap.lt_size e)) (Heap.get?_push_of_some _ e)
 have k2:∀b u,s2.heap.get? b=some u->s3.heap.get? b=some u:=fun b u e=>by rw [e3];exact Heap.get?_push_of_some _ e
 have hfpo:∀b∈fp,∃o,s2.heap.get? b=some o:=fun b hb=>let ⟨o,e,_⟩:=T.obj 0 _ st2 b hb;⟨o,e⟩
 have hfplt:∀b∈fp,b<s2.heap.objs.size:=fun b hb=>let ⟨o,e⟩:=hfpo b hb;Heap.lt_size e
 have hfn:∀b∈fp,b ∉ frs X.stack:=fun b hb z=>(List.mem_cons.mp (I2.aAx b z)).elim (hfp b hb).2.1 (hfp b hb).2.2.1
 have hH3fp:∀b∈fp,H3 b=none:=fun b hb=>by rw [eH3,aZ (Nat.ne_of_lt (hfplt b hb))];exact (hfp b hb).1
 let Y:=blk X scope cl N s3 H3 fp
 obtain ⟨pg,pt,pe⟩:=hb cl s3 H3 fp
 have okY:Y.Ok:=by
  refine ⟨I3.ok.mod,by show (relabel scope X.env).kind=_;exact hkind,I3.ok.glob,I3.ok.blt,Nat.le_refl _,fun x y c a b=>I3.ok.inj x y c (cl1 x c a) (cl1 y c b),fun x hx=>?_,(fun x c z=>by cases z),I3.ok.hd,I3.ok.frames,.inl rfl,fun b hb=>⟨?_,fun x c e=>(hfp b hb).2.2.2.2.1 x c (cl1 x c e)⟩,I3.bs,Nat.le_trans I3.ok.bsz I3.sz,fun b o e hb=>?_,hfn,I3.stack,I3.tU⟩
  ·have hx':(relabel scope X.env).names.lookup x=some .cell\/(relabel scope X.env).names.lookup x=some .free:=hx
   obtain ⟨y,hy,e1,e2⟩:∃y∈scope.names,y.1=x/\(y.2=.free\/y.2=.cell):=by
    rcases hx' with z | z
    ·exact nR z (.inl rfl)
    ·exact nR z (.inr rfl)
   have e2:y.2=.free:=e2.elim id fun z=>absurd z (hcell y hy)
   obtain ⟨c,ec⟩:=I3.ok.has y.1 (hfr y hy e2)
   exact ⟨c,by subst e1;exact (cl2 y hy e2).trans ec⟩
  ·exact Nat.ne_of_lt (by show b<s3.heap.objs.size;rw [hC];exact Nat.lt_succ_of_lt (hfplt b hb))
  ·rcases (hfp b hb).2.2.2.1 with z | z
   ·exact I3.ok.noex b o e z
   ·exact absurd (Nat.lt_of_lt_of_le (Heap.lt_size e) (Nat.le_trans I3.ok.bsz z)) (Nat.lt_irrefl _)
 have vals:∀(i:Nat) (x:Str) (v:V),N[i]?=some x->(List.replicate nt none++js.map fun j=>(σ[j]?).join)[i]?=some (some v)->∃u c,RelV v u/\X.env.cells.lookup x=some c/\s3.heap.IsCell c (some u)/\scope.names.lookup x=some .free:=by
  intro i x v a1 a2
  have hi:nt<=i:=by
   rcases Nat.lt_or_ge i nt with z | z
   ·rw [List.getElem?_append_left (by simpa using z),List.getElem?_replicate,if_pos z] at a2;cases a2
   ·exact z
  obtain ⟨k,rfl⟩:=Nat.exists_eq_add_of_le hi
  rw [List.getElem?_append_right (by simp)] at a2
  rw [List.length_replicate,Nat.add_sub_cancel_left,List.getElem?_map] at a2
  cases ej:js[k]? with
  | none=>rw [ej] at a2;cases a2
  | some j =>
   rw [ej] at a2
   have hv:σ[j]?=some (some v):=by
    have a2:(σ[j]?).join=some v:=Option.some.inj a2
    cases q:σ[j]? with
    | none=>rw [q] at a2;cases a2
    | some o=>rw [q] at a2;exact congrArg some a2
   obtain ⟨y,n1,n2,n3⟩:=hjs k j ej
   have ey:y=x:=by rw [n1] at a1;exact Option.some.inj a1
   subst ey
   have mem:(y,NameKind.free)∈scope.names:=PySem.mem_of_lookup n3
   have kd:=hfr _ mem rfl
   have vis:Vis X.env.scope y:=by
    rcases kd with z | z
    ·exact .inr (.inl z)
    ·exact .inr (.inr z)
   obtain ⟨m,hn,hl⟩:=I3.loc
   obtain ⟨u,ru,look⟩:=hl j y v n2 hv vis
   rcases look with ⟨kk,_⟩ | ⟨kk,c,ec,hce⟩
   ·rcases kd with z | z
    ·rw [z] at kk;cases kk
    ·rw [z] at kk;cases kk
   ·exact ⟨u,c,ru,ec,hce,n3⟩
 have IY:L2.Inv Y [] (List.replicate nt none++js.map fun j=>(σ[j]?).join) H3 { s3 with heap:=h₁,toks:=s3.toks+([]:List (Str×Value)).length }:=by
  refine ⟨okY,rfl,I3.bare,Un.kept k1,⟨_,hns₁,fun i x v a1 a2 a3=>?_⟩,fun x c e=>?_,I3.hok.fresh (Nat.le_refl _),fun x c e=>I3.freeC x c (cl1 x c e),(fun p hp=>by cases hp),I3.hok.kept k1,?_⟩
  ·obtain ⟨u,c,ru,ec,⟨o,ho,hd⟩,n3⟩:=vals i x v a1 a2
   exact ⟨u,ru,.inr ⟨iE n3,c,(cl2 (x,.free) (PySem.mem_of_lookup n3) rfl).trans ec,o,k1 c o ho,hd⟩⟩
  ·obtain ⟨v,o,ho,hd⟩:=I3.cell x c (cl1 x c e)
   exact ⟨v,o,k1 c o ho,hd⟩
  ·show _=N.length
   simp;omega
 have hfY:∀ {H':Hp},(∀b∈fp,H' b=none)->∀b∈fp,wA Y [] H' b:=fun hn b hb =>
  ⟨hn b hb,Nat.ne_of_lt (by show b<s3.heap.objs.size;rw [hC];exact Nat.lt_succ_of_lt (hfplt b hb)),hfn b hb,.inl hb,fun x c e=>(hfp b hb).2.2.2.2.1 x c (cl1 x c e),fun p hp=>by cases hp⟩
 have st1:tn 0 h₁:=T.keep 0 _ _ st2 fun b hb o e=>k1 b o (k2 b o e)
 have loop:∀s4:Shared,s4={ s3 with heap:=h₁,toks:=s3.toks+([]:List (Str×Value)).length }->codeAny (model X.prog X.w) X.A (.compLoop (.ListComp elt [⟨tg,iter,ifs,0⟩] scope pos) 0 (.ref it) (.ref s2.heap.objs.size) (compEnvC scope cl s3.heap.objs.size X.env))
   (compPost (model X.prog X.w) X.A X.xe use QQ (.ref s2.heap.objs.size) s3.heap.objs.size) s4:=by
  rintro s4 rfl
  refine aCd (fun n s'=>∃i σ' H',L2.Inv Y [] σ' H' s'/\tn i s'.heap/\(∀b∈fp,H' b=none)/\W i n σ' H') ?_ m0 ⟨0,_,H3,IY,st1,hH3fp,w0⟩
  rintro n s5 ⟨i,σ5,H5,I5,st5,fr5,w5⟩
  rcases turn i n σ5 H5 w5 with ⟨stop,qn⟩ | ⟨go,step⟩
  ·refine wpAny_mono (T.done Y rfl rfl rfl hc i [] s5 σ5 H5 (fun _ _=>False) I5 (hfY fr5) st5 stop) (fun r s6 ⟨hr,I6⟩=>?_) fun _ _ z=>z
   subst hr
   obtain ⟨m,hn,_⟩:=I6.loc
   have U6:Un (frs X.stack) fp H3 H5 s3.heap s6.heap:=I6.base
   have U2:Un (frs X.stack) fp H2 H3 s2.heap s3.heap:=by rw [eH3];exact Un.laid k2 (Nat.le_refl _) I2.fresh
   have IX:L2.Inv X pins σ H5 s6:=by
    refine I2.aCm (s':=s6) ?_ (U2.trans U6) I6.hok I6.bare fun b hb=>⟨(hfp b hb).2.2.2.1,(hfp b hb).2.1,(hfp b hb).2.2.2.2.1,(hfp b hb).2.2.2.2.2⟩
    rw [I6.os]
    show s3.os=s2.os
    rw [<- hs3]
   exact fin _ _ s6 H5 m IX hn (I2.aK9 (by rw [hC];exact Nat.le_succ _) I6.free) qn
  ·refine wpAny_mono (T.item Y rfl rfl rfl hc i [] s5 σ5 H5 (fun _ _=>False) I5 (hfY fr5) st5 go) (fun r s6 ⟨u,hr,h6⟩=>?_) fun _ _ z=>z
   subst hr
   refine wpAny_mono h6 (fun _ s7 ⟨x,H7,I7,r7,y7,st7,fr7⟩=>?_) fun _ _ z=>z
   have I7':=I7.pinned (hfY fr7) (T.obj _ _ st7)
   refine wpAny_mono (pg _ s7 σ5 H7 x u _ I7' r7 (step x H7 y7)) (fun _ s8 ⟨σ8,H8,I8,q8⟩=>?_) fun _ _ z=>z
   refine wpAny_mono (pt _ s8 σ8 H8 _ I8 q8) (fun ok s9 ⟨H9,I9,q9⟩=>?_) fun _ _ z=>z
   have again:∀ {s':Shared} {H':Hp} {m':Nat},L2.Inv Y ([]++tY fp s7.heap) σ8 H' s'->m'<n->W (i+1) m' σ8 H'->∃m,m<n/\∃i σ' H',L2.Inv Y [] σ' H' s'/\tn i s'.heap/\(∀b∈fp,H' b=none)/\W i m σ' H':=fun {s' H' m'} I' hm w'=>by
    refine ⟨m',hm,i+1,σ8,H',I'.rJ,T.keep _ _ _ st7 fun b hb o e=>(I'.pin (b,o) (List.mem_append_right _ (List.mem_append_right _ (lP hb e)))).1,fun b hb=>?_,w'⟩
    obtain ⟨o,e,d⟩:=T.obj _ _ st7 b hb
    exact (I'.pin (b,o) (List.mem_append_right _ (List.mem_append_right _ (lP hb e)))).2.1
   cases ok with
   | false =>
    rw [if_neg Bool.false_ne_true] at q9 ⊢
    obtain ⟨m',hm,w'⟩:=q9
    exact again I9 hm w'
   | true =>
    rw [if_pos rfl] at q9 ⊢
    refine wpAny_mono (pe _ s9 σ8 H9 _ I9 q9) (fun yv s10 ⟨y,H10,I10,r10,xs,hacc,hz,m',hm,w'⟩=>?_) fun _ _ z=>z
    refine wpAny_mono (rL (X:=blk X scope cl N s3 H3 fp) _ s10 σ8 H10 (.ref s2.heap.objs.size) [y] (.ref s2.heap.objs.size) [yv] (fun _ H'=>H'=upd H10 s2.heap.objs.size (.lst (xs ++ [y]))) I10 rfl (.cons r10 .nil) ⟨s2.heap.objs.size,xs,y,rfl,rfl,hacc,hz,rfl⟩) (fun _ s11 ⟨_,H11,I11,_,e11⟩=>?_) fun _ _ z=>z
    subst e11
    exact again I11 hm w'
 subst hs3
 exact codeAny_compStart_list (loop _ rfl) (T.self _ 0 _ _ _ st1 (loop _ rfl))
theorem Inv.aPd {pins:Y8} {s:Shared} {σ:L2.St} {H:Hp} {C:Addr} {m:Y6} {h':Heap} (I:L2.Inv X pins σ H s) (n:s.heap.Ns C m) (f:wA X pins H C) (hs:Heap.SameBut C s.heap h'):L2.Inv X pins σ H { s with heap:=h' }:=by
 have hne:∀b,b ∉ [C]->b ≠ C:=fun b hb z=>hb (by rw [z];exact List.mem_cons_self)
 refine I.aCm (s':={ s with heap:=h' }) (ch:=[C]) rfl ?_ ?_ I.bare fun b hb=>?_
 ·exact ⟨fun b o e _ _ hx=>(hs.2 b (hne b hx)).trans e,fun b o e _ _ hx=>⟨o.slots,(hs.2 b (hne b hx)).trans e⟩,fun b o _ q _=>q,fun b o e hx=>⟨o,(hs.2 b (hne b hx)).trans e⟩,fun _ _ q=>q,fun _ _ _ q=>q,fun _ ps q=>⟨#[],by simpa using q⟩⟩
 ·intro b u e
  have hbC:∀c,(c=b\/H c=some (.own b))->c ≠ C:=fun c hcb z=>by
   rcases hcb with q | q
   ·rw [<- q,z,f.1] at e;cases e
   ·rw [z,f.1] at q;cases q
  exact (I.hok b u e).stay (fun c w' hcb q=>(hs.2 c (hbC c hcb)).trans q) (fun _ q=>q) fun _ _ q=>q
 ·have:b=C:=by simpa using hb
  subst this
  exact ⟨f.2.2.2.1,f.2.1,f.2.2.2.2.1,f.2.2.2.2.2⟩
theorem aNd {elt iter tg:Expr} {ifs:List Expr} {scope:Scope} {wi:TI} {N:List Str} {nt:Nat} {js:T0} {g:TG} {tc:TT} {te:TE}
  (hc:X.calm=true) (hi:PI X tg iter wi) (hkind:scope.kind=.function) (hcell:∀y∈scope.names,y.2 ≠ .cell) (hnames:∀y∈scope.names,y.2=.local->scope.names.lookup y.1=some .local)
  (hfr:∀y∈scope.names,y.2=.free->X.env.kindOf y.1=some .cell\/X.env.kindOf y.1=some .free)
  (hlen:nt+js.length=N.length)
  (hjs:∀(k:Nat) (j:Nat),js[k]?=some j->∃x,N[nt+k]?=some x/\X.N[j]?=some x/\scope.names.lookup x=some .free)
  (hb:∀cl s3 H3 fp,PG (blk X scope cl N s3 H3 fp) tg g/\PTs (blk X scope cl N s3 H3 fp) ifs tc/\PE (blk X scope cl N s3 H3 fp) elt te)
  (hs:∀x,foldedSetIterable iter X.env x=pure x:=by intro _;rfl) :
  PE X (.ListComp elt [⟨tg,iter,ifs,0⟩] scope pos) (aFn wi nt js g tc te):=by
 intro pins s σ H Q I h
 rw [eval_ListComp]
 exact yD hc hi hkind hcell hnames hfr hlen hjs hb hs _ I h fun a C s6 H5 m IX hn hf q=>⟨m,hn,fun h' hs'=>⟨.ref a,H5,Inv.aPd IX hn hf hs',rfl,q⟩⟩
theorem aDx {i:Nat} {y:Str} {py spos:Pos} {elt iter tg:Expr} {ifs:List Expr} {scope:Scope} {wi:TI} {N:List Str} {nt:Nat} {js:T0} {g:TG} {tc:TT} {te:TE}
  (hN:X.N.Nodup) (hi0:X.N[i]?=some y) (hx:X.env.scope.names.lookup y=some .local) (hsw:swapsWith (.ListComp elt [⟨tg,iter,ifs,0⟩] scope pos) (some (.Name y py)) spos.line X.env=pure true) (hc:X.calm=true) (hi:PI X tg iter wi) (hkind:scope.kind=.function) (hcell:∀y∈scope.names,y.2 ≠ .cell) (hnames:∀y∈scope.names,y.2=.local->scope.names.lookup y.1=some .local)
  (hfr:∀y∈scope.names,y.2=.free->X.env.kindOf y.1=some .cell\/X.env.kindOf y.1=some .free)
  (hlen:nt+js.length=N.length)
  (hjs:∀(k:Nat) (j:Nat),js[k]?=some j->∃x,N[nt+k]?=some x/\X.N[j]?=some x/\scope.names.lookup x=some .free)
  (hb:∀cl s3 H3 fp,PG (blk X scope cl N s3 H3 fp) tg g/\PTs (blk X scope cl N s3 H3 fp) ifs tc/\PE (blk X scope cl N s3 H3 fp) elt te)
  (hs:∀x,foldedSetIterable iter X.env x=pure x:=by intro _;rfl):PS X (.Assign [.Name y py] (.ListComp elt [⟨tg,iter,ifs,0⟩] scope pos) spos) (aGt (aFn wi nt js g tc te) (sS i)):=by
 intro pins s σ H D I h
 rw [exec_Assign_Name_used _ _ _ _ hsw]
 refine wpAny_bind (wpAny_standAt (wpAny_bind ?_))
 show wpAny _ X.A (do let _ <- comprehension (.ListComp elt [⟨tg,iter,ifs,0⟩] scope pos) scope X.env _ (newList []) false (eval iter X.env) (some (assign (.Name y py) X.env))) _ _ s
 refine wpAny_bind (wpAny_mono (yD (QQ:=fun _ s'=>(SP X pins D) .next s') hc hi hkind hcell hnames hfr hlen hjs hb hs _ I h fun a C s6 H5 m IX hn hf q=>?_) (fun _ s' hq=>wpAny_pure (wpAny_pure hq)) fun _ _ e=>e)
 show wpAny _ X.A (assign (.Name y py) X.env (.ref a)) _ _ _
 refine wpAny_assign_Name (yY (v:=.ref a) IX hN hi0 (.inl hx) rfl (fun s7 I7 ⟨a0,sb,ha⟩=>?_) (.inr hx))
 have hne:C ≠ a0:=fun z=>by
  rcases ha with q | q
  ·exact hf.2.1 (z.trans q)
  ·exact hf.2.2.2.2.1 y a0 q z.symm
 exact ⟨m,hn.sameBut sb hne,fun h' hs'=>⟨_,H5,Inv.aPd I7 (hn.sameBut sb hne) hf hs',q⟩⟩
end
end VL
end
section
namespace VL
open PySem L2
inductive Tg where
 | exc (c:Str) | dK (kvs:List (Key×Int)) | dT (kvs:List (List Key×Int))
 deriving Inhabited
inductive D where
 | non | bl (b:Bool) | int (i:Int) | str (x:Str) | tup (ds:List D) | lst (own:Bool) (ds:List D) | ext (own:Bool) (t:Tg)
 deriving Inhabited
def ExcAt (a C:Addr):HO:=.ext fun h=>∃o vs,h.get? a=some o/\o.cls=.ref C/\o.data=.fields vs
def TgO (K:FG) (a:Addr):Tg->HO->Prop
 | .exc c,u=>∃C,PySem.W.nsIn K mainGlobals c=some (some (.ref C))/\u=ExcAt a C
 | .dK kvs,u=>u=.dK (kvs.map fun p=>(p.1,V.int p.2))
 | .dT kvs,u=>u=.dT (kvs.map fun p=>(p.1,V.int p.2))
mutual
def D.calm:D->Bool
 | .non=>true | .bl _=>true | .int _=>true | .str _=>true
 | .tup ds=>D.bK ds
 | .lst o ds=>!o && D.bK ds
 | .ext o _=>!o
def D.bK:List D->Bool
 | []=>true
 | d::ds=>d.calm && D.bK ds
end
mutual
def D.frz:D->D
 | .non=>.non | .bl b=>.bl b | .int i=>.int i | .str x=>.str x
 | .tup ds=>.tup (D.frzs ds)
 | .lst _ ds=>.lst false (D.frzs ds)
 | .ext _ t=>.ext false t
def D.frzs:List D->List D
 | []=>[]
 | d::ds=>d.frz::D.frzs ds
end
theorem D.aFs:∀ds:List D,D.frzs ds=ds.map D.frz
 | []=>rfl
 | d::ds=>by rw [D.frzs,D.aFs ds];rfl
theorem D.aCn:∀ds:List D,D.bK ds=ds.all D.calm
 | []=>rfl
 | d::ds=>by rw [D.bK,D.aCn ds];rfl
inductive R (α:Type) where
 | ok (a:α) | exc (c:Str) | bad
def R.bind {α β:Type} (x:R α) (f:α->R β):R β:=match x with
 | .ok a=>f a | .exc c=>.exc c | .bad=>.bad
def R.of {α:Type}:Option α->R α
 | some a=>.ok a | none=>.bad
mutual
def Own (K:FG) (F H:Hp):D->V->Y2->Prop
 | .non,v,fp=>v=.non/\fp=[]
 | .bl b,v,fp=>v=.bl b/\fp=[]
 | .int i,v,fp=>v=.int i/\fp=[]
 | .str x,v,fp=>v=.str x/\fp=[]
 | .tup ds,v,fp=>fp=[]/\∃a xs,v=.ref a/\SqT K F a xs/\aJ K F H ds xs []
 | .lst o ds,v,fp=>∃a xs fq,v=.ref a/\aJ K F H ds xs fq/\((o=true/\F a=none/\H a=some (.lst xs)/\fp=a::fq)\/(o=false/\Rd F a (.lst xs)/\fq=[]/\fp=[]))
 | .ext o t,v,fp=>∃a u,v=.ref a/\TgO K a t u/\((o=true/\F a=none/\H a=some u/\fp=[a])\/(o=false/\F a=some u/\fp=[]))
def aJ (K:FG) (F H:Hp):List D->List V->Y2->Prop
 | [],vs,fp=>vs=[]/\fp=[]
 | d::ds,vs,fp=>∃v r f1 f2,vs=v::r/\Own K F H d v f1/\aJ K F H ds r f2/\fp=f1++f2
end
section
variable {K:FG} {F H F' H':Hp}
theorem bB.xJ {a:Addr} {xs:List V} (e:bB F F') (h:SqT K F a xs):SqT K F' a xs:=by
 rcases h with (h | ⟨o,h⟩) | h
 ·exact .inl (.inl (e _ _ h))
 ·exact .inl (.inr ⟨o,e _ _ h⟩)
 ·exact .inr h
theorem bB.rd {a:Addr} {u:HO} (e:bB F F') (h:Rd F a u):Rd F' a u:=by
 rcases h with h | ⟨o,h⟩
 ·exact .inl (e _ _ h)
 ·exact .inr ⟨o,e _ _ h⟩
mutual
theorem Own.keep (hf:bB F F'):∀(d:D) {v:V} {fp:Y2},(∀a∈fp,F' a=none/\H' a=H a)->Own K F H d v fp->Own K F' H' d v fp
 | .non,_,_,_,h=>h
 | .bl _,_,_,_,h=>h
 | .int _,_,_,_,h=>h
 | .str _,_,_,_,h=>h
 | .tup ds,v,fp,_,h=>by
  unfold Own at h ⊢
  obtain ⟨e,a,xs,e1,q,r⟩:=h
  exact ⟨e,a,xs,e1,bB.xJ hf q,aJ.keep hf ds (by simp) r⟩
 | .lst o ds,v,fp,k,h=>by
  unfold Own at h ⊢
  obtain ⟨a,xs,fq,e1,r,h⟩:=h
  rcases h with ⟨o1,h1,h2,h3⟩ | ⟨o1,h1,h2,h3⟩
  ·subst h3
   obtain ⟨k1,k2⟩:=k a List.mem_cons_self
   exact ⟨a,xs,fq,e1,aJ.keep hf ds (fun b hb=>k b (List.mem_cons_of_mem _ hb)) r,.inl ⟨o1,k1,k2.trans h2,rfl⟩⟩
  ·subst h2
   exact ⟨a,xs,[],e1,aJ.keep hf ds (by simp) r,.inr ⟨o1,bB.rd hf h1,rfl,h3⟩⟩
 | .ext o t,v,fp,k,h=>by
  unfold Own at h ⊢
  obtain ⟨a,u,e1,tg,h⟩:=h
  rcases h with ⟨o1,h1,h2,h3⟩ | ⟨o1,h1,h3⟩
  ·subst h3
   obtain ⟨k1,k2⟩:=k a List.mem_cons_self
   exact ⟨a,u,e1,tg,.inl ⟨o1,k1,k2.trans h2,rfl⟩⟩
  ·exact ⟨a,u,e1,tg,.inr ⟨o1,hf _ _ h1,h3⟩⟩
theorem aJ.keep (hf:bB F F'):∀(ds:List D) {vs:List V} {fp:Y2},(∀a∈fp,F' a=none/\H' a=H a)->aJ K F H ds vs fp->aJ K F' H' ds vs fp
 | [],_,_,_,h=>h
 | d::ds,vs,fp,k,h=>by
  unfold aJ at h ⊢
  obtain ⟨v,r,f1,f2,e,h1,h2,e2⟩:=h
  subst e2
  exact ⟨v,r,f1,f2,e,Own.keep hf d (fun b hb=>k b (List.mem_append_left _ hb)) h1,aJ.keep hf ds (fun b hb=>k b (List.mem_append_right _ hb)) h2,rfl⟩
end
mutual
theorem Own.zone:∀(d:D) {v:V} {fp:Y2},Own K F H d v fp->∀a∈fp,F a=none/\∃u,H a=some u
 | .non,_,_,h,a,ha=>by unfold Own at h;rw [h.2] at ha;cases ha
 | .bl _,_,_,h,a,ha=>by unfold Own at h;rw [h.2] at ha;cases ha
 | .int _,_,_,h,a,ha=>by unfold Own at h;rw [h.2] at ha;cases ha
 | .str _,_,_,h,a,ha=>by unfold Own at h;rw [h.2] at ha;cases ha
 | .tup _,_,_,h,a,ha=>by unfold Own at h;rw [h.1] at ha;cases ha
 | .lst o ds,v,fp,h,a,ha=>by
  unfold Own at h
  obtain ⟨b,xs,fq,e1,r,h⟩:=h
  rcases h with ⟨o1,h1,h2,h3⟩ | ⟨o1,h1,h2,h3⟩
  ·subst h3
   rcases List.mem_cons.mp ha with rfl | ha
   ·exact ⟨h1,_,h2⟩
   ·exact aJ.zone ds r a ha
  ·rw [h3] at ha;cases ha
 | .ext o t,v,fp,h,a,ha=>by
  unfold Own at h
  obtain ⟨b,u,e1,tg,h⟩:=h
  rcases h with ⟨o1,h1,h2,h3⟩ | ⟨o1,h1,h3⟩
  ·subst h3
   have:a=b:=by simpa using ha
   subst this
   exact ⟨h1,u,h2⟩
  ·rw [h3] at ha;cases ha
theorem aJ.zone:∀(ds:List D) {vs:List V} {fp:Y2},aJ K F H ds vs fp->∀a∈fp,F a=none/\∃u,H a=some u
 | [],_,_,h,a,ha=>by unfold aJ at h;rw [h.2] at ha;cases ha
 | d::ds,vs,fp,h,a,ha=>by
  unfold aJ at h
  obtain ⟨v,r,f1,f2,e,h1,h2,e2⟩:=h
  subst e2
  rcases List.mem_append.mp ha with ha | ha
  ·exact Own.zone d h1 a ha
  ·exact aJ.zone ds h2 a ha
end
mutual
theorem Own.eB:∀(d:D) {v:V} {fp:Y2},d.calm=true->Own K F H d v fp->fp=[]
 | .non,_,_,_,h=>by unfold Own at h;exact h.2
 | .bl _,_,_,_,h=>by unfold Own at h;exact h.2
 | .int _,_,_,_,h=>by unfold Own at h;exact h.2
 | .str _,_,_,_,h=>by unfold Own at h;exact h.2
 | .tup _,_,_,_,h=>by unfold Own at h;exact h.1
 | .lst o ds,_,_,hc,h=>by
  unfold Own at h
  obtain ⟨a,xs,fq,e1,r,h⟩:=h
  rcases h with ⟨o1,_⟩ | ⟨_,_,_,h3⟩
  ·subst o1;simp [D.calm] at hc
  ·exact h3
 | .ext o t,_,_,hc,h=>by
  unfold Own at h
  obtain ⟨b,u,e1,tg,h⟩:=h
  rcases h with ⟨o1,_⟩ | ⟨_,_,h3⟩
  ·subst o1;simp [D.calm] at hc
  ·exact h3
end
theorem aJ.eB:∀(ds:List D) {vs:List V} {fp:Y2},D.bK ds=true->aJ K F H ds vs fp->fp=[]
 | [],_,_,_,h=>by unfold aJ at h;exact h.2
 | d::ds,vs,fp,hc,h=>by
  unfold aJ at h
  obtain ⟨v,r,f1,f2,e,h1,h2,e2⟩:=h
  simp only [D.bK,Bool.and_eq_true] at hc
  rw [e2,Own.eB d hc.1 h1,aJ.eB ds hc.2 h2];rfl
theorem aJ.length:∀(ds:List D) {vs:List V} {fp:Y2},aJ K F H ds vs fp->ds.length=vs.length
 | [],_,_,h=>by unfold aJ at h;rw [h.1];rfl
 | d::ds,vs,fp,h=>by
  unfold aJ at h
  obtain ⟨v,r,f1,f2,e,h1,h2,e2⟩:=h
  rw [e,List.length_cons,List.length_cons,aJ.length ds h2]
theorem aJ.get:∀(ds:List D) {vs:List V} {fp:Y2} {i:Nat} {d:D},aJ K F H ds vs fp->ds[i]?=some d->∃v f,vs[i]?=some v/\Own K F H d v f/\f.Sublist fp
 | [],_,_,_,_,_,e=>by simp at e
 | c::ds,vs,fp,0,d,h,e=>by
  unfold aJ at h
  obtain ⟨v,r,f1,f2,e1,h1,h2,e2⟩:=h
  simp at e;subst e;subst e1;subst e2
  exact ⟨v,f1,rfl,h1,List.sublist_append_left _ _⟩
 | c::ds,vs,fp,i+1,d,h,e=>by
  unfold aJ at h
  obtain ⟨v,r,f1,f2,e1,h1,h2,e2⟩:=h
  subst e1;subst e2
  obtain ⟨u,f,q1,q2,q3⟩:=aJ.get ds (i:=i) h2 (by simpa using e)
  exact ⟨u,f,by simpa using q1,q2,q3.trans (List.sublist_append_right _ _)⟩
theorem aJ.append:∀(ds:List D) {es:List D} {vs us:List V} {f g:Y2},aJ K F H ds vs f->aJ K F H es us g->aJ K F H (ds++es) (vs++us) (f++g)
 | [],es,vs,us,f,g,h,k=>by unfold aJ at h;rw [h.1,h.2];exact k
 | d::ds,es,vs,us,f,g,h,k=>by
  unfold aJ at h
  obtain ⟨v,r,f1,f2,e1,h1,h2,e2⟩:=h
  subst e1;subst e2
  show aJ K F H (d::(ds++es)) _ _
  unfold aJ
  exact ⟨v,r++us,f1,f2++g,rfl,h1,aJ.append ds h2 k,by rw [List.append_assoc]⟩
theorem aJ.one {d:D} {v:V} {f:Y2} (h:Own K F H d v f):aJ K F H [d] [v] f:=by
 unfold aJ
 exact ⟨v,[],f,[],rfl,h,by unfold aJ;exact ⟨rfl,rfl⟩,by simp⟩
theorem aJ.nil:aJ K F H [] [] []:=by unfold aJ;exact ⟨rfl,rfl⟩
theorem aJ.cons {d:D} {v:V} {f:Y2} {ds:List D} {vs:List V} {g:Y2} (h:Own K F H d v f) (k:aJ K F H ds vs g):aJ K F H (d::ds) (v::vs) (f++g):=by
 unfold aJ;exact ⟨v,vs,f,g,rfl,h,k,rfl⟩
theorem aJ.of_get:∀(ds:List D) {vs:List V},ds.length=vs.length->(∀(i:Nat) (d:D) (v:V),ds[i]?=some d->vs[i]?=some v->Own K F H d v [])->aJ K F H ds vs []
 | [],vs,hl,_=>by
  have:vs=[]:=List.length_eq_zero_iff.mp (by simpa using hl.symm)
  subst this;exact aJ.nil
 | d::ds,[],hl,_=>by simp at hl
 | d::ds,v::vs,hl,h=>by
  have h1:=h 0 d v rfl rfl
  have h2:=aJ.of_get ds (vs:=vs) (by simpa using hl) fun i d' v' e1 e2=>h (i+1) d' v' (by simpa using e1) (by simpa using e2)
  exact aJ.cons h1 h2
theorem aJ.aS0 {ds:List D} {vs:List V} {i:Nat} {d:D} {v:V} (h:aJ K F H ds vs []) (e:ds[i]?=some d) (e2:vs[i]?=some v):Own K F H d v []:=by
 obtain ⟨u,f,q1,q2,q3⟩:=aJ.get ds h e
 rw [e2] at q1;cases q1
 have:f=[]:=List.sublist_nil.mp q3
 subst this;exact q2
structure Grow (F H F' H':Hp):Prop where
 fr:bB F F'
 all:bB H H'
 inn:bB F' H'
 new:∀b o,F' b=some o->F b=some o\/H b=none
theorem Grow.refl (h:bB F H):Grow F H F H:=⟨bB.refl _,bB.refl _,h,fun _ _ e=>.inl e⟩
theorem Grow.trans {F1 H1 F2 H2:Hp} (a:Grow F H F1 H1) (b:Grow F1 H1 F2 H2):Grow F H F2 H2 :=
 ⟨a.fr.trans b.fr,a.all.trans b.all,b.inn,fun c o e=>by
  rcases b.new c o e with h | h
  ·exact a.new c o h
  ·exact .inr (a.all.free h)⟩
theorem Own.grow {d:D} {v:V} {fp:Y2} (g:Grow F H F' H') (h:Own K F H d v fp):Own K F' H' d v fp:=by
 refine Own.keep g.fr d (fun a ha=>?_) h
 obtain ⟨h1,xs,h2⟩:=Own.zone d h a ha
 refine ⟨?_,(g.all a _ h2).trans h2.symm⟩
 cases e:F' a with
 | none=>rfl
 | some o =>
  rcases g.new a o e with q | q
  ·rw [h1] at q;cases q
  ·rw [h2] at q;cases q
theorem aJ.grow {ds:List D} {vs:List V} {fp:Y2} (g:Grow F H F' H') (h:aJ K F H ds vs fp):aJ K F' H' ds vs fp:=by
 refine aJ.keep g.fr ds (fun a ha=>?_) h
 obtain ⟨h1,xs,h2⟩:=aJ.zone ds h a ha
 refine ⟨?_,(g.all a _ h2).trans h2.symm⟩
 cases e:F' a with
 | none=>rfl
 | some o =>
  rcases g.new a o e with q | q
  ·rw [h1] at q;cases q
  ·rw [h2] at q;cases q
theorem bB.upd {p:Addr} {o:HO} (h:H p=none):bB H (upd H p o):=fun b u e=>by
 rw [aZ (bM e h)];exact e
theorem Grow.both {p:Addr} {o:HO} (hs:bB F H) (h:H p=none):Grow F H (upd F p o) (upd H p o):=by
 refine ⟨bB.upd (hs.free h),bB.upd h,fun b u e=>?_,fun b u e=>?_⟩
 ·by_cases hb:b=p
  ·subst hb;rw [bN] at e ⊢;exact e
  ·rw [aZ hb] at e ⊢;exact hs b u e
 ·by_cases hb:b=p
  ·subst hb;exact .inr h
  ·rw [aZ hb] at e;exact .inl e
theorem Grow.one {p:Addr} {o:HO} (hs:bB F H) (h:H p=none):Grow F H F (upd H p o) :=
 ⟨bB.refl _,bB.upd h,fun b u e=>by rw [aZ (bM (hs b u e) h)];exact hs b u e,fun _ _ e=>.inl e⟩
def fO (F H:Hp) (fp:Y2):Hp:=fun b=>if b∈fp then H b else F b
theorem fV {fp:Y2} (h:∀a∈fp,F a=none):bB F (fO F H fp):=fun b o e=>by
 unfold fO
 rw [if_neg fun hb=>by rw [h b hb] at e;cases e];exact e
theorem rD {fp:Y2} (hs:bB F H):bB (fO F H fp) H:=fun b o e=>by
 unfold fO at e
 split at e
 ·exact e
 ·exact hs b o e
mutual
theorem Own.freeze {fp:Y2} (hz:∀a∈fp,F a=none):∀(d:D) {v:V} {f:Y2},(∀a∈f,a∈fp)->Own K F H d v f->Own K (fO F H fp) H d.frz v []
 | .non,_,_,_,h=>by unfold Own at h;unfold D.frz Own;exact ⟨h.1,rfl⟩
 | .bl _,_,_,_,h=>by unfold Own at h;unfold D.frz Own;exact ⟨h.1,rfl⟩
 | .int _,_,_,_,h=>by unfold Own at h;unfold D.frz Own;exact ⟨h.1,rfl⟩
 | .str _,_,_,_,h=>by unfold Own at h;unfold D.frz Own;exact ⟨h.1,rfl⟩
 | .tup ds,_,_,_,h=>by
  unfold Own at h;unfold D.frz Own
  obtain ⟨e,a,xs,e1,q,r⟩:=h
  exact ⟨rfl,a,xs,e1,bB.xJ (fV hz) q,aJ.freeze hz ds (by simp) r⟩
 | .lst o ds,v,f,hf,h=>by
  unfold Own at h;unfold D.frz Own
  obtain ⟨a,xs,fq,e1,r,h⟩:=h
  rcases h with ⟨o1,h1,h2,h3⟩ | ⟨o1,h1,h2,h3⟩
  ·subst h3
   refine ⟨a,xs,[],e1,aJ.freeze hz ds (fun b hb=>hf b (List.mem_cons_of_mem _ hb)) r,.inr ⟨rfl,.inl ?_,rfl,rfl⟩⟩
   unfold fO;rw [if_pos (hf a List.mem_cons_self)];exact h2
  ·subst h2
   exact ⟨a,xs,[],e1,aJ.freeze hz ds (by simp) r,.inr ⟨rfl,bB.rd (fV hz) h1,rfl,rfl⟩⟩
 | .ext o t,v,f,hf,h=>by
  unfold Own at h;unfold D.frz Own
  obtain ⟨a,u,e1,tg,h⟩:=h
  rcases h with ⟨o1,h1,h2,h3⟩ | ⟨o1,h1,h3⟩
  ·subst h3
   refine ⟨a,u,e1,tg,.inr ⟨rfl,?_,rfl⟩⟩
   unfold fO;rw [if_pos (hf a List.mem_cons_self)];exact h2
  ·exact ⟨a,u,e1,tg,.inr ⟨rfl,fV hz _ _ h1,rfl⟩⟩
theorem aJ.freeze {fp:Y2} (hz:∀a∈fp,F a=none):∀(ds:List D) {vs:List V} {f:Y2},(∀a∈f,a∈fp)->aJ K F H ds vs f->aJ K (fO F H fp) H (D.frzs ds) vs []
 | [],_,_,_,h=>by unfold aJ at h;unfold D.frzs aJ;exact ⟨h.1,rfl⟩
 | d::ds,vs,f,hf,h=>by
  unfold aJ at h;unfold D.frzs aJ
  obtain ⟨v,r,f1,f2,e,h1,h2,e2⟩:=h
  subst e2
  exact ⟨v,r,[],[],e,Own.freeze hz d (fun b hb=>hf b (List.mem_append_left _ hb)) h1,aJ.freeze hz ds (fun b hb=>hf b (List.mem_append_right _ hb)) h2,rfl⟩
end
mutual
theorem D.frz_calm:∀d:D,d.calm=true->d.frz=d
 | .non,_=>rfl | .bl _,_=>rfl | .int _,_=>rfl | .str _,_=>rfl
 | .tup ds,h=>by unfold D.frz;rw [D.frzs_calm ds (by simpa [D.calm] using h)]
 | .lst o ds,h=>by
  simp only [D.calm,Bool.and_eq_true,Bool.not_eq_true'] at h
  unfold D.frz;rw [D.frzs_calm ds h.2,h.1]
 | .ext o t,h=>by
  simp only [D.calm,Bool.not_eq_true'] at h
  unfold D.frz;rw [h]
theorem D.frzs_calm:∀ds:List D,D.bK ds=true->D.frzs ds=ds
 | [],_=>rfl
 | d::ds,h=>by
  simp only [D.bK,Bool.and_eq_true] at h
  unfold D.frzs;rw [D.frz_calm d h.1,D.frzs_calm ds h.2]
end
end
inductive Slot where
 | un | val (d:D) | pin (d:D)
 deriving Inhabited
def Slot.d?:Slot->Option D
 | .un=>none | .val d=>some d | .pin d=>some d
abbrev Env:=List Slot
structure Sim (K:FG) (F H:Hp) (σ:St) (ρ:Env) (fps:Y5):Prop where
 same:bB F H
 ls:σ.length=ρ.length
 lf:fps.length=ρ.length
 at_:∀(i:Nat) (s:Slot) (d:D),ρ[i]?=some s->s.d?=some d->∃v fp,σ[i]?=some (some v)/\fps[i]?=some fp/\Own K F H d v fp
 nd:fps.flatten.Nodup
 zone:∀a∈fps.flatten,F a=none/\H a ≠ none
section
variable {K:FG} {F H F' H':Hp} {σ:St} {ρ:Env} {fps:Y5}
theorem Sim.grow (S:Sim K F H σ ρ fps) (g:Grow F H F' H'):Sim K F' H' σ ρ fps:=by
 refine ⟨g.inn,S.ls,S.lf,fun i s d e1 e2=>?_,S.nd,fun a ha=>?_⟩
 ·obtain ⟨v,fp,h1,h2,h3⟩:=S.at_ i s d e1 e2
  exact ⟨v,fp,h1,h2,h3.grow g⟩
 ·obtain ⟨h1,h2⟩:=S.zone a ha
  constructor
  ·cases e:F' a with
   | none=>rfl
   | some o =>
    rcases g.new a o e with q | q
    ·rw [h1] at q;cases q
    ·exact absurd q h2
  ·intro e
   exact h2 (g.all.free e)
end
structure Evo (F H:Hp) (Z:Y2) (F' H':Hp) (Z':Y2):Prop where
 fr:bB F F'
 keep:∀b o,H b=some o->b ∉ Z->H' b=some o
 dom:∀b,H' b=none->H b=none
 new:∀b o,F' b=some o->F b=some o\/H b=none\/b∈Z
 zone:∀b∈Z',b∈Z\/H b=none
section
variable {F H F' H' F1 H1:Hp} {Z Z' Z1:Y2}
theorem Evo.refl:Evo F H Z F H Z:=⟨bB.refl _,fun _ _ e _=>e,fun _ e=>e,fun _ _ e=>.inl e,fun _ h=>.inl h⟩
theorem Evo.trans (a:Evo F H Z F1 H1 Z1) (b:Evo F1 H1 Z1 F' H' Z'):Evo F H Z F' H' Z':=by
 refine ⟨a.fr.trans b.fr,fun c o e hc=>?_,fun c e=>a.dom c (b.dom c e),fun c o e=>?_,fun c hc=>?_⟩
 ·refine b.keep c o (a.keep c o e hc) fun hz=>?_
  rcases a.zone c hz with h | h
  ·exact hc h
  ·rw [h] at e;cases e
 ·rcases b.new c o e with h | h | h
  ·exact a.new c o h
  ·exact .inr (.inl (a.dom c h))
  ·rcases a.zone c h with h | h
   ·exact .inr (.inr h)
   ·exact .inr (.inl h)
 ·rcases b.zone c hc with h | h
  ·exact a.zone c h
  ·exact .inr (a.dom c h)
theorem Grow.evo (g:Grow F H F' H'):Evo F H Z F' H' Z :=
 ⟨g.fr,fun b o e _=>g.all b o e,fun _ e=>g.all.free e,fun b o e=>(g.new b o e).elim .inl fun h=>.inr (.inl h),fun _ h=>.inl h⟩
end
end VL
end
section
namespace VL
open PySem L2
def R.holds {α:Type} (x:R α) (P:α->Prop):Prop:=match x with
 | .ok a=>P a | _=>False
theorem R.aN {α β:Type} {x:R α} {f:α->R β} {P:β->Prop}:(x.bind f).holds P ↔ x.holds fun a=>(f a).holds P:=by
 cases x<;>exact Iff.rfl
theorem R.aM {α:Type} {x:R α} {P Q:α->Prop} (h:x.holds P) (k:∀a,P a->Q a):x.holds Q:=by
 cases x with
 | ok a=>exact k a h
 | exc _=>exact h.elim
 | bad=>exact h.elim
theorem R.holds_of {α:Type} {x:Option α} {P:α->Prop} (h:(R.of x).holds P):∃a,x=some a/\P a:=by
 cases x with
 | none=>exact h.elim
 | some a=>exact ⟨a,rfl,h⟩
def R.hx {α:Type} (x:R α) (P:α->Prop) (W:Str->Prop):Prop:=match x with
 | .ok a=>P a | .exc c=>W c | .bad=>False
theorem R.aPc {α:Type} {x:R α} {P:α->Prop} {W:Str->Prop} (h:x.holds P):x.hx P W:=by
 cases x with
 | ok a=>exact h
 | exc _=>exact h.elim
 | bad=>exact h.elim
abbrev aS:=Env->R (D×Bool)
abbrev cW:=Env->R Bool
abbrev dO:=Env->R (List (D×Bool))
def EPost (K:FG) (F H:Hp) (Q:VK) (x:D×Bool):Prop :=
 ∀v F' H' fp,Grow F H F' H'->Own K F' H' x.1 v fp->fp.Nodup->(x.2=true->∀b∈fp,H b=none)->Q v H'
def aEn (F H:Hp) (Q:Bool->Hp->Prop) (x:Bool):Prop:=∀F' H',Grow F H F' H'->Q x H'
def Args (K:FG) (F H:Hp):List (D×Bool)->List V->Y2->Prop
 | [],vs,fa=>vs=[]/\fa=[]
 | x::xs,vs,fa=>∃v r fp f2,vs=v::r/\Own K F H x.1 v fp/\fp.Nodup/\Args K F H xs r f2/\((x.2=true/\fa=fp++f2)\/(x.2=false/\fa=f2))
def aOq (K:FG) (F H:Hp) (Q:List V->Hp->Prop) (xs:List (D×Bool)):Prop :=
 ∀vs F' H' fa,Grow F H F' H'->Args K F' H' xs vs fa->fa.Nodup->(∀b∈fa,H b=none)->Q vs H'
def tv (K:FG) (f:aS):TE:=fun σ H Q=>∃ρ F fps,Sim K F H σ ρ fps/\(f ρ).holds (EPost K F H Q)
def tvT (K:FG) (f:cW):TT:=fun σ H Q=>∃ρ F fps,Sim K F H σ ρ fps/\(f ρ).holds (aEn F H Q)
def tvA (K:FG) (f:dO):TA:=fun σ H Q=>∃ρ F fps,Sim K F H σ ρ fps/\(f ρ).holds (aOq K F H Q)
section
variable {K:FG} {F H F' H':Hp} {σ:St} {Q:VK}
theorem EPost.lift {x:D×Bool} (g:Grow F H F' H') (h:EPost K F H Q x):EPost K F' H' Q x:=fun v F2 H2 fp g2 o n k =>
 h v F2 H2 fp (g.trans g2) o n fun e b hb=>g.all.free (k e b hb)
theorem aEn.lift {Q:Bool->Hp->Prop} {x:Bool} (g:Grow F H F' H') (h:aEn F H Q x):aEn F' H' Q x:=fun F2 H2 g2=>h F2 H2 (g.trans g2)
def aD (i:Nat):aS:=fun ρ=>match ρ[i]? with
 | some (.val d)=>.ok (d,false) | some (.pin d)=>.ok (d,false) | _=>.bad
theorem Sim.sub {ρ:Env} {fps:Y5} (S:Sim K F H σ ρ fps) {i:Nat} {fp:Y2} (e:fps[i]?=some fp):fp.Nodup:=by
 have:fp∈fps:=List.mem_of_getElem? e
 exact (List.sublist_flatten_of_mem this).nodup S.nd
theorem aQs {i:Nat} (h:tv K (aD i) σ H Q):aAf i σ H Q:=by
 obtain ⟨ρ,F,fps,S,h⟩:=h
 unfold aD at h
 cases e:ρ[i]? with
 | none=>rw [e] at h;exact h.elim
 | some s =>
  rw [e] at h
  cases s with
  | un=>exact h.elim
  | val d =>
   obtain ⟨v,fp,h1,h2,h3⟩:=S.at_ i _ d e rfl
   exact ⟨v,h1,h v F H fp (Grow.refl S.same) h3 (S.sub h2) (fun z=>by cases z)⟩
  | pin d =>
   obtain ⟨v,fp,h1,h2,h3⟩:=S.at_ i _ d e rfl
   exact ⟨v,h1,h v F H fp (Grow.refl S.same) h3 (S.sub h2) (fun z=>by cases z)⟩
def vC (d:D):aS:=fun _=>.ok (d,true)
def jG:D->Option V
 | .non=>some .non | .bl b=>some (.bl b) | .int i=>some (.int i) | .str x=>some (.str x) | _=>none
theorem gH {d:D} {v:V} (e:jG d=some v):Own K F H d v []:=by
 cases d<;>simp [jG] at e<;>subst e<;>unfold Own<;>exact ⟨rfl,rfl⟩
theorem zG {d:D} {v u:V} {fp:Y2} (e:jG d=some v) (o:Own K F H d u fp):u=v/\fp=[]:=by
 cases d<;>simp [jG] at e<;>subst e<;>unfold Own at o<;>exact o
theorem EPost.aX8 {d:D} {v:V} {b:Bool} (hs:bB F H) (h:EPost K F H Q (d,b)) (e:jG d=some v):Q v H :=
 h v F H [] (Grow.refl hs) (gH e) List.nodup_nil fun _ _ hb=>by cases hb
theorem EPost.dU {F0 H0:Hp} {d:D} {v:V} {b:Bool} (g:Grow F0 H0 F H) (h:EPost K F0 H0 Q (d,b)) (e:jG d=some v):Q v H :=
 h v F H [] g (gH e) List.nodup_nil fun _ _ hb=>by cases hb
theorem aNh {d:D} {v:V} (e:jG d=some v) (h:tv K (vC d) σ H Q):tC v σ H Q:=by
 obtain ⟨ρ,F,fps,S,h⟩:=h
 exact EPost.aX8 S.same h e
def v2 (k:D×Bool->D×Bool->R (D×Bool)) (f h:aS):aS:=fun ρ=>(f ρ).bind fun x=>(h ρ).bind fun y=>k x y
def Op2 (K:FG) (k:D×Bool->D×Bool->R (D×Bool)) (r:R2):Prop :=
 ∀(F0 H0 F H:Hp) (x y:D×Bool) (v u:V) (fx fy:Y2) (Q:VK),Grow F0 H0 F H->Own K F H x.1 v fx->fx.Nodup->(x.2=true->∀b∈fx,H0 b=none) ->
  Own K F H y.1 u fy->fy.Nodup->(y.2=true->∀b∈fy,H0 b=none)->(k x y).holds (EPost K F0 H0 Q)->r v u H Q
theorem aE6 {k:D×Bool->D×Bool->R (D×Bool)} {r:R2} (hr:Op2 K k r) {f g:aS} (h:tv K (v2 k f g) σ H Q):tOp r (tv K f) (tv K g) σ H Q:=by
 obtain ⟨ρ,F,fps,S,h⟩:=h
 refine ⟨ρ,F,fps,S,R.aM (R.aN.mp h) fun x hx v F1 H1 fx g1 o1 n1 k1=>?_⟩
 refine ⟨ρ,F1,fps,S.grow g1,R.aM (R.aN.mp hx) fun y hy u F2 H2 fy g2 o2 n2 k2=>?_⟩
 exact hr F H F2 H2 x y v u fx fy Q (g1.trans g2) (o1.grow g2) n1 k1 o2 n2 (fun e b hb=>g1.all.free (k2 e b hb)) hy
def v1 (k:D×Bool->R (D×Bool)) (f:aS):aS:=fun ρ=>(f ρ).bind k
def Op1 (K:FG) (k:D×Bool->R (D×Bool)) (r:V->Hp->VK->Prop):Prop :=
 ∀(F0 H0 F H:Hp) (x:D×Bool) (v:V) (fx:Y2) (Q:VK),Grow F0 H0 F H->Own K F H x.1 v fx->fx.Nodup->(x.2=true->∀b∈fx,H0 b=none) ->
  (k x).holds (EPost K F0 H0 Q)->r v H Q
theorem aVg {k:D×Bool->R (D×Bool)} {r:V->Hp->VK->Prop} (hr:Op1 K k r) {f:aS} (h:tv K (v1 k f) σ H Q):tUn r (tv K f) σ H Q:=by
 obtain ⟨ρ,F,fps,S,h⟩:=h
 exact ⟨ρ,F,fps,S,R.aM (R.aN.mp h) fun x hx v F1 H1 fx g1 o1 n1 k1=>hr F H F1 H1 x v fx Q g1 o1 n1 k1 hx⟩
def kI (g:Int->Int->D):D×Bool->D×Bool->R (D×Bool):=fun x y=>match x.1,y.1 with
 | .int i,.int j=>.ok (g i j,true) | _,_=>.bad
def kIc (c:Int->Int->Bool) (g:Int->Int->D):D×Bool->D×Bool->R (D×Bool):=fun x y=>match x.1,y.1 with
 | .int i,.int j=>if c i j=true then .ok (g i j,true) else .bad | _,_=>.bad
theorem aFe {g:Int->Int->D} {g':Int->Int->V} (e:∀i j,jG (g i j)=some (g' i j)):Op2 K (kI g) (rI0 g'):=by
 intro F0 H0 F H x y v u fx fy Q gr o1 n1 k1 o2 n2 k2 h
 obtain ⟨x,bx⟩:=x
 obtain ⟨y,by'⟩:=y
 cases x<;>try exact h.elim
 cases y<;>try exact h.elim
 rename_i i j
 unfold Own at o1 o2
 exact ⟨i,j,o1.1,o2.1,EPost.dU gr h (e i j)⟩
theorem aDy {c:Int->Int->Bool} {C:Int->Int->Prop} {g:Int->Int->D} {g':Int->Int->V} (e:∀i j,jG (g i j)=some (g' i j)) (hc:∀i j,c i j=true->C i j):Op2 K (kIc c g) (rI C g'):=by
 intro F0 H0 F H x y v u fx fy Q gr o1 n1 k1 o2 n2 k2 h
 obtain ⟨x,bx⟩:=x
 obtain ⟨y,by'⟩:=y
 cases x<;>try exact h.elim
 cases y<;>try exact h.elim
 rename_i i j
 unfold Own at o1 o2
 have h:(if c i j=true then R.ok (g i j,true) else R.bad).holds (EPost K F0 H0 Q):=h
 by_cases hcc:c i j=true
 ·rw [if_pos hcc] at h
  exact ⟨i,j,o1.1,o2.1,hc i j hcc,EPost.dU gr h (e i j)⟩
 ·rw [if_neg hcc] at h;exact h.elim
def kU (g:Int->D):D×Bool->R (D×Bool):=fun x=>match x.1 with
 | .int i=>.ok (g i,true) | _=>.bad
theorem aUe {g:Int->D} {g':Int->V} (e:∀i,jG (g i)=some (g' i)):Op1 K (kU g) (rU g'):=by
 intro F0 H0 F H x v fx Q gr o1 n1 k1 h
 obtain ⟨x,bx⟩:=x
 cases x<;>try exact h.elim
 rename_i i
 unfold Own at o1
 exact ⟨i,o1.1,EPost.dU gr h (e i)⟩
theorem Own.aNw {o:Bool} {ds:List D} {v:V} {fp:Y2} (g:bB F H) (h:Own K F H (.lst o ds) v fp):∃a xs fq,v=.ref a/\Rd H a (.lst xs)/\aJ K F H ds xs fq/\fq.Sublist fp:=by
 unfold Own at h
 obtain ⟨a,xs,fq,e1,r,h⟩:=h
 rcases h with ⟨o1,h1,h2,h3⟩ | ⟨o1,h1,h2,h3⟩
 ·subst h3
  exact ⟨a,xs,fq,e1,.inl h2,r,List.sublist_cons_self _ _⟩
 ·subst h2;subst h3
  exact ⟨a,xs,[],e1,bB.rd g h1,r,List.Sublist.refl _⟩
theorem Own.lst {o:Bool} {ds:List D} {v:V} {fp:Y2} (g:bB F H) (h:Own K F H (.lst o ds) v fp):∃a xs fq,v=.ref a/\SqL K H a xs/\aJ K F H ds xs fq/\fq.Sublist fp:=by
 obtain ⟨a,xs,fq,e,q,r⟩:=Own.aNw g h
 exact ⟨a,xs,fq,e,.inl q,r⟩
theorem Own.tup {ds:List D} {v:V} {fp:Y2} (g:bB F H) (h:Own K F H (.tup ds) v fp):∃a xs,v=.ref a/\SqT K H a xs/\aJ K F H ds xs []/\fp=[]:=by
 unfold Own at h
 obtain ⟨e,a,xs,e1,q,r⟩:=h
 exact ⟨a,xs,e1,bB.xJ g q,r,e⟩
theorem aJ.atI {ds:List D} {vs:List V} {fp:Y2} {i:Int} {d:D} (h:aJ K F H ds vs fp) (e:L2.atI ds i=some d):∃v f,L2.atI vs i=some v/\Own K F H d v f/\f.Sublist fp:=by
 unfold L2.atI at e ⊢
 rw [<- aJ.length ds h]
 cases q:ixN ds.length i with
 | none=>rw [q] at e;cases e
 | some j =>
  rw [q] at e
  exact aJ.get ds h e
def kIx:D×Bool->D×Bool->R (D×Bool):=fun x y=>match x.1,y.1 with
 | .lst _ ds,.int i=>R.of ((atI ds i).map (·,x.2)) | .tup ds,.int i=>R.of ((atI ds i).map (·,x.2)) | _,_=>.bad
theorem aP5:Op2 K kIx (fun v u H Q=>aSp K v u H Q\/aU0 K v u H Q):=by
 intro F0 H0 F H x y v u fx fy Q gr o1 n1 k1 o2 n2 k2 h
 obtain ⟨x,bx⟩:=x
 obtain ⟨y,by'⟩:=y
 cases x<;>try exact h.elim
 ·rename_i ds
  cases y<;>try exact h.elim
  rename_i i
  obtain ⟨a,xs,e1,q,r,e2⟩:=Own.tup gr.inn o1
  unfold Own at o2
  obtain ⟨z,ez,h⟩:=R.holds_of h
  cases ed:atI ds i with
  | none=>rw [ed] at ez;cases ez
  | some d =>
   rw [ed] at ez;cases ez
   obtain ⟨w,f,q1,q2,q3⟩:=aJ.atI r ed
   have:f=[]:=List.sublist_nil.mp q3
   subst this
   exact .inr ⟨a,xs,i,w,e1,o2.1,q,q1,h w F H [] gr q2 List.nodup_nil fun _ _ hb=>by cases hb⟩
 ·rename_i o ds
  cases y<;>try exact h.elim
  rename_i i
  obtain ⟨a,xs,fq,e1,q,r,e2⟩:=Own.lst gr.inn o1
  unfold Own at o2
  obtain ⟨z,ez,h⟩:=R.holds_of h
  cases ed:atI ds i with
  | none=>rw [ed] at ez;cases ez
  | some d =>
   rw [ed] at ez;cases ez
   obtain ⟨w,f,q1,q2,q3⟩:=aJ.atI r ed
   have hs:f.Sublist fx:=q3.trans e2
   exact .inl ⟨a,xs,i,w,e1,o2.1,q,q1,h w F H f gr q2 (hs.nodup n1) fun e b hb=>k1 e b (hs.subset hb)⟩
def aL:dO:=fun _=>.ok []
def aE (f:aS) (g:dO):dO:=fun ρ=>(f ρ).bind fun x=>(g ρ).bind fun xs=>.ok (x::xs)
theorem aLf {Q:List V->Hp->Prop} (h:tvA K aL σ H Q):aFx σ H Q:=by
 obtain ⟨ρ,F,fps,S,h⟩:=h
 exact h [] F H [] (Grow.refl S.same) (by unfold Args;exact ⟨rfl,rfl⟩) List.nodup_nil fun _ hb=>by cases hb
theorem aHr {f:aS} {g:dO} {Q:List V->Hp->Prop} (h:tvA K (aE f g) σ H Q):xQ (tv K f) (tvA K g) σ H Q:=by
 obtain ⟨ρ,F,fps,S,h⟩:=h
 refine ⟨ρ,F,fps,S,R.aM (R.aN.mp h) fun x hx v F1 H1 fx g1 o1 n1 k1=>?_⟩
 refine ⟨ρ,F1,fps,S.grow g1,R.aM (R.aN.mp hx) fun xs hy vs F2 H2 fa g2 o2 n2 k2=>?_⟩
 have hy:aOq K F H Q (x::xs):=hy
 have zo:=Own.zone x.1 o1
 cases e:x.2 with
 | true =>
  refine hy (v::vs) F2 H2 (fx++fa) (g1.trans g2) ?_ ?_ ?_
  ·unfold Args
   exact ⟨v,vs,fx,fa,rfl,o1.grow g2,n1,o2,.inl ⟨e,rfl⟩⟩
  ·refine List.nodup_append.mpr ⟨n1,n2,fun a ha b hb z=>?_⟩
   subst z
   obtain ⟨_,ys,q⟩:=zo a ha
   rw [k2 a hb] at q;cases q
  ·intro b hb
   rcases List.mem_append.mp hb with hb | hb
   ·exact k1 e b hb
   ·exact g1.all.free (k2 b hb)
 | false =>
  refine hy (v::vs) F2 H2 fa (g1.trans g2) ?_ n2 fun b hb=>g1.all.free (k2 b hb)
  unfold Args
  exact ⟨v,vs,fx,fa,rfl,o1.grow g2,n1,o2,.inr ⟨e,rfl⟩⟩
def aV (x:D×Bool):Bool:=x.2 || x.1.calm
theorem Args.aNv:∀(xs:List (D×Bool)) {vs:List V} {fa:Y2},xs.all aV=true->Args K F H xs vs fa->aJ K F H (xs.map (·.1)) vs fa
 | [],_,_,_,h=>by unfold Args at h;rw [h.1,h.2];exact aJ.nil
 | x::xs,vs,fa,hk,h=>by
  unfold Args at h
  obtain ⟨v,r,fp,f2,e,o,n,t,w⟩:=h
  rw [List.all_cons,Bool.and_eq_true] at hk
  subst e
  rw [List.map_cons]
  rcases w with ⟨_,w⟩ | ⟨e,w⟩
  ·subst w;exact aJ.cons o (Args.aNv xs hk.2 t)
  ·subst w
   have hc:x.1.calm=true:=by have:=hk.1;unfold aV at this;rw [e] at this;exact this
   have:fp=[]:=Own.eB x.1 hc o
   subst this
   exact aJ.cons o (Args.aNv xs hk.2 t)
theorem Args.length:∀(xs:List (D×Bool)) {vs:List V} {fa:Y2},Args K F H xs vs fa->xs.length=vs.length
 | [],_,_,h=>by unfold Args at h;rw [h.1];rfl
 | x::xs,vs,fa,h=>by
  unfold Args at h
  obtain ⟨v,r,fp,f2,e,o,n,t,w⟩:=h
  rw [e,List.length_cons,List.length_cons,Args.length xs t]
def fW (g:dO):aS:=fun ρ=>(g ρ).bind fun xs=>if xs.all aV && decide (xs.length<=1000000) then .ok (.lst true (xs.map (·.1)),true) else .bad
def eQ (g:dO):aS:=fun ρ=>(g ρ).bind fun xs=>if xs.all aV && decide (xs.length<=1000000) then .ok (.tup (D.frzs (xs.map (·.1))),true) else .bad
theorem gO {n:Nat} (h:n<=1000000):n<=sizeLine:=Nat.le_trans h (by decide)
theorem aEp {ds:List D} {xs:List V} {fa:Y2} {p:Addr} (hs:bB F H) (h:H p=none) (o:aJ K F H ds xs fa):Own K F (upd H p (.lst xs)) (.lst true ds) (.ref p) (p::fa):=by
 unfold Own
 exact ⟨p,xs,fa,rfl,o.grow (Grow.one hs h),.inl ⟨rfl,hs.free h,bN,rfl⟩⟩
theorem aHh {ds:List D} {xs:List V} {fa:Y2} {p:Addr} (h:H p=none) (o:aJ K F H ds xs fa) (n:fa.Nodup):(p::fa).Nodup:=by
 refine List.nodup_cons.mpr ⟨fun hp=>?_,n⟩
 obtain ⟨_,ys,q⟩:=aJ.zone ds o p hp
 rw [h] at q;cases q
theorem aRz {g:dO} (h:tv K (fW g) σ H Q):aTr (tvA K g) σ H Q:=by
 obtain ⟨ρ,F,fps,S,h⟩:=h
 refine ⟨ρ,F,fps,S,R.aM (R.aN.mp h) fun xs hx vs F1 H1 fa g1 o1 n1 k1=>?_⟩
 by_cases hc:(xs.all aV && decide (xs.length<=1000000))=true
 ·rw [if_pos hc] at hx
  rw [Bool.and_eq_true,decide_eq_true_iff] at hc
  have o2:=Args.aNv xs hc.1 o1
  refine ⟨gO (by rw [<- Args.length xs o1];exact hc.2),fun p hp=>?_⟩
  refine hx (.ref p) F1 _ (p::fa) (g1.trans (Grow.one g1.inn hp)) (aEp g1.inn hp o2) (aHh hp o2 n1) fun _ b hb=>?_
  rcases List.mem_cons.mp hb with rfl | hb
  ·exact g1.all.free hp
  ·exact k1 b hb
 ·rw [if_neg hc] at hx;exact hx.elim
theorem Grow.frz {fa:Y2} (g:Grow F H F' H') (k:∀b∈fa,H b=none) (z:∀b∈fa,F' b=none):Grow F H (fO F' H' fa) H' :=
 ⟨g.fr.trans (fV z),g.all,rD g.inn,fun b o e=>by
  unfold fO at e
  split at e
  ·rename_i hb;exact .inr (k b hb)
  ·exact g.new b o e⟩
theorem aQf {g:dO} (h:tv K (eQ g) σ H Q):aP8 (tvA K g) σ H Q:=by
 obtain ⟨ρ,F,fps,S,h⟩:=h
 refine ⟨ρ,F,fps,S,R.aM (R.aN.mp h) fun xs hx vs F1 H1 fa g1 o1 n1 k1=>?_⟩
 by_cases hc:(xs.all aV && decide (xs.length<=1000000))=true
 ·rw [if_pos hc] at hx
  rw [Bool.and_eq_true,decide_eq_true_iff] at hc
  have o2:=Args.aNv xs hc.1 o1
  have z:∀b∈fa,F1 b=none:=fun b hb=>(aJ.zone _ o2 b hb).1
  have g2:=g1.frz k1 z
  have o3:aJ K (fO F1 H1 fa) H1 (D.frzs (xs.map (·.1))) vs []:=aJ.freeze z _ (fun a ha=>ha) o2
  refine ⟨gO (by rw [<- Args.length xs o1];exact hc.2),fun p hp=>?_⟩
  have g3:Grow (fO F1 H1 fa) H1 (upd (fO F1 H1 fa) p (.tup vs)) (upd H1 p (.tup vs)):=Grow.both g2.inn hp
  refine hx (.ref p) _ _ [] (g2.trans g3) ?_ List.nodup_nil fun _ b hb=>by cases hb
  unfold Own
  exact ⟨rfl,p,vs,rfl,SqT.of bN,o3.grow g3⟩
 ·rw [if_neg hc] at hx;exact hx.elim
def bA (f:aS):cW:=fun ρ=>(f ρ).bind fun x=>match x.1 with | .bl b=>.ok b | _=>.bad
theorem aBx {f:aS} {Q:Bool->Hp->Prop} (h:tvT K (bA f) σ H Q):aE5 (tv K f) σ H Q:=by
 obtain ⟨ρ,F,fps,S,h⟩:=h
 refine ⟨ρ,F,fps,S,R.aM (R.aN.mp h) fun x hx v F1 H1 fx g1 o1 n1 k1=>?_⟩
 obtain ⟨x,b⟩:=x
 cases x<;>try exact hx.elim
 rename_i c
 unfold Own at o1
 exact ⟨c,o1.1,hx F1 H1 g1⟩
def lX (f g:cW):cW:=fun ρ=>(f ρ).bind fun c=>if c=true then g ρ else .ok false
def nE (f g:cW):cW:=fun ρ=>(f ρ).bind fun c=>if c=true then .ok true else g ρ
def fC (f:cW):cW:=fun ρ=>(f ρ).bind fun c=>.ok (!c)
theorem aLg {f g:cW} {Q:Bool->Hp->Prop} (h:tvT K (lX f g) σ H Q):aU2 (tvT K f) (tvT K g) σ H Q:=by
 obtain ⟨ρ,F,fps,S,h⟩:=h
 refine ⟨ρ,F,fps,S,R.aM (R.aN.mp h) fun c hx F1 H1 g1=>?_⟩
 cases c with
 | true=>rw [if_pos rfl] at hx ⊢;exact ⟨ρ,F1,fps,S.grow g1,R.aM hx fun b hb=>hb.lift g1⟩
 | false=>rw [if_neg Bool.false_ne_true] at hx ⊢;exact hx F1 H1 g1
theorem aSj {f g:cW} {Q:Bool->Hp->Prop} (h:tvT K (nE f g) σ H Q):tOr (tvT K f) (tvT K g) σ H Q:=by
 obtain ⟨ρ,F,fps,S,h⟩:=h
 refine ⟨ρ,F,fps,S,R.aM (R.aN.mp h) fun c hx F1 H1 g1=>?_⟩
 cases c with
 | false=>rw [if_neg Bool.false_ne_true] at hx ⊢;exact ⟨ρ,F1,fps,S.grow g1,R.aM hx fun b hb=>hb.lift g1⟩
 | true=>rw [if_pos rfl] at hx ⊢;exact hx F1 H1 g1
theorem aNn {f:cW} {Q:Bool->Hp->Prop} (h:tvT K (fC f) σ H Q):aTl (tvT K f) σ H Q:=by
 obtain ⟨ρ,F,fps,S,h⟩:=h
 exact ⟨ρ,F,fps,S,R.aM (R.aN.mp h) fun c hx F1 H1 g1=>hx F1 H1 g1⟩
def wY (f g:aS):aS:=fun ρ=>(f ρ).bind fun x=>match x.1 with | .bl true=>g ρ | .bl false=>.ok (.bl false,true) | _=>.bad
def vOr (f g:aS):aS:=fun ρ=>(f ρ).bind fun x=>match x.1 with | .bl false=>g ρ | .bl true=>.ok (.bl true,true) | _=>.bad
def aI4:D×Bool->R (D×Bool):=fun x=>match x.1 with | .bl b=>.ok (.bl (!b),true) | _=>.bad
theorem aPm {f g:aS} (h:tv K (wY f g) σ H Q):aN7 (tv K f) (tv K g) σ H Q:=by
 obtain ⟨ρ,F,fps,S,h⟩:=h
 refine ⟨ρ,F,fps,S,R.aM (R.aN.mp h) fun x hx v F1 H1 fx g1 o1 n1 k1=>?_⟩
 obtain ⟨x,b⟩:=x
 cases x<;>try exact hx.elim
 rename_i c
 unfold Own at o1
 refine ⟨c,o1.1,?_⟩
 cases c with
 | true=>rw [if_pos rfl];exact ⟨ρ,F1,fps,S.grow g1,R.aM hx fun b hb=>hb.lift g1⟩
 | false=>rw [if_neg Bool.false_ne_true];exact EPost.dU g1 hx rfl
theorem aUl {f g:aS} (h:tv K (vOr f g) σ H Q):aT9 (tv K f) (tv K g) σ H Q:=by
 obtain ⟨ρ,F,fps,S,h⟩:=h
 refine ⟨ρ,F,fps,S,R.aM (R.aN.mp h) fun x hx v F1 H1 fx g1 o1 n1 k1=>?_⟩
 obtain ⟨x,b⟩:=x
 cases x<;>try exact hx.elim
 rename_i c
 unfold Own at o1
 refine ⟨c,o1.1,?_⟩
 cases c with
 | false=>rw [if_neg Bool.false_ne_true];exact ⟨ρ,F1,fps,S.grow g1,R.aM hx fun b hb=>hb.lift g1⟩
 | true=>rw [if_pos rfl];exact EPost.dU g1 hx rfl
theorem aQo {f:aS} (h:tv K (v1 aI4 f) σ H Q):aOt (tv K f) σ H Q:=by
 obtain ⟨ρ,F,fps,S,h⟩:=h
 refine ⟨ρ,F,fps,S,R.aM (R.aN.mp h) fun x hx v F1 H1 fx g1 o1 n1 k1=>?_⟩
 obtain ⟨x,b⟩:=x
 cases x<;>try exact hx.elim
 rename_i c
 unfold Own at o1
 exact ⟨c,o1.1,EPost.dU g1 hx rfl⟩
def vCB (k:List (D×Bool)->R (D×Bool)) (g:dO):aS:=fun ρ=>(g ρ).bind k
def OpA (K:FG) (k:List (D×Bool)->R (D×Bool)) (r:List V->Hp->VK->Prop):Prop :=
 ∀(F0 H0 F H:Hp) (xs:List (D×Bool)) (vs:List V) (fa:Y2) (Q:VK),Grow F0 H0 F H->Args K F H xs vs fa->fa.Nodup->(∀b∈fa,H0 b=none)->(k xs).holds (EPost K F0 H0 Q)->r vs H Q
theorem aK0 {k:List (D×Bool)->R (D×Bool)} {r:List V->Hp->VK->Prop} (hr:OpA K k r) {g:dO} (h:tv K (vCB k g) σ H Q):tCB r (tvA K g) σ H Q:=by
 obtain ⟨ρ,F,fps,S,h⟩:=h
 exact ⟨ρ,F,fps,S,R.aM (R.aN.mp h) fun xs hx vs F1 H1 fa g1 o1 n1 k1=>hr F H F1 H1 xs vs fa Q g1 o1 n1 k1 hx⟩
end
end VL
end
section
namespace VL
open PySem L2
inductive Out where
 | next (ρ:Env) | ret (d:D) (ρ:Env) | brk (ρ:Env) | cont (ρ:Env) | exc (c:Str) (ρ:Env) | bad
abbrev aX:=Env->Out
abbrev nS:=Env->R (D×Bool×Env)
def mL (ρ ρ':Env):Prop:=∀(i:Nat) (d:D),ρ[i]?=some (.pin d)->∃d',ρ'[i]?=some (.pin d')
def fX (ρ:Env) (σ:St) (ρ':Env) (σ':St):Prop:=∀(i:Nat) (d:D),ρ[i]?=some (.pin d)->(∃d',ρ'[i]?=some (.pin d'))/\σ'[i]?=σ[i]?
theorem mL.refl (ρ:Env):mL ρ ρ:=fun _ d h=>⟨d,h⟩
theorem mL.trans {ρ ρ1 ρ2:Env} (a:mL ρ ρ1) (b:mL ρ1 ρ2):mL ρ ρ2:=fun i d h=>by
 obtain ⟨d1,h1⟩:=a i d h
 exact b i d1 h1
theorem mL.pins {ρ ρ':Env} {σ:St} (a:mL ρ ρ'):fX ρ σ ρ' σ:=fun i d h=>⟨a i d h,rfl⟩
theorem fX.refl (ρ:Env) (σ:St):fX ρ σ ρ σ:=(mL.refl ρ).pins
theorem fX.trans {ρ ρ1 ρ2:Env} {σ σ1 σ2:St} (a:fX ρ σ ρ1 σ1) (b:fX ρ1 σ1 ρ2 σ2):fX ρ σ ρ2 σ2:=fun i d h=>by
 obtain ⟨⟨d1,h1⟩,e1⟩:=a i d h
 obtain ⟨h2,e2⟩:=b i d1 h1
 exact ⟨h2,e2.trans e1⟩
def dS (K:FG) (F H:Hp) (Z:Y2) (ρ:Env) (σ:St) (P:St->Hp->Prop) (ρ':Env):Prop :=
 ∀σ' F' H' fps',Evo F H Z F' H' fps'.flatten->Sim K F' H' σ' ρ' fps'->fX ρ σ ρ' σ'->P σ' H'
def aBf (K:FG) (F H:Hp) (Z:Y2) (ρ:Env) (σ:St) (P:VK) (d:D) (ρ':Env):Prop :=
 ∀r σ' F' H' fps' fr,Evo F H Z F' H' fps'.flatten->Sim K F' H' σ' ρ' fps'->fX ρ σ ρ' σ'->Own K F' H' d r fr->fr.Nodup->(∀b∈fr,b ∉ fps'.flatten/\(b∈Z\/H b=none))->P r H'
abbrev XW:=Str->St->Hp->Prop
def cK (K:FG) (W:XW) (F H:Hp) (Z:Y2) (ρ:Env) (σ:St) (D:Ends):Out->Prop
 | .next ρ'=>dS K F H Z ρ σ D.nx ρ'
 | .ret d ρ'=>aBf K F H Z ρ σ D.rt d ρ'
 | .brk ρ'=>dS K F H Z ρ σ D.bk ρ'
 | .cont ρ'=>dS K F H Z ρ σ D.ct ρ'
 | .exc c ρ'=>dS K F H Z ρ σ (W c) ρ'
 | .bad=>False
def sv (K:FG) (W:XW) (g:aX):TS:=fun D σ H=>∃ρ F fps,Sim K F H σ ρ fps/\cK K W F H fps.flatten ρ σ D (g ρ)
def vJ (K:FG) (F H:Hp) (Z:Y2) (ρ:Env) (σ:St) (Q:VK) (x:D×Bool×Env):Prop :=
 ∀v F' H' fps' fp,Evo F H Z F' H' fps'.flatten->Sim K F' H' σ x.2.2 fps'->mL ρ x.2.2->Own K F' H' x.1 v fp->fp.Nodup->(x.2.1=true->∀b∈fp,b ∉ fps'.flatten/\(b∈Z\/H b=none))->Q v H'
def tx (K:FG) (W:XW) (g:nS):TE:=fun σ H Q=>∃ρ F fps,Sim K F H σ ρ fps/\(g ρ).hx (vJ K F H fps.flatten ρ σ Q) fun c=>dS K F H fps.flatten ρ σ (W c) ρ
section
variable {K:FG} {W:XW} {F H F' H' F1 H1:Hp} {Z Z' Z1:Y2} {σ σ1:St} {ρ ρ1:Env} {D':Ends}
theorem dS.lift {P:St->Hp->Prop} {ρ':Env} (e:Evo F H Z F1 H1 Z1) (p:fX ρ σ ρ1 σ1) (h:dS K F H Z ρ σ P ρ'):dS K F1 H1 Z1 ρ1 σ1 P ρ' :=
 fun σ' F' H' fps' e' S' p'=>h σ' F' H' fps' (e.trans e') S' (p.trans p')
theorem aBf.lift {P:VK} {d:D} {ρ':Env} (e:Evo F H Z F1 H1 Z1) (p:fX ρ σ ρ1 σ1) (h:aBf K F H Z ρ σ P d ρ'):aBf K F1 H1 Z1 ρ1 σ1 P d ρ' :=
 fun r σ' F' H' fps' fr e' S' p' o n k=>h r σ' F' H' fps' fr (e.trans e') S' (p.trans p') o n fun b hb=>⟨(k b hb).1,by
  rcases (k b hb).2 with q | q
  ·exact e.zone b q
  ·exact .inr (e.dom b q)⟩
theorem cK.lift {o:Out} (e:Evo F H Z F1 H1 Z1) (p:fX ρ σ ρ1 σ1) (h:cK K W F H Z ρ σ D' o):cK K W F1 H1 Z1 ρ1 σ1 D' o:=by
 cases o with
 | next ρ'=>exact dS.lift e p h
 | ret d ρ'=>exact aBf.lift e p h
 | brk ρ'=>exact dS.lift e p h
 | cont ρ'=>exact dS.lift e p h
 | exc c ρ'=>exact dS.lift e p h
 | bad=>exact h
def bJ:aX:=fun ρ=>.next ρ
def Out.andThen (o:Out) (g:aX):Out:=match o with | .next ρ=>g ρ | o=>o
def aR (f g:aX):aX:=fun ρ=>(f ρ).andThen g
theorem aLq (h:sv K W bJ D' σ H):aOu D' σ H:=by
 obtain ⟨ρ,F,fps,S,h⟩:=h
 exact h σ F H fps .refl S (fX.refl _ _)
theorem aRo {f g:aX} (h:sv K W (aR f g) D' σ H):aTy (sv K W f) (sv K W g) D' σ H:=by
 obtain ⟨ρ,F,fps,S,h⟩:=h
 refine ⟨ρ,F,fps,S,?_⟩
 unfold aR at h
 cases e:f ρ with
 | next ρ1 =>
  rw [e] at h
  have h:cK K W F H fps.flatten ρ σ D' (g ρ1):=h
  exact fun σ1 F1 H1 fps1 e1 S1 p1=>⟨ρ1,F1,fps1,S1,cK.lift e1 p1 h⟩
 | ret d ρ'=>rw [e] at h;exact h
 | brk ρ'=>rw [e] at h;exact h
 | cont ρ'=>rw [e] at h;exact h
 | exc _ _=>rw [e] at h;exact h
 | bad=>rw [e] at h;exact h
def sIf (c:cW) (f g:aX):aX:=fun ρ=>match c ρ with
 | .ok true=>f ρ | .ok false=>g ρ | .exc _=>.bad | .bad=>.bad
theorem aUv {c:cW} {f g:aX} (h:sv K W (sIf c f g) D' σ H):aT8 (tvT K c) (sv K W f) (sv K W g) D' σ H:=by
 obtain ⟨ρ,F,fps,S,h⟩:=h
 refine ⟨ρ,F,fps,S,?_⟩
 unfold sIf at h
 cases e:c ρ with
 | ok b =>
  rw [e] at h
  intro F1 H1 g1
  cases b with
  | true=>rw [if_pos rfl];exact ⟨ρ,F1,fps,S.grow g1,cK.lift g1.evo (fX.refl _ _) h⟩
  | false=>rw [if_neg Bool.false_ne_true];exact ⟨ρ,F1,fps,S.grow g1,cK.lift g1.evo (fX.refl _ _) h⟩
 | exc _=>rw [e] at h;exact h.elim
 | bad=>rw [e] at h;exact h.elim
def xOf (f:aS):nS:=fun ρ=>match f ρ with | .ok x=>.ok (x.1,x.2,ρ) | _=>.bad
theorem aOn {f:aS} {Q:VK} (h:tx K W (xOf f) σ H Q):tv K f σ H Q:=by
 obtain ⟨ρ,F,fps,S,h⟩:=h
 refine ⟨ρ,F,fps,S,?_⟩
 unfold xOf at h
 cases ef:f ρ with
 | exc _=>rw [ef] at h;exact h.elim
 | bad=>rw [ef] at h;exact h.elim
 | ok x =>
  rw [ef] at h
  have hx:vJ K F H fps.flatten ρ σ Q (x.1,x.2,ρ):=h
  intro v F1 H1 fx g1 o1 n1 k1
  refine hx v F1 H1 fps fx g1.evo (S.grow g1) (mL.refl _) o1 n1 fun e b hb=>⟨fun hz=>?_,.inr (k1 e b hb)⟩
  exact (S.zone b hz).2 (k1 e b hb)
def mI (g:nS):aX:=fun ρ=>match g ρ with | .ok (_,_,ρ')=>.next ρ' | .exc c=>.exc c ρ | .bad=>.bad
theorem aNk {g:nS} (h:sv K W (mI g) D' σ H):aB6 (tx K W g) D' σ H:=by
 obtain ⟨ρ,F,fps,S,h⟩:=h
 refine ⟨ρ,F,fps,S,?_⟩
 unfold mI at h
 cases e:g ρ with
 | ok x =>
  rw [e] at h
  exact fun v F1 H1 fps1 fp e1 S1 p1 o1 n1 k1=>h σ F1 H1 fps1 e1 S1 p1.pins
 | exc c=>rw [e] at h;exact h
 | bad=>rw [e] at h;exact h.elim
def cH (g:nS):aX:=fun ρ=>match g ρ with
 | .ok (d,fr,ρ')=>if fr || d.calm then .ret d ρ' else .bad
 | .exc c=>.exc c ρ | .bad=>.bad
theorem aQ5 {g:nS} (h:sv K W (cH g) D' σ H):aRk (tx K W g) D' σ H:=by
 obtain ⟨ρ,F,fps,S,h⟩:=h
 refine ⟨ρ,F,fps,S,?_⟩
 unfold cH at h
 cases e:g ρ with
 | ok x =>
  obtain ⟨d,fr,ρ'⟩:=x
  rw [e] at h
  intro v F1 H1 fps1 fp e1 S1 p1 o1 n1 k1
  have h:cK K W F H fps.flatten ρ σ D' (if (fr || d.calm)=true then .ret d ρ' else .bad):=h
  by_cases hc:(fr || d.calm)=true
  ·rw [if_pos hc] at h
   refine h v σ F1 H1 fps1 fp e1 S1 p1.pins o1 n1 fun b hb=>?_
   cases ef:fr with
   | true=>exact k1 ef b hb
   | false =>
    rw [ef,Bool.false_or] at hc
    rw [Own.eB d hc o1] at hb;cases hb
  ·rw [if_neg hc] at h;exact h.elim
 | exc c=>rw [e] at h;exact h
 | bad=>rw [e] at h;exact h.elim
theorem jU {fps:Y5} {i:Nat} {fp:Y2} (n:fps.flatten.Nodup) (nf:fp.Nodup) (dj:∀b∈fp,b ∉ fps.flatten):(fps.set i fp).flatten.Nodup:=by
 induction fps generalizing i with
 | nil=>simp
 | cons f r ih =>
  rw [List.flatten_cons] at n dj
  obtain ⟨n1,n2,n3⟩:=List.nodup_append.mp n
  cases i with
  | zero =>
   rw [List.set_cons_zero,List.flatten_cons]
   exact List.nodup_append.mpr ⟨nf,n2,fun a ha b hb z=>dj a ha (List.mem_append_right _ (z ▸ hb))⟩
  | succ i =>
   rw [List.set_cons_succ,List.flatten_cons]
   refine List.nodup_append.mpr ⟨n1,ih n2 fun b hb hr=>dj b hb (List.mem_append_right _ hr),fun a ha b hb z=>?_⟩
   subst z
   obtain ⟨l,hl,hal⟩:=List.mem_flatten.mp hb
   rcases List.mem_or_eq_of_mem_set hl with hl | rfl
   ·exact n3 a ha a (List.mem_flatten.mpr ⟨l,hl,hal⟩) rfl
   ·exact dj a hal (List.mem_append_left _ ha)
theorem bC {fps:Y5} {i:Nat} {fp:Y2} {b:Addr} (h:b∈(fps.set i fp).flatten):b∈fps.flatten\/b∈fp:=by
 obtain ⟨l,hl,hb⟩:=List.mem_flatten.mp h
 rcases List.mem_or_eq_of_mem_set hl with hl | rfl
 ·exact .inl (List.mem_flatten.mpr ⟨l,hl,hb⟩)
 ·exact .inr hb
theorem Sim.store {fps:Y5} {i:Nat} {d:D} {v:V} {fp:Y2} (S:Sim K F H σ ρ fps) (o:Own K F H d v fp) (n:fp.Nodup) (dj:∀b∈fp,b ∉ fps.flatten):Sim K F H (σ.set i (some v)) (ρ.set i (.val d)) (fps.set i fp):=by
 refine ⟨S.same,by simp [S.ls],by simp [S.lf],fun j s c e1 e2=>?_,jU S.nd n dj,fun a ha=>?_⟩
 ·by_cases hj:i=j
  ·subst hj
   have hi:i < ρ.length:=by
    rcases Nat.lt_or_ge i ρ.length with h | h
    ·exact h
    ·rw [List.getElem?_eq_none_iff.mpr (by simpa using h)] at e1;cases e1
   rw [List.getElem?_set_self (by exact hi)] at e1
   cases e1;cases e2
   refine ⟨v,fp,List.getElem?_set_self (by rw [S.ls];exact hi),List.getElem?_set_self (by rw [S.lf];exact hi),o⟩
  ·rw [List.getElem?_set_ne hj] at e1
   obtain ⟨w,f,h1,h2,h3⟩:=S.at_ j s c e1 e2
   exact ⟨w,f,by rw [List.getElem?_set_ne hj];exact h1,by rw [List.getElem?_set_ne hj];exact h2,h3⟩
 ·rcases bC ha with h | h
  ·exact S.zone a h
  ·obtain ⟨h1,xs,h2⟩:=Own.zone d o a h
   exact ⟨h1,by rw [h2];simp⟩
def free (ρ:Env) (i:Nat):Bool:=match ρ[i]? with | some (.pin _)=>false | some _=>true | none=>false
theorem qT {i:Nat} {d:D} {x:Option V} (h:free ρ i=true):fX ρ σ (ρ.set i (.val d)) (σ.set i x):=fun j c e=>by
 have hj:i ≠ j:=by
  rintro rfl
  unfold free at h
  rw [e] at h;cases h
 exact ⟨⟨c,by rw [List.getElem?_set_ne hj];exact e⟩,by rw [List.getElem?_set_ne hj]⟩
def bH (i:Nat) (d:D) (ρ:Env):Option Env:=if free ρ i then some (ρ.set i (.val d)) else none
def aY (i:Nat) (g:nS):aX:=fun ρ=>match g ρ with
 | .ok (d,fr,ρ')=>if (fr || d.calm) && free ρ' i then .next (ρ'.set i (.val d)) else .bad
 | .exc c=>.exc c ρ | .bad=>.bad
theorem aEh {fps1:Y5} {i:Nat} {fp:Y2} (e:Evo F H Z F' H' fps1.flatten) (k:∀b∈fp,b∈Z\/H b=none):Evo F H Z F' H' (fps1.set i fp).flatten :=
 ⟨e.fr,e.keep,e.dom,e.new,fun b hb=>(bC hb).elim (e.zone b) (k b)⟩
theorem aKs {i:Nat} {g:nS} (h:sv K W (aY i g) D' σ H):aGt (tx K W g) (sS i) D' σ H:=by
 obtain ⟨ρ,F,fps,S,h⟩:=h
 refine ⟨ρ,F,fps,S,?_⟩
 unfold aY at h
 cases e:g ρ with
 | ok x =>
  obtain ⟨d,fr,ρ'⟩:=x
  rw [e] at h
  intro v F1 H1 fps1 fp e1 S1 p1 o1 n1 k1
  have h:cK K W F H fps.flatten ρ σ D' (if ((fr || d.calm) && free ρ' i)=true then .next (ρ'.set i (.val d)) else .bad):=h
  by_cases hc:((fr || d.calm) && free ρ' i)=true
  ·rw [if_pos hc] at h
   rw [Bool.and_eq_true] at hc
   have k2:∀b∈fp,b ∉ fps1.flatten/\(b∈fps.flatten\/H b=none):=fun b hb=>by
    cases ef:fr with
    | true=>exact k1 ef b hb
    | false =>
     have:=hc.1
     rw [ef,Bool.false_or] at this
     rw [Own.eB d this o1] at hb;cases hb
   exact h _ F1 H1 _ (aEh e1 fun b hb=>(k2 b hb).2) (S1.store o1 n1 fun b hb=>(k2 b hb).1) (p1.pins.trans (qT hc.2))
  ·rw [if_neg hc] at h;exact h.elim
 | exc c=>rw [e] at h;exact h
 | bad=>rw [e] at h;exact h.elim
def cY:T0->List D->Env->Option Env
 | [],[],ρ=>some ρ
 | i::is,d::ds,ρ=>if d.calm then (bH i d ρ).bind (cY is ds) else none
 | _,_,_=>none
def nF:T0->TGs
 | []=>aVd
 | i::is=>aOe (sS i) (nF is)
theorem pR:∀(is:T0) {ds:List D} {vs:List V} {ρ ρ':Env} {σ:St} {fps:Y5} {P:St->Hp->Prop},cY is ds ρ=some ρ'->Sim K F H σ ρ fps->aJ K F H ds vs [] ->
  (∀σ' fps',Sim K F H σ' ρ' fps'->fX ρ σ ρ' σ'->(∀b∈fps'.flatten,b∈fps.flatten)->P σ' H)->nF is vs σ H P
 | [],[],vs,ρ,ρ',σ,fps,P,e,S,o,h=>by
  unfold cY at e;cases e
  unfold aJ at o
  exact ⟨o.1,h σ fps S (fX.refl _ _) fun _ hb=>hb⟩
 | i::is,d::ds,vs,ρ,ρ',σ,fps,P,e,S,o,h=>by
  unfold cY at e
  by_cases hc:d.calm=true
  ·rw [if_pos hc] at e
   unfold bH at e
   by_cases hf:free ρ i=true
   ·rw [if_pos hf] at e
    have e:cY is ds (ρ.set i (.val d))=some ρ':=e
    unfold aJ at o
    obtain ⟨v,r,f1,f2,e1,o1,o2,e2⟩:=o
    have ef:=List.append_eq_nil_iff.mp e2.symm
    rw [ef.1] at o1;rw [ef.2] at o2
    refine ⟨v,r,e1,?_⟩
    refine pR is e (S.store (i:=i) o1 List.nodup_nil fun b hb=>by cases hb) o2 fun σ' fps' S' p' k'=>?_
    refine h σ' fps' S' ((qT hf).trans p') fun b hb=>?_
    rcases bC (k' b hb) with q | q
    ·exact q
    ·cases q
   ·rw [if_neg hf] at e;cases e
  ·rw [if_neg hc] at e;cases e
 | [],d::ds,vs,ρ,ρ',σ,fps,P,e,S,o,h=>by unfold cY at e;cases e
 | i::is,[],vs,ρ,ρ',σ,fps,P,e,S,o,h=>by unfold cY at e;cases e
def oJ (is:T0) (g:nS):aX:=fun ρ=>match g ρ with
 | .ok (.tup ds,_,ρ')=>(match cY is ds ρ' with | some ρ2=>.next ρ2 | none=>.bad)
 | .ok _=>.bad | .exc c=>.exc c ρ | .bad=>.bad
theorem pP:∀(is:T0) {ds:List D} {ρ ρ':Env},cY is ds ρ=some ρ'->ds.length=is.length
 | [],[],_,_,_=>rfl
 | i::is,d::ds,ρ,ρ',e=>by
  unfold cY at e
  by_cases hc:d.calm=true
  ·rw [if_pos hc] at e
   cases q:bH i d ρ with
   | none=>rw [q] at e;cases e
   | some ρ1 =>
    rw [q] at e
    rw [List.length_cons,List.length_cons,pP is (show cY is ds ρ1=some ρ' from e)]
  ·rw [if_neg hc] at e;cases e
 | [],_::_,_,_,e=>by unfold cY at e;cases e
 | _::_,[],_,_,e=>by unfold cY at e;cases e
theorem aFu {is:T0} {g:nS} {n:Nat} (hn:is.length=n) (h:sv K W (oJ is g) D' σ H):aGt (tx K W g) (aPi K n (nF is)) D' σ H:=by
 obtain ⟨ρ,F,fps,S,h⟩:=h
 refine ⟨ρ,F,fps,S,?_⟩
 unfold oJ at h
 cases e:g ρ with
 | ok x =>
  obtain ⟨d,fr,ρ'⟩:=x
  rw [e] at h
  intro v F1 H1 fps1 fp e1 S1 p1 o1 n1 k1
  cases d<;>try exact h.elim
  rename_i ds
  obtain ⟨a,xs,ev,q,o2,e2⟩:=Own.tup S1.same o1
  have h:cK K W F H fps.flatten ρ σ D' (match cY is ds ρ' with | some ρ2=>.next ρ2 | none=>.bad):=h
  cases eb:cY is ds ρ' with
  | none=>rw [eb] at h;exact h.elim
  | some ρ2 =>
   rw [eb] at h
   refine ⟨a,xs,ev,q,?_,?_⟩
   ·rw [<- aJ.length ds o2,pP is eb,hn]
   ·refine pR is eb S1 o2 fun σ' fps' S' p' k'=>?_
    exact h σ' F1 H1 fps' ⟨e1.fr,e1.keep,e1.dom,e1.new,fun b hb=>e1.zone b (k' b hb)⟩ S' (p1.pins.trans p')
 | exc c=>rw [e] at h;exact h
 | bad=>rw [e] at h;exact h.elim
def iJ (o:Out) (again:Env->Out):Out:=match o with
 | .next ρ=>again ρ | .cont ρ=>again ρ | .brk ρ=>.next ρ | o=>o
def bZ (c:cW) (b:aX):Nat->aX
 | 0,_=>.bad
 | n+1,ρ=>match c ρ with
  | .ok true=>iJ (b ρ) (bZ c b n)
  | .ok false=>.next ρ
  | .exc _=>.bad | .bad=>.bad
theorem aJd {n:Nat} {c:cW} {b:aX} (h:sv K W (bZ c b n) D' σ H):aIz (tvT K c) (sv K W b) D' σ H:=by
 refine ⟨fun m σ H=>sv K W (bZ c b m) D' σ H,⟨n,h⟩,?_⟩
 rintro m σ H ⟨ρ,F,fps,S,h⟩
 refine ⟨ρ,F,fps,S,?_⟩
 cases m with
 | zero=>exact h.elim
 | succ m =>
  unfold bZ at h
  cases e:c ρ with
  | exc _=>rw [e] at h;exact h.elim
  | bad=>rw [e] at h;exact h.elim
  | ok k =>
   rw [e] at h
   intro F1 H1 g1
   cases k with
   | false =>
    rw [if_neg Bool.false_ne_true]
    exact h σ F1 H1 fps g1.evo (S.grow g1) (fX.refl _ _)
   | true =>
    rw [if_pos rfl]
    refine ⟨fun σ' H'=>sv K W (bZ c b m) D' σ' H',fun σ' H' q=>⟨m,Nat.lt_succ_self m,q⟩,ρ,F1,fps,S.grow g1,?_⟩
    have h:cK K W F H fps.flatten ρ σ D' (iJ (b ρ) (bZ c b m)):=h
    have h:=cK.lift (g1.evo (Z:=fps.flatten)) (fX.refl ρ σ) h
    cases eb:b ρ with
    | next ρ' =>
     rw [eb] at h
     exact fun σ' F' H' fps' e' S' p'=>⟨ρ',F',fps',S',cK.lift e' p' h⟩
    | cont ρ' =>
     rw [eb] at h
     exact fun σ' F' H' fps' e' S' p'=>⟨ρ',F',fps',S',cK.lift e' p' h⟩
    | brk ρ'=>rw [eb] at h;exact h
    | ret d ρ'=>rw [eb] at h;exact h
    | exc _ _=>rw [eb] at h;exact h
    | bad=>rw [eb] at h;exact h
abbrev kR:=Env->R (List D)
def zP (K:FG) (F:Hp) (ds:List D) (J:It):Prop :=
 (∀i H',bB F H'->ds.length<=i->J.stop i H') /\
 ∀i d,ds[i]?=some d->∀F' H',bB F F'->bB F' H'->J.go i H'/\∀x H2,J.yld i H' x H2->∃F2,Grow F' H' F2 H2/\Own K F2 H2 d x []
def aKz (K:FG) (F H:Hp) (R':It->Hp->Prop) (ds:List D):Prop:=∀J F' H',Grow F H F' H'->zP K F' ds J->R' J H'
def iv (K:FG) (f:kR):TI:=fun σ H R'=>∃ρ F fps,Sim K F H σ ρ fps/\(f ρ).holds (aKz K F H R')
def forL (set:D->Env->Option Env) (b:aX):List D->aX
 | [],ρ=>.next ρ
 | d::ds,ρ=>match set d ρ with
  | none=>.bad
  | some ρ1=>iJ (b ρ1) (forL set b ds)
def Tgt (K:FG) (set:D->Env->Option Env) (g:TG):Prop :=
 ∀(F H:Hp) (d:D) (v:V) (ρ ρ':Env) (σ:St) (fps:Y5) (P:St->Hp->Prop),Sim K F H σ ρ fps->Own K F H d v []->set d ρ=some ρ' ->
  (∀σ' fps',Sim K F H σ' ρ' fps'->fX ρ σ ρ' σ'->(∀b∈fps'.flatten,b∈fps.flatten)->P σ' H)->g v σ H P
theorem bI {i:Nat}:Tgt K (bH i) (sS i):=by
 intro F H d v ρ ρ' σ fps P S o e h
 unfold bH at e
 by_cases hf:free ρ i=true
 ·rw [if_pos hf] at e;cases e
  refine h _ _ (S.store o List.nodup_nil fun b hb=>by cases hb) (qT hf) fun b hb=>?_
  rcases bC hb with q | q
  ·exact q
  ·cases q
 ·rw [if_neg hf] at e;cases e
def dR (is:T0):D->Env->Option Env:=fun d ρ=>match d with | .tup ds=>cY is ds ρ | _=>none
theorem lM {is:T0} {n:Nat} (hn:is.length=n):Tgt K (dR is) (aPi K n (nF is)):=by
 intro F H d v ρ ρ' σ fps P S o e h
 unfold dR at e
 cases d<;>try cases e
 rename_i ds
 obtain ⟨a,xs,ev,q,o2,e2⟩:=Own.tup S.same o
 refine ⟨a,xs,ev,q,?_,pR is e S o2 h⟩
 rw [<- aJ.length ds o2,pP is e,hn]
def iF (f:kR) (set:D->Env->Option Env) (b:aX):aX:=fun ρ=>match f ρ with
 | .ok ds=>forL set b ds ρ | .exc _=>.bad | .bad=>.bad
theorem aQe {f:kR} {set:D->Env->Option Env} {g:TG} {b:aX} (ht:Tgt K set g) (h:sv K W (iF f set b) D' σ H):aTm (iv K f) g (sv K W b) D' σ H:=by
 obtain ⟨ρ,F,fps,S,h⟩:=h
 refine ⟨ρ,F,fps,S,?_⟩
 unfold iF at h
 cases e:f ρ with
 | exc _=>rw [e] at h;exact h.elim
 | bad=>rw [e] at h;exact h.elim
 | ok ds =>
  rw [e] at h
  intro J F0 H0 g0 hJ
  have h:=cK.lift (g0.evo (Z:=fps.flatten)) (fX.refl ρ σ) h
  refine ⟨fun i m σ' H'=>i<=ds.length/\m=ds.length - i/\∃ρ' F' fps',bB F0 F'/\Sim K F' H' σ' ρ' fps'/\cK K W F' H' fps'.flatten ρ' σ' D' (forL set b (ds.drop i) ρ'),
   ⟨ds.length,Nat.zero_le _,rfl,ρ,F0,fps,bB.refl _,S.grow g0,h⟩,?_⟩
  rintro i m σ1 H1 ⟨hi,rfl,ρ1,F1,fps1,s1,S1,h1⟩
  by_cases hlt:i<ds.length
  ·refine .inr ?_
   obtain ⟨d,hd⟩:∃d,ds[i]?=some d:=⟨ds[i],by simp [hlt]⟩
   have hdrop:ds.drop i=d::ds.drop (i+1):=by
    rw [List.drop_eq_getElem_cons hlt]
    congr 1
    rw [List.getElem?_eq_getElem hlt] at hd;exact Option.some.inj hd
   rw [hdrop] at h1
   obtain ⟨go,yl⟩:=hJ.2 i d hd F1 H1 s1 S1.same
   refine ⟨go,fun σ' H'=>∃ρ' F' fps',bB F0 F'/\Sim K F' H' σ' ρ' fps'/\cK K W F' H' fps'.flatten ρ' σ' D' (forL set b (ds.drop (i+1)) ρ'),fun σ' H' q=>⟨ds.length - (i+1),by omega,by omega,rfl,q⟩,fun x H2 hy=>?_⟩
   obtain ⟨F2,g2,o2⟩:=yl x H2 hy
   have h1:cK K W F1 H1 fps1.flatten ρ1 σ1 D' (match set d ρ1 with | none=>.bad | some ρ2=>iJ (b ρ2) (forL set b (ds.drop (i+1)))):=h1
   have h1:=cK.lift (g2.evo (Z:=fps1.flatten)) (fX.refl ρ1 σ1) h1
   cases es:set d ρ1 with
   | none=>rw [es] at h1;exact h1.elim
   | some ρ2 =>
    rw [es] at h1
    refine ht F2 H2 d x ρ1 ρ2 σ1 fps1 _ (S1.grow g2) o2 es fun σ2 fps2 S2 p2 k2=>?_
    have ev2:Evo F2 H2 fps1.flatten F2 H2 fps2.flatten:=⟨bB.refl _,fun _ _ e _=>e,fun _ e=>e,fun _ _ e=>.inl e,fun b hb=>.inl (k2 b hb)⟩
    have h2:cK K W F2 H2 fps2.flatten ρ2 σ2 D' (iJ (b ρ2) (forL set b (ds.drop (i+1)))):=cK.lift ev2 p2 h1
    refine ⟨ρ2,F2,fps2,S2,?_⟩
    have s2:bB F0 F2:=s1.trans g2.fr
    cases eb:b ρ2 with
    | next ρ3 =>
     rw [eb] at h2
     exact fun σ' F' H' fps' e' S' p'=>⟨ρ3,F',fps',s2.trans e'.fr,S',cK.lift e' p' h2⟩
    | cont ρ3 =>
     rw [eb] at h2
     exact fun σ' F' H' fps' e' S' p'=>⟨ρ3,F',fps',s2.trans e'.fr,S',cK.lift e' p' h2⟩
    | brk ρ3=>rw [eb] at h2;exact h2
    | ret d ρ3=>rw [eb] at h2;exact h2
    | exc _ _=>rw [eb] at h2;exact h2
    | bad=>rw [eb] at h2;exact h2
  ·refine .inl ⟨hJ.1 i H1 (s1.trans S1.same) (by omega),?_⟩
   rw [List.drop_eq_nil_of_le (by omega)] at h1
   exact h1 σ1 F1 H1 fps1 .refl S1 (fX.refl _ _)
def aO5 (f:aS):kR:=fun ρ=>(f ρ).bind fun x=>match x.1 with
 | .tup ds=>.ok ds | _=>.bad
theorem aPv {f:aS} {R':It->Hp->Prop} (h:iv K (aO5 f) σ H R'):aPp K (tv K f) σ H R':=by
 obtain ⟨ρ,F,fps,S,h⟩:=h
 refine ⟨ρ,F,fps,S,R.aM (R.aN.mp h) fun x hx v F1 H1 fx g1 o1 n1 k1=>?_⟩
 obtain ⟨x,b⟩:=x
 cases x<;>try exact hx.elim
 rename_i ds
 unfold Own at o1
 obtain ⟨_,a,xs,ev,q,r⟩:=o1
 refine ⟨a,ev,⟨xs,bB.xJ g1.inn q⟩,hx _ F1 H1 g1 ⟨fun i H' hs hl=>?_,fun i d hd F' H' s1 s2=>?_⟩⟩
 ·exact ⟨xs,bB.xJ hs q,by rw [<- aJ.length ds r];exact hl⟩
 ·obtain ⟨u,f,q1,q2,q3⟩:=aJ.get ds r hd
  refine ⟨⟨xs,u,bB.xJ (s1.trans s2) q,q1⟩,fun y H2 hy=>?_⟩
  obtain ⟨e,hy⟩:=hy
  subst e
  have ey:=hy xs (bB.xJ (s1.trans s2) q)
  rw [q1] at ey;cases ey
  have:f=[]:=List.sublist_nil.mp q3
  subst this
  exact ⟨F',Grow.refl s2,Own.keep s1 d (fun a ha=>by cases ha) q2⟩
def gA (lo:Int) (n:Nat):List D:=(List.range n).map fun (i:Nat)=>D.int (lo+(i:Int))
def cL (i:Int):Bool:=decide (-(2 ^ 62)<=i) && decide (i<2 ^ 62)
def iR1 (g:dO):kR:=fun ρ=>(g ρ).bind fun xs=>match xs with
 | [(.int j,_)]=>if cL j then .ok (gA 0 j.toNat) else .bad | _=>.bad
def iR2 (g:dO):kR:=fun ρ=>(g ρ).bind fun xs=>match xs with
 | [(.int i,_),(.int j,_)]=>if cL i && cL j then .ok (gA i (j - i).toNat) else .bad | _=>.bad
theorem uL {lo:Int} {n:Nat}:zP K F (gA lo n) (Itr lo n):=by
 refine ⟨fun i H' _ hl=>?_,fun i d hd F' H' s1 s2=>?_⟩
 ·unfold gA at hl
  show n<=i
  simpa using hl
 ·unfold gA at hd
  rw [List.getElem?_map] at hd
  have hi:i<n:=by
   rcases Nat.lt_or_ge i n with h | h
   ·exact h
   ·rw [List.getElem?_eq_none_iff.mpr (by simpa using h)] at hd;cases hd
  rw [List.getElem?_range hi] at hd
  cases hd
  refine ⟨hi,fun y H2 hy=>?_⟩
  obtain ⟨e1,e2⟩:=hy
  subst e1;subst e2
  exact ⟨F',Grow.refl s2,gH rfl⟩
theorem aGm {g:dO} {R':It->Hp->Prop} (h:iv K (iR1 g) σ H R'):aOl (tvA K g) σ H R':=by
 obtain ⟨ρ,F,fps,S,h⟩:=h
 refine ⟨ρ,F,fps,S,R.aM (R.aN.mp h) fun xs hx vs F1 H1 fa g1 o1 n1 k1=>?_⟩
 match xs,hx,o1 with
 | [(.int j,b)],hx,o1 =>
  have hx:(if cL j=true then R.ok (gA 0 j.toNat) else R.bad).holds (aKz K F H R'):=hx
  by_cases hc:cL j=true
  ·rw [if_pos hc] at hx
   unfold cL at hc
   rw [Bool.and_eq_true,decide_eq_true_iff,decide_eq_true_iff] at hc
   unfold Args at o1
   obtain ⟨v,r,fp,f2,e,o,n,t,w⟩:=o1
   unfold Args at t;unfold Own at o
   rw [e,t.1,o.1]
   exact ⟨j,rfl,hc.1,hc.2,hx _ F1 H1 g1 uL⟩
  ·rw [if_neg hc] at hx;exact hx.elim
theorem aFv {g:dO} {R':It->Hp->Prop} (h:iv K (iR2 g) σ H R'):aO0 (tvA K g) σ H R':=by
 obtain ⟨ρ,F,fps,S,h⟩:=h
 refine ⟨ρ,F,fps,S,R.aM (R.aN.mp h) fun xs hx vs F1 H1 fa g1 o1 n1 k1=>?_⟩
 match xs,hx,o1 with
 | [(.int i,b),(.int j,b')],hx,o1 =>
  have hx:(if (cL i && cL j)=true then R.ok (gA i (j - i).toNat) else R.bad).holds (aKz K F H R'):=hx
  by_cases hc:(cL i && cL j)=true
  ·rw [if_pos hc] at hx
   unfold cL at hc
   simp only [Bool.and_eq_true,decide_eq_true_iff] at hc
   unfold Args at o1
   obtain ⟨v,r,fp,f2,e,o,n,t,w⟩:=o1
   unfold Args at t
   obtain ⟨v',r',fp',f2',e',o',n',t',w'⟩:=t
   unfold Args at t';unfold Own at o o'
   rw [e,e',t'.1,o.1,o'.1]
   exact ⟨i,j,rfl,⟨hc.1.1,hc.1.2,hc.2.1,hc.2.2⟩,hx _ F1 H1 g1 uL⟩
  ·rw [if_neg hc] at hx;exact hx.elim
end
end VL
end
section
namespace VL
open PySem L2
section
variable {K:FG} {W:XW} {F H F' H' F1 H1:Hp} {Z Z' Z1:Y2} {σ σ1:St} {ρ ρ1:Env} {D':Ends}
theorem dW {fps:Y5} {i:Nat} {fp f:Y2} (n:fps.flatten.Nodup) (e:fps[i]?=some f) (nf:fp.Nodup) (dj:∀b∈fp,b∈f\/b ∉ fps.flatten):(fps.set i fp).flatten.Nodup:=by
 induction fps generalizing i with
 | nil=>simp
 | cons g r ih =>
  rw [List.flatten_cons] at n dj
  obtain ⟨n1,n2,n3⟩:=List.nodup_append.mp n
  cases i with
  | zero =>
   simp at e;subst e
   rw [List.set_cons_zero,List.flatten_cons]
   refine List.nodup_append.mpr ⟨nf,n2,fun a ha b hb z=>?_⟩
   subst z
   rcases dj a ha with h | h
   ·exact n3 a h a hb rfl
   ·exact h (List.mem_append_right _ hb)
  | succ i =>
   have e:r[i]?=some f:=by simpa using e
   rw [List.set_cons_succ,List.flatten_cons]
   refine List.nodup_append.mpr ⟨n1,ih n2 e fun b hb=>(dj b hb).imp_right fun h hr=>h (List.mem_append_right _ hr),fun a ha b hb z=>?_⟩
   subst z
   rcases bC hb with h | h
   ·exact n3 a ha a h rfl
   ·rcases dj a h with q | q
    ·exact n3 a ha a (List.mem_flatten.mpr ⟨f,List.mem_of_getElem? e,q⟩) rfl
    ·exact q (List.mem_append_left _ ha)
theorem apart {fps:Y5} {i j:Nat} {f g:Y2} {a:Addr} (n:fps.flatten.Nodup) (hi:fps[i]?=some f) (hj:fps[j]?=some g) (ne:i ≠ j) (ha:a∈f):a ∉ g:=by
 induction fps generalizing i j with
 | nil=>simp at hi
 | cons h r ih =>
  rw [List.flatten_cons] at n
  obtain ⟨n1,n2,n3⟩:=List.nodup_append.mp n
  cases i with
  | zero =>
   simp at hi;subst hi
   cases j with
   | zero=>exact absurd rfl ne
   | succ j =>
    have hj:r[j]?=some g:=by simpa using hj
    exact fun hb=>n3 a ha a (List.mem_flatten.mpr ⟨g,List.mem_of_getElem? hj,hb⟩) rfl
  | succ i =>
   have hi:r[i]?=some f:=by simpa using hi
   cases j with
   | zero =>
    simp at hj;subst hj
    exact fun hb=>n3 a hb a (List.mem_flatten.mpr ⟨f,List.mem_of_getElem? hi,ha⟩) rfl
   | succ j=>exact ih n2 hi (by simpa using hj) fun z=>ne (by rw [z])
theorem Own.other {d:D} {v:V} {f:Y2} {a:Addr} {o:HO} (h:Own K F H d v f) (ha:a ∉ f):Own K F (upd H a o) d v f:=by
 refine Own.keep (bB.refl _) d (fun b hb=>⟨(Own.zone d h b hb).1,?_⟩) h
 exact aZ fun z=>ha (z ▸ hb)
theorem aJ.other {d:List D} {v:List V} {f:Y2} {a:Addr} {o:HO} (h:aJ K F H d v f) (ha:a ∉ f):aJ K F (upd H a o) d v f:=by
 refine aJ.keep (bB.refl _) d (fun b hb=>⟨(aJ.zone d h b hb).1,?_⟩) h
 exact aZ fun z=>ha (z ▸ hb)
def getD (ρ:Env) (i:Nat):Option D:=(ρ[i]?).bind Slot.d?
def putD (ρ:Env) (i:Nat) (d:D):Env:=match ρ[i]? with
 | some (.pin _)=>ρ.set i (.pin d) | some (.val _)=>ρ.set i (.val d) | _=>ρ
theorem Sim.get {fps:Y5} (S:Sim K F H σ ρ fps) {i:Nat} {d:D} (e:getD ρ i=some d):∃v fp,σ[i]?=some (some v)/\fps[i]?=some fp/\Own K F H d v fp:=by
 unfold getD at e
 cases q:ρ[i]? with
 | none=>rw [q] at e;cases e
 | some s=>rw [q] at e;exact S.at_ i s d q e
theorem vG {i j:Nat} {d:D} {s:Slot} {c:D} (e:(putD ρ i d)[j]?=some s) (e2:s.d?=some c) (hi:(getD ρ i).isSome=true):(i=j/\c=d)\/(i ≠ j/\ρ[j]?=some s):=by
 unfold getD at hi
 unfold putD at e
 cases q:ρ[i]? with
 | none=>rw [q] at hi;cases hi
 | some t =>
  have hlt:i < ρ.length:=(List.getElem?_eq_some_iff.mp q).1
  rw [q] at e hi
  cases t with
  | un=>cases hi
  | val _ =>
   by_cases hj:i=j
   ·subst hj
    have e:(ρ.set i (.val d))[i]?=some s:=e
    rw [List.getElem?_set_self hlt] at e;cases e;cases e2;exact .inl ⟨rfl,rfl⟩
   ·have e:(ρ.set i (.val d))[j]?=some s:=e
    rw [List.getElem?_set_ne hj] at e;exact .inr ⟨hj,e⟩
  | pin _ =>
   by_cases hj:i=j
   ·subst hj
    have e:(ρ.set i (.pin d))[i]?=some s:=e
    rw [List.getElem?_set_self hlt] at e;cases e;cases e2;exact .inl ⟨rfl,rfl⟩
   ·have e:(ρ.set i (.pin d))[j]?=some s:=e
    rw [List.getElem?_set_ne hj] at e;exact .inr ⟨hj,e⟩
theorem gY {i:Nat} {d:D}:(putD ρ i d).length=ρ.length:=by
 unfold putD
 split<;>simp
theorem vY {i:Nat} {d:D}:mL ρ (putD ρ i d):=fun j c e=>by
 unfold putD
 cases q:ρ[i]? with
 | none=>exact ⟨c,e⟩
 | some t =>
  have hlt:i < ρ.length:=(List.getElem?_eq_some_iff.mp q).1
  cases t with
  | un=>exact ⟨c,e⟩
  | val _ =>
   refine ⟨c,?_⟩
   show (ρ.set i (.val d))[j]?=_
   have hj:i ≠ j:=by rintro rfl;rw [q] at e;cases e
   rw [List.getElem?_set_ne hj];exact e
  | pin _ =>
   by_cases hj:i=j
   ·subst hj
    exact ⟨d,by show (ρ.set i (.pin d))[i]?=_;rw [List.getElem?_set_self hlt]⟩
   ·exact ⟨c,by show (ρ.set i (.pin d))[j]?=_;rw [List.getElem?_set_ne hj];exact e⟩
theorem Sim.mutate {fps:Y5} (S:Sim K F H σ ρ fps) {i:Nat} {d d':D} {v:V} {fp fp':Y2} {a:Addr} {xs:List V} (e:getD ρ i=some d) (es:σ[i]?=some (some v)) (ef:fps[i]?=some fp)
  (ha:a∈fp) (o:Own K F (upd H a (.lst xs)) d' v fp') (n:fp'.Nodup) (dj:∀b∈fp',b∈fp\/(b ∉ fps.flatten)) :
  Sim K F (upd H a (.lst xs)) σ (putD ρ i d') (fps.set i fp'):=by
 have hz:a∈fps.flatten:=List.mem_flatten.mpr ⟨fp,List.mem_of_getElem? ef,ha⟩
 have fa:=(S.zone a hz).1
 refine ⟨fun b u q=>?_,by rw [gY];exact S.ls,by rw [gY,List.length_set];exact S.lf,fun j s c e1 e2=>?_,dW S.nd ef n dj,fun b hb=>?_⟩
 ·rw [aZ (bM q fa)];exact S.same b u q
 ·rcases vG e1 e2 (by rw [e];rfl) with ⟨rfl,rfl⟩ | ⟨hj,e3⟩
  ·exact ⟨v,fp',es,List.getElem?_set_self (List.getElem?_eq_some_iff.mp ef).1,o⟩
  ·obtain ⟨w,f,h1,h2,h3⟩:=S.at_ j s c e3 e2
   exact ⟨w,f,h1,by rw [List.getElem?_set_ne hj];exact h2,h3.other (apart S.nd ef h2 hj ha)⟩
 ·rcases bC hb with h | h
  ·refine ⟨(S.zone b h).1,?_⟩
   by_cases hba:b=a
   ·subst hba;rw [bN];simp
   ·rw [aZ hba];exact (S.zone b h).2
  ·obtain ⟨q1,ys,q2⟩:=Own.zone d' o b h
   exact ⟨q1,by rw [q2];simp⟩
theorem aD3 {a:Addr} {o:HO} (ha:a∈Z) (k:∀b∈Z',b∈Z):Evo F H Z F (upd H a o) Z':=by
 refine ⟨bB.refl _,fun b u e hb=>?_,fun b e=>?_,fun _ _ e=>.inl e,fun b hb=>.inl (k b hb)⟩
 ·exact (aZ (fun z:b=a=>hb (by rw [z];exact ha))).trans e
 ·by_cases hba:b=a
  ·subst hba;rw [bN] at e;cases e
  ·rw [aZ hba] at e;exact e
theorem Grow.aS2 (g:Grow F H F' H') (k:∀b∈Z',b∈Z\/H b=none):Evo F H Z F' H' Z' :=
 ⟨g.fr,fun b o e _=>g.all b o e,fun _ e=>g.all.free e,fun b o e=>(g.new b o e).elim .inl fun h=>.inr (.inl h),k⟩
theorem aJ.replace:∀(ds:List D) {xs:List V} {fq:Y2} {j:Nat} {dj:D},aJ K F H ds xs fq->fq.Nodup->ds[j]?=some dj->∃vj fj,xs[j]?=some vj/\Own K F H dj vj fj/\(∀b∈fj,b∈fq)/\fj.Nodup /\
  ∀(H':Hp) (dj':D) (vj':V) (fj':Y2),(∀b∈fq,b ∉ fj->H' b=H b)->Own K F H' dj' vj' fj'->∃fq',aJ K F H' (ds.set j dj') (xs.set j vj') fq'/\(∀b∈fq',b∈fj'\/(b∈fq/\b ∉ fj))/\(fj'.Nodup->(∀b∈fj',b∈fj\/b ∉ fq)->fq'.Nodup)
 | [],_,_,_,_,_,_,e=>by simp at e
 | c::ds,xs,fq,0,dj,h,n,e=>by
  unfold aJ at h
  obtain ⟨v,r,f1,f2,e1,h1,h2,e2⟩:=h
  simp at e;subst e;subst e1;subst e2
  obtain ⟨n1,n2,n3⟩:=List.nodup_append.mp n
  refine ⟨v,f1,rfl,h1,fun b hb=>List.mem_append_left _ hb,n1,fun H' dj' vj' fj' k o=>?_⟩
  have h2':aJ K F H' ds r f2:=aJ.keep (bB.refl _) ds (fun b hb=>⟨(aJ.zone ds h2 b hb).1,k b (List.mem_append_right _ hb) fun z=>n3 b z b hb rfl⟩) h2
  refine ⟨fj'++f2,aJ.cons o h2',fun b hb=>?_,fun n4 k4=>?_⟩
  ·rcases List.mem_append.mp hb with hb | hb
   ·exact .inl hb
   ·exact .inr ⟨List.mem_append_right _ hb,fun z=>n3 b z b hb rfl⟩
  ·refine List.nodup_append.mpr ⟨n4,n2,fun a ha b hb z=>?_⟩
   subst z
   rcases k4 a ha with q | q
   ·exact n3 a q a hb rfl
   ·exact q (List.mem_append_right _ hb)
 | c::ds,xs,fq,j+1,dj,h,n,e=>by
  unfold aJ at h
  obtain ⟨v,r,f1,f2,e1,h1,h2,e2⟩:=h
  subst e1;subst e2
  obtain ⟨n1,n2,n3⟩:=List.nodup_append.mp n
  obtain ⟨vj,fj,q1,q2,q3,q5,q4⟩:=aJ.replace ds (j:=j) h2 n2 (by simpa using e)
  refine ⟨vj,fj,by simpa using q1,q2,fun b hb=>List.mem_append_right _ (q3 b hb),q5,fun H' dj' vj' fj' k o=>?_⟩
  obtain ⟨fq',p1,p2,p3⟩:=q4 H' dj' vj' fj' (fun b hb hn=>k b (List.mem_append_right _ hb) hn) o
  have h1':Own K F H' c v f1:=Own.keep (bB.refl _) c (fun b hb=>⟨(Own.zone c h1 b hb).1,k b (List.mem_append_left _ hb) fun z=>n3 b hb b (q3 b z) rfl⟩) h1
  refine ⟨f1++fq',aJ.cons h1' p1,fun b hb=>?_,fun n4 k4=>?_⟩
  ·rcases List.mem_append.mp hb with hb | hb
   ·exact .inr ⟨List.mem_append_left _ hb,fun z=>n3 b hb b (q3 b z) rfl⟩
   ·exact (p2 b hb).imp_right fun z=>⟨List.mem_append_right _ z.1,z.2⟩
  ·refine List.nodup_append.mpr ⟨n1,p3 n4 fun b hb=>(k4 b hb).imp_right fun z y=>z (List.mem_append_right _ y),fun a ha b hb z=>?_⟩
   subst z
   rcases p2 a hb with q | q
   ·rcases k4 a q with q | q
    ·exact n3 a ha a (q3 a q) rfl
    ·exact q (List.mem_append_left _ ha)
   ·exact n3 a ha a q.1 rfl
theorem Own.opened {ds:List D} {v:V} {fp:Y2} (h:Own K F H (.lst true ds) v fp):∃a xs fq,v=.ref a/\aJ K F H ds xs fq/\F a=none/\H a=some (.lst xs)/\fp=a::fq:=by
 unfold Own at h
 obtain ⟨a,xs,fq,e,r,w⟩:=h
 rcases w with ⟨_,w1,w2,w3⟩ | ⟨w,_⟩
 ·exact ⟨a,xs,fq,e,r,w1,w2,w3⟩
 ·cases w
theorem Own.closed {ds:List D} {a:Addr} {xs:List V} {fq:Y2} (r:aJ K F H ds xs fq) (h1:F a=none) (h2:H a=some (.lst xs)):Own K F H (.lst true ds) (.ref a) (a::fq):=by
 unfold Own
 exact ⟨a,xs,fq,rfl,r,.inl ⟨rfl,h1,h2,rfl⟩⟩
theorem Sim.zone1 {fps:Y5} {i:Nat} {fp:Y2} {a:Addr} (S:Sim K F H σ ρ fps) (h2:fps[i]?=some fp) (ha:a∈fp):F a=none :=
 (S.zone a (List.mem_flatten.mpr ⟨_,List.mem_of_getElem? h2,ha⟩)).1
theorem Sim.aCo {fps:Y5} {fu:Y2} (S:Sim K F H σ ρ fps) (k3:∀b∈fu,H b=none):∀b∈fu,b ∉ fps.flatten:=fun b hb hz=>(S.zone b hz).2 (k3 b hb)
theorem dS.mut {fps:Y5} {P:St->Hp->Prop} {i:Nat} {d d':D} {v:V} {fp fp' fu:Y2} {a:Addr} {xs:List V} (h:dS K F H fps.flatten ρ σ P (putD ρ i d')) (S:Sim K F H σ ρ fps) (g2:Grow F H F1 H1) (k3:∀b∈fu,H b=none)
  (eg:getD ρ i=some d) (h1:σ[i]?=some (some v)) (h2:fps[i]?=some fp) (ha:a∈fp) (o:Own K F1 (upd H1 a (.lst xs)) d' v fp') (n:fp'.Nodup) (dj:∀b∈fp',b∈fp\/b∈fu):P σ (upd H1 a (.lst xs)):=by
 have S3:=(S.grow g2).mutate eg h1 h2 ha o n fun b hb=>(dj b hb).imp_right (S.aCo k3 b)
 have ez:Evo F H fps.flatten F1 H1 (fps.flatten++fu):=g2.aS2 fun b hb=>(List.mem_append.mp hb).imp_right (k3 b)
 have hz:∀b∈fp,b∈fps.flatten:=fun b hb=>List.mem_flatten.mpr ⟨_,List.mem_of_getElem? h2,hb⟩
 refine h σ F1 _ _ (ez.trans (aD3 (List.mem_append_left _ (hz a ha)) fun b hb=>?_)) S3 (vY.pins)
 rcases bC hb with q | q
 ·exact List.mem_append_left _ q
 ·rcases dj b q with q | q
  ·exact List.mem_append_left _ (hz b q)
  ·exact List.mem_append_right _ q
def sX (d0:D) (x:D×Bool):Option D:=match d0 with
 | .lst true ds=>if aV x && decide (ds.length<1000000) then some (.lst true (ds ++ [x.1])) else none | _=>none
def eW (i:Nat) (f:aS):aX:=fun ρ=>match f ρ with
 | .ok x=>(match (getD ρ i).bind fun d=>sX d x with | some d=>.next (putD ρ i d) | none=>.bad)
 | .exc _=>.bad | .bad=>.bad
theorem tS {n:Nat} (h:n<1000000):n<sizeLine:=Nat.lt_of_lt_of_le h (by decide)
theorem qY {x:D×Bool} {v:V} {fp:Y2} (k:aV x=true) (o:Own K F H x.1 v fp) (h:x.2=true->∀b∈fp,H1 b=none):∀b∈fp,H1 b=none:=fun b hb=>by
 unfold aV at k
 cases e:x.2 with
 | true=>exact h e b hb
 | false =>
  rw [e,Bool.false_or] at k
  rw [Own.eB x.1 k o] at hb;cases hb
theorem aF0 {i:Nat} {f:aS} (h:sv K W (eW i f) D' σ H):aB6 (tBM K "list" zN (aAf i) (xQ (tv K f) aFx)) D' σ H:=by
 obtain ⟨ρ,F,fps,S,h⟩:=h
 unfold eW at h
 cases ef:f ρ with
 | exc _=>rw [ef] at h;exact h.elim
 | bad=>rw [ef] at h;exact h.elim
 | ok x =>
  rw [ef] at h
  have h:cK K W F H fps.flatten ρ σ D' (match (getD ρ i).bind fun d=>sX d x with | some d=>.next (putD ρ i d) | none=>.bad):=h
  cases eg:getD ρ i with
  | none=>rw [eg] at h;exact h.elim
  | some d0 =>
   rw [eg] at h
   have h:cK K W F H fps.flatten ρ σ D' (match sX d0 x with | some d=>.next (putD ρ i d) | none=>.bad):=h
   cases ek:sX d0 x with
   | none=>rw [ek] at h;exact h.elim
   | some d1 =>
    rw [ek] at h
    unfold sX at ek
    split at ek<;>try cases ek
    rename_i ds
    by_cases hc:(aV x && decide (ds.length<1000000))=true
    ·rw [if_pos hc] at ek;cases ek
     rw [Bool.and_eq_true,decide_eq_true_iff] at hc
     obtain ⟨v,fp,h1,h2,h3⟩:=S.get eg
     obtain ⟨a,xs,fq,ev,r,w1,w2,w3⟩:=Own.opened h3
     subst ev;subst w3
     have nfp:=S.sub h2
     refine ⟨.ref a,h1,.inl ⟨rfl,xs,SqL.of w2⟩,ρ,F,fps,S,?_⟩
     rw [ef]
     intro u F2 H2 fu g2 o2 n2 k2
     have k3:=qY hc.1 o2 k2
     have S2:=S.grow g2
     have w2':=g2.all a _ w2
     refine ⟨a,xs,u,rfl,rfl,w2',tS (by rw [<- aJ.length ds r];exact hc.2),?_⟩
     have w1':=S2.zone1 h2 List.mem_cons_self
     have hau:a ∉ fu:=fun z=>by have:=k3 a z;rw [w2] at this;cases this
     have haq:a ∉ fq:=(List.nodup_cons.mp nfp).1
     have r2:aJ K F2 (upd H2 a (.lst (xs ++ [u]))) (ds ++ [x.1]) (xs ++ [u]) (fq++fu):=aJ.append ds ((r.grow g2).other haq) (aJ.one (o2.other hau))
     have hn:(a::(fq++fu)).Nodup:=by
      refine List.nodup_cons.mpr ⟨fun z=>(List.mem_append.mp z).elim haq hau,List.nodup_append.mpr ⟨(List.nodup_cons.mp nfp).2,n2,fun p hp q hq z=>?_⟩⟩
      subst z
      exact S.aCo k3 p hq (List.mem_flatten.mpr ⟨_,List.mem_of_getElem? h2,List.mem_cons_of_mem _ hp⟩)
     refine dS.mut h S g2 k3 eg h1 h2 List.mem_cons_self (Own.closed r2 w1' bN) hn fun b hb=>?_
     rcases List.mem_cons.mp hb with rfl | hb
     ·exact .inl List.mem_cons_self
     ·exact (List.mem_append.mp hb).imp_left fun z=>List.mem_cons_of_mem _ z
    ·rw [if_neg hc] at ek;cases ek
def aA7 (d0:D) (k:Int) (x:D×Bool):Option D:=match d0 with
 | .lst true ds=>if aV x then (ixN ds.length k).map fun j=>.lst true (ds.set j x.1) else none | _=>none
def dJ (i:Nat) (h f:aS):aX:=fun ρ=>match f ρ with
 | .ok x=>(match h ρ with
  | .ok (.int k,_)=>(match (getD ρ i).bind fun d=>aA7 d k x with | some d=>.next (putD ρ i d) | none=>.bad)
  | .ok _=>.bad | .exc _=>.bad | .bad=>.bad)
 | .exc _=>.bad | .bad=>.bad
theorem aSi {n:Nat} {k:Int} {j:Nat} (e:ixN n k=some j):j<n:=by
 unfold ixN at e
 split at e
 ·split at e
  ·cases e;omega
  ·cases e
 ·split at e
  ·cases e;omega
  ·cases e
theorem set_own {ds:List D} {xs:List V} {fq fu:Y2} {a:Addr} {j:Nat} {d:D} {u:V} (r:aJ K F H ds xs fq) (n:(a::fq).Nodup) (hj:j<ds.length) (w1:F a=none) (o:Own K F H d u fu) (nu:fu.Nodup) (hau:a ∉ fu) (dju:∀b∈fu,b ∉ fq) :
  ∃fq',Own K F (upd H a (.lst (xs.set j u))) (.lst true (ds.set j d)) (.ref a) (a::fq')/\(a::fq').Nodup/\∀b∈fq',b∈fq\/b∈fu:=by
 obtain ⟨na,nq⟩:=List.nodup_cons.mp n
 obtain ⟨dj,hdj⟩:∃dj,ds[j]?=some dj:=⟨ds[j],by simp [hj]⟩
 obtain ⟨vj,fj,q1,q2,q3,_,q4⟩:=aJ.replace ds (r.other (a:=a) (o:=.lst (xs.set j u)) na) nq hdj
 obtain ⟨fq',p1,p2,p3⟩:=q4 _ d u fu (fun b _ _=>rfl) (o.other hau)
 have k:∀b∈fq',b∈fq\/b∈fu:=fun b hb=>(p2 b hb).elim .inr fun z=>.inl z.1
 refine ⟨fq',Own.closed p1 w1 bN,List.nodup_cons.mpr ⟨fun z=>(k a z).elim na hau,p3 nu fun b hb=>.inr (dju b hb)⟩,k⟩
theorem aCz {i:Nat} {h f:aS} (hh:sv K W (dJ i h f) D' σ H):aGt (tv K f) (aVc (aAf i) (tv K h) aO3) D' σ H:=by
 obtain ⟨ρ,F,fps,S,hh⟩:=hh
 unfold dJ at hh
 cases ef:f ρ with
 | exc _=>rw [ef] at hh;exact hh.elim
 | bad=>rw [ef] at hh;exact hh.elim
 | ok x =>
  rw [ef] at hh
  dsimp only at hh
  cases eh:h ρ with
  | exc _=>rw [eh] at hh;exact hh.elim
  | bad=>rw [eh] at hh;exact hh.elim
  | ok y =>
   rw [eh] at hh
   obtain ⟨y,by'⟩:=y
   cases y<;>try exact hh.elim
   rename_i k
   dsimp only at hh
   cases eg:getD ρ i with
   | none=>rw [eg] at hh;exact hh.elim
   | some d0 =>
    rw [eg] at hh
    dsimp only [Option.bind] at hh
    cases ek:aA7 d0 k x with
    | none=>rw [ek] at hh;exact hh.elim
    | some d1 =>
     rw [ek] at hh
     unfold aA7 at ek
     split at ek<;>try cases ek
     rename_i ds
     by_cases hc:aV x=true
     ·rw [if_pos hc] at ek
      cases ej:ixN ds.length k with
      | none=>rw [ej] at ek;cases ek
      | some j =>
       rw [ej] at ek;cases ek
       refine ⟨ρ,F,fps,S,?_⟩
       rw [ef]
       intro u F2 H2 fu g2 o2 n2 k2
       have k3:=qY hc o2 k2
       have S2:=S.grow g2
       obtain ⟨v,fp,h1,h2,h3⟩:=S2.get eg
       refine ⟨v,h1,ρ,F2,fps,S2,?_⟩
       rw [eh]
       intro w F3 H3 fw g3 o3 n3 k4
       unfold Own at o3
       obtain ⟨a,xs,fq,ev,r,w1,w2,w3⟩:=Own.opened (h3.grow g3)
       subst ev;subst w3
       have nfp:=S.sub h2
       refine ⟨a,xs,k,j,rfl,o3.1,w2,by rw [<- aJ.length ds r];exact ej,?_⟩
       have hz:∀b∈a::fq,b∈fps.flatten:=fun b hb=>List.mem_flatten.mpr ⟨_,List.mem_of_getElem? h2,hb⟩
       have nf:=S.aCo k3
       obtain ⟨fq',p1,p2,p3⟩:=set_own r nfp (aSi ej) w1 (o2.grow g3) n2 (fun z=>nf a z (hz a List.mem_cons_self)) fun b hb z=>nf b hb (hz b (List.mem_cons_of_mem _ z))
       refine dS.mut hh S (g2.trans g3) k3 eg h1 h2 List.mem_cons_self p1 p2 fun b hb=>?_
       rcases List.mem_cons.mp hb with rfl | hb
       ·exact .inl List.mem_cons_self
       ·exact (p3 b hb).imp_left fun z=>List.mem_cons_of_mem _ z
     ·rw [if_neg hc] at ek;cases ek
def aBk (d0:D) (k:Int) (x:D×Bool):Option D:=match d0 with
 | .lst true ds=>(ixN ds.length k).bind fun j=>(ds[j]?).bind fun dj=>(sX dj x).map fun d=>.lst true (ds.set j d)
 | _=>none
def iO (i:Nat) (h f:aS):aX:=fun ρ=>match h ρ with
 | .ok (.int k,_)=>(match f ρ with
  | .ok x=>(match (getD ρ i).bind fun d=>aBk d k x with | some d=>.next (putD ρ i d) | none=>.bad)
  | .exc _=>.bad | .bad=>.bad)
 | .ok _=>.bad | .exc _=>.bad | .bad=>.bad
theorem aH2 {ds:List D} {xs:List V} {fq:Y2} {a:Addr} {j:Nat} {dj:D} (r:aJ K F H ds xs fq) (n:(a::fq).Nodup) (w1:F a=none) (w2:H a=some (.lst xs)) (hdj:ds[j]?=some dj) :
  ∃vj fj,xs[j]?=some vj/\Own K F H dj vj fj/\(∀b∈fj,b∈fq)/\fj.Nodup/\∀(b:Addr) (ys:List V) (dj':D) (fj' fu:Y2),b∈fj->Own K F (upd H b (.lst ys)) dj' vj fj'->fj'.Nodup->(∀c∈fj',c∈fj\/c∈fu)->(∀c∈fu,c ∉ a::fq) ->
   ∃fq',Own K F (upd H b (.lst ys)) (.lst true (ds.set j dj')) (.ref a) (a::fq')/\(a::fq').Nodup/\∀c∈fq',c∈fq\/c∈fu:=by
 obtain ⟨na,nq⟩:=List.nodup_cons.mp n
 obtain ⟨vj,fj,q1,q2,q3,q5,q4⟩:=aJ.replace ds r nq hdj
 refine ⟨vj,fj,q1,q2,q3,q5,?_⟩
 ·intro b ys dj' fj' fu hb o nj k1 k2
  obtain ⟨fq',p1,p2,p3⟩:=q4 _ dj' vj fj' (fun c hc hn=>aZ fun z=>hn (z ▸ hb)) o
  have hx:xs.set j vj=xs:=by
   apply List.ext_getElem?
   intro m
   by_cases hm:j=m
   ·subst hm;rw [q1,List.getElem?_set_self (List.getElem?_eq_some_iff.mp q1).1]
   ·rw [List.getElem?_set_ne hm]
  rw [hx] at p1
  have hab:a ≠ b:=fun z=>na (q3 a (z ▸ hb))
  have k:∀c∈fq',c∈fq\/c∈fu:=fun c hc=>by
   rcases p2 c hc with q | q
   ·exact (k1 c q).imp_left (q3 c)
   ·exact .inl q.1
  refine ⟨fq',Own.closed p1 w1 (by rw [aZ hab];exact w2),List.nodup_cons.mpr ⟨fun z=>?_,p3 nj fun c hc=>(k1 c hc).imp_right fun q z=>k2 c q (List.mem_cons_of_mem _ z)⟩,k⟩
  rcases k a z with q | q
  ·exact na q
  ·exact k2 a q List.mem_cons_self
theorem aNb {α:Type} {xs:List α} {k:Int} {j:Nat} {v:α} (e:ixN xs.length k=some j) (h:xs[j]?=some v):atI xs k=some v:=by
 unfold atI;rw [e];exact h
theorem aCe {i:Nat} {h f:aS} (hh:sv K W (iO i h f) D' σ H):aB6 (tBM K "list" zN (tOp (aSp K) (aAf i) (tv K h)) (xQ (tv K f) aFx)) D' σ H:=by
 obtain ⟨ρ,F,fps,S,hh⟩:=hh
 unfold iO at hh
 cases eh:h ρ with
 | exc _=>rw [eh] at hh;exact hh.elim
 | bad=>rw [eh] at hh;exact hh.elim
 | ok y =>
  rw [eh] at hh
  obtain ⟨y,by'⟩:=y
  cases y<;>try exact hh.elim
  rename_i k
  dsimp only at hh
  cases ef:f ρ with
  | exc _=>rw [ef] at hh;exact hh.elim
  | bad=>rw [ef] at hh;exact hh.elim
  | ok x =>
   rw [ef] at hh
   dsimp only at hh
   cases eg:getD ρ i with
   | none=>rw [eg] at hh;exact hh.elim
   | some d0 =>
    rw [eg] at hh
    dsimp only [Option.bind] at hh
    cases ek:aBk d0 k x with
    | none=>rw [ek] at hh;exact hh.elim
    | some d1 =>
     rw [ek] at hh
     unfold aBk at ek
     split at ek<;>try cases ek
     rename_i ds
     cases ej:ixN ds.length k with
     | none=>rw [ej] at ek;cases ek
     | some j =>
      rw [ej] at ek
      dsimp only [Option.bind] at ek
      cases edj:ds[j]? with
      | none=>rw [edj] at ek;cases ek
      | some dj =>
       rw [edj] at ek
       dsimp only at ek
       cases ea:sX dj x with
       | none=>rw [ea] at ek;cases ek
       | some dn =>
        rw [ea] at ek;cases ek
        unfold sX at ea
        split at ea<;>try cases ea
        rename_i es
        by_cases hc:(aV x && decide (es.length<1000000))=true
        ·rw [if_pos hc] at ea;cases ea
         rw [Bool.and_eq_true,decide_eq_true_iff] at hc
         obtain ⟨v,fp,h1,h2,h3⟩:=S.get eg
         refine ⟨v,h1,ρ,F,fps,S,?_⟩
         rw [eh]
         intro w F2 H2 fw g2 o2 n2 k2
         unfold Own at o2
         obtain ⟨a,xs,fq,ev,r,w1,w2,w3⟩:=Own.opened (h3.grow g2)
         subst ev;subst w3
         have nfp:=S.sub h2
         have S2:=S.grow g2
         obtain ⟨vj,fj,q1,q2,q3,q5,q4⟩:=aH2 r nfp w1 w2 edj
         obtain ⟨b,ys,fr,eb,rb,b1,b2,b3⟩:=Own.opened q2
         subst eb;subst b3
         refine ⟨a,xs,k,.ref b,rfl,o2.1,SqL.of w2,aNb (by rw [<- aJ.length ds r];exact ej) q1,.inl ⟨rfl,ys,SqL.of b2⟩,ρ,F2,fps,S2,?_⟩
         rw [ef]
         intro u F3 H3 fu g3 o3 n3 k3
         have k3:=qY hc.1 o3 k3
         have nf:=S2.aCo k3
         have hz:∀c∈a::fq,c∈fps.flatten:=fun c hb=>List.mem_flatten.mpr ⟨_,List.mem_of_getElem? h2,hb⟩
         obtain ⟨vj',fj',p1,p2,p3,p5,p4⟩:=aH2 (r.grow g3) nfp ((S2.grow g3).zone1 h2 List.mem_cons_self) (g3.all _ _ w2) edj
         have evj:vj'=.ref b:=by rw [q1] at p1;exact (Option.some.inj p1).symm
         subst evj
         obtain ⟨b',ys',fr',eb',rb',b1',b2',b3'⟩:=Own.opened p2
         cases eb'
         subst b3'
         have eys:ys'=ys:=by
          have:=g3.all _ _ b2
          rw [b2'] at this
          cases this;rfl
         subst eys
         have nfj:=List.nodup_cons.mp p5
         have hb0:b∈fq:=p3 b List.mem_cons_self
         have hbu:b ∉ fu:=fun z=>nf b z (hz b (List.mem_cons_of_mem _ hb0))
         refine ⟨b,ys',u,rfl,rfl,b2',tS (by rw [<- aJ.length es rb'];exact hc.2),?_⟩
         have rb2:aJ K F3 (upd H3 b (.lst (ys' ++ [u]))) (es ++ [x.1]) (ys' ++ [u]) (fr'++fu):=aJ.append es (rb'.other nfj.1) (aJ.one (o3.other hbu))
         have hn:(b::(fr'++fu)).Nodup:=by
          refine List.nodup_cons.mpr ⟨fun z=>(List.mem_append.mp z).elim nfj.1 hbu,List.nodup_append.mpr ⟨nfj.2,n3,fun p hp q hq z=>?_⟩⟩
          subst z
          exact nf p hq (hz p (List.mem_cons_of_mem _ (p3 p (List.mem_cons_of_mem _ hp))))
         obtain ⟨fq',s1,s2,s3⟩:=p4 b (ys' ++ [u]) (.lst true (es ++ [x.1])) (b::(fr'++fu)) fu List.mem_cons_self (Own.closed rb2 b1' bN) hn (fun c hc=>by
          rcases List.mem_cons.mp hc with rfl | hc
          ·exact .inl List.mem_cons_self
          ·exact (List.mem_append.mp hc).imp_left fun z=>List.mem_cons_of_mem _ z) fun c hc z=>nf c hc (hz c z)
         refine dS.mut (fu:=fu) hh S (g2.trans g3) (fun c hc=>g2.all.free (k3 c hc)) eg h1 h2 (List.mem_cons_of_mem _ hb0) s1 s2 fun c hc=>?_
         rcases List.mem_cons.mp hc with rfl | hc
         ·exact .inl List.mem_cons_self
         ·exact (s3 c hc).imp_left fun z=>List.mem_cons_of_mem _ z
        ·rw [if_neg hc] at ea;cases ea
def frz1 (ρ:Env) (i:Nat):Env:=match getD ρ i with | some d=>putD ρ i d.frz | none=>ρ
def rZ (is:T0) (g:aX):aX:=fun ρ=>g (is.foldl frz1 ρ)
theorem Sim.frz1 {fps:Y5} (S:Sim K F H σ ρ fps) (i:Nat):∃F' fps',Sim K F' H σ (VL.frz1 ρ i) fps'/\Evo F H fps.flatten F' H fps'.flatten/\mL ρ (VL.frz1 ρ i):=by
 unfold VL.frz1
 cases e:getD ρ i with
 | none=>exact ⟨F,fps,S,.refl,mL.refl _⟩
 | some d =>
  obtain ⟨v,fp,h1,h2,h3⟩:=S.get e
  have hz:∀b∈fp,b∈fps.flatten:=fun b hb=>List.mem_flatten.mpr ⟨_,List.mem_of_getElem? h2,hb⟩
  have z:∀b∈fp,F b=none:=fun b hb=>(S.zone b (hz b hb)).1
  have hsub:∀b∈(fps.set i []).flatten,b∈fps.flatten/\b ∉ fp:=by
   intro b hb
   refine ⟨(bC hb).elim id (fun q=>by cases q),fun q=>?_⟩
   obtain ⟨l,hl,hbl⟩:=List.mem_flatten.mp hb
   obtain ⟨j,hj⟩:=List.mem_iff_getElem?.mp hl
   by_cases hij:i=j
   ·subst hij
    rw [List.getElem?_set_self (List.getElem?_eq_some_iff.mp h2).1] at hj;cases hj;cases hbl
   ·rw [List.getElem?_set_ne hij] at hj
    exact apart S.nd h2 hj hij q hbl
  refine ⟨fO F H fp,fps.set i [],⟨rD S.same,by rw [gY];exact S.ls,by rw [gY,List.length_set];exact S.lf,fun j s c e1 e2=>?_,dW S.nd h2 List.nodup_nil (fun b hb=>by cases hb),fun b hb=>?_⟩,⟨fV z,fun _ _ e _=>e,fun _ e=>e,fun b o e=>?_,fun b hb=>.inl (hsub b hb).1⟩,vY⟩
  ·rcases vG e1 e2 (by rw [e];rfl) with ⟨rfl,rfl⟩ | ⟨hj,e3⟩
   ·exact ⟨v,[],h1,List.getElem?_set_self (List.getElem?_eq_some_iff.mp h2).1,Own.freeze z d (fun a ha=>ha) h3⟩
   ·obtain ⟨w,f,q1,q2,q3⟩:=S.at_ j s c e3 e2
    refine ⟨w,f,q1,by rw [List.getElem?_set_ne hj];exact q2,Own.keep (fV z) c (fun a ha=>⟨?_,rfl⟩) q3⟩
    unfold fO
    rw [if_neg fun q=>apart S.nd h2 q2 hj q ha]
    exact (Own.zone c q3 a ha).1
  ·obtain ⟨q1,q2⟩:=hsub b hb
   refine ⟨?_,(S.zone b q1).2⟩
   unfold fO;rw [if_neg q2];exact (S.zone b q1).1
  ·unfold fO at e
   split at e
   ·rename_i hb;exact .inr (.inr (hz b hb))
   ·exact .inl e
theorem Sim.frzs (is:T0):∀ {ρ:Env} {F:Hp} {fps:Y5},Sim K F H σ ρ fps->∃F' fps',Sim K F' H σ (is.foldl VL.frz1 ρ) fps'/\Evo F H fps.flatten F' H fps'.flatten/\mL ρ (is.foldl VL.frz1 ρ):=by
 induction is with
 | nil=>intro ρ F fps S;exact ⟨F,fps,S,.refl,mL.refl _⟩
 | cons i is ih =>
  intro ρ F fps S
  obtain ⟨F1,fps1,S1,e1,p1⟩:=S.frz1 i
  obtain ⟨F2,fps2,S2,e2,p2⟩:=ih S1
  exact ⟨F2,fps2,S2,e1.trans e2,p1.trans p2⟩
theorem aQn {is:T0} {g:aX} (h:sv K W (rZ is g) D' σ H):sv K W g D' σ H:=by
 obtain ⟨ρ,F,fps,S,h⟩:=h
 obtain ⟨F1,fps1,S1,e1,p1⟩:=Sim.frzs is S
 exact ⟨_,F1,fps1,S1,cK.lift e1 p1.pins h⟩
def jN (i:Nat):aX:=fun ρ=>match ρ[i]? with
 | some (.val d)=>.ret d (ρ.set i .un) | some (.pin d)=>if d.calm then .ret d ρ else .bad | _=>.bad
theorem aMn {i:Nat} (h:sv K W (jN i) D' σ H):aRk (aAf i) D' σ H:=by
 obtain ⟨ρ,F,fps,S,h⟩:=h
 unfold jN at h
 cases e:ρ[i]? with
 | none=>rw [e] at h;exact h.elim
 | some s =>
  rw [e] at h
  cases s with
  | un=>exact h.elim
  | pin d =>
   have h:cK K W F H fps.flatten ρ σ D' (if d.calm=true then .ret d ρ else .bad):=h
   by_cases hc:d.calm=true
   ·rw [if_pos hc] at h
    obtain ⟨v,fp,h1,h2,h3⟩:=S.at_ i _ d e rfl
    have:=Own.eB d hc h3
    subst this
    exact ⟨v,h1,h v σ F H fps [] .refl S (fX.refl _ _) h3 List.nodup_nil fun b hb=>by cases hb⟩
   ·rw [if_neg hc] at h;exact h.elim
  | val d =>
   obtain ⟨v,fp,h1,h2,h3⟩:=S.at_ i _ d e rfl
   have hz:∀b∈fp,b∈fps.flatten:=fun b hb=>List.mem_flatten.mpr ⟨_,List.mem_of_getElem? h2,hb⟩
   have hlt:i < ρ.length:=(List.getElem?_eq_some_iff.mp e).1
   have hsub:∀b∈(fps.set i []).flatten,b∈fps.flatten/\b ∉ fp:=by
    intro b hb
    refine ⟨(bC hb).elim id (fun q=>by cases q),fun q=>?_⟩
    obtain ⟨l,hl,hbl⟩:=List.mem_flatten.mp hb
    obtain ⟨j,hj⟩:=List.mem_iff_getElem?.mp hl
    by_cases hij:i=j
    ·subst hij
     rw [List.getElem?_set_self (List.getElem?_eq_some_iff.mp h2).1] at hj;cases hj;cases hbl
    ·rw [List.getElem?_set_ne hij] at hj
     exact apart S.nd h2 hj hij q hbl
   refine ⟨v,h1,h v σ F H (fps.set i []) fp ⟨bB.refl _,fun _ _ e _=>e,fun _ e=>e,fun _ _ e=>.inl e,fun b hb=>.inl (hsub b hb).1⟩ ⟨S.same,by simp [S.ls],by simp [S.lf],fun j s c e1 e2=>?_,dW S.nd h2 List.nodup_nil (fun b hb=>by cases hb),fun b hb=>S.zone b (hsub b hb).1⟩ (fun j c e1=>?_) h3 (S.sub h2) fun b hb=>⟨fun q=>(hsub b q).2 hb,.inl (hz b hb)⟩⟩
   ·by_cases hij:i=j
    ·subst hij
     rw [List.getElem?_set_self hlt] at e1;cases e1;cases e2
    ·rw [List.getElem?_set_ne hij] at e1
     obtain ⟨w,f,q1,q2,q3⟩:=S.at_ j s c e1 e2
     exact ⟨w,f,q1,by rw [List.getElem?_set_ne hij];exact q2,q3⟩
   ·have hij:i ≠ j:=by rintro rfl;rw [e] at e1;cases e1
    exact ⟨⟨c,by rw [List.getElem?_set_ne hij];exact e1⟩,rfl⟩
def vB (i:Nat) (op:Int->Int->Int) (f:aS):aX:=fun ρ=>match getD ρ i with
 | some (.int a)=>(match f ρ with
  | .ok (.int b,_)=>if free ρ i then .next (ρ.set i (.val (.int (op a b)))) else .bad
  | .ok _=>.bad | .exc _=>.bad | .bad=>.bad)
 | _=>.bad
theorem aRv {i:Nat} {op:Int->Int->Int} {f:aS} (h:sv K W (vB i op f) D' σ H):aTv i (tv K f) (ipI op) D' σ H:=by
 obtain ⟨ρ,F,fps,S,h⟩:=h
 unfold vB at h
 cases eg:getD ρ i with
 | none=>rw [eg] at h;exact h.elim
 | some d =>
  rw [eg] at h
  cases d<;>try exact h.elim
  rename_i a
  obtain ⟨v,fp,h1,h2,h3⟩:=S.get eg
  unfold Own at h3
  refine ⟨v,h1,ρ,F,fps,S,?_⟩
  dsimp only at h
  cases ef:f ρ with
  | exc _=>rw [ef] at h;exact h.elim
  | bad=>rw [ef] at h;exact h.elim
  | ok y =>
   rw [ef] at h
   obtain ⟨y,by'⟩:=y
   cases y<;>try exact h.elim
   rename_i b
   intro u F1 H1 fu g1 o1 n1 k1
   unfold Own at o1
   refine ⟨a,b,h3.1,o1.1,?_⟩
   have h:cK K W F H fps.flatten ρ σ D' (if free ρ i=true then .next (ρ.set i (.val (.int (op a b)))) else .bad):=h
   by_cases hc:free ρ i=true
   ·rw [if_pos hc] at h
    have S1:=(S.grow g1).store (i:=i) (gH (K:=K) (F:=F1) (H:=H1) (d:=.int (op a b)) rfl) List.nodup_nil fun b hb=>by cases hb
    exact h _ F1 H1 _ (aEh (g1.evo (Z:=fps.flatten)) fun b hb=>by cases hb) S1 (qT hc)
   ·rw [if_neg hc] at h;exact h.elim
end
end VL
end
section
namespace VL
open PySem L2
section
variable {K:FG} {W:XW} {F H F' H' F1 H1:Hp} {Z Z' Z1:Y2} {σ σ1:St} {ρ ρ1:Env} {D':Ends}
abbrev Fn:=List D->R (D×List D)
def aCq (K:FG) (F H:Hp) (ds:List D) (vs:List V) (fps:Y5):Prop :=
 ds.length=vs.length/\fps.length=ds.length/\∀(i:Nat) (d:D),ds[i]?=some d->∃v fp,vs[i]?=some v/\fps[i]?=some fp/\Own K F H d v fp
def aTw (K:FG) (F H:Hp) (vs:List V) (Z:Y2) (Q:VK) (x:D×List D):Prop :=
 ∀r F' H' fps' fr,Evo F H Z F' H' fps'.flatten->bB F' H'->aCq K F' H' x.2 vs fps'->fps'.flatten.Nodup->Own K F' H' x.1 r fr->fr.Nodup->(∀b∈fr,b ∉ fps'.flatten/\(b∈Z\/H b=none))->Q r H'
def hZ (K:FG) (c:Str) (C:Addr):Prop:=PySem.W.nsIn K mainGlobals c=some (some (.ref C))
def FX (K:FG) (F H:Hp) (Z:Y2) (E:XK) (c:Str):Prop :=
 ∀F' H' Z',Evo F H Z F' H' Z'->bB F' H'->∀C,hZ K c C->E (.ref C) none H'
def wOf (K:FG) (E:XK):XW:=fun c _ H'=>∀C,hZ K c C->E (.ref C) none H'
def spV (K:FG) (n:Nat) (fn:Fn):Sp:=fun vs H Q E=>vs.length=n/\∃F ds fps,bB F H/\aCq K F H ds vs fps/\fps.flatten.Nodup/\(∀b∈fps.flatten,F b=none/\H b ≠ none)/\(fn ds).hx (aTw K F H vs fps.flatten Q) (FX K F H fps.flatten E)
def entry (n:Nat) (ds:List D):Env:=ds.map (fun d=>if d.calm then Slot.val d else .pin d)++List.replicate (n - ds.length) .un
def outs:List D->Env->List D
 | [],_=>[]
 | d::ds,s::ρ=>(if d.calm then d else match s with | .pin d'=>d' | _=>d)::outs ds ρ
 | d::ds,[]=>d::outs ds []
def fnOf (n:Nat) (body:aX):Fn:=fun ds=>match body (entry n ds) with
 | .ret d ρ'=>.ok (d,outs ds ρ') | .next ρ'=>.ok (.non,outs ds ρ') | .exc c _=>.exc c | _=>.bad
theorem vV:∀(ds:List D) (ρ:Env) (i:Nat) (d:D),(outs ds ρ)[i]?=some d->∃c,ds[i]?=some c/\d=(if c.calm then c else match ρ[i]? with | some (.pin d')=>d' | _=>c)
 | [],_,_,_,e=>by simp [outs] at e
 | c::ds,s::ρ,0,d,e=>by
  simp [outs] at e
  refine ⟨c,rfl,?_⟩
  subst e
  cases c.calm<;>cases s<;>rfl
 | c::ds,s::ρ,i+1,d,e=>by
  simp [outs] at e
  obtain ⟨c',h1,h2⟩:=vV ds ρ i d e
  exact ⟨c',by simpa using h1,by simpa using h2⟩
 | c::ds,[],0,d,e=>by
  simp [outs] at e
  refine ⟨c,rfl,?_⟩
  subst e
  cases c.calm<;>rfl
 | c::ds,[],i+1,d,e=>by
  simp [outs] at e
  obtain ⟨c',h1,h2⟩:=vV ds [] i d e
  exact ⟨c',by simpa using h1,by simpa using h2⟩
theorem qH:∀(ds:List D) (ρ:Env),(outs ds ρ).length=ds.length
 | [],_=>rfl
 | d::ds,s::ρ=>by simp [outs,qH ds ρ]
 | d::ds,[]=>by simp [outs,qH ds []]
theorem entry_get {n:Nat} {ds:List D} {i:Nat} {s:Slot} {d:D} (e:(entry n ds)[i]?=some s) (e2:s.d?=some d):ds[i]?=some d/\(s=if d.calm then Slot.val d else .pin d):=by
 unfold entry at e
 by_cases hi:i<ds.length
 ·rw [List.getElem?_append_left (by simpa using hi),List.getElem?_map] at e
  rw [List.getElem?_eq_getElem hi] at e ⊢
  have e:(if (ds[i]).calm=true then Slot.val ds[i] else .pin ds[i])=s:=Option.some.inj e
  subst e
  cases hc:(ds[i]).calm
  ·rw [hc] at e2;cases e2;exact ⟨rfl,by rw [hc]⟩
  ·rw [hc] at e2;cases e2;exact ⟨rfl,by rw [hc]⟩
 ·rw [List.getElem?_append_right (by simpa using hi),List.getElem?_replicate] at e
  split at e
  ·cases e;cases e2
  ·cases e
theorem aCq.sim {n:Nat} {N:List Str} {ds:List D} {vs:List V} {fps:Y5} (hN:N.length=n) (hn:vs.length<=n) (hs:bB F H) (o:aCq K F H ds vs fps) (nd:fps.flatten.Nodup) (zo:∀b∈fps.flatten,F b=none/\H b ≠ none) :
  Sim K F H (L2.start N vs) (entry n ds) (fps++List.replicate (n - ds.length) []):=by
 obtain ⟨l1,l2,h⟩:=o
 have hfl:(fps++List.replicate (n - ds.length) ([]:Y2)).flatten=fps.flatten:=by simp
 refine ⟨hs,?_,?_,fun i s d e1 e2=>?_,by rw [hfl];exact nd,fun b hb=>by rw [hfl] at hb;exact zo b hb⟩
 ·unfold L2.start entry;simp;omega
 ·unfold entry;simp;omega
 ·obtain ⟨e3,_⟩:=entry_get e1 e2
  obtain ⟨v,fp,q1,q2,q3⟩:=h i d e3
  have hi:i<vs.length:=(List.getElem?_eq_some_iff.mp q1).1
  refine ⟨v,fp,?_,?_,q3⟩
  ·unfold L2.start
   rw [List.getElem?_append_left (by simpa using hi),List.getElem?_map,q1];rfl
  ·rw [List.getElem?_append_left (by omega)];exact q2
theorem aJ3 {n:Nat} {N:List Str} {ds:List D} {vs:List V} {fps fps':Y5} {σ':St} {ρ':Env} (hn:vs.length<=n) (o:aCq K F H ds vs fps)
  (ev:Evo F H fps.flatten F' H' fps'.flatten) (S:Sim K F' H' σ' ρ' fps') (p:fX (entry n ds) (L2.start N vs) ρ' σ') :
  ∃fps2,aCq K F' H' (outs ds ρ') vs fps2/\fps2.flatten.Sublist fps'.flatten:=by
 obtain ⟨l1,l2,h⟩:=o
 have pick:∀(k:Nat),k<=ds.length->∃fps2:Y5,fps2.length=k/\fps2.flatten.Sublist (fps'.take k).flatten/\∀(i:Nat) (c:D),i<k->ds[i]?=some c->fps2[i]?=some (if c.calm then [] else (fps'[i]?).getD []):=by
  intro k
  induction k with
  | zero=>intro _;exact ⟨[],rfl,by simp,fun i c hi=>by omega⟩
  | succ k ih =>
   intro hk
   obtain ⟨f2,e1,e2,e3⟩:=ih (by omega)
   obtain ⟨c,hc⟩:∃c,ds[k]?=some c:=⟨ds[k],by simp⟩
   refine ⟨f2 ++ [if c.calm then [] else (fps'[k]?).getD []],by simp [e1],?_,fun i c' hi hc'=>?_⟩
   ·rw [List.flatten_append,List.take_add_one,List.flatten_append]
    refine List.Sublist.append e2 ?_
    cases hcc:c.calm
    ·cases q:fps'[k]?<;>simp
    ·simp
   ·by_cases hik:i<k
    ·rw [List.getElem?_append_left (by omega)];exact e3 i c' hik hc'
    ·have:i=k:=by omega
     subst this
     rw [hc] at hc';cases hc'
     rw [List.getElem?_append_right (by omega),e1];simp
 obtain ⟨f2,e1,e2,e3⟩:=pick ds.length (Nat.le_refl _)
 refine ⟨f2,⟨by rw [qH];exact l1,by rw [qH];exact e1,fun i d hd=>?_⟩,e2.trans ?_⟩
 ·obtain ⟨c,hc,hd2⟩:=vV ds ρ' i d hd
  obtain ⟨v,fp,q1,q2,q3⟩:=h i c hc
  have hi:i<ds.length:=(List.getElem?_eq_some_iff.mp hc).1
  refine ⟨v,_,q1,e3 i c hi hc,?_⟩
  cases hcc:c.calm with
  | true =>
   rw [hcc] at hd2
   simp only [if_true] at hd2 ⊢
   subst hd2
   have:=Own.eB d hcc q3
   subst this
   exact Own.keep ev.fr d (fun a ha=>by cases ha) q3
  | false =>
   rw [hcc] at hd2
   have en:(entry n ds)[i]?=some (.pin c):=by
    unfold entry
    rw [List.getElem?_append_left (by simpa using hi),List.getElem?_map,hc]
    show some (if c.calm=true then Slot.val c else .pin c)=_
    rw [hcc];rfl
   obtain ⟨⟨d',hp⟩,es⟩:=p i c en
   rw [hp] at hd2
   simp only [Bool.false_eq_true,if_false] at hd2 ⊢
   subst hd2
   obtain ⟨w,f,s1,s2,s3⟩:=S.at_ i _ d hp rfl
   rw [s2]
   have ew:(L2.start N vs)[i]?=some (some v):=by
    unfold L2.start
    have hiv:i<vs.length:=(List.getElem?_eq_some_iff.mp q1).1
    rw [List.getElem?_append_left (by simpa using hiv),List.getElem?_map,q1];rfl
   rw [es,ew] at s1
   cases s1
   exact s3
 ·have e:fps'.flatten=(fps'.take ds.length).flatten++(fps'.drop ds.length).flatten:=by rw [<- List.flatten_append,List.take_append_drop]
  rw [e];exact List.sublist_append_left _ _
theorem aOo {n:Nat} {N:List Str} {body:aX} {vs:List V} {k:Nat} {Q:VK} {E:XK} (hN:N.length=n) (hk:k<=n) (h:spV K k (fnOf n body) vs H Q E):sv K (wOf K E) body { nx:=fun _ H'=>Q .non H',rt:=Q } (L2.start N vs) H:=by
 obtain ⟨lk,F,ds,fps,hs,o,nd,zo,h⟩:=h
 have hn:vs.length<=n:=by omega
 have hfl:(fps++List.replicate (n - ds.length) ([]:Y2)).flatten=fps.flatten:=by simp
 refine ⟨entry n ds,F,_,o.sim hN hn hs nd zo,?_⟩
 rw [hfl]
 unfold fnOf at h
 cases e:body (entry n ds) with
 | next ρ' =>
  rw [e] at h
  intro σ' F' H' fps' ev S p
  obtain ⟨f2,o2,sb⟩:=aJ3 hn o ev S p
  have hz:∀b∈f2.flatten,b∈fps'.flatten:=fun b hb=>sb.subset hb
  exact h .non F' H' f2 [] ⟨ev.fr,ev.keep,ev.dom,ev.new,fun b hb=>ev.zone b (hz b hb)⟩ S.same o2 (sb.nodup S.nd) (gH rfl) List.nodup_nil fun b hb=>by cases hb
 | ret d ρ' =>
  rw [e] at h
  intro r σ' F' H' fps' fr ev S p od nr kr
  obtain ⟨f2,o2,sb⟩:=aJ3 hn o ev S p
  have hz:∀b∈f2.flatten,b∈fps'.flatten:=fun b hb=>sb.subset hb
  exact h r F' H' f2 fr ⟨ev.fr,ev.keep,ev.dom,ev.new,fun b hb=>ev.zone b (hz b hb)⟩ S.same o2 (sb.nodup S.nd) od nr fun b hb=>⟨fun z=>(kr b hb).1 (hz b z),(kr b hb).2⟩
 | brk _=>rw [e] at h;exact h.elim
 | cont _=>rw [e] at h;exact h.elim
 | exc c ρ' =>
  rw [e] at h
  exact fun σ' F' H' fps' ev S p=>h F' H' fps'.flatten ev S.same
 | bad=>rw [e] at h;exact h.elim
theorem Args.ice:∀(xs:List (D×Bool)) {vs:List V} {fa:Y2},Args K F H xs vs fa->∃U:Y2,(∀b∈U,F b=none)/\(xs.all aV=true->∀b∈U,b∈fa)/\∀U':Y2,(∀b∈U,b∈U')->(∀b∈U',F b=none)->aJ K (fO F H U') H (D.frzs (xs.map (·.1))) vs []
 | [],vs,fa,h=>by
  unfold Args at h
  refine ⟨[],by simp,by simp,fun U' _ _=>?_⟩
  rw [h.1];exact aJ.nil
 | x::xs,vs,fa,h=>by
  unfold Args at h
  obtain ⟨v,r,fp,f2,e,o,n,t,w⟩:=h
  obtain ⟨U,u1,u2,u3⟩:=Args.ice xs t
  refine ⟨fp++U,fun b hb=>(List.mem_append.mp hb).elim (fun z=>(Own.zone x.1 o b z).1) (u1 b),fun hk b hb=>?_,fun U' s1 s2=>?_⟩
  ·rw [List.all_cons,Bool.and_eq_true] at hk
   have k2:=u2 hk.2
   rcases w with ⟨_,w⟩ | ⟨e2,w⟩
   ·subst w
    exact (List.mem_append.mp hb).elim (fun z=>List.mem_append_left _ z) fun z=>List.mem_append_right _ (k2 b z)
   ·subst w
    have hc:x.1.calm=true:=by have:=hk.1;unfold aV at this;rw [e2] at this;exact this
    rw [Own.eB x.1 hc o] at hb
    exact k2 b hb
  ·rw [e,List.map_cons,D.frzs]
   have a:=Own.freeze s2 x.1 (fun b hb=>s1 b (List.mem_append_left _ hb)) o
   have b:=u3 U' (fun b hb=>s1 b (List.mem_append_right _ hb)) s2
   exact aJ.cons a b
theorem oU {ds:List D} {vs:List V} (o:aJ K F H ds vs []):aCq K F H ds vs (List.replicate ds.length []):=by
 refine ⟨aJ.length ds o,by simp,fun i d hd=>?_⟩
 obtain ⟨v,f,q1,q2,q3⟩:=aJ.get ds o hd
 have:f=[]:=List.sublist_nil.mp q3
 subst this
 exact ⟨v,[],q1,by rw [List.getElem?_replicate,if_pos (List.getElem?_eq_some_iff.mp hd).1],q2⟩
def isScal (d:D):Bool:=(jG d).isSome
def bD (fn:Fn) (g:dO):aS:=fun ρ=>(g ρ).bind fun xs=>(fn (D.frzs (xs.map (·.1)))).bind fun y=>if xs.all aV || isScal y.1 then .ok (y.1,true) else .bad
theorem aMk {fn:Fn} {g:dO} {n:Nat} {Q:VK} (hl:∀ρ xs,g ρ=.ok xs->xs.length=n) (h:tv K (bD fn g) σ H Q):aIb (spV K n fn) [] E0 (tvA K g) σ H Q:=by
 obtain ⟨ρ,F,fps,S,h⟩:=h
 unfold bD at h
 refine ⟨ρ,F,fps,S,?_⟩
 cases eg:g ρ with
 | exc _=>rw [eg] at h;exact h.elim
 | bad=>rw [eg] at h;exact h.elim
 | ok xs =>
  rw [eg] at h
  have h:=R.aN.mp h
  have h:=R.aN.mp (show ((fn (D.frzs (xs.map (·.1)))).bind _).holds _ from h)
  intro vs F1 H1 fa g1 a1 n1 k1
  obtain ⟨U,u1,u2,u3⟩:=Args.ice xs a1
  have o:=u3 U (fun b hb=>hb) u1
  have len:vs.length=n:=by rw [<- Args.length xs a1];exact hl ρ xs eg
  rw [List.append_nil]
  refine ⟨len,fO F1 H1 U,_,_,rD g1.inn,oU o,by simp,by simp,R.aPc (R.aM h fun y hy r F2 H2 fps2 fr ev hs2 o2 nd2 or nr kr=>?_)⟩
  have same:bB H1 H2:=fun b o e=>ev.keep b o e (by simp)
  by_cases hk:xs.all aV=true
  ·have hfa:=u2 hk
   rw [hk,Bool.true_or,if_pos rfl] at hy
   have gU:Grow F H (fO F1 H1 U) H1:=g1.frz (fun b hb=>k1 b (hfa b hb)) u1
   have g2:Grow (fO F1 H1 U) H1 F2 H2:=⟨ev.fr,same,hs2,fun b o e=>(ev.new b o e).elim .inl fun q=>q.elim .inr fun q=>by simp at q⟩
   refine hy r F2 H2 fr (gU.trans g2) or nr fun _ b hb=>?_
   rcases (kr b hb).2 with q | q
   ·simp at q
   ·exact g1.all.free q
  ·by_cases hsc:isScal y.1=true
   ·rw [hsc,Bool.or_true,if_pos rfl] at hy
    unfold isScal at hsc
    cases es:jG y.1 with
    | none=>rw [es] at hsc;cases hsc
    | some v =>
     obtain ⟨e1,e2⟩:=zG es or
     subst e1
     have gS:Grow F1 H1 F1 H2:=⟨bB.refl _,same,g1.inn.trans same,fun _ _ e=>.inl e⟩
     exact EPost.dU (g1.trans gS) hy es
   ·have:(xs.all aV || isScal y.1)=false:=by
     rw [Bool.eq_false_iff];intro z
     rcases Bool.or_eq_true _ _ ▸ z with z | z
     ·exact hk z
     ·exact hsc z
    rw [this] at hy;exact hy.elim
def wE (K:FG) (W:XW) (σ:St):XK:=fun v _ H'=>∃c C,v=.ref C/\hZ K c C/\W c σ H'
def aKy (sp:Sp) (E:St->XK) (t:TA):TE:=fun σ H Q=>t σ H fun vs H1=>sp (vs ++ []) H1 Q (E σ)
def gZ (fn:Fn) (g:dO):nS:=fun ρ=>match g ρ with
 | .ok xs=>(match fn (D.frzs (xs.map (·.1))) with
  | .ok y=>if xs.all aV || isScal y.1 then .ok (y.1,true,ρ) else .bad
  | .exc c=>.exc c | .bad=>.bad)
 | _=>.bad
theorem aMo {fn:Fn} {g:dO} {n:Nat} {Q:VK} (hl:∀ρ xs,g ρ=.ok xs->xs.length=n) (h:tx K W (gZ fn g) σ H Q):aKy (spV K n fn) (wE K W) (tvA K g) σ H Q:=by
 obtain ⟨ρ,F,fps,S,h⟩:=h
 unfold gZ at h
 refine ⟨ρ,F,fps,S,?_⟩
 cases eg:g ρ with
 | exc _=>rw [eg] at h;exact h.elim
 | bad=>rw [eg] at h;exact h.elim
 | ok xs =>
  rw [eg] at h
  dsimp only at h
  intro vs F1 H1 fa g1 a1 n1 k1
  obtain ⟨U,u1,u2,u3⟩:=Args.ice xs a1
  have o:=u3 U (fun b hb=>hb) u1
  have len:vs.length=n:=by rw [<- Args.length xs a1];exact hl ρ xs eg
  rw [List.append_nil]
  refine ⟨len,fO F1 H1 U,_,_,rD g1.inn,oU o,by simp,by simp,?_⟩
  cases ef:fn (D.frzs (xs.map (·.1))) with
  | bad=>rw [ef] at h;exact h.elim
  | exc c =>
   rw [ef] at h
   have h:dS K F H fps.flatten ρ σ (W c) ρ:=h
   intro F2 H2 Z2 ev hs2 C hC
   have same:bB H1 H2:=fun b o e=>ev.keep b o e (by simp)
   have gS:Grow F1 H1 F1 H2:=⟨bB.refl _,same,g1.inn.trans same,fun _ _ e=>.inl e⟩
   exact ⟨c,C,rfl,hC,h σ F1 H2 fps (g1.trans gS).evo (S.grow (g1.trans gS)) (fX.refl _ _)⟩
  | ok y =>
   rw [ef] at h
   have h:((if (xs.all aV || isScal y.1)=true then R.ok (y.1,true,ρ) else R.bad):R (D×Bool×Env)).hx (vJ K F H fps.flatten ρ σ Q) (fun c=>dS K F H fps.flatten ρ σ (W c) ρ):=h
   intro r F2 H2 fps2 fr ev hs2 o2 nd2 or nr kr
   have same:bB H1 H2:=fun b o e=>ev.keep b o e (by simp)
   by_cases hk:xs.all aV=true
   ·have hfa:=u2 hk
    rw [hk,Bool.true_or,if_pos rfl] at h
    have hy:vJ K F H fps.flatten ρ σ Q (y.1,true,ρ):=h
    have gU:Grow F H (fO F1 H1 U) H1:=g1.frz (fun b hb=>k1 b (hfa b hb)) u1
    have g2:Grow (fO F1 H1 U) H1 F2 H2:=⟨ev.fr,same,hs2,fun b o e=>(ev.new b o e).elim .inl fun q=>q.elim .inr fun q=>by simp at q⟩
    have g3:=gU.trans g2
    refine hy r F2 H2 fps fr g3.evo (S.grow g3) (mL.refl _) or nr fun _ b hb=>?_
    have hn:H b=none:=by
     rcases (kr b hb).2 with q | q
     ·simp at q
     ·exact g1.all.free q
    exact ⟨fun hz=>(S.zone b hz).2 hn,.inr hn⟩
   ·by_cases hsc:isScal y.1=true
    ·rw [hsc,Bool.or_true,if_pos rfl] at h
     have hy:vJ K F H fps.flatten ρ σ Q (y.1,true,ρ):=h
     unfold isScal at hsc
     cases es:jG y.1 with
     | none=>rw [es] at hsc;cases hsc
     | some v =>
      obtain ⟨e1,e2⟩:=zG es or
      subst e1
      have gS:Grow F1 H1 F1 H2:=⟨bB.refl _,same,g1.inn.trans same,fun _ _ e=>.inl e⟩
      exact hy _ F1 H2 fps [] (g1.trans gS).evo (S.grow (g1.trans gS)) (mL.refl _) (gH es) List.nodup_nil fun _ b hb=>by cases hb
    ·have:(xs.all aV || isScal y.1)=false:=by
      rw [Bool.eq_false_iff];intro z
      rcases Bool.or_eq_true _ _ ▸ z with z | z
      ·exact hk z
      ·exact hsc z
     rw [this] at h;exact h.elim
def pB:T0->TA
 | []=>aFx
 | i::is=>xQ (aAf i) (pB is)
def iU:T0->Env->Option (List D)
 | [],_=>some []
 | i::is,ρ=>(getD ρ i).bind fun d=>(iU is ρ).map (d::·)
def cQ:T0->List D->List D->Env->Env
 | i::is,c::cs,d::ds,ρ=>cQ is cs ds (if c.calm then ρ else putD ρ i d)
 | _,_,_,ρ=>ρ
def kC:T0->Bool
 | []=>true
 | i::is=>!is.contains i && kC is
def pQ (fn:Fn) (is:T0):nS:=fun ρ=>match iU is ρ with
 | some ds=>if kC is then (match fn ds with | .ok y=>.ok (y.1,true,cQ is ds y.2 ρ) | _=>.bad) else .bad
 | none=>.bad
theorem nodup_of_apart {L:Y5} (h1:∀(i:Nat) (f:Y2),L[i]?=some f->f.Nodup) (h2:∀(i j:Nat) (f g:Y2) (a:Addr),L[i]?=some f->L[j]?=some g->i ≠ j->a∈f->a ∉ g):L.flatten.Nodup:=by
 induction L with
 | nil=>simp
 | cons f r ih =>
  rw [List.flatten_cons]
  refine List.nodup_append.mpr ⟨h1 0 f rfl,ih (fun i g e=>h1 (i+1) g (by simpa using e)) (fun i j p q a e1 e2 ne=>h2 (i+1) (j+1) p q a (by simpa using e1) (by simpa using e2) (by omega)),fun a ha b hb z=>?_⟩
  subst z
  obtain ⟨l,hl,hal⟩:=List.mem_flatten.mp hb
  obtain ⟨j,hj⟩:=List.mem_iff_getElem?.mp hl
  exact h2 0 (j+1) f l a rfl (by simpa using hj) (by omega) ha hal
def fU:T0->List D->Y5->Y5->Y5
 | i::is,c::cs,f::fs,L=>fU is cs fs (if c.calm then L else L.set i f)
 | _,_,_,L=>L
theorem vH {i:Nat} {is:T0} (h:kC (i::is)=true):i ∉ is/\kC is=true:=by
 unfold kC at h
 rw [Bool.and_eq_true,Bool.not_eq_true'] at h
 refine ⟨fun z=>?_,h.2⟩
 have:=List.contains_iff_mem.mpr z
 rw [h.1] at this;cases this
theorem tX:∀(is:T0) {cs ds:List D} {ρ:Env} {j:Nat},j ∉ is->(cQ is cs ds ρ)[j]?=ρ[j]?
 | [],_,_,_,_,_=>by unfold cQ;rfl
 | i::is,[],_,_,_,_=>by unfold cQ;rfl
 | i::is,c::cs,[],_,_,_=>by unfold cQ;rfl
 | i::is,c::cs,d::ds,ρ,j,h=>by
  unfold cQ
  rw [tX is fun z=>h (List.mem_cons_of_mem _ z)]
  split
  ·rfl
  ·have hij:i ≠ j:=fun z=>h (by rw [z];exact List.mem_cons_self)
   unfold putD
   split
   ·rw [List.getElem?_set_ne hij]
   ·rw [List.getElem?_set_ne hij]
   ·rfl
theorem yF:∀(is:T0) {cs:List D} {fs L:Y5} {j:Nat},j ∉ is->(fU is cs fs L)[j]?=L[j]?
 | [],_,_,_,_,_=>by unfold fU;rfl
 | i::is,[],_,_,_,_=>by unfold fU;rfl
 | i::is,c::cs,[],_,_,_=>by unfold fU;rfl
 | i::is,c::cs,d::ds,ρ,j,h=>by
  unfold fU
  rw [yF is fun z=>h (List.mem_cons_of_mem _ z)]
  split
  ·rfl
  ·have hij:i ≠ j:=fun z=>h (by rw [z];exact List.mem_cons_self)
   rw [List.getElem?_set_ne hij]
theorem uH:∀(is:T0) {cs ds:List D} {ρ:Env},(cQ is cs ds ρ).length=ρ.length
 | [],_,_,_=>by unfold cQ;rfl
 | i::is,[],_,_=>by unfold cQ;rfl
 | i::is,c::cs,[],_=>by unfold cQ;rfl
 | i::is,c::cs,d::ds,ρ=>by
  unfold cQ
  rw [uH is]
  split
  ·rfl
  ·exact gY
theorem xY:∀(is:T0) {cs:List D} {fs L:Y5},(fU is cs fs L).length=L.length
 | [],_,_,_=>by unfold fU;rfl
 | i::is,[],_,_=>by unfold fU;rfl
 | i::is,c::cs,[],_=>by unfold fU;rfl
 | i::is,c::cs,d::ds,ρ=>by
  unfold fU
  rw [xY is]
  split
  ·rfl
  ·simp
theorem aBc:∀(is:T0) {cs ds:List D} {fs L:Y5} {ρ:Env} (j:Nat),kC is=true->cs.length=is.length->ds.length=is.length->fs.length=is.length->iU is ρ=some cs->L.length=ρ.length ->
  (∃(k:Nat) (c d:D) (f:Y2) (s:Slot),is[k]?=some j/\cs[k]?=some c/\c.calm=false/\ds[k]?=some d/\fs[k]?=some f/\ρ[j]?=some s/\(cQ is cs ds ρ)[j]?=some (match s with | .pin _=>.pin d | _=>.val d)/\(fU is cs fs L)[j]?=some f) \/
  ((∀(k:Nat) (c:D),is[k]?=some j->cs[k]?=some c->c.calm=true)/\(cQ is cs ds ρ)[j]?=ρ[j]?/\(fU is cs fs L)[j]?=L[j]?)
 | [],cs,ds,fs,L,ρ,j,_,_,_,_,_,_=>.inr ⟨fun k c e=>by simp at e,by unfold cQ;rfl,by unfold fU;rfl⟩
 | i::is,c::cs,d::ds,f::fs,L,ρ,j,hn,h1,h2,h3,hg,hl=>by
  obtain ⟨hi,hn2⟩:=vH hn
  unfold iU at hg
  cases eg:getD ρ i with
  | none=>rw [eg] at hg;cases hg
  | some c' =>
   rw [eg] at hg
   cases eg2:iU is ρ with
   | none=>rw [eg2] at hg;cases hg
   | some cs' =>
    rw [eg2] at hg
    have hg:some (c'::cs')=some (c::cs):=hg
    cases hg
    unfold cQ fU
    by_cases hj:i=j
    ·subst hj
     rw [tX is hi,yF is hi]
     cases hc:c.calm with
     | true =>
      refine .inr ⟨fun k b e1 e2=>?_,by simp,by simp⟩
      cases k with
      | zero=>simp at e2;subst e2;exact hc
      | succ k=>exact absurd (List.mem_of_getElem? (by simpa using e1)) hi
     | false =>
      obtain ⟨s,hs⟩:∃s,ρ[i]?=some s:=by
       unfold getD at eg
       cases q:ρ[i]? with
       | none=>rw [q] at eg;cases eg
       | some s=>exact ⟨s,rfl⟩
      have hlt:i < ρ.length:=(List.getElem?_eq_some_iff.mp hs).1
      refine .inl ⟨0,c,d,f,s,rfl,rfl,hc,rfl,rfl,hs,?_,?_⟩
      ·simp only [Bool.false_eq_true,if_false]
       unfold putD
       unfold getD at eg
       rw [hs] at eg ⊢
       cases s with
       | un=>cases eg
       | val _=>exact List.getElem?_set_self hlt
       | pin _=>exact List.getElem?_set_self hlt
      ·simp only [Bool.false_eq_true,if_false]
       exact List.getElem?_set_self (by omega)
    ·have st:∀(ρ2:Env) (L2:Y5),ρ2[j]?=ρ[j]?->L2[j]?=L[j]?->iU is ρ2=some cs->L2.length=ρ2.length ->
       ((∃(k:Nat) (c₁ d₁:D) (f₁:Y2) (s:Slot),(i::is)[k]?=some j/\(c::cs)[k]?=some c₁/\c₁.calm=false/\(d::ds)[k]?=some d₁/\(f::fs)[k]?=some f₁/\ρ[j]?=some s/\(cQ is cs ds ρ2)[j]?=some (match s with | .pin _=>.pin d₁ | _=>.val d₁)/\(fU is cs fs L2)[j]?=some f₁) \/
       ((∀(k:Nat) (c₁:D),(i::is)[k]?=some j->(c::cs)[k]?=some c₁->c₁.calm=true)/\(cQ is cs ds ρ2)[j]?=ρ[j]?/\(fU is cs fs L2)[j]?=L[j]?)):=by
      intro ρ2 L2 q1 q2 q3 q4
      rcases aBc is (L:=L2) (ds:=ds) (fs:=fs) j hn2 (by simpa using h1) (by simpa using h2) (by simpa using h3) q3 q4 with ⟨k,a1,a2,a3,a4,b1,b2,b3,b4,b5,b6,b7,b8⟩ | ⟨b1,b2,b3⟩
      ·exact .inl ⟨k+1,a1,a2,a3,a4,by simpa using b1,by simpa using b2,b3,by simpa using b4,by simpa using b5,q1 ▸ b6,b7,b8⟩
      ·refine .inr ⟨fun k a e1 e2=>?_,b2.trans q1,b3.trans q2⟩
       cases k with
       | zero=>simp at e1;exact absurd e1 hj
       | succ k=>exact b1 k a (by simpa using e1) (by simpa using e2)
     cases hc:c.calm with
     | true=>simpa only [if_true] using st ρ L rfl rfl eg2 hl
     | false =>
      simp only [Bool.false_eq_true,if_false]
      refine st _ _ ?_ (List.getElem?_set_ne hj) ?_ (by rw [gY,List.length_set];exact hl)
      ·unfold putD
       split
       ·rw [List.getElem?_set_ne hj]
       ·rw [List.getElem?_set_ne hj]
       ·rfl
      ·rw [<- eg2]
       exact getDs_put is hi
 | _::_,[],_,_,_,_,_,_,h,_,_,_,_=>by simp at h
 | _::_,_::_,[],_,_,_,_,_,_,h,_,_,_=>by simp at h
 | _::_,_::_,_::_,[],_,_,_,_,_,_,h,_,_=>by simp at h
where
 getDs_put:∀(is:T0) {ρ:Env} {i:Nat} {d:D},i ∉ is->iU is (putD ρ i d)=iU is ρ
 | [],_,_,_,_=>rfl
 | k::is,ρ,i,d,h=>by
  unfold iU
  rw [getDs_put is fun z=>h (List.mem_cons_of_mem _ z)]
  have hik:i ≠ k:=fun z=>h (by rw [z];exact List.mem_cons_self)
  have:getD (putD ρ i d) k=getD ρ k:=by
   unfold getD putD
   split
   ·rw [List.getElem?_set_ne hik]
   ·rw [List.getElem?_set_ne hik]
   ·rfl
  rw [this]
end
end VL
end
section
namespace VL
open PySem L2
section
variable {K:FG} {W:XW} {F H F' H' F1 H1:Hp} {Z Z' Z1:Y2} {σ σ1:St} {ρ ρ1:Env} {D':Ends}
theorem xU {fps:Y5} (S:Sim K F H σ ρ fps):∀(is:T0) {ds:List D},iU is ρ=some ds->∃vs:List V,(∀P:List V->Hp->Prop,P vs H->pB is σ H P)/\vs.length=is.length/\ds.length=is.length /\
  (∀(k:Nat) (d:D),ds[k]?=some d->∃i v fp,is[k]?=some i/\vs[k]?=some v/\σ[i]?=some (some v)/\fps[i]?=some fp/\Own K F H d v fp)
 | [],ds,e=>by
  unfold iU at e;cases e
  exact ⟨[],fun P h=>h,rfl,rfl,fun k d e=>by simp at e⟩
 | i::is,ds,e=>by
  unfold iU at e
  cases eg:getD ρ i with
  | none=>rw [eg] at e;cases e
  | some d =>
   rw [eg] at e
   cases eg2:iU is ρ with
   | none=>rw [eg2] at e;cases e
   | some ds2 =>
    rw [eg2] at e
    have e:some (d::ds2)=some ds:=e
    cases e
    obtain ⟨vs,h1,h2,h3,h4⟩:=xU S is eg2
    obtain ⟨v,fp,q1,q2,q3⟩:=S.get eg
    refine ⟨v::vs,fun P h=>⟨v,q1,h1 _ h⟩,by simp [h2],by simp [h3],fun k c ec=>?_⟩
    cases k with
    | zero=>simp at ec;subst ec;exact ⟨i,v,fp,rfl,rfl,q1,q2,q3⟩
    | succ k=>simpa using h4 k c (by simpa using ec)
theorem aH0 {fn:Fn} {is:T0} {n:Nat} {Q:VK} (hn:is.length=n) (h:tx K W (pQ fn is) σ H Q):aIb (spV K n fn) [] E0 (pB is) σ H Q:=by
 obtain ⟨ρ,F,fps,S,h⟩:=h
 unfold pQ at h
 cases eg:iU is ρ with
 | none=>rw [eg] at h;exact h.elim
 | some ds =>
  rw [eg] at h
  have h:(if kC is=true then (match fn ds with | .ok y=>R.ok (y.1,true,cQ is ds y.2 ρ) | _=>.bad) else R.bad).hx (vJ K F H fps.flatten ρ σ Q) (fun c=>dS K F H fps.flatten ρ σ (W c) ρ):=h
  by_cases hnd:kC is=true
  ·rw [if_pos hnd] at h
   have h:(fn ds).holds fun y=>vJ K F H fps.flatten ρ σ Q (y.1,true,cQ is ds y.2 ρ):=by
    cases ef:fn ds with
    | ok y=>rw [ef] at h;exact h
    | exc _=>rw [ef] at h;exact h.elim
    | bad=>rw [ef] at h;exact h.elim
   obtain ⟨vs,t1,l1,l2,g⟩:=xU S is eg
   refine t1 _ ?_
   show spV K n fn (vs ++ []) H Q E0
   rw [List.append_nil]
   let fc:Y5:=is.map fun i=>(fps[i]?).getD []
   have fcg:∀(k i:Nat),is[k]?=some i->fc[k]?=some ((fps[i]?).getD []):=fun k i e=>by
    show (is.map _)[k]?=_
    rw [List.getElem?_map,e];rfl
   have isget:∀(k:Nat) (f:Y2),fc[k]?=some f->∃i,is[k]?=some i/\f=(fps[i]?).getD []:=fun k f e=>by
    have e:(is.map fun i=>(fps[i]?).getD [])[k]?=some f:=e
    rw [List.getElem?_map] at e
    cases q:is[k]? with
    | none=>rw [q] at e;cases e
    | some i=>rw [q] at e;exact ⟨i,rfl,(Option.some.inj e).symm⟩
   have nodupget:∀(is:T0),kC is=true->∀(k k' i:Nat),is[k]?=some i->is[k']?=some i->k=k':=by
    intro is
    induction is with
    | nil=>intro _ k k' i e;simp at e
    | cons a r ih =>
     intro hn k k' i e1 e2
     obtain ⟨q1,q2⟩:=vH hn
     cases k with
     | zero =>
      simp at e1;subst e1
      cases k' with
      | zero=>rfl
      | succ k'=>exact absurd (List.mem_of_getElem? (by simpa using e2)) q1
     | succ k =>
      cases k' with
      | zero=>simp at e2;subst e2;exact absurd (List.mem_of_getElem? (by simpa using e1)) q1
      | succ k'=>rw [ih q2 k k' i (by simpa using e1) (by simpa using e2)]
   have infc:∀b∈fc.flatten,∃k i f,is[k]?=some i/\fps[i]?=some f/\b∈f:=fun b hb=>by
    obtain ⟨l,hl,hbl⟩:=List.mem_flatten.mp hb
    obtain ⟨k,hk⟩:=List.mem_iff_getElem?.mp hl
    obtain ⟨i,e1,e2⟩:=isget k l hk
    cases q:fps[i]? with
    | none=>rw [q] at e2;subst e2;cases hbl
    | some f=>rw [q] at e2;subst e2;exact ⟨k,i,_,e1,q,hbl⟩
   have sub:∀b∈fc.flatten,b∈fps.flatten:=fun b hb=>by
    obtain ⟨k,i,f,_,e,hb⟩:=infc b hb
    exact List.mem_flatten.mpr ⟨f,List.mem_of_getElem? e,hb⟩
   have fcn:fc.flatten.Nodup:=by
    refine nodup_of_apart (fun k f e=>?_) fun k k' f f' a e1 e2 ne ha=>?_
    ·obtain ⟨i,_,q⟩:=isget k f e
     cases q2:fps[i]? with
     | none=>rw [q2] at q;subst q;exact List.nodup_nil
     | some g=>rw [q2] at q;subst q;exact S.sub q2
    ·obtain ⟨i,p1,q1⟩:=isget k f e1
     obtain ⟨i',p2,q2⟩:=isget k' f' e2
     have ne2:i ≠ i':=fun z=>ne (nodupget is hnd k k' i p1 (by rw [z];exact p2))
     cases r1:fps[i]? with
     | none=>rw [r1] at q1;subst q1;cases ha
     | some g =>
      rw [r1] at q1;subst q1
      cases r2:fps[i']? with
      | none=>rw [r2] at q2;subst q2;intro z;cases z
      | some g'=>rw [r2] at q2;subst q2;exact apart S.nd r1 r2 ne2 ha
   refine ⟨by omega,F,ds,fc,S.same,⟨by omega,by show (is.map _).length=_;simp [l2],fun k d e=>?_⟩,fcn,fun b hb=>S.zone b (sub b hb),R.aPc (R.aM h fun y hy r F' H' fps' fr ev hs o2 nd2 or nr kr=>?_)⟩
   ·obtain ⟨i,v,fp,q1,q2,q3,q4,q5⟩:=g k d e
    exact ⟨v,fp,q2,by rw [fcg k i q1,q4];rfl,q5⟩
   ·have ly:y.2.length=is.length:=by rw [o2.1,l1]
    have lf':fps'.length=is.length:=by rw [o2.2.1,ly]
    have BG:=fun j=>aBc is (ds:=y.2) (fs:=fps') (L:=fps) j hnd l2 ly lf' eg S.lf
    have away:∀(j:Nat) (f:Y2) (a:Addr),(∀(k:Nat) (c:D),is[k]?=some j->ds[k]?=some c->c.calm=true)->fps[j]?=some f->a∈f->a ∉ fc.flatten:=fun j f a hc hf ha hz=>by
     obtain ⟨k,i,f',e1,e2,hb⟩:=infc a hz
     by_cases hij:i=j
     ·subst hij
      obtain ⟨c,ec⟩:∃c,ds[k]?=some c:=⟨ds[k]'(by rw [l2];exact (List.getElem?_eq_some_iff.mp e1).1),by simp⟩
      obtain ⟨i',v,fp,q1,q2,q3,q4,q5⟩:=g k c ec
      rw [e1] at q1;cases q1
      rw [hf] at q4;cases q4
      rw [Own.eB c (hc k c e1 ec) q5] at ha;cases ha
     ·exact apart S.nd e2 hf hij hb ha
    have still:∀(j:Nat) (f:Y2) (a:Addr),(∀(k:Nat) (c:D),is[k]?=some j->ds[k]?=some c->c.calm=true)->fps[j]?=some f->a∈f->F' a=none/\H' a=H a:=fun j f a hc hf ha=>by
     have hn:=away j f a hc hf ha
     obtain ⟨z1,z2⟩:=S.zone a (List.mem_flatten.mpr ⟨f,List.mem_of_getElem? hf,ha⟩)
     constructor
     ·cases q:F' a with
      | none=>rfl
      | some o =>
       rcases ev.new a o q with w | w | w
       ·rw [z1] at w;cases w
       ·exact absurd w z2
       ·exact absurd w hn
     ·cases q:H a with
      | none=>exact absurd q z2
      | some o=>exact ev.keep a o q hn
    have slotOf:∀(j:Nat) (f:Y2),(fU is ds fps' fps)[j]?=some f->(∃k,is[k]?=some j/\fps'[k]?=some f)\/((∀(k:Nat) (c:D),is[k]?=some j->ds[k]?=some c->c.calm=true)/\fps[j]?=some f):=fun j f e=>by
     rcases BG j with ⟨k,c,d,f',s,b1,b2,b3,b4,b5,b6,b7,b8⟩ | ⟨b1,b2,b3⟩
     ·rw [b8] at e;cases e;exact .inl ⟨k,b1,b5⟩
     ·rw [b3] at e;exact .inr ⟨b1,e⟩
    have inN:∀b∈(fU is ds fps' fps).flatten,b∈fps'.flatten\/∃(j:Nat) (f:Y2),(∀(k:Nat) (c:D),is[k]?=some j->ds[k]?=some c->c.calm=true)/\fps[j]?=some f/\b∈f:=fun b hb=>by
     obtain ⟨l,hl,hbl⟩:=List.mem_flatten.mp hb
     obtain ⟨j,hj⟩:=List.mem_iff_getElem?.mp hl
     rcases slotOf j l hj with ⟨k,_,q⟩ | ⟨q1,q2⟩
     ·exact .inl (List.mem_flatten.mpr ⟨l,List.mem_of_getElem? q,hbl⟩)
     ·exact .inr ⟨j,l,q1,q2,hbl⟩
    have cross:∀(j:Nat) (f:Y2) (a:Addr),(∀(k:Nat) (c:D),is[k]?=some j->ds[k]?=some c->c.calm=true)->fps[j]?=some f->a∈f->(a∈fc.flatten\/H a=none)->False:=fun j f a hc hf ha w=>by
     rcases w with w | w
     ·exact away j f a hc hf ha w
     ·exact (S.zone a (List.mem_flatten.mpr ⟨f,List.mem_of_getElem? hf,ha⟩)).2 w
    refine hy r F' H' (fU is ds fps' fps) fr ⟨ev.fr,fun b o e hb=>ev.keep b o e fun z=>hb (sub b z),ev.dom,fun b o e=>?_,fun b hb=>?_⟩ ⟨hs,by rw [uH];exact S.ls,by rw [xY,uH];exact S.lf,fun j s d e1 e2=>?_,nodup_of_apart (fun j f e=>?_) fun j j' f f' a e1 e2 ne ha=>?_,fun b hb=>?_⟩ (fun j d e=>?_) or nr fun _ b hb=>⟨fun z=>?_,(kr b hb).2.imp_left (sub b)⟩
    ·rcases ev.new b o e with w | w | w
     ·exact .inl w
     ·exact .inr (.inl w)
     ·exact .inr (.inr (sub b w))
    ·rcases inN b hb with w | ⟨j,f,_,w2,w3⟩
     ·exact (ev.zone b w).imp_left (sub b)
     ·exact .inl (List.mem_flatten.mpr ⟨f,List.mem_of_getElem? w2,w3⟩)
    ·rcases BG j with ⟨k,c,d',f',s',b1,b2,b3,b4,b5,b6,b7,b8⟩ | ⟨b1,b2,b3⟩
     ·have e1':(cQ is ds y.2 ρ)[j]?=some s:=e1
      rw [b7] at e1'
      have ed:d=d':=by
       have e1':=Option.some.inj e1'
       subst e1'
       cases s'<;>exact (Option.some.inj e2).symm
      subst ed
      obtain ⟨v,fp,q1,q2,q3⟩:=o2.2.2 k d b4
      rw [b5] at q2;cases q2
      obtain ⟨i',v',fp',p1,p2,p3,p4,p5⟩:=g k c b2
      rw [b1] at p1;cases p1
      rw [p2] at q1;cases q1
      exact ⟨_,_,p3,b8,q3⟩
     ·have e1':(cQ is ds y.2 ρ)[j]?=some s:=e1
      rw [b2] at e1'
      obtain ⟨v,f,q1,q2,q3⟩:=S.at_ j s d e1' e2
      exact ⟨v,f,q1,by rw [b3];exact q2,Own.keep ev.fr d (fun a ha=>still j f a b1 q2 ha) q3⟩
    ·rcases slotOf j f e with ⟨k,_,q⟩ | ⟨_,q⟩
     ·exact (List.sublist_flatten_of_mem (List.mem_of_getElem? q)).nodup nd2
     ·exact S.sub q
    ·rcases slotOf j f e1 with ⟨k,p,q⟩ | ⟨p,q⟩
     ·rcases slotOf j' f' e2 with ⟨k',p',q'⟩ | ⟨p',q'⟩
      ·have nk:k ≠ k':=fun z=>ne (by subst z;rw [p] at p';exact Option.some.inj p')
       exact apart nd2 q q' nk ha
      ·intro hb
       exact cross j' f' a p' q' hb (ev.zone a (List.mem_flatten.mpr ⟨f,List.mem_of_getElem? q,ha⟩))
     ·rcases slotOf j' f' e2 with ⟨k',p',q'⟩ | ⟨p',q'⟩
      ·intro hb
       exact cross j f a p q ha (ev.zone a (List.mem_flatten.mpr ⟨f',List.mem_of_getElem? q',hb⟩))
      ·exact apart S.nd q q' ne ha
    ·rcases inN b hb with w | ⟨j,f,w1,w2,w3⟩
     ·obtain ⟨l,hl,hbl⟩:=List.mem_flatten.mp w
      obtain ⟨k,hk⟩:=List.mem_iff_getElem?.mp hl
      obtain ⟨d,hd⟩:∃d,y.2[k]?=some d:=⟨y.2[k]'(by rw [<- o2.2.1];exact (List.getElem?_eq_some_iff.mp hk).1),by simp⟩
      obtain ⟨v,fp,q1,q2,q3⟩:=o2.2.2 k d hd
      rw [hk] at q2;cases q2
      obtain ⟨z1,xs,z2⟩:=Own.zone d q3 b hbl
      exact ⟨z1,by rw [z2];simp⟩
     ·obtain ⟨z1,z2⟩:=still j f b w1 w2 w3
      exact ⟨z1,by rw [z2];exact (S.zone b (List.mem_flatten.mpr ⟨f,List.mem_of_getElem? w2,w3⟩)).2⟩
    ·show ∃d',(cQ is ds y.2 ρ)[j]?=some (.pin d')
     rcases BG j with ⟨k,c,d',f',s',b1,b2,b3,b4,b5,b6,b7,b8⟩ | ⟨b1,b2,b3⟩
     ·rw [e] at b6;cases b6
      exact ⟨d',b7⟩
     ·exact ⟨d,by rw [b2];exact e⟩
    ·rcases inN b z with w | ⟨j,f,w1,w2,w3⟩
     ·exact (kr b hb).1 w
     ·exact cross j f b w1 w2 w3 (kr b hb).2
  ·rw [if_neg hnd] at h;exact h.elim
end
end VL
end
section
namespace VL
open PySem L2
section
variable {K:FG} {F H F' H' F1 H1:Hp} {σ:St} {Q:VK}
def aOc (K:FG):R2:=fun x y H Q=>∃l b xs zs,x=.ref l/\y=.ref b/\Rd H l (.lst xs)/\Rd H b (.lst zs)/\xs.length+zs.length<=sizeLine/\∀p,H p=none->Q (.ref p) (upd H p (.lst (xs++zs)))
def aSe:D×Bool->D×Bool->R (D×Bool):=fun x y=>match x.1,y.1 with
 | .lst _ ds,.lst _ es=>if D.bK ds && D.bK es && decide (ds.length+es.length<=1000000) then .ok (.lst true (ds++es),true) else .bad
 | _,_=>.bad
theorem EPost.aHi {F0 H0:Hp} {ds:List D} {xs:List V} {p:Addr} (g:Grow F0 H0 F H) (h:EPost K F0 H0 Q (.lst true ds,true)) (hp:H p=none) (o:aJ K F H ds xs []):Q (.ref p) (upd H p (.lst xs)) :=
 h (.ref p) F _ [p] (g.trans (Grow.one g.inn hp)) (aEp g.inn hp o) (by simp) fun _ b hb=>by
  have:b=p:=by simpa using hb
  subst this;exact g.all.free hp
theorem EPost.aX6 {F0 H0:Hp} {ds:List D} {xs:List V} {p:Addr} {b:Bool} (g:Grow F0 H0 F H) (h:EPost K F0 H0 Q (.tup ds,b)) (hp:H p=none) (o:aJ K F H ds xs []):Q (.ref p) (upd H p (.tup xs)):=by
 have g2:Grow F H (upd F p (.tup xs)) (upd H p (.tup xs)):=Grow.both g.inn hp
 refine h (.ref p) _ _ [] (g.trans g2) ?_ List.nodup_nil fun _ b hb=>by cases hb
 unfold Own
 exact ⟨rfl,p,xs,rfl,SqT.of bN,o.grow g2⟩
theorem aM0:Op2 K aSe (aOc K):=by
 intro F0 H0 F H x y v u fx fy Q gr o1 n1 k1 o2 n2 k2 h
 obtain ⟨x,bx⟩:=x
 obtain ⟨y,by'⟩:=y
 cases x<;>try exact h.elim
 cases y<;>try exact h.elim
 rename_i o ds o' es
 have h:(if (D.bK ds && D.bK es && decide (ds.length+es.length<=1000000))=true then R.ok (D.lst true (ds++es),true) else R.bad).holds (EPost K F0 H0 Q):=h
 by_cases hc:(D.bK ds && D.bK es && decide (ds.length+es.length<=1000000))=true
 ·rw [if_pos hc] at h
  simp only [Bool.and_eq_true,decide_eq_true_iff] at hc
  obtain ⟨a,xs,fq,e1,q1,r1,_⟩:=Own.aNw gr.inn o1
  obtain ⟨b,zs,fr,e2,q2,r2,_⟩:=Own.aNw gr.inn o2
  have:=aJ.eB ds hc.1.1 r1
  subst this
  have:=aJ.eB es hc.1.2 r2
  subst this
  refine ⟨a,b,xs,zs,e1,e2,q1,q2,?_,fun p hp=>EPost.aHi gr h hp (aJ.append ds r1 r2)⟩
  rw [<- aJ.length ds r1,<- aJ.length es r2];exact gO hc.2
 ·rw [if_neg hc] at h;exact h.elim
def aHq:D×Bool->D×Bool->R (D×Bool):=fun x y=>match x.1,y.1 with
 | .tup (d::ds),.tup es=>if decide (ds.length+1+es.length<=1000000) then .ok (.tup (d::ds++es),true) else .bad
 | _,_=>.bad
theorem aJo:Op2 K aHq (aN5 K):=by
 intro F0 H0 F H x y v u fx fy Q gr o1 n1 k1 o2 n2 k2 h
 obtain ⟨x,bx⟩:=x
 obtain ⟨y,by'⟩:=y
 cases x<;>try exact h.elim
 rename_i ds
 cases ds with
 | nil=>exact h.elim
 | cons d ds =>
  cases y<;>try exact h.elim
  rename_i es
  have h:(if decide (ds.length+1+es.length<=1000000)=true then R.ok (D.tup (d::ds++es),true) else R.bad).holds (EPost K F0 H0 Q):=h
  by_cases hc:decide (ds.length+1+es.length<=1000000)=true
  ·rw [if_pos hc] at h
   rw [decide_eq_true_iff] at hc
   obtain ⟨a,xs,e1,q1,r1,_⟩:=Own.tup gr.inn o1
   obtain ⟨b,zs,e2,q2,r2,_⟩:=Own.tup gr.inn o2
   have l1:=aJ.length _ r1
   have l2:=aJ.length _ r2
   refine ⟨a,b,xs,zs,e1,e2,q1,q2,fun z=>by rw [z] at l1;simp at l1,?_,fun z=>?_,fun _ p hp=>EPost.aX6 gr h hp (aJ.append _ r1 r2)⟩
   ·rw [<- l1,<- l2];exact gO (by simpa using hc)
   ·have:es=[]:=by rw [z] at l2;exact List.length_eq_zero_iff.mp l2
    subst this
    have h:EPost K F0 H0 Q (D.tup (d::ds ++ []),true):=h
    rw [List.append_nil] at h
    refine e1 ▸ h v F H [] gr ?_ List.nodup_nil fun _ b hb=>by cases hb
    obtain ⟨_,_,_,_,_,ef⟩:=Own.tup gr.inn o1
    rw [ef] at o1;exact o1
  ·rw [if_neg hc] at h;exact h.elim
theorem aJ.rep {ds:List D} {xs:List V} (o:aJ K F H ds xs []):∀k:Nat,aJ K F H (List.replicate k ds).flatten (List.replicate k xs).flatten []
 | 0=>aJ.nil
 | k+1=>by
  rw [List.replicate_succ,List.replicate_succ,List.flatten_cons,List.flatten_cons]
  exact aJ.append ds o (aJ.rep o k)
def cutD (xs:List D) (lo hi:Option Int):List D:=(xs.drop (HT.sIx xs.length 0 lo)).take (HT.sIx xs.length xs.length hi - HT.sIx xs.length 0 lo)
abbrev aBg:=Env->R (Option Int)
def aTq (F H:Hp) (Q:Option Int->Hp->Prop) (x:Option Int):Prop:=∀F' H',Grow F H F' H'->Q x H'
def tvO (K:FG) (f:aBg):TO:=fun σ H Q=>∃ρ F fps,Sim K F H σ ρ fps/\(f ρ).holds (aTq F H Q)
def kQ:aBg:=fun _=>.ok none
def sF (f:aS):aBg:=fun ρ=>(f ρ).bind fun x=>match x.1 with | .int i=>.ok (some i) | _=>.bad
theorem aIe {Q:Option Int->Hp->Prop} (h:tvO K kQ σ H Q):aEx σ H Q:=by
 obtain ⟨ρ,F,fps,S,h⟩:=h
 exact h F H (Grow.refl S.same)
theorem aL8 {f:aS} {Q:Option Int->Hp->Prop} (h:tvO K (sF f) σ H Q):aOd (tv K f) σ H Q:=by
 obtain ⟨ρ,F,fps,S,h⟩:=h
 refine ⟨ρ,F,fps,S,R.aM (R.aN.mp h) fun x hx v F1 H1 fx g1 o1 n1 k1=>?_⟩
 obtain ⟨x,b⟩:=x
 cases x<;>try exact hx.elim
 rename_i i
 unfold Own at o1
 exact ⟨i,o1.1,hx F1 H1 g1⟩
def kSl (x:D×Bool) (lo hi:Option Int):R (D×Bool):=match x.1 with
 | .lst _ ds=>if D.bK ds then .ok (.lst true (cutD ds lo hi),true) else .bad
 | _=>.bad
def vSl (f:aS) (lo hi:aBg):aS:=fun ρ=>(f ρ).bind fun x=>(lo ρ).bind fun l=>(hi ρ).bind fun u=>kSl x l u
theorem aJ.cut {ds:List D} {xs:List V} (o:aJ K F H ds xs []) (lo hi:Option Int):aJ K F H (cutD ds lo hi) (aG8 xs lo hi) []:=by
 have hl:=aJ.length ds o
 unfold cutD aG8
 rw [hl]
 refine aJ.of_get _ (by simp [hl]) fun i d v e1 e2=>?_
 rw [List.getElem?_take] at e1 e2
 split at e1
 ·rename_i h
  rw [if_pos h] at e2
  rw [List.getElem?_drop] at e1 e2
  exact aJ.aS0 o e1 e2
 ·cases e1
theorem aTd {f:aS} {lo hi:aBg} (h:tv K (vSl f lo hi) σ H Q):tSl (aUr K) (tv K f) (tvO K lo) (tvO K hi) σ H Q:=by
 obtain ⟨ρ,F,fps,S,h⟩:=h
 refine ⟨ρ,F,fps,S,R.aM (R.aN.mp h) fun x hx v F1 H1 fx g1 o1 n1 k1=>?_⟩
 refine ⟨ρ,F1,fps,S.grow g1,R.aM (R.aN.mp hx) fun l hl F2 H2 g2=>?_⟩
 refine ⟨ρ,F2,fps,(S.grow g1).grow g2,R.aM (R.aN.mp hl) fun u hu F3 H3 g3=>?_⟩
 obtain ⟨x,b⟩:=x
 cases x<;>try exact hu.elim
 rename_i o ds
 have hu:(if D.bK ds=true then R.ok (D.lst true (cutD ds l u),true) else R.bad).holds (EPost K F H Q):=hu
 by_cases hc:D.bK ds=true
 ·rw [if_pos hc] at hu
  have g:=(g1.trans g2).trans g3
  obtain ⟨a,xs,fq,e1,q1,r1,_⟩:=Own.lst g.inn (o1.grow (g2.trans g3))
  have:=aJ.eB ds hc r1
  subst this
  exact ⟨a,xs,e1,q1,fun p hp=>EPost.aHi g hu hp (aJ.cut r1 l u)⟩
 ·rw [if_neg hc] at hu;exact hu.elim
def dQ:D->Bool
 | .non=>true | _=>false
def iS (neg:Bool):D×Bool->D×Bool->R (D×Bool):=fun x y=>match y.1 with
 | .non=>.ok (.bl (if neg then !dQ x.1 else dQ x.1),true) | _=>.bad
theorem aCg {d:D} {v:V} {fp:Y2} (o:Own K F H d v fp):decide (v=.non)=dQ d:=by
 cases d<;>unfold Own at o
 ·rw [o.1];rfl
 ·rw [o.1];rfl
 ·rw [o.1];rfl
 ·rw [o.1];rfl
 ·obtain ⟨_,a,xs,e,_⟩:=o;rw [e];rfl
 ·obtain ⟨a,xs,fq,e,_⟩:=o;rw [e];rfl
 ·obtain ⟨a,u,e,_⟩:=o;rw [e];rfl
theorem aLt:Op2 K (iS false) (fun x y H Q=>y=.non/\Q (.bl (decide (x=.non))) H):=by
 intro F0 H0 F H x y v u fx fy Q gr o1 n1 k1 o2 n2 k2 h
 obtain ⟨y,by'⟩:=y
 cases y<;>try exact h.elim
 unfold Own at o2
 rw [aCg o1]
 exact ⟨o2.1,EPost.dU gr h rfl⟩
theorem aA1:Op2 K (iS true) (fun x y H Q=>y=.non/\Q (.bl (!decide (x=.non))) H):=by
 intro F0 H0 F H x y v u fx fy Q gr o1 n1 k1 o2 n2 k2 h
 obtain ⟨y,by'⟩:=y
 cases y<;>try exact h.elim
 unfold Own at o2
 rw [aCg o1]
 exact ⟨o2.1,EPost.dU gr h rfl⟩
def eN:List (D×Bool)->R (D×Bool)
 | [(.lst _ ds,_)]=>.ok (.int ds.length,true) | [(.tup ds,_)]=>.ok (.int ds.length,true) | _=>.bad
theorem aLv:OpA K eN (fun xs H Q=>∃p ys,xs=[.ref p]/\(SqL K H p ys\/SqT K H p ys)/\Q (.int ys.length) H):=by
 intro F0 H0 F H xs vs fa Q gr a n k h
 match xs,h,a with
 | [(.lst o ds,b)],h,a =>
  unfold Args at a
  obtain ⟨v,r,fp,f2,e,o1,n1,t,w⟩:=a
  unfold Args at t
  obtain ⟨p,ys,fq,e1,q1,r1,_⟩:=Own.lst gr.inn o1
  refine ⟨p,ys,by rw [e,t.1,e1],.inl q1,?_⟩
  rw [<- aJ.length ds r1];exact EPost.dU gr h rfl
 | [(.tup ds,b)],h,a =>
  unfold Args at a
  obtain ⟨v,r,fp,f2,e,o1,n1,t,w⟩:=a
  unfold Args at t
  obtain ⟨p,ys,e1,q1,r1,_⟩:=Own.tup gr.inn o1
  refine ⟨p,ys,by rw [e,t.1,e1],.inr q1,?_⟩
  rw [<- aJ.length ds r1];exact EPost.dU gr h rfl
def vT:List (D×Bool)->R (D×Bool)
 | [(.lst _ ds,_)]=>if D.bK ds then .ok (.lst true ds,true) else .bad | [(.tup ds,_)]=>.ok (.lst true ds,true) | _=>.bad
theorem aKv:OpA K vT (fun xs H Q=>∃p ys,xs=[.ref p]/\(SqL K H p ys\/SqT K H p ys)/\∀l,H l=none->Q (.ref l) (upd H l (.lst ys))):=by
 intro F0 H0 F H xs vs fa Q gr a n k h
 match xs,h,a with
 | [(.lst o ds,b)],h,a =>
  unfold Args at a
  obtain ⟨v,r,fp,f2,e,o1,n1,t,w⟩:=a
  unfold Args at t
  obtain ⟨p,ys,fq,e1,q1,r1,_⟩:=Own.lst gr.inn o1
  have h:(if D.bK ds=true then R.ok (D.lst true ds,true) else R.bad).holds (EPost K F0 H0 Q):=h
  by_cases hc:D.bK ds=true
  ·rw [if_pos hc] at h
   have:=aJ.eB ds hc r1
   subst this
   exact ⟨p,ys,by rw [e,t.1,e1],.inl q1,fun l hl=>EPost.aHi gr h hl r1⟩
  ·rw [if_neg hc] at h;exact h.elim
 | [(.tup ds,b)],h,a =>
  unfold Args at a
  obtain ⟨v,r,fp,f2,e,o1,n1,t,w⟩:=a
  unfold Args at t
  obtain ⟨p,ys,e1,q1,r1,_⟩:=Own.tup gr.inn o1
  exact ⟨p,ys,by rw [e,t.1,e1],.inr q1,fun l hl=>EPost.aHi gr h hl r1⟩
def eV:D->Bool
 | .non=>false | .bl b=>b | .int i=>i != 0 | .str _=>false | .tup ds=>!ds.isEmpty | .lst _ ds=>!ds.isEmpty | .ext _ _=>false
def cI:D->Bool
 | .str _=>false | .ext _ _=>false | _=>true
def fL (f:aS):cW:=fun ρ=>(f ρ).bind fun x=>if cI x.1 then .ok (eV x.1) else .bad
theorem aJ.empty {ds:List D} {xs:List V} {fp:Y2} (o:aJ K F H ds xs fp):ds.isEmpty=xs.isEmpty:=by
 have:=aJ.length ds o
 cases ds<;>cases xs<;>simp at this ⊢
theorem aM5 {f:aS} {Q:Bool->Hp->Prop} (h:tvT K (fL f) σ H Q):tv K f σ H fun x H'=>∃k,aRe K x H' k/\Q k H':=by
 obtain ⟨ρ,F,fps,S,h⟩:=h
 refine ⟨ρ,F,fps,S,R.aM (R.aN.mp h) fun x hx v F1 H1 fx g1 o1 n1 k1=>?_⟩
 obtain ⟨x,b⟩:=x
 cases x with
 | str z=>exact hx.elim
 | ext _ _=>exact hx.elim
 | non=>unfold Own at o1;rw [o1.1];exact ⟨false,rfl,hx F1 H1 g1⟩
 | bl b=>unfold Own at o1;rw [o1.1];exact ⟨b,rfl,hx F1 H1 g1⟩
 | int i=>unfold Own at o1;rw [o1.1];exact ⟨_,rfl,hx F1 H1 g1⟩
 | tup ds =>
  obtain ⟨a,xs,e1,q1,r1,_⟩:=Own.tup g1.inn o1
  rw [e1]
  exact ⟨!ds.isEmpty,.inr (.inl ⟨xs,q1,by rw [aJ.empty r1]⟩),hx F1 H1 g1⟩
 | lst o ds =>
  obtain ⟨a,xs,fq,e1,q1,r1,_⟩:=Own.lst g1.inn o1
  rw [e1]
  exact ⟨!ds.isEmpty,.inl ⟨xs,q1,by rw [aJ.empty r1]⟩,hx F1 H1 g1⟩
def rX (p q:Int->Int->Bool) (f g h:aS):aS:=fun ρ=>(f ρ).bind fun x=>(g ρ).bind fun y=>match x.1,y.1 with
 | .int i,.int j=>if p i j then (h ρ).bind fun z=>(match z.1 with | .int k=>.ok (.bl (q j k),true) | _=>.bad) else .ok (.bl false,true)
 | _,_=>.bad
theorem aKt {p q:Int->Int->Bool} {f g h:aS} (hh:tv K (rX p q f g h) σ H Q):aI1 (rI0 fun i j=>.bl (p i j)) (rI0 fun i j=>.bl (q i j)) (tv K f) (tv K g) (tv K h) σ H Q:=by
 obtain ⟨ρ,F,fps,S,hh⟩:=hh
 refine ⟨ρ,F,fps,S,R.aM (R.aN.mp hh) fun x hx v F1 H1 fx g1 o1 n1 k1=>?_⟩
 refine ⟨ρ,F1,fps,S.grow g1,R.aM (R.aN.mp hx) fun y hy u F2 H2 fy g2 o2 n2 k2=>?_⟩
 obtain ⟨x,bx⟩:=x
 obtain ⟨y,by'⟩:=y
 cases x<;>try exact hy.elim
 cases y<;>try exact hy.elim
 rename_i i j
 unfold Own at o1 o2
 refine ⟨i,j,o1.1,o2.1,p i j,rfl,?_⟩
 have hy:(if p i j=true then (h ρ).bind fun z=>(match z.1 with | .int k=>R.ok (D.bl (q j k),true) | _=>.bad) else .ok (.bl false,true)).holds (EPost K F H Q):=hy
 by_cases hc:p i j=true
 ·rw [if_pos hc] at hy ⊢
  refine ⟨ρ,F2,fps,(S.grow g1).grow g2,R.aM (R.aN.mp hy) fun z hz w F3 H3 fz g3 o3 n3 k3=>?_⟩
  obtain ⟨z,bz⟩:=z
  cases z<;>try exact hz.elim
  rename_i k
  unfold Own at o3
  exact ⟨j,k,o2.1,o3.1,EPost.dU ((g1.trans g2).trans g3) hz rfl⟩
 ·rw [if_neg hc] at hy ⊢
  exact EPost.dU (g1.trans g2) hy rfl
end
end VL
end
section
namespace VL
open PySem PySem.Spec PyProof.Rows L2
def CX1 (P:Program) (w:World):CXT:=fun outer H s E v s'=>∃e C H' B a0,v=.ref e/\s'.os=s.os/\AllBare s'.gens/\Un (frs outer) [] H H' s.heap s'.heap/\HOk P w H' s'.heap/\Heap.FlyingW B outer e (.ref C) a0 s'.heap /\
 (∀b o,s.heap.get? b=some o->b ∉ frs outer->∃o',B.get? b=some o')/\(∀b u,H' b=some u->∃o',B.get? b=some o')/\E (.ref C) none H'
section
variable {P:Program} {w:World} {H H':Hp} {h h0 h1 h2 B:Heap} {fs:Y2}
theorem cV.there {a:Addr} {o:HO} (x:cV P w H h a o):∃ob,h.get? a=some ob:=by
 cases o with
 | lst xs=>obtain ⟨_,_,_,_,e⟩:=x;exact ⟨_,e⟩
 | tup xs=>obtain ⟨_,_,_,o,e,_⟩:=x;exact ⟨_,e⟩
 | dK kvs=>obtain ⟨_,_,_,_,o,_,_,e,_⟩:=x;exact ⟨_,e⟩
 | dT kvs=>obtain ⟨_,_,_,_,o,_,_,e,_⟩:=x;exact ⟨_,e⟩
 | set S n=>obtain ⟨o,_,_,_,e,_⟩:=x;exact ⟨_,e⟩
 | ins C dx fs=>obtain ⟨_,_,_,e,_⟩:=x;exact ⟨_,e⟩
 | own y=>obtain ⟨_,e⟩:=x;exact ⟨_,e⟩
 | xd fs=>obtain ⟨_,⟨_,_,_,e,_⟩,_⟩:=x;exact ⟨_,e⟩
 | rng lo hi=>obtain ⟨_,_,_,e⟩:=x;exact ⟨_,e⟩
 | frz ob u=>obtain ⟨e,_⟩:=x;exact ⟨_,e⟩
 | tbl ps=>exact ⟨_,(show h.get? a=some _ from x)⟩
 | met f y=>exact ⟨_,(show h.get? a=some _ from x)⟩
 | ext φ=>obtain ⟨_,⟨_,e⟩,_⟩:=x;exact ⟨_,e⟩
theorem aDp (U:Un fs [] H H' h0 h1) (hok:HOk P w H' h1) (hS:B.StaysIn h1) (hT:B.StaysIn h2) (hin:∀b o,h0.get? b=some o->b ∉ fs->∃o',B.get? b=some o') (trk:∀b u,H' b=some u->∃o',B.get? b=some o')
  (up:h1.UpToSlots h2) (fr:∀b o,h0.get? b=some o->b∈fs->H b=none/\∀vs,o.data ≠ .fields vs):Un fs [] H H' h0 h2/\HOk P w H' h2:=by
 have inn:∀b o,(∃o',B.get? b=some o')->h1.get? b=some o->h2.get? b=some o:=fun b o ⟨o',q⟩ e=>by
  have z:=hS b o' q
  rw [e] at z;cases z
  exact hT b _ q
 have sl:∀b o,h0.get? b=some o->H b=none->b∈fs->∃sl,h2.get? b=some { o with slots:=sl }:=fun b o e n hb=>by
  obtain ⟨sl,q⟩:=U.slot b o e n hb (by simp)
  obtain ⟨sl',q'⟩:=up b _ q (fr b o e hb).2
  exact ⟨sl',q'⟩
 refine ⟨⟨fun b o e n hb hx=>inn b o (hin b o e hb) (U.keep b o e n hb hx),fun b o e n hb _=>sl b o e n hb,U.free,fun b o e hx=>?_,U.tups,U.frzs,U.tbls⟩,fun a o e=>?_⟩
 ·by_cases hb:b∈fs
  ·obtain ⟨s',q⟩:=sl b o e (fr b o e hb).1 hb
   exact ⟨_,q⟩
  ·obtain ⟨o',q⟩:=hin b o e hb
   exact ⟨o',hT b o' q⟩
 ·refine (hok a o e).stay (fun b u hb q=>inn b u ?_ q) (fun _ q=>q) fun _ _ q=>q
  rcases hb with rfl | hb
  ·exact trk _ _ e
  ·exact trk _ _ hb
end
section
variable {X:Cx} {pins:Y8} {σ:L2.St} {H H':Hp} {s s':Shared} {W:XW}
theorem aPn (I:L2.Inv X pins σ H s):∀b o,s.heap.get? b=some o->b∈frs X.stack->H b=none/\∀vs,o.data ≠ .fields vs:=fun b o e hb=>by
 obtain ⟨_,o',e',d⟩:=I.stack.mem hb
 rw [e] at e';cases e'
 exact ⟨I.tU b hb,d⟩
theorem aOp (I:L2.Inv X pins σ H s):∀b o,X.s₀.heap.get? b=some o->b∈X.fs->X.H₀ b=none/\∀vs,o.data ≠ .fields vs:=fun b o e hb=>by
 obtain ⟨_,o',e',d⟩:=I.ok.funs.mem hb
 rw [e] at e';cases e'
 exact ⟨I.ok.frf b hb,d⟩
theorem aN1 (I:L2.Inv X pins σ H s) {b:Addr} {o:Obj} (e:X.s₀.heap.get? b=some o) (hb:b ∉ X.fs):b ∉ frs X.stack:=fun z=>by
 rcases List.mem_cons.mp (I.aAx b z) with z | z
 ·exact absurd (Nat.lt_of_lt_of_le (Heap.lt_size e) I.ok.above) (by rw [z];exact Nat.lt_irrefl _)
 ·exact hb z
structure Lk (X:Cx) (W:XW):Prop where
 call:∀(pins:Y8) (σ:L2.St) (H:Hp) (s:Shared) (v:Value) (s':Shared),L2.Inv X pins σ H s->CX1 X.prog X.w X.stack H s (wE X.K W σ) v s'->X.xe v s'
 own:PassesOwn (model X.prog X.w) X.A X.env X.xe
structure LkF (X:Cx) (W:XW):Prop where
 fresh:∀(pins:Y8) (σ:L2.St) (H:Hp) (s:Shared) (h':Heap) (e C:Addr) (c:Str) (args:Y1),L2.Inv X pins σ H s->hZ X.K c C->Heap.MadeExcOf s.heap h' e (.ref C) args->W c σ H->X.xe (.ref e) { s with heap:=h' }
end
section
variable {P:Program} {w:World} {K:FG} {mg:Y6} {base:Heap} {N:List Str} {qual:Str} {scope:Scope} {f:Addr} {cd:Value} {A:Around} {outer:List PySem.Env} {s0:Shared} {H0:Hp} {E:XK}
theorem rN:LkF (fK (CX1 P w) P w K mg base N qual scope f cd A outer s0 H0 E) (wOf K E):=by
 refine ⟨fun pins σ H s h' e C c args I hC hx hW=>?_⟩
 have hin:∀env∈(fK (CX1 P w) P w K mg base N qual scope f cd A outer s0 H0 E).stack,∀b,env.frame=some b->b∈frs (fK (CX1 P w) P w K mg base N qual scope f cd A outer s0 H0 E).stack:=fun env he b hb=>List.mem_filterMap.mpr ⟨env,he,hb⟩
 show wpAny _ _ (leaving _ (.ref e)) _ _ _
 refine wpAny_leaves_madeW (base:=PySem.W.hideAll s.heap (frs (fK (CX1 P w) P w K mg base N qual scope f cd A outer s0 H0 E).stack)) (h:=s.heap) (L:=s0.heap.objs.size) I.ok.frames rfl (fun b o q=>PySem.W.of_hideAll _ q) (PySem.W.funFrames_hide I.stack hin) hx fun h2 t x1 x2 x3 x4=>?_
 have up:s.heap.UpToSlots h2:=(Heap.UpToSlots.of_keeps hx.keeps).trans x4
 have hin2:∀b o,s0.heap.get? b=some o->b ∉ frs outer->∃o',(PySem.W.hideAll s.heap (frs (fK (CX1 P w) P w K mg base N qual scope f cd A outer s0 H0 E).stack)).get? b=some o':=fun b o q n=>by
  obtain ⟨o',e'⟩:=I.base.there b o q (by intro z;exact absurd (show b∈([]:Y2) from z) (by simp))
  exact ⟨o',PySem.W.hideAll_get _ e' (aN1 I q n)⟩
 have trk:∀b u,H b=some u->∃o',(PySem.W.hideAll s.heap (frs (fK (CX1 P w) P w K mg base N qual scope f cd A outer s0 H0 E).stack)).get? b=some o':=fun b u q=>by
  obtain ⟨ob,e'⟩:=cV.there (I.hok b u q)
  exact ⟨ob,PySem.W.hideAll_get _ e' fun z=>by rw [I.tU b z] at q;cases q⟩
 obtain ⟨u,ok⟩:=aDp (fs:=frs outer) (H:=H0) (h0:=s0.heap) I.base I.hok (fun b o q=>PySem.W.of_hideAll _ q) x1.1 hin2 trk up (aOp I)
 exact ⟨e,C,H,_,_,rfl,I.os,I.bare,u,ok,x1,hin2,trk,hW C hC⟩
theorem dE:Lk (fK (CX1 P w) P w K mg base N qual scope f cd A outer s0 H0 E) (wOf K E):=by
 refine ⟨fun pins σ H s v s' I h=>?_,PassesOwn.leaving⟩
 obtain ⟨e,C,H',B,a0,rfl,os,bare,un,hok,fl,inB,trk,hE⟩:=h
 obtain ⟨c,C',eC,hC,hW⟩:=hE
 cases eC
 have I':L2.Inv (fK (CX1 P w) P w K mg base N qual scope f cd A outer s0 H0 E) pins σ H' s':=I.aCm (ch:=[]) os un hok bare (fun b z=>absurd z (by simp))
 show wpAny _ _ (leaving _ (.ref e)) _ _ _
 refine wpAny_leaves_onW (L:=s0.heap.objs.size) I.ok.frames rfl fl fun h2 x1 x2=>?_
 have hin2:∀b o,s0.heap.get? b=some o->b ∉ frs outer->∃o',B.get? b=some o':=fun b o q n=>by
  obtain ⟨o',e'⟩:=I.base.there b o q (by intro z;exact absurd (show b∈([]:Y2) from z) (by simp))
  exact inB b o' e' (aN1 I q n)
 obtain ⟨u,ok⟩:=aDp (fs:=frs outer) (H:=H0) (h0:=s0.heap) I'.base I'.hok fl.1 x1.1 hin2 trk x2 (aOp I)
 exact ⟨e,C,H',B,a0,rfl,I'.os,bare,u,ok,x1,hin2,trk,hW C hC⟩
end
end VL
end
section
namespace VL
open PySem PySem.Spec PyProof.Rows L2
abbrev SE (X:Cx) (e:Expr) (f:aS):Prop:=PE X e (tv X.K f)
abbrev ST (X:Cx) (e:Expr) (f:cW):Prop:=PT X e (tvT X.K f)
abbrev SW (X:Cx) (e:Expr) (f:cW):Prop:=PW X e (tvT X.K f)
abbrev SA (X:Cx) (es:List Expr) (f:dO):Prop:=PA X es (tvA X.K f)
abbrev SO (X:Cx) (e:Option Expr) (f:aBg):Prop:=PO X e (tvO X.K f)
abbrev SI (X:Cx) (tg it:Expr) (f:kR):Prop:=PI X tg it (iv X.K f)
abbrev SX (X:Cx) (W:XW) (e:Expr) (f:nS):Prop:=PE X e (tx X.K W f)
abbrev SS (X:Cx) (W:XW) (st:Stmt) (g:aX):Prop:=PS X st (sv X.K W g)
abbrev SSs (X:Cx) (W:XW) (st:List Stmt) (g:aX):Prop:=PSs X st (sv X.K W g)
section
variable {X:Cx} {W:XW} {e a b c:Expr} {es:List Expr} {st:Stmt} {sts:List Stmt} {pos:Pos}
theorem _root_.L2.PE.imp {t t':TE} (h:PE X e t) (k:∀σ H Q,t' σ H Q->t σ H Q):PE X e t':=fun pins s σ H Q I q=>h pins s σ H Q I (k σ H Q q)
theorem _root_.L2.PT.imp {t t':TT} (h:PT X e t) (k:∀σ H Q,t' σ H Q->t σ H Q):PT X e t':=fun pins s σ H Q I q=>h pins s σ H Q I (k σ H Q q)
theorem _root_.L2.PW.imp {t t':TT} (h:PW X e t) (k:∀σ H Q,t' σ H Q->t σ H Q):PW X e t':=fun w pins s σ H Q I q=>h w pins s σ H Q I (k σ H Q q)
theorem _root_.L2.PA.imp {t t':TA} (h:PA X es t) (k:∀σ H Q,t' σ H Q->t σ H Q):PA X es t':=fun p pins s σ H Q I q=>h p pins s σ H Q I (k σ H Q q)
theorem _root_.L2.PO.imp {o:Option Expr} {t t':TO} (h:PO X o t) (k:∀σ H Q,t' σ H Q->t σ H Q):PO X o t':=fun pins s σ H Q I q=>h pins s σ H Q I (k σ H Q q)
theorem _root_.L2.PI.imp {tg it:Expr} {t t':TI} (h:PI X tg it t) (k:∀σ H Q,t' σ H Q->t σ H Q):PI X tg it t':=fun pins s σ H Q I q=>h pins s σ H Q I (k σ H Q q)
theorem _root_.L2.PS.imp {t t':TS} (h:PS X st t) (k:∀D σ H,t' D σ H->t D σ H):PS X st t':=fun pins s σ H D I q=>h pins s σ H D I (k D σ H q)
theorem _root_.L2.PSs.imp {t t':TS} (h:PSs X sts t) (k:∀D σ H,t' D σ H->t D σ H):PSs X sts t':=fun pins s σ H D I q=>h pins s σ H D I (k D σ H q)
theorem aA (i:Nat) {x:Str} (hN:X.N[i]?=some x:=by rfl) (hv:Vis X.env.scope x:=by first | exact Or.inl rfl | exact Or.inr (Or.inl rfl) | exact Or.inr (Or.inr rfl)) (hd:(x == ("__debug__" : Str))=false:=by decide)
  (hcd:(x == ("__classdict__" : Str))=false:=by decide):SE X (.Name x pos) (aD i):=(nG hN hv hd hcd).imp fun _ _ _ h=>aQs h
theorem aC {i j}:SE X (.Constant (.int i) j pos) (vC (.int i)):=aSg.imp fun _ _ _ h=>aNh rfl h
theorem eY {i j}:SE X (.Constant (.bool i) j pos) (vC (.bl i)):=aUa.imp fun _ _ _ h=>aNh rfl h
theorem cZ {j}:SE X (.Constant .none j pos) (vC .non):=aQk.imp fun _ _ _ h=>aNh rfl h
theorem aM1 {x:Str} {i:Int} {t:Tok} (hm:X.mg x=some (.int i t)) (hg:Gl X x:=by rfl) (hd:(x == ("__debug__" : Str))=false:=by decide):SE X (.Name x pos) (vC (.int i)) :=
 (tI (v:=.int i) hg hm ⟨t,rfl⟩ hd).imp fun _ _ _ h=>aNh rfl h
theorem aBa {op:Operator} {k:D×Bool->D×Bool->R (D×Bool)} {r:R2} {f g:aS} (ho:OpR X (binaryOp op) r) (hk:Op2 X.K k r) (ha:SE X a f) (hb:SE X b g):SE X (.BinOp a op b pos) (v2 k f g) :=
 (aUb ho ha hb).imp fun _ _ _ h=>aE6 hk h
abbrev aVt:=kI fun i j=>.int (i+j)
abbrev sW:=kI fun i j=>.int (i - j)
abbrev gG:=kIc (fun _ j=>decide (0<j)) fun i j=>.int (i % j)
theorem kF {f g:aS} (ha:SE X a f) (hb:SE X b g):SE X (.BinOp a .Sub b pos) (v2 sW f g):=aBa aSk (aFe fun _ _=>rfl) ha hb
theorem cO {f g:aS} (ha:SE X a f) (hb:SE X b g):SE X (.BinOp a .Mod b pos) (v2 gG f g):=aBa aR5 (aDy (fun _ _=>rfl) fun i j h=>by
 rw [decide_eq_true_iff] at h;exact h) ha hb
theorem aNg:OpR X (binaryOp .Add) (aOc X.K):=by
 intro pins s σ H x y v u Q I rx ry h
 obtain ⟨l,b,xs,zs,rfl,rfl,hH,hB,hz,q⟩:=h
 cases rx
 cases ry
 obtain ⟨z,its,n,r,e⟩:=hH.ok I.hok
 obtain ⟨z2,its2,n2,r2,e2⟩:=hB.ok I.hok
 have hl:=r.length
 have hl2:=r2.length
 refine PySem.P.add_list e e2 ?_ (by rw [List.size_toArray,List.size_toArray];omega)
 have ea:its.toArray++its2.toArray=(its++its2).toArray:=by simp
 rw [ea]
 exact ⟨.ref _,_,I.aS5 (t':=s.toks) (r.append r2) (by rw [List.length_append];omega),rfl,q _ I.fresh⟩
theorem pH {f:aS} (ha:SE X a f):SE X (.UnaryOp .USub a pos) (v1 (kU fun i=>.int (-i)) f):=(aVr aR6 ha).imp fun _ _ _ h=>aVg (aUe fun _=>rfl) h
theorem uS {op:CmpOp} {k:D×Bool->D×Bool->R (D×Bool)} {r:R2} {f g:aS} (ho:OpR X (compareOp op) r) (hk:Op2 X.K k r) (ha:SE X a f) (hb:SE X b g) (hm:behindInMarks op b=false):SE X (.Compare a [op] [b] pos) (v2 k f g) :=
 (aL1 ho ha hb hm).imp fun _ _ _ h=>aE6 hk h
theorem aDo {t t':TE} (k:∀σ H Q,t' σ H Q->t σ H Q) {σ:L2.St} {H:Hp} {Q:Bool->Hp->Prop} (h:aE5 t' σ H Q):aE5 t σ H Q:=k _ _ _ h
theorem lS {op:CmpOp} {k:D×Bool->D×Bool->R (D×Bool)} {r:R2} {f g:aS} (ho:OpR X (compareOp op) r) (hk:Op2 X.K k r) (ha:SE X a f) (hb:SE X b g) (hm:behindInMarks op b=false):ST X (.Compare a [op] [b] pos) (bA (v2 k f g)) :=
 (aLb ho ha hb hm).imp fun _ _ _ h=>aDo (fun _ _ _ q=>aE6 hk q) (aBx h)
abbrev kLt:=kI fun i j=>.bl (decide (i<j))
abbrev kGt:=kI fun i j=>.bl (decide (j<i))
theorem aOh {K:FG}:Op2 K kLt (rI0 fun i j=>.bl (decide (i<j))):=aFe fun _ _=>rfl
theorem aN2 {K:FG}:Op2 K kGt (rI0 fun i j=>.bl (decide (j<i))):=aFe fun _ _=>rfl
theorem aA3 {op op':CmpOp} {p q:Int->Int->Bool} {f g h:aS} (ho:OpR X (compareOp op) (rI0 fun i j=>.bl (p i j))) (ho':OpR X (compareOp op') (rI0 fun i j=>.bl (q i j))) (ha:SE X a f) (hb:SE X b g) (hc:SE X c h)
  (hm:lastMarks [op,op'] [b,c]=false:=by with_unfolding_all rfl):SE X (.Compare a [op,op'] [b,c] pos) (rX p q f g h):=(aIl ho ho' ha hb hc hm).imp fun _ _ _ h=>aKt h
theorem cF {f:aS} (ha:SE X a f) (he:∀whole,isTrue a X.env whole=(do let v <- whole;standAt a.pos;holding [v] (truthy v)):=by intro _;rfl):ST X a (fL f):=(aHx ha he).imp fun _ _ _ h=>aM5 h
theorem rH {f:cW} (ha:ST X a f):SW X (.BoolOp .And [a] pos) f:=aLz ha
theorem gM {f:cW} (ha:ST X a f):SW X (.BoolOp .Or [a] pos) f:=aQ0 ha
theorem uA {f g:cW} {rest:List Expr} (ha:ST X a f) (hb:SW X (.BoolOp .And (b::rest) pos) g):SW X (.BoolOp .And (a::b::rest) pos) (lX f g):=(aSb ha hb).imp fun _ _ _ h=>aLg h
theorem jZ {f g:cW} {rest:List Expr} (ha:ST X a f) (hb:SW X (.BoolOp .Or (b::rest) pos) g):SW X (.BoolOp .Or (a::b::rest) pos) (nE f g):=(aVm ha hb).imp fun _ _ _ h=>aSj h
theorem mJ {f:cW} (h:SW X a f):ST X a f:=h.pt
theorem eG {f:cW} (ha:ST X a f):ST X (.UnaryOp .Not a pos) (fC f):=(aP6 ha).imp fun _ _ _ h=>aNn h
theorem pJ {f g:aS} {rest:List Expr} (ha:SE X a f) (hb:SE X (.BoolOp .And (b::rest) pos) g):SE X (.BoolOp .And (a::b::rest) pos) (wY f g):=(aPw ha hb).imp fun _ _ _ h=>aPm h
theorem aUi {f g:aS} {rest:List Expr} (ha:SE X a f) (hb:SE X (.BoolOp .Or (b::rest) pos) g):SE X (.BoolOp .Or (a::b::rest) pos) (vOr f g):=(aVp ha hb).imp fun _ _ _ h=>aUl h
theorem oB {op} {f:aS} (ha:SE X a f):SE X (.BoolOp op [a] pos) f:=aQw ha
theorem aH1 {f:aS} (ha:SE X a f):SE X (.UnaryOp .Not a pos) (v1 aI4 f):=(aSm ha).imp fun _ _ _ h=>aQo h
theorem aG:SA X [] aL:=nO.imp fun _ _ _ h=>aLf h
theorem aB {f:aS} {g:dO} (ha:SE X e f) (hr:SA X es g) (hs:starEach (e::es) X.env=(false,eval e X.env)::starEach es X.env:=by rfl):SA X (e::es) (aE f g):=(fI ha hr hs).imp fun _ _ _ h=>aHr h
theorem cE {g:dO} (h:SA X es g):SE X (.List es pos) (fW g):=(aQu h).imp fun _ _ _ h=>aRz h
theorem bY {g:dO} {k} (h:SA X es g):SE X (.Tuple es k pos) (eQ g):=(aJa h).imp fun _ _ _ h=>aQf h
theorem aI {f g:aS} (ha:SE X a f) (hb:SE X b g) (hs:zL b:=by intro _ _;rfl):SE X (.Subscript a b pos) (v2 kIx f g):=(aOg (aE8.or aP9) ha hb hs).imp fun _ _ _ h=>aE6 aP5 h
theorem iN:SO X none kQ:=(aLw).imp fun _ _ _ h=>aIe h
theorem lL {f:aS} (ha:SE X a f):SO X (some a) (sF f):=(aLk ha).imp fun _ _ _ h=>aL8 h
theorem qI {f:aS} {lo hi:Option Expr} {l h:aBg} {p2:Pos} (ha:SE X a f) (hl:SO X lo l) (hh:SO X hi h):SE X (.Subscript a (.Slice lo hi none p2) pos) (vSl f l h):=(aK1 aNi ha hl hh).imp fun _ _ _ h=>aTd h
theorem aA2 {id:String} {x:Str} {p:Pos} {k:List (D×Bool)->R (D×Bool)} {r:List V->Hp->VK->Prop} {g:dO} (hc:lD X (.builtin id) r) (hk:OpA X.K k r) (hm:X.mg x=none) (hv:bootBuiltins x=some (.builtin id)) (ha:SA X (e::es) g) (hg:Gl X x:=by rfl)
  (hn:x ≠ "__name__" :=by decide) (hdb:(x == ("__debug__" : Str))=false:=by decide) (he:starEach (e::es) X.env=(false,eval e X.env)::starEach es X.env:=by rfl) (hpl:(backTo pos (starEach es X.env)).any (·.1)=false:=by rfl):SE X (.Call (.Name x p) (e::es) [] pos) (vCB k g) :=
 (rE hc hg hm hv ha hn hdb he hpl).imp fun _ _ _ h=>aK0 hk h
theorem aPg {T:String} {x:Str} {p:Pos} {k:List (D×Bool)->R (D×Bool)} {r:List V->Hp->VK->Prop} {g:dO} (hc:lD X (.type T) r) (hk:OpA X.K k r) (hm:X.mg x=none) (hv:bootBuiltins x=some (.type T)) (ha:SA X (e::es) g) (hg:Gl X x:=by rfl)
  (hn:x ≠ "__name__" :=by decide) (hdb:(x == ("__debug__" : Str))=false:=by decide) (he:starEach (e::es) X.env=(false,eval e X.env)::starEach es X.env:=by rfl) (hpl:(backTo pos (starEach es X.env)).any (·.1)=false:=by rfl):SE X (.Call (.Name x p) (e::es) [] pos) (vCB k g) :=
 (aF4 hc hg hm hv ha hn hdb he hpl).imp fun _ _ _ h=>aK0 hk h
structure Kn (P:Program) (w:World) (K:FG) (mg:Y6) (base:Heap) (k:Nat) (x:Str) (n:Nat) (fn:Fn):Prop where
 ex:∃(f:Addr) (fd:FuncData) (ps:List Str),FnOk P w K mg base (CX1 P w) k f fd ps (spV K n fn)/\mg x=some (.ref f)/\PySem.W.keepIn K (.ref f)=true/\Binds K fd ps []
def zQ (n:Nat) (g:dO):Prop:=∀ρ xs,g ρ=.ok xs->xs.length=n
theorem aHy:zQ 0 aL:=fun _ _ e=>by cases e;rfl
theorem oC {n:Nat} {f:aS} {g:dO} (h:zQ n g):zQ (n+1) (aE f g):=fun ρ xs e=>by
 unfold aE at e
 cases ef:f ρ with
 | exc _=>rw [ef] at e;cases e
 | bad=>rw [ef] at e;cases e
 | ok x =>
  rw [ef] at e
  cases eg:g ρ with
  | exc _=>rw [eg] at e;cases e
  | bad=>rw [eg] at e;cases e
  | ok ys =>
   rw [eg] at e
   have e:R.ok (x::ys)=R.ok xs:=e
   cases e
   rw [List.length_cons,h ρ ys eg]
theorem aW {k n:Nat} {x:Str} {fn:Fn} {g:dO} {p:Pos} (F:Kn X.prog X.w X.K X.mg X.base k x n fn) (hr:Room k X.A) (ha:SA X (e::es) g) (hl:zQ n g) (hg:Gl X x:=by rfl) (hdb:(x == ("__debug__" : Str))=false:=by decide)
  (he:starEach (e::es) X.env=(false,eval e X.env)::starEach es X.env:=by rfl) (hpl:(backTo pos (starEach es X.env)).any (·.1)=false:=by rfl):SE X (.Call (.Name x p) (e::es) [] pos) (bD fn g):=by
 obtain ⟨f,fd,ps,F,hm,hk,hb⟩:=F.ex
 exact (aEt F hr hg hm hk hb .nil (fun _ _ _ _ _ _ _ h=>by obtain ⟨_,_,_,_,_,_,_,_,_,_,_,_,_,z⟩:=h;exact z.elim) ha hdb he hpl).imp fun _ _ _ h=>aMk hl h
theorem aQ {f:aS} (h:SE X e f):SX X W e (xOf f):=L2.PE.imp h fun _ _ _ h=>aOn h
theorem bF:SSs X W [] bJ:=aMs.imp fun _ _ _ h=>aLq h
theorem aF {f g:aX} {rest:List Stmt} (h1:SS X W st f) (h2:SSs X W rest g):SSs X W (st::rest) (aR f g):=(aI3 h1 h2).imp fun _ _ _ h=>aRo h
theorem aK {f:aX} (h1:SS X W st f):SSs X W [st] f:=aL2 h1
theorem kN (is:T0) {f:aX} (h:SS X W st f):SS X W st (rZ is f):=L2.PS.imp h fun _ _ _ h=>aQn h
def aXb:aX:=fun _=>.bad
theorem qW {g:nS} (h:SX X W e g) (hs:swapsWith e none pos.line X.env=pure false:=by rfl):SS X W (.Expr e pos) (mI g):=(tM h hs).imp fun _ _ _ h=>aNk h
theorem bG {g:nS} (h:SX X W e g):SS X W (.Return (some e) pos) (cH g):=(aKc h).imp fun _ _ _ h=>aQ5 h
theorem gP (i:Nat) {x:Str} {p:Pos} (hN:X.N[i]?=some x:=by rfl) (hv:Vis X.env.scope x:=by first | exact Or.inl rfl | exact Or.inr (Or.inl rfl) | exact Or.inr (Or.inr rfl)) (hd:(x == ("__debug__" : Str))=false:=by decide)
  (hcd:(x == ("__classdict__" : Str))=false:=by decide):SS X W (.Return (some (.Name x p)) pos) (jN i):=(aKc (nG hN hv hd hcd)).imp fun _ _ _ h=>aMn h
theorem bR {t:cW} {f g:aX} {xs ys:List Stmt} (hc:ST X c t) (ha:SSs X W xs f) (hb:SSs X W ys g):SS X W (.If c xs ys pos) (sIf t f g):=(aTj hc ha hb).imp fun _ _ _ h=>aUv h
theorem aU (i:Nat) {x:Str} {g:nS} {pos':Pos} (nd:X.N.Nodup) (h:SX X W e g) (hi:X.N[i]?=some x:=by rfl) (hx:Loc X.env.scope x:=by first | exact Or.inl rfl | exact Or.inr rfl) (hs:swapsWith e (some (.Name x pos')) pos.line X.env=pure false:=by rfl)
  (hf:X.fn x=true\/X.env.scope.names.lookup x=some .local:=by first | exact .inl rfl | exact .inr rfl):SS X W (.Assign [.Name x pos'] e pos) (aY i g):=(aRq nd hi hx h hs hf).imp fun _ _ _ h=>aKs h
theorem cT (i:Nat) {x:Str} (nd:X.N.Nodup) (hi:X.N[i]?=some x:=by rfl) (hx:Loc X.env.scope x:=by first | exact Or.inl rfl | exact Or.inr rfl) (hf:X.fn x=true\/X.env.scope.names.lookup x=some .local:=by first | exact .inl rfl | exact .inr rfl):PG X (.Name x pos) (sS i):=aNo nd hi hx hf
theorem fA {i:Nat} {is:T0} (h1:PG X e (sS i)) (h2:PGs X es (nF is)) (hs:(assignEach (e::es) X.env).map (·.2)=assign e X.env::(assignEach es X.env).map (·.2):=by rfl):PGs X (e::es) (nF (i::is)):=aKx h1 h2 hs
theorem sJ:PGs X [] (nF []):=aM3
theorem aFz {is:T0} {g:nS} {k n:Nat} {tp:Pos} (hc:X.calm=true) (h:SX X W e g) (hg:PGs X es (nF is)) (hn':is.length=n) (hn:(assignEach es X.env).length=n:=by rfl) (hst:(assignEach es X.env).findIdx? (·.1)=none:=by rfl)
  (hs:swapsWithSole [.Tuple es k tp] e pos.line X.env=pure false:=by rfl) (hw:swappedStores [.Tuple es k tp] e X.env=pure none:=by rfl) (h1:(assignEach [.Tuple es k tp] X.env).map (·.2)=[assign (.Tuple es k tp) X.env]:=by rfl) :
  SS X W (.Assign [.Tuple es k tp] e pos) (oJ is g):=(aH6 h (nH hc hg hn hst) hs hw h1).imp fun _ _ _ h=>aFu hn' h
theorem jB (i:Nat) {x:Str} {f g:aS} {p tp:Pos} (hi:SE X b g) (he:SE X e f) (hN:X.N[i]?=some x:=by rfl) (hv:Vis X.env.scope x:=by first | exact Or.inl rfl | exact Or.inr (Or.inl rfl) | exact Or.inr (Or.inr rfl)) (hd:(x == ("__debug__" : Str))=false:=by decide)
  (hcd:(x == ("__classdict__" : Str))=false:=by decide)
  (ha:∀v,assign (.Subscript (.Name x p) b tp) X.env v=(do
   let ov <- holding [v] (eval (.Name x p) X.env)
   let iv <- holding [v,ov] (eval b X.env)
   standAt tp
   holding [v,ov,iv] (setItem ov iv v)
   release [v,ov,iv] []):=by intro _;rfl)
  (hs:swapsWithSole [.Subscript (.Name x p) b tp] e pos.line X.env=pure false:=by rfl) (hw:swappedStores [.Subscript (.Name x p) b tp] e X.env=pure none:=by rfl) (h1:(assignEach [.Subscript (.Name x p) b tp] X.env).map (·.2)=[assign (.Subscript (.Name x p) b tp) X.env]:=by rfl) :
  SS X W (.Assign [.Subscript (.Name x p) b tp] e pos) (dJ i g f):=(aH6 he (aP7 (nG hN hv hd hcd) hi set_list ha) hs hw h1).imp fun _ _ _ h=>aCz h
theorem aC8 (i:Nat) {x:Str} {f:aS} {op:Operator} {o:Int->Int->Int} {pos':Pos} (nd:X.N.Nodup) (ho:PIp X op (ipI o)) (he:SE X e f) (hi:X.N[i]?=some x:=by rfl) (hx:Loc X.env.scope x:=by first | exact Or.inl rfl | exact Or.inr rfl)
  (hf:X.fn x=true\/X.env.scope.names.lookup x=some .local:=by first | exact .inl rfl | exact .inr rfl):SS X W (.AugAssign (.Name x pos') op e pos) (vB i o f):=(aRc nd hi hx he ho hf).imp fun _ _ _ h=>aRv h
theorem nM (n:Nat) {t:cW} {f:aX} {xs:List Stmt} (hp:PassesOwn (model X.prog X.w) X.A X.env X.xe) (hc:ST X c t) (hb:SSs X W xs f):SS X W (.While c xs [] pos) (bZ t f n):=(aIg hp hc hb).imp fun _ _ _ h=>aJd h
theorem eL {tg it:Expr} {f:kR} {set:D->Env->Option Env} {g:TG} {b':aX} {xs:List Stmt} (hp:PassesOwn (model X.prog X.w) X.A X.env X.xe) (hc:X.calm=true) (hi:SI X tg it f) (hg:PG X tg g) (ht:Tgt X.K set g) (hb:SSs X W xs b')
  (hs:∀x,foldedSetIterable it X.env x=pure x:=by intro _;rfl):SS X W (.For tg it xs [] pos) (iF f set b'):=(aQ2 hp hc hi hg hb hs).imp fun _ _ _ h=>aQe ht h
theorem cS {tg:Expr} {g:dO} {p:Pos} (hm:X.mg "range" = none) (ha:SA X [a] g) (hg:Gl X "range" :=by rfl) (hs:starEach [a] X.env=[(false,eval a X.env)]:=by rfl):SI X tg (.Call (.Name "range" p) [a] [] pos) (iR1 g) :=
 (aGj hg hm ha hs).imp fun _ _ _ h=>aGm h
theorem aFy {tg:Expr} {g:dO} {p:Pos} (hm:X.mg "range" = none) (ha:SA X [a,b] g) (hg:Gl X "range" :=by rfl) (hs:starEach [a,b] X.env=[(false,eval a X.env),(false,eval b X.env)]:=by rfl) (hs2:starEach [b] X.env=[(false,eval b X.env)]:=by rfl):SI X tg (.Call (.Name "range" p) [a,b] [] pos) (iR2 g) :=
 (aG4 hg hm ha hs hs2).imp fun _ _ _ h=>aFv h
end
end VL
end
section
namespace VL
open PySem PySem.Spec PyProof.Rows L2
def Ite (K:FG) (a:Addr):It :=
 ⟨fun i H=>∃xs x,SqL K H a xs/\xs[i]?=some x,fun i H x H'=>∃p y,H p=none/\x=.ref p/\(∀xs,SqL K H a xs->xs[i]?=some y)/\H'=upd H p (.tup [.int i,y]),fun i H=>∃xs,SqL K H a xs/\xs.length<=i⟩
section
variable {X:Cx} {pins:Y8} {σ:L2.St} {H:Hp} {s:Shared}
theorem aHm {e it:Addr} {h':Heap} {t':Nat} {xs:List V} {its:Y1} (I:L2.Inv X pins σ H s) (he:wA X pins H e) (hi:wA X pins H it) (k:∀b o,b ≠ e->b ≠ it->s.heap.get? b=some o->h'.get? b=some o)
  (he':∃o,h'.get? e=some o) (hi':∃o,h'.get? it=some o) (r:Vals xs its) (hz:xs.length<=sizeLine) (hp:IsTup h' s.heap.objs.size its.toArray):L2.Inv X pins σ (upd H s.heap.objs.size (.tup xs)) { s with heap:=h',toks:=t' }:=by
 have fr:=I.fresh
 have U:Un (frs X.stack) [e,it] H (upd H s.heap.objs.size (.tup xs)) s.heap h':=by
  refine ⟨fun b o q _ _ hx=>k b o (fun z=>hx (by simp [z])) (fun z=>hx (by simp [z])) q,fun b o q _ _ hx=>⟨o.slots,k b o (fun z=>hx (by simp [z])) (fun z=>hx (by simp [z])) q⟩,fun b o q n _=>by rw [aZ (Nat.ne_of_lt (Heap.lt_size q))];exact n,
   fun b o q hx=>⟨o,k b o (fun z=>hx (by simp [z])) (fun z=>hx (by simp [z])) q⟩,fun b ys q=>by rw [aZ (bM q fr)];exact q,fun b o u q=>by rw [aZ (bM q fr)];exact q,fun b ps q=>⟨#[],by rw [aZ (bM q fr),q];simp⟩⟩
 refine I.aCm (s':={ s with heap:=h',toks:=t' }) rfl U (fun b u q=>?_) I.bare fun b hb=>?_
 ·by_cases hb:b=s.heap.objs.size
  ·subst hb;rw [bN] at q;cases q
   exact ⟨hz,its,r,hp⟩
  ·rw [aZ hb] at q
   refine (I.hok b u q).stay (fun c v hc q'=>k c v ?_ ?_ q') (fun c q'=>by rw [aZ (bM q' fr)];exact q') fun c ys q'=>by rw [aZ (bM q' fr)];exact q'
   ·rintro rfl
    rcases hc with rfl | hc
    ·rw [he.1] at q;cases q
    ·rw [he.1] at hc;cases hc
   ·rintro rfl
    rcases hc with rfl | hc
    ·rw [hi.1] at q;cases q
    ·rw [hi.1] at hc;cases hc
 ·have:b=e\/b=it:=by simpa using hb
  rcases this with rfl | rfl
  ·exact ⟨he.2.2.2.1,he.2.1,he.2.2.2.2.1,he.2.2.2.2.2⟩
  ·exact ⟨hi.2.2.2.1,hi.2.1,hi.2.2.2.2.1,hi.2.2.2.2.2⟩
theorem aGf {P:Program} {w:World} {K:FG} {elts:List Expr} {k:Nat} {tp:Pos} (a e it:Addr) (hei:e ≠ it):Turn P w K (.Tuple elts k tp) (Ite K a) [e,it] e (fun i h=>(∃old,IsEnum h e it i old)/\h.IsListIter it a i) where
 mem:=by simp
 obj:=fun i h st b hb=>by
  obtain ⟨⟨old,he⟩,o,ho,c,d⟩:=st
  have:b=e\/b=it:=by simpa using hb
  rcases this with rfl | rfl
  ·exact ⟨_,he,fun v z=>by
    have z':Data.fields _=Data.cell v:=z
    cases z'⟩
  ·exact ⟨o,ho,fun v z=>by rw [d] at z;cases z⟩
 keep:=fun i h h' st kk=>by
  obtain ⟨⟨old,he⟩,hit⟩:=st
  exact ⟨⟨old,kk e (by simp) _ he⟩,hit.at fun o x=>kk it (by simp) o x⟩
 item:=by
  intro X hP hw hK hc i pins s σ H E I hf st hg
  subst hP hw hK
  obtain ⟨xs,x,hq,hx⟩:=hg
  obtain ⟨its,rv,p,hz⟩:=I.list hq
  obtain ⟨u,hu,ru⟩:=rv.get hx
  obtain ⟨⟨old,he⟩,hit⟩:=st
  have fe:=hf e (by simp)
  have fi:=hf it (by simp)
  refine wpAny_pyNext_enum_item he hit p.isList (x:=u) (by simpa using hu) hei fun h' heo hit' ht hsz hk=>⟨_,rfl,?_⟩
  refine wpAny_letOwnedTupleGo_enum heo fun h2 he2 hs2=>?_
  have hs2:Heap.SameBut e h' h2:=hs2
  have hel:e<s.heap.objs.size:=Heap.lt_size he
  have hil:it<s.heap.objs.size:=by obtain ⟨o,ho,_⟩:=hit;exact Heap.lt_size ho
  have hit2:h2.IsListIter it a (i+1):=hit'.at fun o y=>(hs2.2 it hei.symm).trans y
  have I2:=aHm (h':=h2) (t':=s.toks+1) (xs:=[.int i,x]) (its:=[.int i s.toks,u]) I fe fi (fun b o n1 n2 q=>(hs2.2 b n1).trans (hk b o n1 n2 q)) ⟨_,he2⟩ (let ⟨o,ho,_⟩:=hit2;⟨o,ho⟩) (.cons ⟨_,rfl⟩ (.cons ru .nil)) (by show 2<=sizeLine;decide)
   ⟨_,(hs2.2 _ (Nat.ne_of_gt hel)).trans ht,rfl,_,rfl⟩
  refine ⟨.ref s.heap.objs.size,_,I2,rfl,⟨s.heap.objs.size,x,I.fresh,rfl,fun ys hy=>by rw [I.aCp hy hq];exact hx,rfl⟩,⟨⟨u,by simpa using he2⟩,hit2⟩,fun b hb=>?_⟩
  have:b=e\/b=it:=by simpa using hb
  rcases this with rfl | rfl
  ·rw [aZ (Nat.ne_of_lt hel)];exact fe.1
  ·rw [aZ (Nat.ne_of_lt hil)];exact fi.1
 done:=by
  intro X hP hw hK hc i pins s σ H E I hf st hg
  subst hP hw hK
  obtain ⟨xs,hq,hx⟩:=hg
  obtain ⟨its,rv,p,hz⟩:=I.list hq
  obtain ⟨⟨old,he⟩,hit⟩:=st
  obtain ⟨f0,f1,f2,f3,f4,f5⟩:=hf it (by simp)
  have hl:=rv.length
  exact wpAny_pyNext_enum_end (I.ok.hd hc) he hit p.isList (by simp;omega) fun h' eb=>⟨rfl,I.turned (t':=s.toks) (fun b o hb e=>eb b o hb e) f0 f1 f3 f4 f5⟩
 self:=fun _ _ _ _ _ st h=>by
  obtain ⟨⟨old,he⟩,_⟩:=st
  exact wpAny_pyIter_enum he h
def aPb (K:FG) (ta:TA):TI:=fun σ H R=>ta σ H fun vs H1=>∃a xs,vs=[.ref a]/\Rd H1 a (.lst xs)/\R (Ite K a) H1
theorem aLd {a:Expr} {ta:TA} {p pos tp:Pos} {elts:List Expr} {k:Nat} (hg:Gl X "enumerate") (hm:X.mg "enumerate" = none) (ha:PA X [a] ta) (hs:starEach [a] X.env=[(false,eval a X.env)]:=by rfl):PI X (.Tuple elts k tp) (.Call (.Name "enumerate" p) [a] [] pos) (aPb X.K ta):=by
 intro pins s σ H R I h
 refine Call_ (nQ I hg hm boot_enumerate (PyProof.Rows.callWith_type1 (thn (ha pos pins s σ H _ I h) fun us s1 ⟨vs,H1,I1,r1,q1⟩=>?_) hs rfl))
 obtain ⟨l,xs,e,hr,q⟩:=q1
 subst e
 cases r1 with
 | cons r rr =>
  cases rr
  cases r
  obtain ⟨z,its,n,rv,e⟩:=hr.ok I1.hok
  refine call_enumerate_1 e fun h' he hit hsz hk=>?_
  refine wpAny_pyIter_enum he ?_
  have I2:L2.Inv X pins σ H1 { s1 with heap:=h' }:=I1.kept (t':=s1.toks) hk
  refine ⟨s1.heap.objs.size+1,[s1.heap.objs.size+1,s1.heap.objs.size],_,_,H1,rfl,I2,aGf l _ _ (Nat.succ_ne_self _),⟨⟨_,he⟩,hit⟩,fun b hb=>?_,q⟩
  have hb':b=s1.heap.objs.size+1\/b=s1.heap.objs.size:=by simpa using hb
  have hle:s1.heap.objs.size<=b:=by
   rcases hb' with rfl | rfl
   ·exact Nat.le_succ _
   ·exact Nat.le_refl _
  exact I1.aK9 hle (I1.hok.fresh hle)
end
section
variable {K:FG} {F H:Hp} {σ:L2.St}
def qJ (ds:List D):List D:=ds.zipIdx.map fun p=>.tup [.int (p.2:Nat),p.1]
end
end VL
end
section
namespace VL
open PySem PySem.Spec PyProof.Rows L2
section
variable {X:Cx} {pins:Y8} {σ:L2.St} {H:Hp} {s:Shared}
end
section
variable {K:FG} {F H:Hp} {σ:L2.St}
def zO (x:D×Bool):R (List D):=match x.1 with
 | .lst _ ds=>if aV x then .ok (D.frzs ds) else .bad
 | _=>.bad
def wI (f:aS):kR:=fun ρ=>(f ρ).bind fun x=>(zO x).bind fun ds=>.ok (qJ ds)
def aVl (f:aS):kR:=fun ρ=>(f ρ).bind fun x=>zO x
theorem icy {F0 H0:Hp} {x:D×Bool} {v:V} {fx:Y2} {ds:List D} (g:Grow F0 H0 F H) (o:Own K F H x.1 v fx) (k:x.2=true->∀b∈fx,H0 b=none) (e:zO x=.ok ds) :
  ∃a xs F',v=.ref a/\Grow F0 H0 F' H/\bB F F'/\(∀b u,F' b=some u->F b=some u\/b∈fx)/\Rd F' a (.lst xs)/\aJ K F' H ds xs []:=by
 unfold zO at e
 split at e
 ·rename_i w es hx
  by_cases hk:aV x=true
  ·rw [if_pos hk] at e;cases e
   have kf:=qY hk o k
   have zo:∀b∈fx,F b=none:=fun b hb=>(Own.zone x.1 o b hb).1
   have of_:=Own.freeze (fp:=fx) zo x.1 (fun b hb=>hb) o
   rw [hx] at of_
   unfold D.frz Own at of_
   obtain ⟨a,xs,fq,ev,r,q⟩:=of_
   rcases q with ⟨q,_⟩ | ⟨_,q,q2,_⟩
   ·cases q
   ·subst q2
    refine ⟨a,xs,fO F H fx,ev,g.frz kf zo,fV zo,fun b u q=>?_,q,r⟩
    unfold fO at q
    split at q
    ·exact .inr (by assumption)
    ·exact .inl q
  ·rw [if_neg hk] at e;cases e
 ·cases e
theorem R.rK {α:Type} {x:R α} {P:α->Prop} (h:x.holds P):∃a,x=.ok a/\P a:=by
 cases x with
 | ok a=>exact ⟨a,rfl,h⟩
 | exc _=>exact h.elim
 | bad=>exact h.elim
theorem aG5 {F:Hp} {ds:List D} {a:Addr} {xs:List V} (q:Rd F a (.lst xs)) (r:aJ K F H ds xs []):zP K F ds (Itl K a):=by
 have q:SqL K F a xs:=.inl q
 refine ⟨fun i H' hs hl=>⟨xs,hs.seq q,by rw [<- aJ.length ds r];exact hl⟩,fun i d hd F' H' s1 s2=>?_⟩
 obtain ⟨u,f,q1,q2,q3⟩:=aJ.get ds r hd
 refine ⟨⟨xs,u,(s1.trans s2).seq q,q1⟩,fun y H2 hy=>?_⟩
 obtain ⟨e,hy⟩:=hy
 subst e
 have ey:=hy xs ((s1.trans s2).seq q)
 rw [q1] at ey;cases ey
 have:f=[]:=List.sublist_nil.mp q3
 subst this
 exact ⟨F',Grow.refl s2,Own.keep s1 d (fun a ha=>by cases ha) q2⟩
theorem aGv {F:Hp} {ds:List D} {a:Addr} {ys:List V} (q:Rd F a (.lst ys)) (rr:aJ K F H ds ys []):zP K F (qJ ds) (Ite K a):=by
 refine ⟨fun i H' hs hl=>?_,fun i d hd F' H' s1 s2=>?_⟩
 ·refine ⟨ys,.inl (bB.rd hs q),?_⟩
  rw [<- aJ.length ds rr]
  unfold qJ at hl
  simpa using hl
 ·unfold qJ at hd
  rw [List.getElem?_map,List.getElem?_zipIdx] at hd
  cases ed:ds[i]? with
  | none=>rw [ed] at hd;cases hd
  | some d0 =>
   rw [ed] at hd
   have hd:D.tup [.int ((0+i:Nat):Int),d0]=d:=Option.some.inj hd
   subst hd
   obtain ⟨u,f,q1,q2,q3⟩:=aJ.get ds rr ed
   have:f=[]:=List.sublist_nil.mp q3
   subst this
   refine ⟨⟨ys,u,.inl (bB.rd (s1.trans s2) q),q1⟩,fun x H2 hy=>?_⟩
   obtain ⟨p,y,hp,ex,hy,eH⟩:=hy
   subst ex;subst eH
   have ey:=hy ys (.inl (bB.rd (s1.trans s2) q))
   rw [q1] at ey;cases ey
   have g2:Grow F' H' (upd F' p (.tup [.int (i:Int),u])) (upd H' p (.tup [.int (i:Int),u])):=Grow.both s2 hp
   refine ⟨_,g2,?_⟩
   unfold Own
   refine ⟨rfl,p,[.int (i:Int),u],rfl,SqT.of bN,?_⟩
   have o1:Own K (upd F' p (.tup [.int (i:Int),u])) (upd H' p (.tup [.int (i:Int),u])) (.int ((0+i:Nat):Int)) (.int (i:Int)) []:=gH (by rw [Nat.zero_add];rfl)
   exact aJ.cons o1 (aJ.one ((Own.keep s1 d0 (fun a ha=>by cases ha) q2).grow g2))
theorem aQy {f:aS} {R':It->Hp->Prop} (h:iv K (wI f) σ H R'):aPb K (xQ (tv K f) aFx) σ H R':=by
 obtain ⟨ρ,F,fps,S,h⟩:=h
 refine ⟨ρ,F,fps,S,R.aM (R.aN.mp h) fun x hx v F1 H1 fx g1 o1 n1 k1=>?_⟩
 obtain ⟨ds,ed,hy⟩:=R.rK (R.aN.mp hx)
 obtain ⟨a,xs,Fa,ea,ga,sa,na,ra,oa⟩:=icy g1 o1 k1 ed
 subst ea
 exact ⟨a,xs,rfl,bB.rd ga.inn ra,hy _ Fa H1 ga (aGv (H:=H1) ra oa)⟩
theorem aQx {f:aS} {R':It->Hp->Prop} (h:iv K (aVl f) σ H R'):aKa K (tv K f) σ H R':=by
 obtain ⟨ρ,F,fps,S,h⟩:=h
 refine ⟨ρ,F,fps,S,R.aM (R.aN.mp h) fun x hx v F1 H1 fx g1 o1 n1 k1=>?_⟩
 obtain ⟨ds,ed,hy⟩:=R.rK hx
 obtain ⟨a,xs,Fa,ea,ga,sa,na,ra,oa⟩:=icy g1 o1 k1 ed
 subst ea
 exact ⟨a,rfl,⟨xs,.inl (bB.rd ga.inn ra)⟩,hy _ Fa H1 ga (aG5 (H:=H1) ra oa)⟩
def aGp (x:D×Bool):R (List D):=match x.1 with
 | .lst _ ds=>if aV x then .ok (D.frzs ds) else .bad
 | .tup ds=>.ok ds
 | _=>.bad
def gK (f:aS):kR:=fun ρ=>(f ρ).bind aGp
theorem aPo {f:aS} {R':It->Hp->Prop} (h:iv K (gK f) σ H R'):aKa K (tv K f) σ H R'\/aPp K (tv K f) σ H R':=by
 obtain ⟨ρ,F,fps,S,h⟩:=h
 unfold gK at h
 obtain ⟨x,ex,hx⟩:=R.rK (R.aN.mp h)
 obtain ⟨ds,ed,hd⟩:=R.rK hx
 unfold aGp at ed
 split at ed
 ·rename_i o es hx'
  refine .inl (aQx ⟨ρ,F,fps,S,?_⟩)
  unfold aVl
  rw [ex]
  show (zO x).holds _
  unfold zO
  rw [hx']
  dsimp only
  rw [ed];exact hd
 ·rename_i es hx'
  cases ed
  refine .inr (aPv ⟨ρ,F,fps,S,?_⟩)
  unfold aO5
  rw [ex]
  show (match x.1 with | .tup ds=>R.ok ds | _=>.bad).holds _
  rw [hx'];exact hd
 ·cases ed
end
end VL
end
section
namespace VL
open PySem PySem.Spec PyProof.Rows L2
mutual
def D.py:D->PyData
 | .non=>.none | .bl b=>.bool b | .int i=>.int i | .str x=>.str x
 | .tup ds=>.tuple (D.pys ds)
 | .lst _ ds=>.list (D.pys ds)
 | .ext _ _=>.none
def D.pys:List D->List PyData
 | []=>[]
 | d::ds=>d.py::D.pys ds
end
mutual
def D.plain:D->Bool
 | .tup ds=>D.kP ds
 | .lst _ ds=>D.kP ds
 | .ext _ _=>false
 | _=>true
def D.kP:List D->Bool
 | []=>true
 | d::ds=>d.plain && D.kP ds
end
section
variable {X:Cx} {pins:Y8} {σ:L2.St} {F H:Hp} {s:Shared}
mutual
theorem dN (I:L2.Inv X pins σ H s) (hs:bB F H):∀(d:D) {v:V} {fp:Y2} {u:Value},d.plain=true->Own X.K F H d v fp->RelV v u->∃as,Reads s.heap u d.py as
 | .non,v,fp,u,_,o,r=>by unfold Own at o;rw [o.1] at r;cases r;exact ⟨_,.none⟩
 | .bl b,v,fp,u,_,o,r=>by unfold Own at o;rw [o.1] at r;cases r;exact ⟨_,.bool b⟩
 | .int i,v,fp,u,_,o,r=>by unfold Own at o;rw [o.1] at r;obtain ⟨t,rfl⟩:=r;exact ⟨_,.int i t⟩
 | .str x,v,fp,u,_,o,r=>by unfold Own at o;rw [o.1] at r;obtain ⟨t,rfl⟩:=r;exact ⟨_,.str x t⟩
 | .ext _ _,_,_,_,hp,_,_=>by simp [D.plain] at hp
 | .tup ds,v,fp,u,hp,o,r=>by
  unfold Own at o
  obtain ⟨_,a,xs,e,q,rr⟩:=o
  rw [e] at r;cases r
  obtain ⟨its,rv,⟨ob,h1,h2,n,h3⟩,_⟩:=I.tuple (bB.xJ hs q)
  obtain ⟨as,h4⟩:=oY I hs ds (by simpa [D.plain] using hp) rr rv
  exact ⟨_,.tuple h1 h2 h3 (by simpa using h4)⟩
 | .lst w ds,v,fp,u,hp,o,r=>by
  obtain ⟨a,xs,fq,e,q,rr,_⟩:=Own.lst hs o
  rw [e] at r;cases r
  obtain ⟨its,rv,⟨ob,n,h1,h2,_,h3⟩,_⟩:=I.list q
  obtain ⟨as,h4⟩:=oY I hs ds (by simpa [D.plain] using hp) rr rv
  exact ⟨_,.list h1 h2 h3 (by simpa using h4)⟩
theorem oY (I:L2.Inv X pins σ H s) (hs:bB F H):∀(ds:List D) {vs:List V} {fp:Y2} {us:Y1},D.kP ds=true->aJ X.K F H ds vs fp->Vals vs us->∃as,ReadsAll s.heap us (D.pys ds) as
 | [],vs,fp,us,_,o,r=>by unfold aJ at o;rw [o.1] at r;cases r;exact ⟨_,.nil⟩
 | d::ds,vs,fp,us,hp,o,r=>by
  simp only [D.kP,Bool.and_eq_true] at hp
  unfold aJ at o
  obtain ⟨v,vr,f1,f2,e,o1,o2,_⟩:=o
  rw [e] at r
  cases r with
  | cons r1 r2 =>
   obtain ⟨a1,q1⟩:=dN I hs d hp.1 o1 r1
   obtain ⟨a2,q2⟩:=oY I hs ds hp.2 o2 r2
   exact ⟨_,.cons q1 q2⟩
end
end
def eqD (x y:D):Bool:=PyData.eqv x.py y.py
def uW (x y:D):Bool:=x.plain && y.plain && (x.py.canLay0 && y.py.canLay0 && decide (min x.py.depth y.py.depth<=100))
def aQd (K:FG) (neg:Bool):R2:=fun v u H Q=>∃F x y fx fy,bB F H/\Own K F H x v fx/\Own K F H y u fy/\uW x y=true/\Q (.bl (if neg then !eqD x y else eqD x y)) H
def kEq (neg:Bool):D×Bool->D×Bool->R (D×Bool):=fun x y=>if uW x.1 y.1 then .ok (.bl (if neg then !eqD x.1 y.1 else eqD x.1 y.1),true) else .bad
theorem aDz {K:FG} {neg:Bool}:Op2 K (kEq neg) (aQd K neg):=by
 intro F0 H0 F H x y v u fx fy Q gr o1 n1 k1 o2 n2 k2 h
 unfold kEq at h
 by_cases hc:uW x.1 y.1=true
 ·rw [if_pos hc] at h
  exact ⟨F,x.1,y.1,fx,fy,gr.inn,o1,o2,hc,EPost.dU gr h rfl⟩
 ·rw [if_neg hc] at h;exact h.elim
def qK (x:D) (ds:List D):Bool:=x.plain && D.kP ds && (x.py.canLay0 && PyData.canLayAll0 (D.pys ds) && decide (min (PyData.depthAll (D.pys ds)) x.py.depth<=100))
def inD (x:D) (ds:List D):Bool:=(D.pys ds).any fun y=>PyData.eqv y x.py
def aSh (K:FG) (neg:Bool):R2:=fun v u H Q=>∃F x ds fx fy,bB F H/\Own K F H x v fx/\((∃o,Own K F H (.lst o ds) u fy)\/Own K F H (.tup ds) u fy)/\qK x ds=true/\Q (.bl (if neg then !inD x ds else inD x ds)) H
def kIn (neg:Bool):D×Bool->D×Bool->R (D×Bool):=fun x y=>match y.1 with
 | .lst _ ds=>if qK x.1 ds then .ok (.bl (if neg then !inD x.1 ds else inD x.1 ds),true) else .bad
 | .tup ds=>if qK x.1 ds then .ok (.bl (if neg then !inD x.1 ds else inD x.1 ds),true) else .bad
 | _=>.bad
theorem aDt {K:FG} {neg:Bool}:Op2 K (kIn neg) (aSh K neg):=by
 intro F0 H0 F H x y v u fx fy Q gr o1 n1 k1 o2 n2 k2 h
 obtain ⟨y,b⟩:=y
 cases y<;>try exact h.elim
 ·rename_i ds
  have h:(if qK x.1 ds=true then R.ok (D.bl (if neg then !inD x.1 ds else inD x.1 ds),true) else .bad).holds (EPost K F0 H0 Q):=h
  by_cases hc:qK x.1 ds=true
  ·rw [if_pos hc] at h
   exact ⟨F,x.1,ds,fx,fy,gr.inn,o1,.inr o2,hc,EPost.dU gr h rfl⟩
  ·rw [if_neg hc] at h;exact h.elim
 ·rename_i o ds
  have h:(if qK x.1 ds=true then R.ok (D.bl (if neg then !inD x.1 ds else inD x.1 ds),true) else .bad).holds (EPost K F0 H0 Q):=h
  by_cases hc:qK x.1 ds=true
  ·rw [if_pos hc] at h
   exact ⟨F,x.1,ds,fx,fy,gr.inn,o1,.inl ⟨o,o2⟩,hc,EPost.dU gr h rfl⟩
  ·rw [if_neg hc] at h;exact h.elim
section
variable {X:Cx} {k:Nat}
theorem tO (hr:Room k X.A) {n:Nat} (h:n<=100):X.A.units+1+n<cLine:=by have:=hr.un;omega
theorem aKn (hr:Room k X.A):OpR X (compareOp .Eq) (aQd X.K false):=by
 intro pins s σ H v u vv uu Q I rx ry h
 obtain ⟨F,x,y,fx,fy,hs,o1,o2,hc,q⟩:=h
 unfold uW at hc
 simp only [Bool.and_eq_true,decide_eq_true_iff] at hc
 obtain ⟨_,r1⟩:=dN I hs x hc.1.1 o1 rx
 obtain ⟨_,r2⟩:=dN I hs y hc.1.2 o2 ry
 exact PySem.SeqAt.compareEq_reads r1 r2 hc.2.1.1 hc.2.1.2 (by have:=tO hr hc.2.2;omega) ⟨.bl _,H,I,rfl,q⟩
theorem aQt (hr:Room k X.A):OpR X (compareOp .NotEq) (aQd X.K true):=by
 intro pins s σ H v u vv uu Q I rx ry h
 obtain ⟨F,x,y,fx,fy,hs,o1,o2,hc,q⟩:=h
 unfold uW at hc
 simp only [Bool.and_eq_true,decide_eq_true_iff] at hc
 obtain ⟨_,r1⟩:=dN I hs x hc.1.1 o1 rx
 obtain ⟨_,r2⟩:=dN I hs y hc.1.2 o2 ry
 exact PySem.SeqAt.compareNe_reads r1 r2 hc.2.1.1 hc.2.1.2 (by have:=tO hr hc.2.2;omega) ⟨.bl _,H,I,rfl,q⟩
theorem aIm (hr:Room k X.A):OpR X (compareOp .In) (aSh X.K false):=by
 intro pins s σ H v u vv uu Q I rx ry h
 obtain ⟨F,x,ds,fx,fy,hs,o1,o2,hc,q⟩:=h
 unfold qK at hc
 simp only [Bool.and_eq_true,decide_eq_true_iff] at hc
 obtain ⟨_,r1⟩:=dN I hs x hc.1.1 o1 rx
 have hu:=tO hr hc.2.2
 rcases o2 with ⟨o,o2⟩ | o2
 ·obtain ⟨_,r2⟩:=dN I hs _ (by simpa [D.plain] using hc.1.2) o2 ry
  exact PySem.SeqAt.in_list_reads (by unfold D.py at r2;exact r2) r1 hc.2.1.2 hc.2.1.1 hu ⟨.bl _,H,I,rfl,q⟩
 ·obtain ⟨_,r2⟩:=dN I hs _ (by simpa [D.plain] using hc.1.2) o2 ry
  exact PySem.SeqAt.in_tuple_reads (by unfold D.py at r2;exact r2) r1 hc.2.1.2 hc.2.1.1 hu ⟨.bl _,H,I,rfl,q⟩
theorem aGc (hr:Room k X.A):OpR X (compareOp .NotIn) (aSh X.K true):=by
 intro pins s σ H v u vv uu Q I rx ry h
 obtain ⟨F,x,ds,fx,fy,hs,o1,o2,hc,q⟩:=h
 unfold qK at hc
 simp only [Bool.and_eq_true,decide_eq_true_iff] at hc
 obtain ⟨_,r1⟩:=dN I hs x hc.1.1 o1 rx
 have hu:=tO hr hc.2.2
 rcases o2 with ⟨o,o2⟩ | o2
 ·obtain ⟨_,r2⟩:=dN I hs _ (by simpa [D.plain] using hc.1.2) o2 ry
  exact PySem.SeqAt.notIn_list_reads (by unfold D.py at r2;exact r2) r1 hc.2.1.2 hc.2.1.1 hu ⟨.bl _,H,I,rfl,q⟩
 ·obtain ⟨_,r2⟩:=dN I hs _ (by simpa [D.plain] using hc.1.2) o2 ry
  exact PySem.SeqAt.notIn_tuple_reads (by unfold D.py at r2;exact r2) r1 hc.2.1.2 hc.2.1.1 hu ⟨.bl _,H,I,rfl,q⟩
end
end VL
end
section
namespace VL
open PySem PySem.Spec PyProof.Rows L2
def aNj (T:String) (d:D):Bool:=match d with
 | .non=>false | .bl _=>T == "bool" || T == "int" | .int _=>T == "int" | .str _=>T == "str" | .tup _=>T == "tuple" | .lst _ _=>T == "list" | .ext _ _=>false
def aAj:D->Bool
 | .ext _ _=>false | _=>true
def tL:List String:=["bool", "int", "str", "tuple", "list"]
section
variable {X:Cx}
theorem aQ8 {K:FG} {T:String} (hT:T∈tL):PySem.W.kitOne K (.type "NoneType") (.type T)=some false/\PySem.W.kitOne K (.type "bool") (.type T)=some (T == "bool" || T == "int")/\PySem.W.kitOne K (.type "int") (.type T)=some (T == "int") /\
  PySem.W.kitOne K (.type "str") (.type T)=some (T == "str")/\PySem.W.kitOne K (.type "tuple") (.type T)=some (T == "tuple")/\PySem.W.kitOne K (.type "list") (.type T)=some (T == "list"):=by
 have h:T = "bool" \/T = "int" \/T = "str" \/T = "tuple" \/T = "list" :=by simpa [tL] using hT
 rcases h with rfl | rfl | rfl | rfl | rfl<;>refine ⟨?_,?_,?_,?_,?_,?_⟩<;>first | rfl | decide +kernel | kernel_rfl
theorem aJs {T:String} (hT:T∈tL):lD X (.builtin "isinstance") (fun vs H Q=>∃F d v fp,bB F H/\vs=[v,.ty T]/\Own X.K F H d v fp/\aAj d=true/\Q (.bl (aNj T d)) H):=by
 intro pins s σ H vs us Q I r h
 obtain ⟨F,d,v,fp,hs,e,o,hne,q⟩:=h
 subst e
 obtain ⟨u,u2,rfl,r1,r2⟩:=r.two
 cases r2
 obtain ⟨k1,k2,k3,k4,k5,k6⟩:=aQ8 (K:=X.K) hT
 have fin:∀b tk,aNj T d=b->EP X pins σ Q (.bool b) { s with toks:=tk }:=fun b tk e=>⟨.bl b,H,I.tok _,rfl,e ▸ q⟩
 cases d with
 | non=>unfold Own at o;rw [o.1] at r1;exact iQ I r1 (.non) k1 fun tk=>fin _ tk rfl
 | bl b=>unfold Own at o;rw [o.1] at r1;exact iQ I r1 (.bl b) k2 fun tk=>fin _ tk rfl
 | int b=>unfold Own at o;rw [o.1] at r1;exact iQ I r1 (.int b) k3 fun tk=>fin _ tk rfl
 | str b=>unfold Own at o;rw [o.1] at r1;exact iQ I r1 (.str b) k4 fun tk=>fin _ tk rfl
 | tup ds =>
  unfold Own at o
  obtain ⟨_,a,xs,e,hy,_⟩:=o
  rw [e] at r1
  cases (show u=Value.ref a from r1)
  obtain ⟨its,rv,⟨ob,h1,h2,_⟩,_⟩:=I.tuple (bB.xJ hs hy)
  exact PySem.W.kia_one PySem.W.kitx_tuple I.kIn ⟨ob,h1,h2⟩ k5 (fun z=>nomatch z) fun tk=>fin _ tk rfl
 | ext _ _=>cases hne
 | lst w ds =>
  obtain ⟨a,xs,fq,e,q1,_⟩:=Own.aNw hs o
  rw [e] at r1
  rcases q1 with q1 | ⟨ob,q1⟩
  ·exact iQ I r1 (.lst q1) k6 fun tk=>fin _ tk rfl
  ·exact iQ I r1 (.frz q1) k6 fun tk=>fin _ tk rfl
def oX (T:String):D×Bool->R (D×Bool):=fun x=>if aAj x.1 then .ok (.bl (aNj T x.1),true) else .bad
theorem pG {T:Str} {T':String} {a:Expr} {f:aS} {p q pos:Pos} (hT:T'∈tL) (ha:SE X a f) (hm:X.mg "isinstance" = none) (hm2:X.mg T=none) (hv:bootBuiltins T=some (.type T')) (hg:Gl X "isinstance" :=by rfl) (hg2:Gl X T:=by rfl) (hn:T ≠ "__name__" :=by decide) (hd:(T == ("__debug__" : Str))=false:=by decide)
  (hs1:starEach [a,.Name T q] X.env=(false,eval a X.env)::starEach [.Name T q] X.env:=by rfl) (hs2:starEach [.Name T q] X.env=(false,eval (.Name T q) X.env)::starEach [] X.env:=by rfl)
  (hpl:(backTo pos (starEach [.Name T q] X.env)).any (·.1)=false:=by rfl):SE X (.Call (.Name "isinstance" p) [a,.Name T q] [] pos) (v1 (oX T') f) :=
 (rE (aJs hT) hg hm PyProof.Rows.boot_isinstance (fI ha (fI (aLx (v:=.ty T') hg2 hm2 hv rfl hn hd) nO hs2) hs1) (by decide) (by decide) hs1 hpl).imp fun σ H Q h=>by
  obtain ⟨ρ,F,fps,S,h⟩:=h
  refine ⟨ρ,F,fps,S,R.aM (R.aN.mp h) fun x hx v F1 H1 fx g1 o1 n1 k1=>?_⟩
  unfold oX at hx
  by_cases hc:aAj x.1=true
  ·rw [if_pos hc] at hx
   exact ⟨F1,x.1,v,fx,g1.inn,rfl,o1,hc,EPost.dU g1 hx rfl⟩
  ·rw [if_neg hc] at hx;exact hx.elim
def eD:List D->Option (Y0)
 | []=>some []
 | .int i::ds=>(eD ds).map (i::·)
 | _=>none
theorem gL {K:FG} {F H:Hp}:∀(ds:List D) {ns:Y0} {xs:List V} {fp:Y2},eD ds=some ns->aJ K F H ds xs fp->xs=ns.map V.int
 | [],ns,xs,fp,e,o=>by unfold eD at e;cases e;unfold aJ at o;exact o.1
 | d::ds,ns,xs,fp,e,o=>by
  cases d<;>try (unfold eD at e;cases e;done)
  rename_i i
  unfold eD at e
  cases q:eD ds with
  | none=>rw [q] at e;cases e
  | some ms =>
   rw [q] at e
   have e:some (i::ms)=some ns:=e
   cases e
   unfold aJ at o
   obtain ⟨v,r,f1,f2,e1,o1,o2,_⟩:=o
   unfold Own at o1
   rw [e1,o1.1,gL ds q o2];rfl
theorem aG7 (hc:X.calm=true):lD X (.builtin "sum") (fun xs H Q=>∃(p:Addr) (ns:Y0),xs=[.ref p]/\SqL X.K H p (ns.map V.int)/\Q (.int ns.sum) H):=by
 intro pins s σ H xs us Q I r h
 obtain ⟨p,ns,rfl,hq,q⟩:=h
 obtain ⟨u,rfl,ru⟩:=vals1 r
 cases ru
 obtain ⟨its,rv,pl,_⟩:=I.list hq
 have hi:IntsAre its ns:=intsAre_of rv
 obtain ⟨ys,hx⟩:=hi.allInts.items
 have hl':s.heap.IsList p (intItems ys):=hx ▸ pl.isList
 refine sum_intListG (I.ok.hd hc) hl' fun h' tk t' hk=>?_
 have e1:ns=ys.toList.map (·.1):=by
  rw [<- nums_intItems,<- hx]
  exact (show numsOf its.toArray.toList=ns from hi.numsOf).symm
 have e2:preSum (numAt ys) ys.size=ns.sum:=by
  rw [preSum_eq,List.take_of_length_le (by simp),e1]
 rw [e2]
 exact ⟨.int _,H,I.kept hk,⟨_,rfl⟩,q⟩
def aG1:List (D×Bool)->R (D×Bool)
 | [(.lst _ ds,_)]=>(match eD ds with | some ns=>.ok (.int ns.sum,true) | none=>.bad) | _=>.bad
theorem aM8 {K:FG}:OpA K aG1 (fun xs H Q=>∃(p:Addr) (ns:Y0),xs=[.ref p]/\SqL K H p (ns.map V.int)/\Q (.int ns.sum) H):=by
 intro F0 H0 F H xs vs fa Q gr a n k h
 match xs,h,a with
 | [(.lst o ds,b)],h,a =>
  unfold Args at a
  obtain ⟨v,r,fp,f2,e,o1,n1,t,w⟩:=a
  unfold Args at t
  obtain ⟨p,ys,fq,e1,q1,r1,_⟩:=Own.lst gr.inn o1
  have h:(match eD ds with | some ns=>R.ok (D.int ns.sum,true) | none=>R.bad).holds (EPost K F0 H0 Q):=h
  cases q:eD ds with
  | none=>rw [q] at h;exact h.elim
  | some ns =>
   rw [q] at h
   rw [gL ds q r1] at q1
   exact ⟨p,ns,by rw [e,t.1,e1],q1,EPost.dU gr h rfl⟩
end
end VL
end
section
namespace VL
open PySem L2
section
variable {K:FG} {F H F' H' F1 H1:Hp} {σ σ1:St} {ρ ρ1:Env} {Q:VK}
def jQ (ρ:Env) (j:Nat):Slot:=match getD ρ j with | some d=>.val d.frz | none=>.un
def lY (ρ:Env) (j:Nat):Bool:=match getD ρ j with | some d=>d.calm | none=>true
def jW (set:D->Env->Option Env) (c:cW) (e:aS):List D->Env->R (List D)
 | [],_=>.ok []
 | d::ds,ρ=>match set d ρ with
  | none=>.bad
  | some ρ1=>(c ρ1).bind fun b=>if b=true then (e ρ1).bind fun x=>if aV x then (jW set c e ds ρ1).bind fun r=>.ok (x.1::r) else .bad else jW set c e ds ρ1
def bS (f:kR) (nt:Nat) (js:T0) (set:D->Env->Option Env) (c:cW) (e:aS):aS:=fun ρ=>(f ρ).bind fun ds =>
 if decide (ds.length<=1000000) then (jW set c e ds (List.replicate nt .un++js.map (jQ ρ))).bind fun xs=>if js.all (lY ρ) || xs.all isScal then .ok (.lst true xs,true) else .bad else .bad
theorem dX {fps:Y5} (S:Sim K F H σ ρ fps):∀(js:T0),∃U:Y2,(∀b∈U,F b=none)/\(js.all (lY ρ)=true->U=[]) /\
  ∀U':Y2,(∀b∈U,b∈U')->(∀b∈U',F b=none)->∀(k:Nat) (d:D),(js.map (jQ ρ))[k]?=some (.val d)->∃v,(js.map fun j=>(σ[j]?).join)[k]?=some (some v)/\Own K (fO F H U') H d v []
 | []=>⟨[],by simp,fun _=>rfl,fun _ _ _ k d e=>by simp at e⟩
 | j::js=>by
  obtain ⟨U,u1,u2,u3⟩:=dX S js
  cases eg:getD ρ j with
  | none =>
   refine ⟨U,u1,fun h=>u2 (by rw [List.all_cons,Bool.and_eq_true] at h;exact h.2),fun U' s1 s2 k d e=>?_⟩
   cases k with
   | zero =>
    have e:jQ ρ j=.val d:=by simpa using e
    unfold jQ at e
    rw [eg] at e;cases e
   | succ k=>simpa using u3 U' s1 s2 k d (by simpa using e)
  | some d0 =>
   obtain ⟨v,fp,h1,h2,h3⟩:=S.get eg
   have hz:∀b∈fp,b∈fps.flatten:=fun b hb=>List.mem_flatten.mpr ⟨_,List.mem_of_getElem? h2,hb⟩
   refine ⟨fp++U,fun b hb=>(List.mem_append.mp hb).elim (fun q=>(S.zone b (hz b q)).1) (u1 b),fun h=>?_,fun U' s1 s2 k d e=>?_⟩
   ·rw [List.all_cons,Bool.and_eq_true] at h
    have hc:d0.calm=true:=by have:=h.1;unfold lY at this;rw [eg] at this;exact this
    rw [Own.eB d0 hc h3,u2 h.2];rfl
   ·cases k with
    | zero =>
     have e:jQ ρ j=.val d:=by simpa using e
     unfold jQ at e
     rw [eg] at e;cases e
     exact ⟨v,by simp [h1],Own.freeze s2 d0 (fun b hb=>s1 b (List.mem_append_left _ hb)) h3⟩
    | succ k=>simpa using u3 U' (fun b hb=>s1 b (List.mem_append_right _ hb)) s2 k d (by simpa using e)
theorem Sim.other {fps:Y5} {a:Addr} {o:HO} (S:Sim K F H σ ρ fps) (fa:F a=none) (ha:a ∉ fps.flatten):Sim K F (upd H a o) σ ρ fps:=by
 refine ⟨fun b u e=>?_,S.ls,S.lf,fun i s d e1 e2=>?_,S.nd,fun b hb=>?_⟩
 ·rw [aZ (bM e fa)];exact S.same b u e
 ·obtain ⟨v,fp,h1,h2,h3⟩:=S.at_ i s d e1 e2
  exact ⟨v,fp,h1,h2,h3.other fun z=>ha (List.mem_flatten.mpr ⟨fp,List.mem_of_getElem? h2,z⟩)⟩
 ·refine ⟨(S.zone b hb).1,?_⟩
  have hne:b ≠ a:=fun z=>ha (z ▸ hb)
  rw [aZ hne];exact (S.zone b hb).2
structure CSt (K:FG) (FB H1:Hp) (acc:Addr) (F' H':Hp) (σ':St) (ρ':Env) (done:List D):Prop where
 fr:bB FB F'
 all:∀b o,H1 b=some o->H' b=some o
 new:∀b o,F' b=some o->FB b=some o\/H1 b=none
 sim:∃fps',Sim K F' H' σ' ρ' fps'/\fps'.flatten=[]
 acc_:F' acc=none
 own:∃xs fa,H' acc=some (.lst xs)/\aJ K F' H' done xs fa/\(acc::fa).Nodup/\∀b∈fa,H1 b=none
theorem CSt.grow {FB H1 F2 H2:Hp} {acc:Addr} {σ':St} {ρ':Env} {done:List D} (c:CSt K FB H1 acc F' H' σ' ρ' done) (g:Grow F' H' F2 H2):CSt K FB H1 acc F2 H2 σ' ρ' done:=by
 obtain ⟨fps',S,e⟩:=c.sim
 obtain ⟨xs,fa,a1,a2,a3,a4⟩:=c.own
 refine ⟨c.fr.trans g.fr,fun b o q=>g.all b o (c.all b o q),fun b o q=>?_,⟨fps',S.grow g,e⟩,?_,⟨xs,fa,g.all _ _ a1,a2.grow g,a3,a4⟩⟩
 ·rcases g.new b o q with z | z
  ·exact c.new b o z
  ·refine .inr ?_
   cases q2:H1 b with
   | none=>rfl
   | some u=>rw [c.all b u q2] at z;cases z
 ·cases q:F2 acc with
  | none=>rfl
  | some o =>
   rcases g.new acc o q with z | z
   ·rw [c.acc_] at z;cases z
   ·rw [a1] at z;cases z
theorem CSt.push {FB H1:Hp} {acc:Addr} {σ':St} {ρ':Env} {done:List D} {x:D} {v:V} {fx:Y2} (c:CSt K FB H1 acc F' H' σ' ρ' done) (hacc:H1 acc=none) (o:Own K F' H' x v fx) (n:fx.Nodup) {Hm:Hp} (hm:∀b∈fx,Hm b=none) (hsub:∀b o,H1 b=some o->∃o',Hm b=some o') (hdone:∃xs fa,H' acc=some (.lst xs)/\aJ K F' H' done xs fa/\(acc::fa).Nodup/\(∀b∈fa,H1 b=none)/\∀b∈acc::fa,Hm b ≠ none) :
  ∃xs,H' acc=some (.lst xs)/\xs.length=done.length/\CSt K FB H1 acc F' (upd H' acc (.lst (xs ++ [v]))) σ' ρ' (done ++ [x]):=by
 obtain ⟨fps',S,e⟩:=c.sim
 obtain ⟨xs,fa,a1,a2,a3,a4,hd⟩:=hdone
 have nx:∀b∈acc::fa,b ∉ fx:=fun b hb z=>hd b hb (hm b z)
 have nacc:=List.nodup_cons.mp a3
 refine ⟨xs,a1,(aJ.length done a2).symm,c.fr,fun b u q=>?_,c.new,⟨fps',S.other c.acc_ (by rw [e];simp),e⟩,c.acc_,⟨xs ++ [v],fa++fx,bN,aJ.append done (a2.other nacc.1) (aJ.one (o.other (nx acc List.mem_cons_self))),?_,fun b hb=>?_⟩⟩
 ·rw [aZ (bM q hacc)];exact c.all b u q
 ·refine List.nodup_cons.mpr ⟨fun z=>(List.mem_append.mp z).elim nacc.1 (nx acc List.mem_cons_self),List.nodup_append.mpr ⟨nacc.2,n,fun p hp q hq z=>?_⟩⟩
  subst z
  exact nx p (List.mem_cons_of_mem _ hp) hq
 ·rcases List.mem_append.mp hb with hb | hb
  ·exact a4 b hb
  ·cases q:H1 b with
   | none=>rfl
   | some u =>
    obtain ⟨o',z⟩:=hsub b u q
    rw [hm b hb] at z;cases z
theorem aE4 {f:kR} {nt:Nat} {js:T0} {set:D->Env->Option Env} {g:TG} {c:cW} {e:aS} (ht:Tgt K set g) (h:tv K (bS f nt js set c e) σ H Q):aFn (iv K f) nt js g (tvT K c) (tv K e) σ H Q:=by
 obtain ⟨ρ,F,fps,S,h⟩:=h
 refine ⟨ρ,F,fps,S,R.aM (R.aN.mp h) fun ds hds J F1 H1 g1 hJ acc hacc=>?_⟩
 by_cases hsz:decide (ds.length<=1000000)=true
 ·rw [if_pos hsz] at hds
  rw [decide_eq_true_iff] at hsz
  have hds:=R.aN.mp hds
  have S1:=S.grow g1
  obtain ⟨U,u1,u2,u3⟩:=dX S1 js
  have own0:=u3 U (fun b hb=>hb) u1
  let FB:=fO F1 H1 U
  have sB:bB F1 FB:=fV u1
  have inB:bB FB H1:=rD g1.inn
  let H1':=upd H1 acc (.lst [])
  have gB:Grow FB H1 FB H1':=Grow.one inB hacc
  let σ0:St:=List.replicate nt none++js.map fun j=>(σ[j]?).join
  let ρ0:Env:=List.replicate nt .un++js.map (jQ ρ)
  have C0:CSt K FB H1 acc FB H1' σ0 ρ0 []:=by
   refine ⟨bB.refl _,fun b o q=>by show upd H1 acc _ b=_;rw [aZ (bM q hacc)];exact q,fun b o q=>.inl q,⟨List.replicate ρ0.length [],⟨gB.inn,?_,by simp,fun i s d e1 e2=>?_,by simp,fun a ha=>by simp at ha⟩,by simp⟩,inB.free hacc,⟨[],[],bN,aJ.nil,by simp,fun b hb=>by cases hb⟩⟩
   ·show (List.replicate nt none++js.map _).length=(List.replicate nt Slot.un++js.map _).length
    simp
   ·have e1:(List.replicate nt Slot.un++js.map (jQ ρ))[i]?=some s:=e1
    by_cases hi:i<nt
    ·rw [List.getElem?_append_left (by simpa using hi),List.getElem?_replicate,if_pos hi] at e1
     cases e1;cases e2
    ·rw [List.getElem?_append_right (by simpa using hi),List.length_replicate] at e1
     have es:s=.val d:=by
      rw [List.getElem?_map] at e1
      cases ej:js[i - nt]? with
      | none=>rw [ej] at e1;cases e1
      | some j =>
       rw [ej] at e1
       have e1:jQ ρ j=s:=Option.some.inj e1
       unfold jQ at e1
       cases eg:getD ρ j with
       | none=>rw [eg] at e1;subst e1;cases e2
       | some d0=>rw [eg] at e1;subst e1;cases e2;rfl
     subst es
     obtain ⟨v,q1,q2⟩:=own0 (i - nt) d e1
     refine ⟨v,[],?_,?_,q2.grow gB⟩
     ·show (List.replicate nt none++js.map fun j=>(σ[j]?).join)[i]?=_
      rw [List.getElem?_append_right (by simpa using hi),List.length_replicate];exact q1
     ·have hl:i < ρ0.length:=by
       have:=(List.getElem?_eq_some_iff.mp e1).1
       show i<(List.replicate nt Slot.un++js.map (jQ ρ)).length
       simp at this ⊢;omega
      rw [List.getElem?_replicate,if_pos hl]
  refine ⟨fun i m σ' H'=>i<=ds.length/\m=ds.length - i/\∃ρ' F' done,CSt K FB H1 acc F' H' σ' ρ' done/\done.length<=i /\
    (jW set c e (ds.drop i) ρ').holds (fun rest=>(if js.all (lY ρ) || (done++rest).all isScal then R.ok (D.lst true (done++rest),true) else R.bad).holds (EPost K F H Q)),
   ⟨ds.length,Nat.zero_le _,rfl,ρ0,FB,[],C0,Nat.le_refl _,hds⟩,?_⟩
  rintro i m σ' H' ⟨hi,rfl,ρ',F',done,C,hdl,hrest⟩
  obtain ⟨fps',S',e'⟩:=C.sim
  by_cases hlt:i<ds.length
  ·refine .inr ?_
   obtain ⟨d,hd⟩:∃d,ds[i]?=some d:=⟨ds[i],by simp [hlt]⟩
   have hdrop:ds.drop i=d::ds.drop (i+1):=by
    rw [List.drop_eq_getElem_cons hlt]
    congr 1
    rw [List.getElem?_eq_getElem hlt] at hd;exact Option.some.inj hd
   rw [hdrop] at hrest
   obtain ⟨go,yl⟩:=hJ.2 i d hd F' H' (sB.trans C.fr) S'.same
   refine ⟨go,fun x H2 hy=>?_⟩
   obtain ⟨F2,g2,o2⟩:=yl x H2 hy
   have C2:=C.grow g2
   unfold jW at hrest
   cases es:set d ρ' with
   | none=>rw [es] at hrest;exact hrest.elim
   | some ρ2 =>
    rw [es] at hrest
    have hrest:=R.aN.mp hrest
    refine ht F2 H2 d x ρ' ρ2 σ' fps' _ (S'.grow g2) o2 es fun σ2 fps2 S2 p2 k2=>?_
    have e2':fps2.flatten=[]:=by
     cases q:fps2.flatten with
     | nil=>rfl
     | cons b l=>have:=k2 b (by rw [q];exact List.mem_cons_self);rw [e'] at this;cases this
    have C2':CSt K FB H1 acc F2 H2 σ2 ρ2 done:=⟨C2.fr,C2.all,C2.new,⟨fps2,S2,e2'⟩,C2.acc_,C2.own⟩
    refine ⟨ρ2,F2,fps2,S2,R.aM hrest fun b hb F3 H3 g3=>?_⟩
    have C3:=C2'.grow g3
    cases b with
    | false =>
     rw [if_neg Bool.false_ne_true] at hb
     show if false=true then _ else _
     rw [if_neg Bool.false_ne_true]
     exact ⟨ds.length - (i+1),by omega,by omega,rfl,ρ2,F3,done,C3,by omega,hb⟩
    | true =>
     rw [if_pos rfl] at hb
     show if true=true then _ else _
     rw [if_pos rfl]
     obtain ⟨fps3,S3,e3'⟩:=C3.sim
     refine ⟨ρ2,F3,fps3,S3,R.aM (R.aN.mp hb) fun y hy v F4 H4 fy g4 o4 n4 k4=>?_⟩
     by_cases hk:aV y=true
     ·rw [if_pos hk] at hy
      have hy:=R.aN.mp hy
      have k5:=qY hk o4 k4
      have C4:=C3.grow g4
      obtain ⟨xs,a1,a2,C5⟩:=C4.push hacc o4 n4 (Hm:=H3) k5 (fun b o q=>⟨o,C3.all b o q⟩) (by
       obtain ⟨ys,fa',b1,b2,b3,b4⟩:=C3.own
       refine ⟨ys,fa',g4.all _ _ b1,b2.grow g4,b3,b4,fun b hb=>?_⟩
       rcases List.mem_cons.mp hb with rfl | hb
       ·rw [b1];simp
       ·obtain ⟨_,zs,z⟩:=aJ.zone done b2 b hb
        rw [z];simp)
      refine ⟨xs,a1,tS (by omega),ds.length - (i+1),by omega,by omega,rfl,ρ2,F4,done ++ [y.1],C5,by simp;omega,R.aM hy fun r hr=>?_⟩
      have hr:(if js.all (lY ρ) || (done++y.1::r).all isScal then R.ok (D.lst true (done++y.1::r),true) else R.bad).holds (EPost K F H Q):=hr
      rw [show done ++ [y.1]++r=done++y.1::r by simp]
      exact hr
     ·rw [if_neg hk] at hy;exact hy.elim
  ·have hil:i=ds.length:=by omega
   refine .inl ⟨hJ.1 i H' (sB.trans (C.fr.trans S'.same)) (by omega),?_⟩
   rw [List.drop_eq_nil_of_le (by omega)] at hrest
   have hrest:(if js.all (lY ρ) || (done ++ []).all isScal then R.ok (D.lst true (done ++ []),true) else R.bad).holds (EPost K F H Q):=hrest
   rw [List.append_nil] at hrest
   obtain ⟨xs,fa,a1,a2,a3,a4⟩:=C.own
   have hall:bB H H':=g1.all.trans C.all
   have frsh:∀b∈acc::fa,H b=none:=fun b hb=>by
    rcases List.mem_cons.mp hb with rfl | hb
    ·exact g1.all.free hacc
    ·exact g1.all.free (a4 b hb)
   by_cases hcap:js.all (lY ρ)=true
   ·rw [hcap,Bool.true_or,if_pos rfl] at hrest
    have hU:=u2 hcap
    subst hU
    have eFB:∀b,FB b=F1 b:=fun b=>by show fO F1 H1 [] b=F1 b;unfold fO;simp
    refine hrest (.ref acc) F' H' (acc::fa) ⟨g1.fr.trans (sB.trans C.fr),hall,S'.same,fun b o q=>?_⟩ (Own.closed a2 C.acc_ a1) a3 fun _ b hb=>frsh b hb
    rcases C.new b o q with z | z
    ·rw [eFB] at z;exact g1.new b o z
    ·exact .inr (g1.all.free z)
   ·by_cases hsc:done.all isScal=true
    ·rw [hsc,Bool.or_true,if_pos rfl] at hrest
     have hfa:fa=[]:=by
      refine aJ.eB done ?_ a2
      rw [D.aCn]
      rw [List.all_eq_true] at hsc ⊢
      intro x hx
      have:=hsc x hx
      unfold isScal at this
      cases x<;>first | rfl | (simp [jG] at this)
     subst hfa
     have o1:aJ K F1 H' done xs []:=by
      refine aJ.of_get done (aJ.length done a2) fun k d v e1 e2=>?_
      have hd:isScal d=true:=by rw [List.all_eq_true] at hsc;exact hsc d (List.mem_of_getElem? e1)
      unfold isScal at hd
      cases q:jG d with
      | none=>rw [q] at hd;cases hd
      | some w =>
       have:=zG q (aJ.aS0 a2 e1 e2)
       rw [this.1];exact gH q
     refine hrest (.ref acc) F1 H' [acc] ⟨g1.fr,hall,(sB.trans C.fr).trans S'.same,fun b o q=>g1.new b o q⟩ (Own.closed o1 (g1.inn.free hacc) a1) a3 fun _ b hb=>frsh b hb
    ·have:(js.all (lY ρ) || done.all isScal)=false:=by
      rw [Bool.eq_false_iff];intro z
      rcases Bool.or_eq_true _ _ ▸ z with z | z
      ·exact hcap z
      ·exact hsc z
     rw [this] at hrest;exact hrest.elim
 ·rw [if_neg hsz] at hds;exact hds.elim
end
end VL
end
section
namespace VL
open PySem PySem.Spec PyProof.Rows L2
abbrev pO:=Env->Option Nat
def aOa (F H:Hp) (Q:VK) (n:Nat):Prop:=∀(z:Str) F' H',Grow F H F' H'->z.length<=n->Q (.str z) H'
def tz (K:FG) (f:pO):TE:=fun σ H Q=>∃ρ F fps,Sim K F H σ ρ fps/\∃n,f ρ=some n/\aOa F H Q n
abbrev SZ (X:Cx) (e:Expr) (f:pO):Prop:=PE X e (tz X.K f)
def SZs (X:Cx) (es:List Expr) (f:pO):Prop:=∀(pins:Y8) (s:Shared) (σ:L2.St) (H:Hp) (acc:Str) (Q:VK),L2.Inv X pins σ H s ->
 (∃ρ F fps,Sim X.K F H σ ρ fps/\∃n,f ρ=some n/\acc.length+n<=1000000/\aOa F H Q (acc.length+n)) ->
 Joins (model X.prog X.w) X.A X.xe (evalEach es X.env) acc (fun out s1=>out.length<=sizeLine/\EP X pins σ Q (.str out s1.toks) { s1 with toks:=s1.toks+1 }) s
section
variable {X:Cx} {W:XW} {e v1 v2:Expr} {es:List Expr} {pos:Pos}
theorem iR {i j}:SZ X (.Constant (.str i) j pos) (fun _=>some i.length):=aRn.imp fun σ H Q h=>by
 obtain ⟨ρ,F,fps,S,n,en,h⟩:=h
 cases en
 exact h i F H (Grow.refl S.same) (Nat.le_refl _)
def aBs (g:aS):pO:=fun ρ=>match g ρ with | .ok (.int a,_)=>if a.natAbs<=100000 then some 100002 else none | _=>none
theorem aGr {a:Int} (h:a.natAbs<=100000):a.natAbs.log2<1920:=by
 by_cases h0:a.natAbs=0
 ·rw [h0];decide
 ·exact (Nat.log2_lt h0).mpr (Nat.lt_of_le_of_lt h (Nat.lt_of_lt_of_le (by decide:100000<2 ^ 17) (Nat.pow_le_pow_right (by decide) (by decide))))
theorem qN {g:aS} (h:SE X e g):SZ X (.FormattedValue e (-1) none pos) (aBs g):=by
 intro pins s σ H Q I q
 obtain ⟨ρ,F,fps,S,n,en,q⟩:=q
 unfold aBs at en
 refine FormattedValue_plain (thn (h pins s σ H (fun v H'=>∃a,v=.int a/\a.natAbs<=100000/\∀z:Str,z.length<=100002->Q (.str z) H') I ⟨ρ,F,fps,S,?_⟩) fun u s1 ⟨v,H1,I1,r,a,ev,ha,hq⟩=>?_)
 ·cases eg:g ρ with
  | exc _=>rw [eg] at en;cases en
  | bad=>rw [eg] at en;cases en
  | ok x =>
   rw [eg] at en
   obtain ⟨x,b⟩:=x
   cases x<;>try cases en
   rename_i a
   dsimp only at en
   by_cases ha:a.natAbs<=100000
   ·rw [if_pos ha] at en;cases en
    intro v F1 H1 fx g1 o1 n1 k1
    unfold Own at o1
    exact ⟨a,o1.1,ha,fun z hz=>q z F1 H1 g1 hz⟩
   ·rw [if_neg ha] at en;cases en
 ·subst ev
  obtain ⟨t,rfl⟩:=r
  have hl:((Str.ofString (toString a)).length:Int)<=a.natAbs+2:=len_str_of_int a
  exact formatField_int_small (aGr ha) ⟨.str (Str.ofString (toString a)),H1,I1.tok _,⟨_,rfl⟩,hq _ (by omega)⟩
theorem pU:SZs X [] (fun _=>some 0):=by
 intro pins s σ H acc Q I q
 obtain ⟨ρ,F,fps,S,n,en,hn,q⟩:=q
 cases en
 exact ⟨gO hn,.str acc,H,I.tok _,⟨_,rfl⟩,q acc F H (Grow.refl S.same) (Nat.le_refl _)⟩
def mK (f g:pO):pO:=fun ρ=>(f ρ).bind fun a=>(g ρ).map fun b=>a+b
theorem cU {f g:pO} (h1:SZ X e f) (h2:SZs X es g) (he:evalEach (e::es) X.env=eval e X.env::evalEach es X.env:=by rfl):SZs X (e::es) (mK f g):=by
 intro pins s σ H acc Q I q
 obtain ⟨ρ,F,fps,S,n,en,hn,q⟩:=q
 unfold mK at en
 cases ef:f ρ with
 | none=>rw [ef] at en;cases en
 | some a =>
  rw [ef] at en
  cases eg:g ρ with
  | none=>rw [eg] at en;cases en
  | some b =>
   rw [eg] at en
   have en:some (a+b)=some n:=en
   cases en
   rw [he]
   refine thn (h1 pins s σ H (fun v H'=>∃z:Str,v=.str z/\z.length<=a/\∃F',Grow F H F' H') I ⟨ρ,F,fps,S,a,ef,fun z F' H' g1 hz=>⟨z,rfl,hz,F',g1⟩⟩) fun u s1 ⟨v,H1,I1,r,z,ev,hz,F1,g1⟩=>?_
   subst ev
   obtain ⟨t,rfl⟩:=r
   have hl:(acc++z).length=acc.length+z.length:=strLen_append _ _
   refine ⟨z,t,rfl,gO (by omega),h2 pins s1 σ H1 (acc++z) Q I1 ⟨ρ,F1,fps,S.grow g1,b,eg,by omega,fun y F' H' g2 hy=>q y F' H' (g1.trans g2) (by omega)⟩⟩
def zTop (f:pO):pO:=fun ρ=>(f ρ).bind fun n=>if n<=1000000 then some n else none
theorem qG {f:pO} (h:SZs X (v1::v2::es) f):SZ X (.JoinedStr (v1::v2::es) pos) (zTop f):=by
 intro pins s σ H Q I q
 obtain ⟨ρ,F,fps,S,n,en,q⟩:=q
 unfold zTop at en
 cases ef:f ρ with
 | none=>rw [ef] at en;cases en
 | some a =>
  rw [ef] at en
  dsimp only [Option.bind] at en
  by_cases ha:a<=1000000
  ·rw [if_pos ha] at en;cases en
   have e0:(Str.empty).length=0:=rfl
   refine PySem.wpAny_JoinedStr (h pins s σ H Str.empty Q I ⟨ρ,F,fps,S,n,ef,by rw [e0];omega,?_⟩)
   rw [e0,Nat.zero_add];exact q
  ·rw [if_neg ha] at en;cases en
def lG (c:Str) (f:pO):aX:=fun ρ=>match f ρ with | some _=>.exc c ρ | none=>.bad
def bmV:Y1:=[.type "ValueError",.type "Exception",.type "BaseException",.type "object"]
theorem lC {c:Str} {C:Addr} {f:pO} {np cpos:Pos} (L:LkF X W) (hcalm:X.calm=true) (hC:hZ X.K c C) (hx:PySem.W.excIn X.K C bmV "ValueError.__new__" = true) (hm:X.mg c=some (.ref C)) (ha:SZ X e f) (hg:Gl X c:=by rfl) (hd:(c == ("__debug__" : Str))=false:=by decide)
  (he:starEach [e] X.env=(false,eval e X.env)::starEach [] X.env:=by rfl) (hpl:(backTo cpos (starEach [e] X.env)).any (·.1)=false:=by rfl) :
  SS X W (.Raise (some (.Call (.Name c np) [e] [] cpos)) none pos) (lG c f):=by
 intro pins s σ H D I h
 obtain ⟨ρ,F,fps,S,h⟩:=h
 unfold lG at h
 cases ef:f ρ with
 | none=>rw [ef] at h;exact h.elim
 | some n =>
  rw [ef] at h
  have h:dS X.K F H fps.flatten ρ σ (W c) ρ:=h
  have O:∃bm N nm q bs hdct sn sub ab col dd k0 k1 k2 k3 k5 mN,X.base.get? C=some (excClassObj nm q C N bs bm hdct sn sub ab col dd k0 k1 k2 k3 k5 "ValueError.__new__")/\X.base.Ns N mN/\mN "__init__" = none/\OwnTail X.base bmV bm:=by
   have KX:=I.ok.mod.kin
   have q:=hx
   unfold PySem.W.excIn at q
   split at q
   ·rename_i dd cd sl ho
    split at q
    ·rename_i C' bm k0 k1 k2 k3 n k5 hm hs
     simp only [Bool.and_eq_true,beq_iff_eq,Bool.not_eq_true'] at q
     obtain ⟨⟨⟨⟨⟨rfl,rfl⟩,hdel⟩,ht⟩,hok⟩,hni⟩:=q
     obtain ⟨nm,bs,mro,ns,qn,hd,sn,sub,ab,col,del⟩:=cd
     dsimp only at hm hdel hok hni
     subst hm hdel
     have hsl:sl = #[k0,k1,k2,k3,some (.builtin "ValueError.__new__"),k5]:=by
      obtain ⟨l⟩:=sl
      simp only at hs
      rw [hs]
     subst hsl
     exact ⟨bm,ns,nm,qn,bs,hd,sn,sub,ab,col,dd,k0,k1,k2,k3,k5,_,KX _ _ ho,.of_isNs (PySem.W.isNs_of_in KX hok),PySem.W.nsMap_none_of_in KX hok hni,PySem.W.tail_of_in KX ht⟩
    ·cases q
   ·cases q
  obtain ⟨bm,Nn,nm,q,bs,hdct,sn,sub,ab,col,dd,k0,k1,k2,k3,k5,mN,o1,o2,o3,o4⟩:=O
  refine wpAny_Raise_call_subT (C:=C) (nm:=nm) (q:=q) (N:=Nn) (bs:=bs) (bm:=bm) (hdct:=hdct) (sn:=sn) (sub:=sub) (ab:=ab) (col:=col) (dd:=dd) (k0:=k0) (k1:=k1) (k2:=k2) (k3:=k3) (k5:=k5)
   PySem.F.excBase_ValueError (mN:=mN) (o4.hasType PySem.F.excBase_ValueError.hasBase) (I.ok.hd hcalm) hpl o3 (qQ I hg hm ⟨rfl,?_⟩ hd)
  rw [he]
  show wpAny _ _ (evalArgs _ true ((false,eval e X.env)::backTo cpos (starEach [] X.env)) []) _ _ s
  exact Calls.evalArgs_plain (Calls.spliced_cons (thn (ha pins s σ H (fun v H'=>∃F',Grow F H F' H') I ⟨ρ,F,fps,S,n,ef,fun z F' H' g1 _=>⟨F',g1⟩⟩) fun u s1 ⟨v,H1,I1,r,F1,g1⟩=>Calls.spliced_nil ⟨rfl,by show 1<=sizeLine;decide,I1.bk _ _ o1,o2.keeps I1.bk,o4.keeps I1.bk,fun h' e' hx=>L.fresh pins σ H1 s1 h' e' C c _ I1 hC hx (h σ F1 H1 fps g1.evo (S.grow g1) (fX.refl _ _))⟩))
end
end VL
end
section
namespace VL
open PySem PySem.Spec PyProof.Rows L2
section
variable {X:Cx} {pins pins':Y8} {σ:L2.St} {H H':Hp} {s s':Shared} {W:XW}
theorem aMy {M:Model} {A:Around} {E:Y9} {i:Nat} {x:Str} {pos:Pos} {Q:Unit->Shared->Prop} (I:L2.Inv X pins σ H s) (hN:X.N.Nodup) (hi:X.N[i]?=some x) (hk:X.env.scope.names.lookup x=some .local)
  (h:∀s',L2.Inv X pins (σ.set i none) H s'->Q () s'):wpAny M A (do bindName X.env x .none;unbindBehindTheSuite X.env x pos) Q E s:=by
 obtain ⟨m,hn,hl⟩:=id I.loc
 have hcls:(X.env.scope.kind == .class || (X.env.scope.kind == .module && X.env.locals != X.env.globals))=false:=by rw [I.ok.kind];rfl
 have hiσ:i < σ.length:=by rw [I.len];exact (List.getElem?_eq_some_iff.mp hi).1
 have cne:=I.cne
 refine wpAny_nameGoes_keeps hk hn hcls fun h' v hn' hs=>?_
 have tracked:HOk X.prog X.w H h':=fun b ob e=>by
  refine (I.hok b ob e).stay (fun c w' hc q=>(hs.2 c ?_).trans q) (fun _ q=>q) fun _ _ q=>q
  rintro rfl
  rcases hc with hc | hc
  ·rw [<- hc,I.free] at e;cases e
  ·rw [I.free] at hc;cases hc
 refine h _ ⟨I.ok,I.os,I.bare,⟨fun b o e n hb hx=>?_,fun b o e n hb hx=>?_,I.base.free,fun b o e hx=>?_,I.base.tups,I.base.frzs,I.base.tbls⟩,⟨_,hn',fun j y v' e1 e2 e3=>?_⟩,fun y c e=>?_,I.free,I.freeC,fun p hp=>?_,tracked,by simpa using I.len⟩
 ·exact (hs.2 b (Nat.ne_of_lt (Nat.lt_of_lt_of_le (Heap.lt_size e) I.ok.above))).trans (I.base.keep b o e n hb hx)
 ·obtain ⟨sl,e1⟩:=I.base.slot b o e n hb hx
  exact ⟨sl,(hs.2 b (Nat.ne_of_lt (Nat.lt_of_lt_of_le (Heap.lt_size e) I.ok.above))).trans e1⟩
 ·obtain ⟨o',e1⟩:=I.base.there b o e hx
  exact ⟨o',(hs.2 b (Nat.ne_of_lt (Nat.lt_of_lt_of_le (Heap.lt_size e) I.ok.above))).trans e1⟩
 ·by_cases hj:j=i
  ·subst hj
   rw [List.getElem?_set_self hiσ] at e2
   cases e2
  ·rw [List.getElem?_set_ne (Ne.symm hj)] at e2
   obtain ⟨u',r',q⟩:=hl j y v' e1 e2 e3
   refine ⟨u',r',?_⟩
   rcases q with ⟨k,e⟩ | ⟨k,c,e,z⟩
   ·refine .inl ⟨k,?_⟩
    have:y ≠ x:=fun e=>hj (uG hN e1 (e ▸ hi))
    simp [this,e]
   ·exact .inr ⟨k,c,e,z.sameBut hs (cne y c e)⟩
 ·obtain ⟨w',z⟩:=I.cell y c e
  exact ⟨w',z.sameBut hs (cne y c e)⟩
 ·obtain ⟨e,n,ne,nf,d⟩:=I.pin p hp
  exact ⟨(hs.2 p.1 ne).trans e,n,ne,nf,d⟩
theorem aHf {a:Addr} {u:HO} (I:L2.Inv X pins σ H s) (hn:H a=none) (h0:X.s₀.heap.get? a=none) (hL:a ≠ X.env.locals) (hc:∀x c,X.env.cells.lookup x=some c->c ≠ a) (hp:∀p∈X.pn++pins,p.1 ≠ a)
  (new:cV X.prog X.w (upd H a u) s.heap a u):L2.Inv X pins σ (upd H a u) s:=by
 have ne:∀b w,H b=some w->b ≠ a:=fun b w e z=>by rw [z,hn] at e;cases e
 refine ⟨I.ok,I.os,I.bare,⟨I.base.keep,I.base.slot,fun b o e n hx=>?_,I.base.there,fun b xs e=>?_,fun b o w e=>?_,fun b ps e=>?_⟩,I.loc,I.cell,?_,fun x c e=>?_,fun p hp'=>?_,fun b w e=>?_,I.len⟩
 ·have hb:b ≠ a:=fun z=>by rw [z,h0] at e;cases e
  rw [aZ hb];exact I.base.free b o e n hx
 ·have q:=I.base.tups b xs e
  rw [aZ (ne _ _ q)];exact q
 ·have q:=I.base.frzs b o w e
  rw [aZ (ne _ _ q)];exact q
 ·obtain ⟨m,q⟩:=I.base.tbls b ps e
  exact ⟨m,by rw [aZ (ne _ _ q)];exact q⟩
 ·rw [aZ (Ne.symm hL)];exact I.free
 ·rw [aZ (hc x c e)];exact I.freeC x c e
 ·obtain ⟨e,n,r⟩:=I.pin p hp'
  exact ⟨e,by rw [aZ (hp p hp')];exact n,r⟩
 ·by_cases hb:b=a
  ·subst hb
   rw [bN] at e;cases e
   exact new
  ·rw [aZ hb] at e
   exact (I.hok b w e).stay (fun _ _ _ q=>q) (fun c q=>by rw [aZ (ne _ _ q)];exact q) fun c ys q=>by rw [aZ (ne _ _ q)];exact q
theorem aRa {E1:Y9} (I:L2.Inv X pins σ H s):L2.Inv { X with xe:=E1,pn:=X.pn++pins } [] σ H s :=
 ⟨⟨I.ok.mod,I.ok.kind,I.ok.glob,I.ok.blt,I.ok.above,I.ok.inj,I.ok.has,I.ok.cab,I.ok.hd,I.ok.frames,I.ok.stk,I.ok.exf,I.ok.bs,I.ok.bsz,I.ok.noex,I.ok.exfs,I.ok.funs,I.ok.frf⟩,I.os,I.bare,I.base,I.loc,I.cell,I.free,I.freeC,fun p hp=>I.pin p (by simpa using hp),I.hok,I.len⟩
theorem uN {E1:Y9} (I:L2.Inv { X with xe:=E1,pn:=X.pn++pins } pins' σ H s):L2.Inv X pins σ H s :=
 ⟨⟨I.ok.mod,I.ok.kind,I.ok.glob,I.ok.blt,I.ok.above,I.ok.inj,I.ok.has,I.ok.cab,I.ok.hd,I.ok.frames,I.ok.stk,I.ok.exf,I.ok.bs,I.ok.bsz,I.ok.noex,I.ok.exfs,I.ok.funs,I.ok.frf⟩,I.os,I.bare,I.base,I.loc,I.cell,I.free,I.freeC,fun p hp=>I.pin p (List.mem_append_left _ hp),I.hok,I.len⟩
abbrev inX (X:Cx) (e:Addr) (E2:Y9):Cx:={ X with A:=X.A.mark (some (.ref e)),calm:=false,xe:=E2 }
theorem aIs {e:Addr} {E2:Y9} (I:L2.Inv X pins σ H s):L2.Inv (inX X e E2) pins σ H s :=
 ⟨⟨I.ok.mod,I.ok.kind,I.ok.glob,I.ok.blt,I.ok.above,I.ok.inj,I.ok.has,I.ok.cab,(fun z=>by cases z),I.ok.frames,I.ok.stk,I.ok.exf,I.ok.bs,I.ok.bsz,I.ok.noex,I.ok.exfs,I.ok.funs,I.ok.frf⟩,I.os,I.bare,I.base,I.loc,I.cell,I.free,I.freeC,I.pin,I.hok,I.len⟩
theorem aMf {e:Addr} {E2:Y9} (hd:X.calm=true->X.A.handled=none) (I:L2.Inv (inX X e E2) pins σ H s):L2.Inv X pins σ H s :=
 ⟨⟨I.ok.mod,I.ok.kind,I.ok.glob,I.ok.blt,I.ok.above,I.ok.inj,I.ok.has,I.ok.cab,hd,I.ok.frames,I.ok.stk,I.ok.exf,I.ok.bs,I.ok.bsz,I.ok.noex,I.ok.exfs,I.ok.funs,I.ok.frf⟩,I.os,I.bare,I.base,I.loc,I.cell,I.free,I.freeC,I.pin,I.hok,I.len⟩
def yS (ie:Nat) (ct:Str->Bool) (h:aX) (c:Str):aX:=fun ρ=>if ct c && free ρ ie then (match h (ρ.set ie (.val (.ext false (.exc c)))) with | .next ρ2=>(match ρ2[ie]? with | some (.val _)=>.next (ρ2.set ie .un) | _=>.bad) | _=>.bad) else .bad
def aRu (ie:Nat) (ct:Str->Bool) (b h:aX):aX:=fun ρ=>match b ρ with
 | .exc c ρ'=>yS ie ct h c ρ' | o=>o
theorem aSv {P:Program} {w:World} {Hx:Hp} {h:Heap} {a C:Addr} {o:Obj} {vs:Array Value} (e:h.get? a=some o) (c:o.cls=.ref C) (d:o.data=.fields vs):cV P w Hx h a (ExcAt a C):=by
 refine ⟨⟨o,vs,e,c,d⟩,⟨o,e⟩,fun h1 h2 ⟨o1,vs1,e1,c1,d1⟩ k=>⟨o1,vs1,k o1 e1,c1,d1⟩⟩
theorem Sim.drop {K:FG} {F H:Hp} {σ:L2.St} {ρ:Env} {fps:Y5} (S:Sim K F H σ ρ fps) (i:Nat):Sim K F H (σ.set i none) (ρ.set i .un) (fps.set i []):=by
 have hsub:∀b∈(fps.set i []).flatten,b∈fps.flatten:=fun b hb=>(bC hb).elim id (fun q=>by cases q)
 refine ⟨S.same,by simp [S.ls],by simp [S.lf],fun j s d e1 e2=>?_,jU S.nd List.nodup_nil (fun b hb=>by cases hb),fun a ha=>S.zone a (hsub a ha)⟩
 by_cases hj:i=j
 ·subst hj
  have hi:i < ρ.length:=by
   have:=(List.getElem?_eq_some_iff.mp e1).1
   simpa using this
  rw [List.getElem?_set_self hi] at e1;cases e1;cases e2
 ·rw [List.getElem?_set_ne hj] at e1
  obtain ⟨v,f,q1,q2,q3⟩:=S.at_ j s d e1 e2
  exact ⟨v,f,by rw [List.getElem?_set_ne hj];exact q1,by rw [List.getElem?_set_ne hj];exact q2,q3⟩
end
section
variable {X:Cx} {W:XW} {pos hpos np:Pos}
theorem aSa {ie:Nat} {ct:Str->Bool} {cn n:Str} {Cn:Addr} {body:List Stmt} {b₀:Stmt} {suite:List Stmt} {b h:aX} (nd:X.N.Nodup) (hex:X.ex=[]) (hstk:X.stack=X.env::X.outer) (hfrm:X.env.frame=some X.env.locals) (hie:X.N[ie]?=some n) (hn:X.env.scope.names.lookup n=some .local)
  (hcn:hZ X.K cn Cn) (hcg:Gl X cn) (hcm:X.mg cn=some (.ref Cn)) (hcd:(cn == ("__debug__" : Str))=false)
  (hct:∀c C,ct c=true->hZ X.K c C->PySem.W.exmOne X.K (.ref C) (.ref Cn)=some true)
  (hb:∀(E1:Y9) (pn1:Y8) (W1:XW),Lk { X with xe:=E1,pn:=pn1 } W1->SSs { X with xe:=E1,pn:=pn1 } W1 body b)
  (hh:∀(e:Addr) (E2:Y9),SSs (inX X e E2) (fun _ _ _=>False) (b₀::suite) h) :
  SS X W (.Try body [.ExceptHandler (some (.Name cn np)) (some n) (b₀::suite) hpos] [] [] pos) (aRu ie ct b h):=by
 intro pins s σ H D I hD
 obtain ⟨ρ,F,fps,S,hD⟩:=hD
 let E1:Value->Shared->Prop:=fun v s1=>wpAny (model X.prog X.w) X.A (noteFrame v X.env) (fun _ s2=>wpAny (model X.prog X.w) X.A (setFlight v none) (fun _ s3=>wpAny (model X.prog X.w) X.A (handleBy v X.env [.ExceptHandler (some (.Name cn np)) (some n) (b₀::suite) hpos]) (SP X pins D) X.xe s3) X.xe s2) X.xe s1
 let W1:XW:=fun c=>sv X.K W (yS ie ct h c) D
 have hE1:Lk { X with xe:=E1,pn:=X.pn++pins } W1:=by
  refine ⟨fun pins' σ1 H1 s1 v s' I1 hx=>?_,PassesOwn.looking⟩
  obtain ⟨e,C,H',B,a0,rfl,os,bare,un,hok,fl,inB,trk,c,C',eC,hC,hW⟩:=hx
  cases eC
  have J:=uN I1
  have un:Un (frs X.stack) [] H1 H' s1.heap s'.heap:=un
  have fl:Heap.FlyingW B X.stack e (.ref C) a0 s'.heap:=fl
  have inB:∀b o,s1.heap.get? b=some o->b ∉ frs X.stack->∃o',B.get? b=some o':=inB
  rw [hstk] at fl
  have hfr:X.A.frames=some (X.env::X.outer):=by rw [<- hstk];exact J.ok.frames
  have e1:s1.heap.get? e=none:=by
   cases q:s1.heap.get? e with
   | none=>rfl
   | some o =>
    by_cases hb:e∈frs X.stack
    ·obtain ⟨_,o',q',d⟩:=fl.2.2.1.mem (show e∈(X.env::X.outer).filterMap (·.frame) by rw [<- hstk];exact hb)
     obtain ⟨oe,ws,q2,_,d2,_⟩:=fl.first
     rw [q'] at q2;cases q2
     exact absurd d2 (d ws)
    ·obtain ⟨o',q'⟩:=inB e o q hb
     rw [fl.2.1] at q';cases q'
  have He:H' e=none:=by
   cases q:H' e with
   | none=>rfl
   | some u=>obtain ⟨o',q'⟩:=trk e u q;rw [fl.2.1] at q';cases q'
  have after:∀(h2:Heap) (tk:Nat),B.StaysIn h2->s'.heap.UpToSlots h2->L2.Inv X pins σ1 H' { s' with heap:=h2,toks:=tk }:=fun h2 tk hT up=>by
   obtain ⟨u2,ok2⟩:=aDp (fs:=frs X.stack) un hok fl.1 hT inB trk up (aPn J)
   exact J.aCm (s':={ s' with heap:=h2,toks:=tk }) (ch:=[]) os u2 ok2 bare (fun b z=>absurd z (by simp))
  show wpAny _ _ (noteFrame (.ref e) X.env) _ _ s'
  refine wpAny_looks_onW hfr hfrm fl fun h4 held up4=>?_
  refine wpAny_landsW held fun h5 fl5 up5=>?_
  have up45:=up4.trans up5
  have I5:=after h5 s'.toks fl5.1 up45
  refine wpAny_handleBy_cons (codeAny_handlers_test (qQ (X:=inX X e fun _ _=>False) (aIs I5) hcg hcm ?_ hcd)) (by intro q;cases q)
  obtain ⟨ob,hob,hobc⟩:=fl5.there
  have LT:PySem.W.Looks (model X.prog X.w) h5 (typeOf (.ref e)) (.ref C):=hobc ▸ (PySem.W.Looks.ld hob).andThen .now
  obtain ⟨ρ',F',fps',S',hW⟩:=hW
  by_cases hc:(ct c && free ρ' ie)=true
  ·have hc':=hc
   rw [Bool.and_eq_true] at hc'
   refine (PySem.W.exm_one (K:=X.K) I5.kIn LT (hct c C hc'.1 hC)).here ?_
   refine codeAny_handlers_suite_as ?_
   refine lands_againW fl5 fun h6 fl6 up6=>?_
   have I6:=after h6 s'.toks fl6.1 (up45.trans up6)
   obtain ⟨oe,ws,q1,q2,q3,_⟩:=fl6.first
   have I6':L2.Inv X pins σ1 (upd H' e (ExcAt e C)) { s' with heap:=h6 }:=by
    refine aHf I6 He ?_ ?_ (fun x c' ec z=>?_) (fun p hp z=>?_) (aSv q1 q2 q3)
    ·cases q:X.s₀.heap.get? e with
     | none=>rfl
     | some o =>
      by_cases hx:e∈X.ex
      ·rw [hex] at hx;cases hx
      ·obtain ⟨o',q'⟩:=J.base.there e o q hx
       rw [e1] at q';cases q'
    ·intro z
     obtain ⟨m,⟨oL,_,_,hL,_⟩,_⟩:=J.loc
     rw [<- z,e1] at hL;cases hL
    ·obtain ⟨v,oc,q,_⟩:=J.cell x c' ec
     rw [z,e1] at q;cases q
    ·have q:=(J.pin p hp).1
     rw [z,e1] at q;cases q
   have hW:cK X.K W F' H' fps'.flatten ρ' σ1 D (yS ie ct h c ρ'):=hW
   unfold yS at hW
   rw [if_pos hc] at hW
   have gE:Grow F' H' (upd F' e (ExcAt e C)) (upd H' e (ExcAt e C)):=Grow.both S'.same He
   have oE:Own X.K (upd F' e (ExcAt e C)) (upd H' e (ExcAt e C)) (.ext false (.exc c)) (.ref e) []:=by
    unfold Own
    exact ⟨e,ExcAt e C,rfl,⟨C,hC,rfl⟩,.inr ⟨rfl,bN,rfl⟩⟩
   have S2:=(S'.grow gE).store (i:=ie) oE List.nodup_nil (fun b hb=>by cases hb)
   refine qE (X:=inX X e fun _ _=>False) (aIs I6') nd hie (.inl hn) (v:=.ref e) rfl (fun s7 I7=>?_) (.inr hn)
   cases eh:h (ρ'.set ie (.val (.ext false (.exc c)))) with
   | next ρ2 =>
    rw [eh] at hW
    dsimp only at hW
    cases e2:ρ2[ie]? with
    | none=>rw [e2] at hW;exact hW.elim
    | some sl =>
     rw [e2] at hW
     cases sl with
     | un=>exact hW.elim
     | pin _=>exact hW.elim
     | val dd =>
      have hW:dS X.K F' H' fps'.flatten ρ' σ1 D.nx (ρ2.set ie .un):=hW
      refine wpAny_mono (hh e (fun _ _=>False) pins s7 _ _ { nx:=fun σ8 H8=>∃F8 fps8,Sim X.K F8 H8 σ8 ρ2 fps8/\Evo (upd F' e (ExcAt e C)) (upd H' e (ExcAt e C)) (fps'.set ie []).flatten F8 H8 fps8.flatten/\fX (ρ'.set ie (.val (.ext false (.exc c)))) (σ1.set ie (some (.ref e))) ρ2 σ8,rt:=fun _ _=>False } I7 ⟨_,_,_,S2,?_⟩) (fun f s8 q8=>?_) fun _ _ z=>z.elim
      ·rw [eh]
       exact fun σ' F8 H8 fps8 ev S8 p8=>⟨F8,fps8,S8,ev,p8⟩
      ·cases f with
       | next =>
        obtain ⟨σ8,H8,I8,F8,fps8,S8,ev8,p8⟩:=q8
        have I8:=aMf I.ok.hd I8
        refine aMy I8 nd hie hn fun s9 I9=>?_
        refine ⟨_,_,I9,hW _ F8 H8 _ ?_ (S8.drop ie) ?_⟩
        ·have hsub:∀b∈(fps'.set ie []).flatten,b∈fps'.flatten:=fun b hb=>(bC hb).elim id (fun q=>by cases q)
         have hsub8:∀b∈(fps8.set ie []).flatten,b∈fps8.flatten:=fun b hb=>(bC hb).elim id (fun q=>by cases q)
         have ev1:Evo F' H' fps'.flatten (upd F' e (ExcAt e C)) (upd H' e (ExcAt e C)) (fps'.set ie []).flatten:=gE.aS2 fun b hb=>.inl (hsub b hb)
         have ev2:=ev1.trans ev8
         exact ⟨ev2.fr,ev2.keep,ev2.dom,ev2.new,fun b hb=>ev2.zone b (hsub8 b hb)⟩
        ·intro j d ej
         have hj:ie ≠ j:=by
          rintro rfl
          have:=hc'.2
          unfold free at this
          rw [ej] at this;cases this
         obtain ⟨⟨d',q1⟩,q2⟩:=p8 j d (by rw [List.getElem?_set_ne hj];exact ej)
         exact ⟨⟨d',by rw [List.getElem?_set_ne hj];exact q1⟩,by rw [List.getElem?_set_ne hj,q2,List.getElem?_set_ne hj]⟩
       | ret _=>obtain ⟨_,_,_,_,_,z⟩:=q8;exact z.elim
       | brk=>obtain ⟨_,_,_,z⟩:=q8;exact z.elim
       | cont=>obtain ⟨_,_,_,z⟩:=q8;exact z.elim
   | ret _ _=>rw [eh] at hW;exact hW.elim
   | brk _=>rw [eh] at hW;exact hW.elim
   | cont _=>rw [eh] at hW;exact hW.elim
   | exc _ _=>rw [eh] at hW;exact hW.elim
   | bad=>rw [eh] at hW;exact hW.elim
  ·have hW:cK X.K W F' H' fps'.flatten ρ' σ1 D (yS ie ct h c ρ'):=hW
   unfold yS at hW
   rw [if_neg hc] at hW;exact hW.elim
 have hbody:=hb E1 (X.pn++pins) W1 hE1
 refine wpAny_Try_except (wpAny_mono (hbody [] s σ H D (aRa I) ⟨ρ,F,fps,S,?_⟩) (fun f s1 q=>?_) fun _ _ z=>z)
 ·unfold aRu at hD
  cases eb:b ρ with
  | next ρ'=>rw [eb] at hD;exact hD
  | ret d ρ'=>rw [eb] at hD;exact hD
  | brk ρ'=>rw [eb] at hD;exact hD
  | cont ρ'=>rw [eb] at hD;exact hD
  | bad=>rw [eb] at hD;exact hD
  | exc c ρ' =>
   rw [eb] at hD
   exact fun σ' F' H' fps' ev S' p=>⟨ρ',F',fps',S',cK.lift ev p hD⟩
 ·cases f with
  | next=>obtain ⟨σ',H',J,q⟩:=q;exact wpAny_execs_nil ⟨σ',H',uN J,q⟩
  | ret u=>obtain ⟨v,σ',H',J,r,q⟩:=q;exact ⟨v,σ',H',uN J,r,q⟩
  | brk=>obtain ⟨σ',H',J,q⟩:=q;exact ⟨σ',H',uN J,q⟩
  | cont=>obtain ⟨σ',H',J,q⟩:=q;exact ⟨σ',H',uN J,q⟩
end
end VL
end
section
namespace VL
open PySem PySem.Spec PyProof.Rows L2
section
variable {X:Cx} {W:XW} {e a b c:Expr} {es:List Expr} {st:Stmt} {pos:Pos}
def fits (i:Int):Bool:=decide (-(2 ^ 200)<i) && decide (i<2 ^ 200)
theorem aJp {i:Int} (h:fits i=true):i.natAbs<2 ^ 200:=by
 unfold fits at h
 rw [Bool.and_eq_true,decide_eq_true_iff,decide_eq_true_iff] at h
 have e:(2:Int) ^ 200=((2 ^ 200:Nat):Int):=by norm_cast
 rw [e] at h
 omega
theorem aBp {i:Int} (h:fits i=true):i.natAbs.log2<200:=by
 by_cases h0:i.natAbs=0
 ·rw [h0];decide
 ·exact (Nat.log2_lt h0).mpr (aJp h)
def aUh (i j:Int):Prop:=0<j/\fits j=true
theorem aJr:OpR X (binaryOp .FloorDiv) (rI aUh fun i j=>.int (i / j)):=opI fun i j _ _ _ _ _ hc q=>by
 have h1:(0:Int)<j:=hc.1
 exact floordiv_int (by omega) (by rw [Int.fdiv_eq_ediv_of_nonneg i (by omega)];exact q) (.inl (PyProof.noPylong_of_log2 (Nat.lt_trans (aBp hc.2) (by decide))))
abbrev jK:=kIc (fun _ j=>decide (0<j) && fits j) fun i j=>.int (i / j)
theorem eK {f g:aS} (ha:SE X a f) (hb:SE X b g):SE X (.BinOp a .FloorDiv b pos) (v2 jK f g):=aBa aJr (aDy (fun _ _=>rfl) fun i j h=>by
 rw [Bool.and_eq_true,decide_eq_true_iff] at h;exact h) ha hb
theorem Op2.or {K:FG} {k k1 k2:D×Bool->D×Bool->R (D×Bool)} {r1 r2:R2} (h1:Op2 K k1 r1) (h2:Op2 K k2 r2) (hk:∀x y,k x y=k1 x y\/k x y=k2 x y):Op2 K k (fun x y H Q=>r1 x y H Q\/r2 x y H Q):=by
 intro F0 H0 F H x y v u fx fy Q gr o1 n1 q1 o2 n2 q2 h
 rcases hk x y with e | e
 ·rw [e] at h;exact .inl (h1 F0 H0 F H x y v u fx fy Q gr o1 n1 q1 o2 n2 q2 h)
 ·rw [e] at h;exact .inr (h2 F0 H0 F H x y v u fx fy Q gr o1 n1 q1 o2 n2 q2 h)
def bW:D×Bool->D×Bool->R (D×Bool):=fun x y=>match x.1 with
 | .int _=>aVt x y | .lst _ _=>aSe x y | .tup _=>aHq x y | _=>.bad
theorem aK4 (x y:D×Bool):bW x y=aVt x y\/(bW x y=aSe x y\/bW x y=aHq x y):=by
 obtain ⟨x,bx⟩:=x
 cases x<;>first | exact .inl rfl | exact .inr (.inl rfl) | exact .inr (.inr rfl)
theorem Op2.eqv {K:FG} {k k1 k2 k3:D×Bool->D×Bool->R (D×Bool)} {r1 r2 r3:R2} (h1:Op2 K k1 r1) (h2:Op2 K k2 r2) (h3:Op2 K k3 r3) (hk:∀x y,k x y=k1 x y\/(k x y=k2 x y\/k x y=k3 x y)):Op2 K k (fun x y H Q=>r1 x y H Q\/(r2 x y H Q\/r3 x y H Q)):=by
 intro F0 H0 F H x y v u fx fy Q gr o1 n1 q1 o2 n2 q2 h
 rcases hk x y with e | e | e
 ·rw [e] at h;exact .inl (h1 F0 H0 F H x y v u fx fy Q gr o1 n1 q1 o2 n2 q2 h)
 ·rw [e] at h;exact .inr (.inl (h2 F0 H0 F H x y v u fx fy Q gr o1 n1 q1 o2 n2 q2 h))
 ·rw [e] at h;exact .inr (.inr (h3 F0 H0 F H x y v u fx fy Q gr o1 n1 q1 o2 n2 q2 h))
theorem bO {f g:aS} (ha:SE X a f) (hb:SE X b g):SE X (.BinOp a .Add b pos) (v2 bW f g) :=
 aBa (aPt.or (aNg.or aMh)) (Op2.eqv (aFe fun _ _=>rfl) aM0 aJo aK4) ha hb
def aN4 (i j:Int):Prop:=fits i=true/\fits j=true
theorem intBits_le {i:Int} (h:fits i=true):Builtin.Int.intBits i<=2 ^ 20:=by
 unfold Builtin.Int.intBits
 have:=aBp h
 split<;>omega
theorem aNc:OpR X (binaryOp .Mult) (rI aN4 fun i j=>.int (i * j)):=opI fun i j _ _ _ _ _ hc q=>mul_int q (.of_bits (intBits_le hc.1) (intBits_le hc.2))
abbrev aO1:=kIc (fun i j=>fits i && fits j) fun i j=>.int (i * j)
theorem aK2 {K:FG}:Op2 K aO1 (rI aN4 fun i j=>.int (i * j)):=aDy (fun _ _=>rfl) fun i j h=>by
 rw [Bool.and_eq_true] at h;exact h
def aO7:D×Bool->D×Bool->R (D×Bool):=fun x y=>match x.1,y.1 with
 | .lst true ds,.int k=>if D.bK ds && decide (k<1000000) && decide (-1000000<k) && decide (ds.length * k.toNat<=1000000) then .ok (.lst true (List.replicate k.toNat ds).flatten,true) else .bad
 | _,_=>.bad
theorem aJl {K:FG}:Op2 K aO7 aUm:=by
 intro F0 H0 F H x y v u fx fy Q gr o1 n1 k1 o2 n2 k2 h
 obtain ⟨x,bx⟩:=x
 obtain ⟨y,by'⟩:=y
 cases x<;>try exact h.elim
 rename_i o ds
 cases o
 ·cases y<;>exact h.elim
 ·cases y<;>try exact h.elim
  rename_i k
  have h:(if (D.bK ds && decide (k<1000000) && decide (-1000000<k) && decide (ds.length * k.toNat<=1000000))=true then R.ok (D.lst true (List.replicate k.toNat ds).flatten,true) else R.bad).holds (EPost K F0 H0 Q):=h
  by_cases hc:(D.bK ds && decide (k<1000000) && decide (-1000000<k) && decide (ds.length * k.toNat<=1000000))=true
  ·rw [if_pos hc] at h
   simp only [Bool.and_eq_true,decide_eq_true_iff] at hc
   obtain ⟨a,xs,fq,e1,r1,q0,q1,_⟩:=Own.opened o1
   unfold Own at o2
   have:=aJ.eB ds hc.1.1.1 r1
   subst this
   refine ⟨a,k,xs,e1,o2.1,q1,by omega,by omega,?_,fun p hp=>EPost.aHi gr h hp (aJ.rep r1 _)⟩
   rw [<- aJ.length ds r1];exact gO hc.2
  ·rw [if_neg hc] at h;exact h.elim
def bT:D×Bool->D×Bool->R (D×Bool):=fun x y=>match x.1 with
 | .int _=>aO1 x y | .lst _ _=>aO7 x y | _=>.bad
theorem bU {f g:aS} (ha:SE X a f) (hb:SE X b g):SE X (.BinOp a .Mult b pos) (v2 bT f g) :=
 aBa (aNc.or aPk) (Op2.or aK2 aJl fun x y=>by
  obtain ⟨x,bx⟩:=x
  cases x<;>first | exact .inl rfl | exact .inr rfl) ha hb
theorem uJ {k:Nat} {f g:aS} (hr:Room k X.A) (ha:SE X a f) (hb:SE X b g):SE X (.Compare a [.Eq] [b] pos) (v2 (kEq false) f g):=uS (aKn hr) aDz ha hb (jF _)
theorem pV {k:Nat} {f g:aS} (hr:Room k X.A) (ha:SE X a f) (hb:SE X b g):ST X (.Compare a [.Eq] [b] pos) (bA (v2 (kEq false) f g)):=lS (aKn hr) aDz ha hb (jF _)
theorem oV {k:Nat} {f g:aS} (hr:Room k X.A) (ha:SE X a f) (hb:SE X b g):ST X (.Compare a [.NotEq] [b] pos) (bA (v2 (kEq true) f g)):=lS (aQt hr) aDz ha hb (jF _)
theorem aVn {k:Nat} {f g:aS} (hr:Room k X.A) (ha:SE X a f) (hb:SE X b g) (hm:behindInMarks .In b=false:=by with_unfolding_all rfl):SE X (.Compare a [.In] [b] pos) (v2 (kIn false) f g):=uS (aIm hr) aDt ha hb hm
theorem aOv {k:Nat} {f g:aS} (hr:Room k X.A) (ha:SE X a f) (hb:SE X b g) (hm:behindInMarks .In b=false:=by with_unfolding_all rfl):ST X (.Compare a [.In] [b] pos) (bA (v2 (kIn false) f g)):=lS (aIm hr) aDt ha hb hm
theorem aSn {k:Nat} {f g:aS} (hr:Room k X.A) (ha:SE X a f) (hb:SE X b g) (hm:behindInMarks .NotIn b=false:=by with_unfolding_all rfl):ST X (.Compare a [.NotIn] [b] pos) (bA (v2 (kIn true) f g)):=lS (aGc hr) aDt ha hb hm
theorem aMz {f g:aS} (ha:SE X a f) (hb:SE X b g):SE X (.Compare a [.IsNot] [b] pos) (v2 (iS true) f g):=uS aE2 aA1 ha hb (jF _)
theorem sC {f g:aS} (ha:SE X a f) (hb:SE X b g):ST X (.Compare a [.Is] [b] pos) (bA (v2 (iS false) f g)):=lS aRr aLt ha hb (jF _)
theorem tR {f g:aS} (ha:SE X a f) (hb:SE X b g):ST X (.Compare a [.IsNot] [b] pos) (bA (v2 (iS true) f g)):=lS aE2 aA1 ha hb (jF _)
theorem aNy {f g:aS} (ha:SE X a f) (hb:SE X b g):SE X (.Compare a [.Lt] [b] pos) (v2 kLt f g):=uS aJ6 aOh ha hb (jF _)
theorem aT0 {f g:aS} (ha:SE X a f) (hb:SE X b g):SE X (.Compare a [.Gt] [b] pos) (v2 kGt f g):=uS aOz aN2 ha hb (jF _)
theorem vF {f g:aS} (ha:SE X a f) (hb:SE X b g):ST X (.Compare a [.Lt] [b] pos) (bA (v2 kLt f g)):=lS aJ6 aOh ha hb (jF _)
theorem aD8 {f g:aS} (ha:SE X a f) (hb:SE X b g):ST X (.Compare a [.Gt] [b] pos) (bA (v2 kGt f g)):=lS aOz aN2 ha hb (jF _)
theorem aHo {x:Str} {p:Addr} {ns:Y0} {its:Array Value} {o:Obj} {n:Nat} (hm:X.mg x=some (.ref p)) (hl:X.K.lookup p=some o) (hc:o.cls=.type "tuple") (hd:o.data=.seq its n) (hi:IntsAre its.toList ns) (hz:ns.length<=1000000) (hg:Gl X x:=by rfl) (hdb:(x == ("__debug__" : Str))=false:=by decide):SE X (.Name x pos) (vC (.tup (ns.map D.int))) :=
 (tI (v:=.ref p) hg hm rfl hdb).imp fun σ H Q h=>by
  obtain ⟨ρ,F,fps,S,h⟩:=h
  refine h (.ref p) F H [] (Grow.refl S.same) ?_ List.nodup_nil fun _ b hb=>by cases hb
  unfold Own
  refine ⟨rfl,p,ns.map V.int,rfl,.inr ⟨o,its,n,hl,hc,hd,?_,rO hi⟩,?_⟩
  ·have:=hi.length
   rw [Array.length_toList] at this
   rw [this];exact gO hz
  ·refine aJ.of_get _ (by simp) fun i d v e1 e2=>?_
   rw [List.getElem?_map] at e1 e2
   cases q:ns[i]? with
   | none=>rw [q] at e1;cases e1
   | some z=>rw [q] at e1 e2;cases e1;cases e2;exact gH rfl
theorem kS (i:Nat) {x:Str} {f:aS} {p ap cp pos':Pos} (he:SE X e f) (hN:X.N[i]?=some x:=by rfl) (hv:Vis X.env.scope x:=by first | exact Or.inl rfl | exact Or.inr (Or.inl rfl) | exact Or.inr (Or.inr rfl)) (hd:(x == ("__debug__" : Str))=false:=by decide)
  (hcd:(x == ("__classdict__" : Str))=false:=by decide) (hs:swapsWith (.Call (.Attribute (.Name x p) "append" ap) [e] [] cp) none pos'.line X.env=pure false:=by rfl)
  (hbase:attributeBase (.Name x p) "append" X.env (eval (.Name x p) X.env)=eval (.Name x p) X.env:=by rfl)
  (hfew:((backTo cp (starEach [e] X.env)).all (fun x=>!x.1) && (backToKw cp (keywordEach [] X.env)).all (fun x=>x.1.isSome)
   && decide (([e]:List Expr).length+([]:List Keyword).length+(if ([]:List Keyword).isEmpty then 0 else 1)<30))=true:=by rfl)
  (hline:(ap.endLine == cp.line)=true:=by rfl) (hst:starEach [e] X.env=(false,eval e X.env)::starEach [] X.env:=by rfl) (hplain:(backTo cp (starEach [] X.env)).any (·.1)=false:=by rfl) :
  SS X W (.Expr (.Call (.Attribute (.Name x p) "append" ap) [e] [] cp) pos') (eW i f) :=
 (tM (aO9 PySem.F.plainAttrs_list PySem.F.slot_list_append PySem.F.type_list_append rL (nG hN hv hd hcd) (fI he nO hst) hbase hfew hline hst hplain) hs).imp fun _ _ _ h=>aF0 h
theorem aMl {elt iter tg:Expr} {ifs:List Expr} {scope:Scope} {f:kR} {N:List Str} {nt:Nat} {js:T0} {set:D->Env->Option Env} {g:TG} {tc:cW} {te:aS}
  (hc:X.calm=true) (hi:SI X tg iter f) (ht:Tgt X.K set g) (hkind:scope.kind=.function) (hcell:∀y∈scope.names,y.2 ≠ .cell) (hnames:∀y∈scope.names,y.2=.local->scope.names.lookup y.1=some .local)
  (hfr:∀y∈scope.names,y.2=.free->X.env.kindOf y.1=some .cell\/X.env.kindOf y.1=some .free)
  (hlen:nt+js.length=N.length)
  (hjs:∀(k:Nat) (j:Nat),js[k]?=some j->∃x,N[nt+k]?=some x/\X.N[j]?=some x/\scope.names.lookup x=some .free)
  (hb:∀cl s3 H3 fp,PG (blk X scope cl N s3 H3 fp) tg g/\PTs (blk X scope cl N s3 H3 fp) ifs (tvT X.K tc)/\SE (blk X scope cl N s3 H3 fp) elt te)
  (hs:∀x,foldedSetIterable iter X.env x=pure x:=by intro _;rfl):SE X (.ListComp elt [⟨tg,iter,ifs,0⟩] scope pos) (bS f nt js set tc te) :=
 (aNd hc hi hkind hcell hnames hfr hlen hjs hb hs).imp fun _ _ _ h=>aE4 ht h
def bV:cW:=fun _=>.ok true
theorem oN {Y:Cx}:PTs Y [] (tvT Y.K bV):=fun pins s σ H Q I h=>aM4 pins s σ H Q I (by
 obtain ⟨ρ,F,fps,S,h⟩:=h
 exact h F H (Grow.refl S.same))
theorem aWy {Y:Cx} {c:Expr} {t:cW} (h:ST Y c t):PTs Y [c] (tvT Y.K t):=aL3 h
theorem cR {f:aS} {p:Pos} (hm:X.mg "len" = none) (ha:SE X a f) (hg:Gl X "len" :=by rfl) (hs:starEach [a] X.env=(false,eval a X.env)::starEach [] X.env:=by rfl):SE X (.Call (.Name "len" p) [a] [] pos) (vCB eN (aE f aL)) :=
 aA2 zC aLv hm PySem.boot_len (aB ha aG hs) hg (by decide) (by decide) hs
theorem aFj {f:aS} {p:Pos} (hm:X.mg "list" = none) (ha:SE X a f) (hg:Gl X "list" :=by rfl) (hs:starEach [a] X.env=(false,eval a X.env)::starEach [] X.env:=by rfl) (hv:bootBuiltins "list" = some (.type "list"):=by decide +kernel):SE X (.Call (.Name "list" p) [a] [] pos) (vCB vT (aE f aL)) :=
 aPg zD aKv hm hv (aB ha aG hs) hg (by decide) (by decide) hs
theorem aJ7 {f:aS} {p:Pos} (hc:X.calm=true) (hm:X.mg "sum" = none) (ha:SE X a f) (hg:Gl X "sum" :=by rfl) (hs:starEach [a] X.env=(false,eval a X.env)::starEach [] X.env:=by rfl) (hv:bootBuiltins "sum" = some (.builtin "sum"):=by decide +kernel):SE X (.Call (.Name "sum" p) [a] [] pos) (vCB aG1 (aE f aL)) :=
 aA2 (aG7 hc) aM8 hm hv (aB ha aG hs) hg (by decide) (by decide) hs
def aIp:List (D×Bool)->R (D×Bool)
 | [(.int i,_)]=>.ok (.int (if i<0 then -i else i),true) | _=>.bad
theorem aNu {K:FG}:OpA K aIp (fun xs H Q=>∃i,xs=[.int i]/\Q (.int (if i<0 then -i else i)) H):=by
 intro F0 H0 F H xs vs fa Q gr a n k h
 match xs,h,a with
 | [(.int i,b)],h,a =>
  unfold Args at a
  obtain ⟨v,r,fp,f2,e,o1,n1,t,w⟩:=a
  unfold Args at t
  unfold Own at o1
  exact ⟨i,by rw [e,t.1,o1.1],EPost.dU gr h rfl⟩
theorem aK5 {f:aS} {p:Pos} (hm:X.mg "abs" = none) (ha:SE X a f) (hg:Gl X "abs" :=by rfl) (hs:starEach [a] X.env=(false,eval a X.env)::starEach [] X.env:=by rfl) (hv:bootBuiltins "abs" = some (.builtin "abs"):=by decide +kernel):SE X (.Call (.Name "abs" p) [a] [] pos) (vCB aIp (aE f aL)) :=
 aA2 aH7 aNu hm hv (aB ha aG hs) hg (by decide) (by decide) hs
def eX:List D->Option (List Bool)
 | []=>some []
 | .bl i::ds=>(eX ds).map (i::·)
 | _=>none
theorem mU {K:FG} {F H:Hp}:∀(ds:List D) {ns:List Bool} {xs:List V} {fp:Y2},eX ds=some ns->aJ K F H ds xs fp->xs=ns.map V.bl
 | [],ns,xs,fp,e,o=>by unfold eX at e;cases e;unfold aJ at o;exact o.1
 | d::ds,ns,xs,fp,e,o=>by
  cases d<;>try (unfold eX at e;cases e;done)
  rename_i i
  unfold eX at e
  cases q:eX ds with
  | none=>rw [q] at e;cases e
  | some ms =>
   rw [q] at e
   have e:some (i::ms)=some ns:=e
   cases e
   unfold aJ at o
   obtain ⟨v,r,f1,f2,e1,o1,o2,_⟩:=o
   unfold Own at o1
   rw [e1,o1.1,mU ds q o2];rfl
theorem all_range {ns:List Bool}:((List.range ns.length).all fun i=>ns.getD i true)=ns.all id:=by
 induction ns with
 | nil=>rfl
 | cons n r ih =>
  rw [List.length_cons,List.range_succ_eq_map,List.all_cons,List.all_map,List.all_cons,<- ih]
  rfl
theorem aGo (hc:X.calm=true):lD X (.builtin "all") (fun xs H Q=>∃(p:Addr) (ns:List Bool),xs=[.ref p]/\SqL X.K H p (ns.map V.bl)/\Q (.bl (ns.all id)) H):=by
 intro pins s σ H xs us Q I r h
 obtain ⟨p,ns,rfl,hq,q⟩:=h
 obtain ⟨u,rfl,ru⟩:=vals1 r
 cases ru
 obtain ⟨its,rv,pl,_⟩:=I.list hq
 have hl:=rv.length
 rw [List.length_map] at hl
 refine call_all_walk (wpAny_pyIter_list pl.isList ?_)
 have hne:p ≠ s.heap.objs.size:=fun z=>by
  obtain ⟨o,ho,_⟩:=pl.isList
  exact absurd (Heap.lt_size ho) (by rw [z];exact Nat.lt_irrefl _)
 refine ⟨s.heap.objs.size,_,_,its.toArray.size,_,_,fun i=>ns.getD i true,rfl,Walks.list (A:=X.A.in1) (show X.A.in1.handled=none from I.ok.hd hc) s.heap.objs.size p hne its.toArray,⟨⟨_,Heap.get?_push_size _ rfl,rfl,rfl⟩,pl.isList.push _⟩,fun i v s' Q' E' hP hQ=>?_,fun h' tk hk=>?_⟩
 ·have hP:its[i]?=some v:=by simpa using hP
  have hi:i<ns.length:=by rw [hl];exact (List.getElem?_eq_some_iff.mp hP).1
  obtain ⟨u',e',ru'⟩:=rv.get (i:=i) (x:=V.bl ns[i]) (by rw [List.getElem?_map,List.getElem?_eq_getElem hi];rfl)
  rw [hP] at e';cases e'
  cases ru'
  have:ns.getD i true=ns[i]:=by simp [List.getD,List.getElem?_eq_getElem hi]
  have hQ:Q' (ns.getD i true) s':=hQ
  rw [this] at hQ
  exact wpAny_truthy_bool hQ
 ·rw [List.size_toArray,<- hl,all_range]
  refine ⟨.bl _,H,?_,rfl,q⟩
  refine I.kept (t':=tk) fun b o e=>hk b o (fun z=>?_) (Heap.get?_push_of_some _ e)
  have z':b=s.heap.objs.size:=by simpa using z
  exact absurd (Heap.lt_size e) (by rw [z'];exact Nat.lt_irrefl _)
def aMp:List (D×Bool)->R (D×Bool)
 | [(.lst _ ds,_)]=>(match eX ds with | some ns=>.ok (.bl (ns.all id),true) | none=>.bad) | _=>.bad
theorem aMw {K:FG}:OpA K aMp (fun xs H Q=>∃(p:Addr) (ns:List Bool),xs=[.ref p]/\SqL K H p (ns.map V.bl)/\Q (.bl (ns.all id)) H):=by
 intro F0 H0 F H xs vs fa Q gr a n k h
 match xs,h,a with
 | [(.lst o ds,b)],h,a =>
  unfold Args at a
  obtain ⟨v,r,fp,f2,e,o1,n1,t,w⟩:=a
  unfold Args at t
  obtain ⟨p,ys,fq,e1,q1,r1,_⟩:=Own.lst gr.inn o1
  have h:(match eX ds with | some ns=>R.ok (D.bl (ns.all id),true) | none=>R.bad).holds (EPost K F0 H0 Q):=h
  cases q:eX ds with
  | none=>rw [q] at h;exact h.elim
  | some ns =>
   rw [q] at h
   rw [mU ds q r1] at q1
   exact ⟨p,ns,by rw [e,t.1,e1],q1,EPost.dU gr h rfl⟩
theorem aSy {f:aS} {p:Pos} (hc:X.calm=true) (hm:X.mg "all" = none) (ha:SE X a f) (hg:Gl X "all" :=by rfl) (hs:starEach [a] X.env=(false,eval a X.env)::starEach [] X.env:=by rfl) (hv:bootBuiltins "all" = some (.builtin "all"):=by decide +kernel):SE X (.Call (.Name "all" p) [a] [] pos) (vCB aMp (aE f aL)) :=
 aA2 (aGo hc) aMw hm hv (aB ha aG hs) hg (by decide) (by decide) hs
theorem _root_.L2.PI.or {tg it:Expr} {t t':TI} (h:PI X tg it t) (h':PI X tg it t'):PI X tg it (fun σ H R=>t σ H R\/t' σ H R):=by
 intro pins s σ H R I q
 rcases q with q | q
 ·exact h pins s σ H R I q
 ·exact h' pins s σ H R I q
theorem fR {tg:Expr} {f:aS} (h:SE X e f):SI X tg e (gK f):=((aLa h).or (aSl h)).imp fun _ _ _ h=>aPo h
theorem qS {f:aS} {p tp:Pos} {elts:List Expr} {k:Nat} (hm:X.mg "enumerate" = none) (ha:SE X a f) (hg:Gl X "enumerate" :=by rfl) (hs:starEach [a] X.env=[(false,eval a X.env)]:=by rfl) (hs1:starEach [a] X.env=(false,eval a X.env)::starEach [] X.env:=by rfl):SI X (.Tuple elts k tp) (.Call (.Name "enumerate" p) [a] [] pos) (wI f) :=
 (aLd hg hm (fI ha nO hs1) hs).imp fun _ _ _ h=>aQy h
end
end VL
end
section
namespace VL
open PySem PySem.Spec PyProof.Rows L2
structure FnAt (K:FG) (x:Str) (st:Stmt):Prop where
 ex:∃(f:Addr) (fd:FuncData),PySem.W.nsIn K mainGlobals x=some (some (.ref f))/\Fun K x x st f fd
theorem bE {K:FG} {x:Str} {st:Stmt} {f:Addr} {oc:Value} {od an:Option Addr} {osl:Array (Option Value)} {kV doc pm cdv ct:Value} (a:PySem.W.nsIn K mainGlobals x=some (some (.ref f))) (l:K.lookup f=some ⟨oc,od,.func (PySem.W.fnOf x x (jT st) (fJ st) (aH st) .none kV doc pm an cdv ct),osl⟩)
  (c:PySem.W.codeIn K cdv x=true) (k:PySem.W.keepIn K (.ref f)=true):FnAt K x st:=⟨f,_,a,aQl l c k⟩
section
variable {P:Program} {w:World} {K:FG} {mg:Y6} {base:Heap}
theorem cG {x:Str} {st:Stmt} {N ps:List Str} {k n np:Nat} {body:aX} (F:FnAt K x st) (kb:K.In base) (nb:base.Ns mainGlobals mg) (S:FnScope N ps (aH st)) (hN:N.length=n) (hnp:ps.length=np) (hk:np<=n)
  (hb:∀(kV doc pm:Value) (an:Option Addr) (cdv ct:Value) (us:Y1),us.length=ps.length->bindArgs (PySem.W.fnOf x x (jT st) (fJ st) (aH st) .none kV doc pm an cdv ct) ⟨us,[]⟩=pure (ps.zip us))
  (hbody:∀(f:Addr) (cdv:Value) (A:Around) (outer:List PySem.Env) (s:Shared) (H:Hp) (E:XK),Room k (A.deeper (envOfC x (aH st) s.heap.objs.size f cdv)) ->
   SSs (fK (CX1 P w) P w K mg base N x (aH st) f cdv A outer s H E) (wOf K E) (fJ st) body):Kn P w K mg base (k+1) x np (fnOf n body):=by
 obtain ⟨f,fd,hf,F⟩:=F.ex
 refine ⟨f,fd,ps,?_,PySem.W.mg_of kb nb hf,F.kp,F.binds hb⟩
 obtain ⟨oc,od,kV,doc,pm,an,cdv,ct,osl,rfl,lk,hcd⟩:=F.ex
 refine aOr lk hcd S (fun vs H Q E h=>h.1.trans hnp.symm) fun A outer s H vs Q E hr hsp=>?_
 exact ⟨_,hbody f cdv A outer s H E hr,aOo hN hk hsp⟩
end
def aAi (scope sc:Scope) (N XN:List Str) (nt:Nat) (js:T0):Bool :=
 (scope.kind == .function) && (scope.names.all fun y=>y.2 != .cell) && (scope.names.all fun y=>y.2 != .local || scope.names.lookup y.1 == some .local) &&
 (scope.names.all fun y=>y.2 != .free || (sc.names.lookup y.1 == some .cell || sc.names.lookup y.1 == some .free)) && (nt+js.length == N.length) &&
 (js.zipIdx.all fun p=>match N[nt+p.2]?,XN[p.1]? with | some x,some y=>x == y && scope.names.lookup x == some .free | _,_=>false)
section
variable {X:Cx} {pos:Pos}
theorem hG {elt iter tg:Expr} {ifs:List Expr} {scope:Scope} {f:kR} (sc:Scope) (XN N:List Str) (nt:Nat) (js:T0) {set:D->Env->Option Env} {g:TG} {tc:cW} {te:aS}
  (hc:X.calm=true) (hsc:X.env.scope=sc) (hXN:X.N=XN) (hi:SI X tg iter f) (ht:Tgt X.K set g) (hok:aAi scope sc N XN nt js=true)
  (hb:∀cl s3 H3 fp,PG (blk X scope cl N s3 H3 fp) tg g/\PTs (blk X scope cl N s3 H3 fp) ifs (tvT X.K tc)/\SE (blk X scope cl N s3 H3 fp) elt te)
  (hs:∀x,foldedSetIterable iter X.env x=pure x:=by intro _;rfl):SE X (.ListComp elt [⟨tg,iter,ifs,0⟩] scope pos) (bS f nt js set tc te):=by
 subst hsc;subst hXN
 unfold aAi at hok
 simp only [Bool.and_eq_true,List.all_eq_true,Bool.or_eq_true,bne_iff_ne,beq_iff_eq,ne_eq] at hok
 obtain ⟨⟨⟨⟨⟨h1,h2⟩,h3⟩,h4⟩,h5⟩,h6⟩:=hok
 refine aMl hc hi ht h1 h2 (fun y hy e=>(h3 y hy).resolve_left fun z=>z e) (fun y hy e=>(h4 y hy).resolve_left fun z=>z e) h5 (fun k j e=>?_) hb hs
 have hm:(j,k)∈js.zipIdx:=by
  rw [List.mem_iff_getElem?]
  exact ⟨k,by rw [List.getElem?_zipIdx,e];simp⟩
 have:=h6 (j,k) hm
 dsimp only at this
 split at this
 ·rename_i x y e1 e2
  rw [Bool.and_eq_true,beq_iff_eq,beq_iff_eq] at this
  exact ⟨x,e1,by rw [e2,this.1],this.2⟩
 ·cases this
theorem dA (i:Nat) {y:Str} {py spos:Pos} {W:XW} {elt iter tg:Expr} {ifs:List Expr} {scope:Scope} {f:kR} (nd:X.N.Nodup) (sc:Scope) (XN N:List Str) (nt:Nat) (js:T0) {set:D->Env->Option Env} {g:TG} {tc:cW} {te:aS}
  (hc:X.calm=true) (hsc:X.env.scope=sc) (hXN:X.N=XN) (hi:SI X tg iter f) (ht:Tgt X.K set g) (hok:aAi scope sc N XN nt js=true)
  (hb:∀cl s3 H3 fp,PG (blk X scope cl N s3 H3 fp) tg g/\PTs (blk X scope cl N s3 H3 fp) ifs (tvT X.K tc)/\SE (blk X scope cl N s3 H3 fp) elt te)
  (hi0:X.N[i]?=some y:=by rfl) (hx:X.env.scope.names.lookup y=some .local:=by rfl) (hsw:swapsWith (.ListComp elt [⟨tg,iter,ifs,0⟩] scope pos) (some (.Name y py)) spos.line X.env=pure true:=by rfl)
  (hs:∀x,foldedSetIterable iter X.env x=pure x:=by intro _;rfl):SS X W (.Assign [.Name y py] (.ListComp elt [⟨tg,iter,ifs,0⟩] scope pos) spos) (aY i (xOf (bS f nt js set tc te))):=by
 subst hsc;subst hXN
 unfold aAi at hok
 simp only [Bool.and_eq_true,List.all_eq_true,Bool.or_eq_true,bne_iff_ne,beq_iff_eq,ne_eq] at hok
 obtain ⟨⟨⟨⟨⟨h1,h2⟩,h3⟩,h4⟩,h5⟩,h6⟩:=hok
 refine (aDx nd hi0 hx hsw hc hi h1 h2 (fun y hy e=>(h3 y hy).resolve_left fun z=>z e) (fun y hy e=>(h4 y hy).resolve_left fun z=>z e) h5 (fun k j e=>?_) hb hs).imp fun _ _ _ h=>aE4 ht (aOn (aKs h))
 have hm:(j,k)∈js.zipIdx:=by
  rw [List.mem_iff_getElem?]
  exact ⟨k,by rw [List.getElem?_zipIdx,e];simp⟩
 have:=h6 (j,k) hm
 dsimp only at this
 split at this
 ·rename_i x y e1 e2
  rw [Bool.and_eq_true,beq_iff_eq,beq_iff_eq] at this
  exact ⟨x,e1,by rw [e2,this.1],this.2⟩
 ·cases this
end
end VL
end
section
namespace VL
open PySem PySem.Spec PyProof.Rows L2
open Sem (wp)
section
variable {prog:Program} {w:World} {A:Around} {E:Y9} {s:Shared}
end
section
variable {prog:Program} {w:World} {A:Around} {E:Y9} {s:Shared}
end
end VL
namespace VL
open PySem PySem.Spec PyProof.Rows L2
section
variable {X:Cx} {pins:Y8} {σ:L2.St} {H:Hp} {s:Shared}
end
section
variable {K:FG} {F H:Hp} {σ:L2.St}
end
end VL
end
section
namespace VL
open PySem PySem.Spec PyProof.Rows L2
open Sem (wp)
section
variable {X:Cx} {a b e:Expr} {pos:Pos}
theorem any_range {ns:List Bool}:((List.range ns.length).any fun i=>ns.getD i false)=ns.any id:=by
 induction ns with
 | nil=>rfl
 | cons n r ih =>
  rw [List.length_cons,List.range_succ_eq_map,List.any_cons,List.any_map,List.any_cons,<- ih]
  rfl
theorem aGs (hc:X.calm=true):lD X (.builtin "any") (fun xs H Q=>∃(p:Addr) (ns:List Bool),xs=[.ref p]/\SqL X.K H p (ns.map V.bl)/\Q (.bl (ns.any id)) H):=by
 intro pins s σ H xs us Q I r h
 obtain ⟨p,ns,rfl,hq,q⟩:=h
 obtain ⟨u,rfl,ru⟩:=vals1 r
 cases ru
 obtain ⟨its,rv,pl,_⟩:=I.list hq
 have hl:=rv.length
 rw [List.length_map] at hl
 refine call_any_walk (wpAny_pyIter_list pl.isList ?_)
 have hne:p ≠ s.heap.objs.size:=fun z=>by
  obtain ⟨o,ho,_⟩:=pl.isList
  exact absurd (Heap.lt_size ho) (by rw [z];exact Nat.lt_irrefl _)
 refine ⟨s.heap.objs.size,_,_,its.toArray.size,_,_,fun i=>ns.getD i false,rfl,Walks.list (A:=X.A.in1) (show X.A.in1.handled=none from I.ok.hd hc) s.heap.objs.size p hne its.toArray,⟨⟨_,Heap.get?_push_size _ rfl,rfl,rfl⟩,pl.isList.push _⟩,fun i v s' Q' E' hP hQ=>?_,fun h' tk hk=>?_⟩
 ·have hP:its[i]?=some v:=by simpa using hP
  have hi:i<ns.length:=by rw [hl];exact (List.getElem?_eq_some_iff.mp hP).1
  obtain ⟨u',e',ru'⟩:=rv.get (i:=i) (x:=V.bl ns[i]) (by rw [List.getElem?_map,List.getElem?_eq_getElem hi];rfl)
  rw [hP] at e';cases e'
  cases ru'
  have:ns.getD i false=ns[i]:=by simp [List.getD,List.getElem?_eq_getElem hi]
  have hQ:Q' (ns.getD i false) s':=hQ
  rw [this] at hQ
  exact wpAny_truthy_bool hQ
 ·rw [List.size_toArray,<- hl,any_range]
  refine ⟨.bl _,H,?_,rfl,q⟩
  refine I.kept (t':=tk) fun b o e=>hk b o (fun z=>?_) (Heap.get?_push_of_some _ e)
  have z':b=s.heap.objs.size:=by simpa using z
  exact absurd (Heap.lt_size e) (by rw [z'];exact Nat.lt_irrefl _)
def aEa:List (D×Bool)->R (D×Bool)
 | [(.lst _ ds,_)]=>(match eX ds with | some ns=>.ok (.bl (ns.any id),true) | none=>.bad) | _=>.bad
theorem aMj {K:FG}:OpA K aEa (fun xs H Q=>∃(p:Addr) (ns:List Bool),xs=[.ref p]/\SqL K H p (ns.map V.bl)/\Q (.bl (ns.any id)) H):=by
 intro F0 H0 F H xs vs fa Q gr a n k h
 match xs,h,a with
 | [(.lst o ds,b)],h,a =>
  unfold Args at a
  obtain ⟨v,r,fp,f2,e,o1,n1,t,w⟩:=a
  unfold Args at t
  obtain ⟨p,ys,fq,e1,q1,r1,_⟩:=Own.lst gr.inn o1
  have h:(match eX ds with | some ns=>R.ok (D.bl (ns.any id),true) | none=>R.bad).holds (EPost K F0 H0 Q):=h
  cases q:eX ds with
  | none=>rw [q] at h;exact h.elim
  | some ns =>
   rw [q] at h
   rw [mU ds q r1] at q1
   exact ⟨p,ns,by rw [e,t.1,e1],q1,EPost.dU gr h rfl⟩
theorem aR0 {f:aS} {p:Pos} (hc:X.calm=true) (hm:X.mg "any" = none) (ha:SE X a f) (hg:Gl X "any" :=by rfl) (hs:starEach [a] X.env=(false,eval a X.env)::starEach [] X.env:=by rfl) (hv:bootBuiltins "any" = some (.builtin "any"):=by decide +kernel):SE X (.Call (.Name "any" p) [a] [] pos) (vCB aEa (aE f aL)) :=
 aA2 (aGs hc) aMj hm hv (aB ha aG hs) hg (by decide) (by decide) hs
def aW1:List (D×Bool)->R (D×Bool)
 | [(.int i,_)]=>.ok (.int i,true) | [(.bl b,_)]=>.ok (.int (if b then 1 else 0),true) | _=>.bad
end
end VL
end
section
namespace VL
open PySem PySem.Spec PyProof.Rows L2
section
variable {X:Cx} {W:XW} {e a b:Expr} {es:List Expr} {pos:Pos}
theorem aMa {CX:CXT} {k:Nat} {f:Addr} {fd:FuncData} {ps:List Str} {sp:Sp} {dvs:List V} {ds:Y1} {E:XK} {pins:Y8} {σ:L2.St} {H:Hp} {s:Shared} {Q:VK} {us:Y1} {vs:List V} (F:FnOk X.prog X.w X.K X.mg X.base CX k f fd ps sp) (hr:Room k X.A) (hb:Binds X.K fd ps ds) (hd:Vals dvs ds)
  (hx:∀e s',CX X.stack H s E e s'->X.xe e s') (I:L2.Inv X pins σ H s) (r:Vals vs us) (h:sp (vs++dvs) H Q E):wpAny (model X.prog X.w) X.A (call (.ref f) us) (EP X pins σ Q) X.xe s:=by
 have r2:Vals (vs++dvs) (us++ds):=r.append hd
 have hl:(us++ds).length=ps.length:=by rw [<- r2.length];exact F.len _ _ _ _ h
 refine wpAny_call (codeAny_mono (F.run X.A X.stack s H ⟨us,[]⟩ (us++ds) (vs++dvs) Q E hr I.aVv (hb s us I.kIn hl) r2 h) fun r s' hq=>?_)
 cases r with
 | error e=>exact hx e s' hq
 | ok fl =>
  cases fl with
  | ret u=>exact I.after hq
  | next=>exact False.elim hq
  | brk=>exact False.elim hq
  | cont=>exact False.elim hq
theorem aKd {k n:Nat} {x:Str} {fn:Fn} {ta:TA} {p:Pos} (L:Lk X W) (F:Kn X.prog X.w X.K X.mg X.base k x n fn) (hr:Room k X.A) (ha:PA X (e::es) ta) (hg:Gl X x:=by rfl) (hdb:(x == ("__debug__" : Str))=false:=by decide)
  (he:starEach (e::es) X.env=(false,eval e X.env)::starEach es X.env:=by rfl) (hpl:(backTo pos (starEach es X.env)).any (·.1)=false:=by rfl):PE X (.Call (.Name x p) (e::es) [] pos) (aKy (spV X.K n fn) (wE X.K W) ta):=by
 obtain ⟨f,fd,ps,F,hm,hk,hb⟩:=F.ex
 intro pins s σ H Q I h
 refine wpAny_Call_Name_kw (qQ I hg hm ?_ hdb)
 refine PySem.W.callWith_K (h₀:=X.base) I.ok.mod.kin hk (thn (ha pos pins s σ H _ I h) fun us s1 ⟨vs,H1,I1,r,q⟩=>⟨I1.kIn,?_⟩) he hpl
 exact aMa F hr hb .nil (fun e s' hq=>L.call pins σ H1 s1 e s' I1 hq) I1 r q
theorem jR {k n:Nat} {x:Str} {fn:Fn} {g:dO} {p:Pos} (L:Lk X W) (F:Kn X.prog X.w X.K X.mg X.base k x n fn) (hr:Room k X.A) (ha:SA X (e::es) g) (hl:zQ n g) (hg:Gl X x:=by rfl) (hdb:(x == ("__debug__" : Str))=false:=by decide)
  (he:starEach (e::es) X.env=(false,eval e X.env)::starEach es X.env:=by rfl) (hpl:(backTo pos (starEach es X.env)).any (·.1)=false:=by rfl):SX X W (.Call (.Name x p) (e::es) [] pos) (gZ fn g) :=
 (aKd L F hr ha hg hdb he hpl).imp fun _ _ _ h=>aMo hl h
end
section
variable {K:FG} {W:XW} {F H:Hp} {σ:L2.St} {ρ:Env} {D':Ends}
end
section
variable {X:Cx} {W:XW} {e a:Expr} {es:List Expr} {pos:Pos}
end
end VL
end
section
namespace VL
open PySem PySem.Spec PyProof.Rows L2 PySem.W PySem.Calls PySem.Builtin.ObjectAttr PySem.Builtin PySem.Builtin.Getset_descriptor
section
variable {prog:Program} {w:World} {A:Around} {E:Y9} {s:Shared} {K:FG} {x C:Addr} {name:Str}
theorem aNs {M:Model} {h:Heap} {a g:Value} (X:K.In h) (ha:findIn K (.ref C) name=some (some a)) (hg:specialIn K a "__get__" = some (some g)) (ht:takesIn K a=some true):Looks M h (find (.ref x) (.ref C) name) (.bind g a):=by
 have L1:=looks_findIn (M:=M) X ha
 have L2:Looks M h (getOf (some a)) (some g):=looks_specialIn X hg
 have L3:=looks_takesIn (M:=M) X ht
 exact L1.andThen (L2.andThen ((show Looks M h (dataDescriptor? (some a) (some g)) (some (g,a)) from L3.andThen .now).andThen (Looks.tag .now)))
theorem aJk {M:Model} {nameV:Value} {Q:Unit->Shared->Prop} (X:K.In s.heap) (L0:Looks M s.heap (typeOf (.ref x)) (.ref C)) (hb:mroIn K C (.type "BaseException")=some true) (hq:Q () s):wpAny M A (checkBuiltinCall "BaseException.__getattribute__" ⟨[.ref x,nameV],[]⟩) Q E s:=by
 have hk:builtinKind "BaseException.__getattribute__" = some .slot:=by decide +kernel
 have hsplit:splitId "BaseException.__getattribute__" = some ("BaseException", "__getattribute__"):=by decide +kernel
 have ha:=F.args_bexc_ga (.ref x) nameV
 have L5:=looks_mroIn (M:=M) X hb
 simp only [checkBuiltinCall,hk,hsplit]
 obtain ⟨hh,g,d,t,os⟩:=s
 refine wpAny_bind ?_
 unfold isInstance
 refine wpAny_bind (L0.at (L5.at ?_))
 cases hsig:Manifest.signature? "BaseException.__getattribute__" with
 | none=>exact wpAny_pure hq
 | some sig =>
  simp only [argsOk,hsig] at ha
  have h2:Bind.checkArgs "BaseException.__getattribute__" sig ⟨[.ref x,nameV],[]⟩=pure ():=ha
  show wpAny M A (Bind.checkArgs "BaseException.__getattribute__" sig ⟨[.ref x,nameV],[]⟩) Q E _
  rw [h2];exact wpAny_pure hq
theorem aJ8 {Q:Option Value->Shared->Prop} (X:K.In s.heap) (L0:∀(h:Heap),(∀b o,s.heap.get? b=some o->h.get? b=some o)->Looks (model prog w) h (typeOf (.ref x)) (.ref C)) (hg:findIn K (.ref C) "__getattribute__" = some (some (.builtin "BaseException.__getattribute__"))) (hg2:findIn K (.ref C) "__getattr__" = some none) (ha:findIn K (.ref C) "__class__" = some (some (.builtin "object.__class__")))
  (hn:specialIn K (.builtin "object.__class__") "__get__" = some (some (.builtin "getset_descriptor.__get__"))) (htk:takesIn K (.builtin "object.__class__")=some true) (hm:mroIn K C (.type "object")=some true) (hb:mroIn K C (.type "BaseException")=some true)
  (h:Q (some (.ref C)) { s with toks:=s.toks+1 }):wpAny (model prog w) A (getAttr? (.ref x) "__class__") Q E s:=by
 obtain ⟨hh,g,d,t,os⟩:=s
 have L0:=L0 hh fun _ _ e=>e
 have L1:=looks_findIn (M:=model prog w) X hg
 have L2:=looks_findIn (M:=model prog w) X hg2
 unfold getAttr? getAttrBy? getAttrBy
 refine wpAny_bind (wpAny_mkText (wpAny_bind (wpAny_attempt (wpAny_holding (wpAny_bind (L0.at (wpAny_bind (L1.at ?_))))))))
 show wpAny _ _ (getAttrByItsOwn (.ref x) _ (.ref C) (.builtin "BaseException.__getattribute__") false false) _ _ _
 unfold getAttrByItsOwn
 refine wpAny_bind ?_
 show wpAny _ _ (typeLookup (.ref C) "__getattr__") _ _ _
 refine L2.at (wpAny_bind (wpAny_attempt (wpAny_holding ?_)))
 show wpAny _ _ (boundAndCalled _ _ _) _ _ _
 unfold boundAndCalled
 rw [F.excAttr_ValueError.ga.bind (.ref x)]
 refine wpAny_bind (wpAny_pure (wpAny_call ?_))
 refine codeAny_call_builtin F.excAttr_ValueError.ga.plain F.entry_bexc_ga (aJk X L0 hb ?_)
 have L3:=aNs (M:=model prog w) (x:=x) X ha hn htk
 unfold Builtin.«object.__getattribute__»
 refine wpAny_bind (wpAny_pure (wpAny_bind (wpAny_pure (wpAny_bind (L0.at (wpAny_bind (L3.at ?_)))))))
 show wpAny _ _ (holding [.builtin "object.__class__"] (call (.builtin "getset_descriptor.__get__") [.builtin "object.__class__",.ref x,.ref C]) >>= ret) _ _ _
 refine wpAny_bind (wpAny_holding (wpAny_call ?_))
 have L5:=looks_mroIn (M:=model prog w) X hm
 refine codeAny_call_builtin KF.slot_gs.plain KF.entry_gs (KF.slot_gs.check _ _ _ _ _ _ _ _ KF.type_class (KF.args_gs _ _ _) ?_)
 unfold Builtin.«getset_descriptor.__get__» descrGet
 rw [dga_obj]
 refine wpAny_bind (wpAny_pure ?_)
 unfold descrGetter descrCheckInstance descrNameAndClass isInstance
 simp only [KF.owner_class]
 repeat lk
 refine ⟨Code.quiet_builtin _ (by decide +kernel),codeAny_builtin KF.entry_class ?_⟩
 unfold Builtin.«object.__class__» shownTypeOf
 repeat lk
 exact h
structure ExcF (K:FG) (C:Addr):Prop where
 cls:(clsIn K C).isSome=true
 ga:findIn K (.ref C) "__getattribute__" = some (some (.builtin "BaseException.__getattribute__"))
 gn:findIn K (.ref C) "__getattr__" = some none
 fi:findIn K (.ref C) "__class__" = some (some (.builtin "object.__class__"))
 sp:specialIn K (.builtin "object.__class__") "__get__" = some (some (.builtin "getset_descriptor.__get__"))
 tk:takesIn K (.builtin "object.__class__")=some true
 mro:mroIn K C (.type "object")=some true
 mrb:mroIn K C (.type "BaseException")=some true
theorem aBv (f:ExcF K C):KitX K (.ref x) (.ref C) (fun h=>∃o vs,h.get? x=some o/\o.cls=.ref C/\o.data=.fields vs) where
 ty:=fun M h _ p=>by
  obtain ⟨o,vs,h1,h2,_⟩:=p
  exact h2 ▸ (Looks.ld h1).andThen .now
 it:=fun M h X _=>by
  obtain ⟨cd,hc⟩:=Option.isSome_iff_exists.mp f.cls
  unfold clsIn at hc
  split at hc
  ·rename_i c' d' cd' sl' ho
   intro A' Q' E' s' k q
   unfold isType loadHead
   exact wpAny_bind (wpAny_loadPart (k _ _ (X _ _ ho)) (wpAny_pure q))
  ·cases hc
 ne:=fun h tp dd its n sl X htp=>by
  obtain ⟨cd,hc⟩:=Option.isSome_iff_exists.mp f.cls
  refine Bool.eq_false_iff.mpr fun q=>?_
  have e:C=tp:=Value.ref.inj (beq_iff_eq.mp q)
  subst e
  unfold clsIn at hc
  split at hc
  ·rename_i c' d' cd' sl' ho
   have z:=(X _ _ ho).symm.trans htp
   cases z
  ·cases hc
 ca:=fun {prog w A E Q s} X p k=>by
  obtain ⟨o,vs,h1,h2,_⟩:=p
  exact aJ8 X (fun h kk=>h2 ▸ (Looks.ld (kk _ _ h1)).andThen .now) f.ga f.gn f.fi f.sp f.tk f.mro f.mrb k
end
section
variable {X:Cx}
def aGu (kn tb:Str->Bool):D×Bool->R (D×Bool):=fun x=>match x.1 with
 | .ext _ (.exc c)=>if kn c then .ok (.bl (tb c),true) else .bad
 | _=>.bad
theorem aJv {cv:V} {cu:Value} {kn tb:Str->Bool} (hcv:∀u,RelV cv u->u=cu) (hf:∀c C,kn c=true->hZ X.K c C->ExcF X.K C/\PySem.W.kitOne X.K (.ref C) cu=some (tb c)) :
  lD X (.builtin "isinstance") (fun vs H Q=>∃F d v fp c o,bB F H/\vs=[v,cv]/\d=D.ext o (.exc c)/\Own X.K F H d v fp/\kn c=true/\Q (.bl (tb c)) H):=by
 intro pins s σ H vs us Q I r h
 obtain ⟨F,d,v,fp,c,ow,hs,e,rfl,o,hk,q⟩:=h
 subst e
 obtain ⟨u,u2,rfl,r1,r2⟩:=r.two
 rw [hcv _ r2]
 unfold Own at o
 obtain ⟨a,w,ev,⟨C,hC,ew⟩,o⟩:=o
 subst ev
 cases (show u=Value.ref a from r1)
 have hH:H a=some (ExcAt a C):=by
  rcases o with ⟨_,_,o,_⟩ | ⟨_,o,_⟩
  ·rw [<- ew];exact o
  ·rw [<- ew];exact hs a _ o
 obtain ⟨ef,ek⟩:=hf c C hk hC
 have ho:∃o vs,s.heap.get? a=some o/\o.cls=.ref C/\o.data=.fields vs:=(I.hok a _ hH).1
 exact PySem.W.kia_one (aBv ef) I.kIn ho ek (fun z=>nomatch z) fun tk=>⟨.bl (tb c),H,I.tok _,rfl,q⟩
theorem aPe {cv:V} {cu:Value} {kn tb:Str->Bool} {a ce:Expr} {f:aS} {p pos:Pos} (hce:PE X ce fun σ H Q=>Q cv H) (hcv:∀u,RelV cv u->u=cu) (hf:∀c C,kn c=true->hZ X.K c C->ExcF X.K C/\PySem.W.kitOne X.K (.ref C) cu=some (tb c)) (ha:SE X a f) (hm:X.mg "isinstance" = none) (hg:Gl X "isinstance" :=by rfl)
  (hs1:starEach [a,ce] X.env=(false,eval a X.env)::starEach [ce] X.env:=by rfl) (hs2:starEach [ce] X.env=(false,eval ce X.env)::starEach [] X.env:=by rfl)
  (hpl:(backTo pos (starEach [ce] X.env)).any (·.1)=false:=by rfl):SE X (.Call (.Name "isinstance" p) [a,ce] [] pos) (v1 (aGu kn tb) f) :=
 (rE (aJv hcv hf) hg hm PyProof.Rows.boot_isinstance (fI ha (fI hce nO hs2) hs1) (by decide) (by decide) hs1 hpl).imp fun σ H Q h=>by
  obtain ⟨ρ,F,fps,S,h⟩:=h
  refine ⟨ρ,F,fps,S,R.aM (R.aN.mp h) fun x hx v F1 H1 fx g1 o1 n1 k1=>?_⟩
  unfold aGu at hx
  split at hx
  ·rename_i o c e
   by_cases hc:kn c=true
   ·rw [if_pos hc] at hx
    exact ⟨F1,x.1,v,fx,c,o,g1.inn,rfl,e,o1,hc,EPost.dU g1 hx rfl⟩
   ·rw [if_neg hc] at hx;exact hx.elim
  ·exact hx.elim
end
end VL
end
section
namespace VL
open PySem PySem.Spec PyProof.Rows L2 PySem.SeqAt
section
variable {X:Cx}
variable {o e:Expr} {ap cp:Pos}
end
end VL
end
section
namespace ST
open PySem PySem.SetTable
def adv (mask:Nat) (p:Probe):Probe :=
 if p.more > 0 then { p with j:=p.j+1,more:=p.more - 1 } else
 { p with j:=(leap mask p.i p.perturb).1,more:=runEnd mask (leap mask p.i p.perturb).1 - (leap mask p.i p.perturb).1,i:=(leap mask p.i p.perturb).1,perturb:=(leap mask p.i p.perturb).2 }
def start (mask i u:Nat):Probe:={ j:=i,more:=runEnd mask i - i,i,perturb:=u,dummy:=none }
def pos (mask:Nat) (h:Int):Nat->Probe
 | 0=>start mask (bits h % (mask+1)) (bits h)
 | k+1=>adv mask (pos mask h k)
theorem xO (mask:Nat) (h:Int):∀k,(pos mask h k).dummy=none
 | 0=>rfl
 | k+1=>by
  show (adv mask (pos mask h k)).dummy=none
  unfold adv
  split<;>exact xO mask h k
def iter {α:Type} (f:α->α):Nat->α->α
 | 0,x=>x
 | n+1,x=>iter f n (f x)
theorem nW {α:Type} (f:α->α):∀(n m:Nat) (x:α),iter f (n+m) x=iter f m (iter f n x)
 | 0,m,x=>by rw [Nat.zero_add];rfl
 | n+1,m,x=>by rw [Nat.succ_add];exact nW f n m (f x)
theorem oI {α:Type} (f:α->α) (n:Nat) (x:α):iter f (n+1) x=f (iter f n x):=nW f n 1 x
theorem aBt (mask:Nat) (h:Int):∀k,pos mask h k=iter (adv mask) k (pos mask h 0)
 | 0=>rfl
 | k+1=>by rw [oI,<- aBt mask h k];rfl
theorem aCa {mask:Nat}:∀(m:Nat) (p:Probe),p.more=m->iter (adv mask) (m+1) p={ p with j:=(leap mask p.i p.perturb).1,more:=runEnd mask (leap mask p.i p.perturb).1 - (leap mask p.i p.perturb).1,i:=(leap mask p.i p.perturb).1,perturb:=(leap mask p.i p.perturb).2 }
 | 0,p,e=>by
  show adv mask p=_
  unfold adv
  rw [if_neg (by omega)]
 | m+1,p,e=>by
  have e1:adv mask p={ p with j:=p.j+1,more:=p.more - 1 }:=by unfold adv;rw [if_pos (by omega)]
  show iter (adv mask) (m+1) (adv mask p)=_
  rw [e1,aCa m _ (by show p.more - 1=m;omega)]
theorem turn {mask i u:Nat}:∃m,m<=10/\iter (adv mask) m (start mask i u)=start mask (leap mask i u).1 (leap mask i u).2:=by
 refine ⟨runEnd mask i - i+1,?_,?_⟩
 ·unfold runEnd;split<;>omega
 ·exact aCa (runEnd mask i - i) (start mask i u) rfl
def lp (mask:Nat) (x:Nat×Nat):Nat×Nat:=leap mask x.1 x.2
theorem aBn {mask i u:Nat}:∀T,∃m,m<=10 * T/\iter (adv mask) m (start mask i u)=start mask (iter (lp mask) T (i,u)).1 (iter (lp mask) T (i,u)).2
 | 0=>⟨0,by omega,rfl⟩
 | T+1=>by
  obtain ⟨m,hm,e⟩:=aBn (mask:=mask) (i:=i) (u:=u) T
  obtain ⟨m',hm',e'⟩:=turn (mask:=mask) (i:=(iter (lp mask) T (i,u)).1) (u:=(iter (lp mask) T (i,u)).2)
  refine ⟨m+m',by omega,?_⟩
  rw [nW,e,e',oI];rfl
theorem aRm {mask:Nat}:∀(T:Nat) (x:Nat×Nat),(iter (lp mask) T x).2=x.2 / 32 ^ T
 | 0,x=>by simp [iter]
 | T+1,x=>by
  rw [oI]
  show (iter (lp mask) T x).2 / 32=_
  rw [aRm T x,Nat.div_div_eq_div_mul,Nat.pow_succ]
def lc (mask x:Nat):Nat:=(x * 5+1) % (mask+1)
theorem pE {mask:Nat}:∀(m x:Nat),iter (lp mask) m (x,0)=(iter (lc mask) m x,0)
 | 0,x=>rfl
 | m+1,x=>by
  show iter (lp mask) m (lp mask (x,0))=_
  have:lp mask (x,0)=(lc mask x,0):=by simp [lp,leap,lc]
  rw [this,pE m];rfl
theorem aEg (h:Int):bits h<2 ^ 64:=by unfold bits;omega
def kG (mask:Nat):Prop:=∀x,x<=mask->∀j,j<=mask->∃m,m<=mask/\iter (lc mask) m x=j
theorem aLn:kG 7:=by
 have:∀x:Fin 8,∀j:Fin 8,∃m:Fin 8,iter (lc 7) m.1 x.1=j.1:=by decide +kernel
 intro x hx j hj
 obtain ⟨m,e⟩:=this ⟨x,by omega⟩ ⟨j,by omega⟩
 exact ⟨m.1,by have:=m.2;omega,e⟩
theorem aKr:kG 31:=by
 have:∀x:Fin 32,∀j:Fin 32,∃m:Fin 32,iter (lc 31) m.1 x.1=j.1:=by decide +kernel
 intro x hx j hj
 obtain ⟨m,e⟩:=this ⟨x,by omega⟩ ⟨j,by omega⟩
 exact ⟨m.1,by have:=m.2;omega,e⟩
theorem aNz {mask:Nat}:∀(T:Nat) (x:Nat×Nat),x.1<=mask->(iter (lp mask) T x).1<=mask
 | 0,x,h=>h
 | T+1,x,h=>by
  rw [oI]
  show (_ % (mask+1))<=mask
  have:=Nat.mod_lt ((iter (lp mask) T x).1 * 5+1+(iter (lp mask) T x).2 / 32) (show mask+1 > 0 by omega)
  omega
theorem met {mask:Nat} (hc:kG mask) (h:Int) {j:Nat} (hj:j<=mask):∃k,k<=10 * (13+mask)/\(pos mask h k).j=j:=by
 have h0:(bits h % (mask+1),bits h).1<=mask:=by
  have:=Nat.mod_lt (bits h) (show mask+1 > 0 by omega)
  show bits h % (mask+1)<=mask;omega
 have e13:iter (lp mask) 13 (bits h % (mask+1),bits h)=((iter (lp mask) 13 (bits h % (mask+1),bits h)).1,0):=by
  refine Prod.ext rfl ?_
  rw [aRm]
  exact Nat.div_eq_of_lt (Nat.lt_of_lt_of_le (aEg h) (by decide))
 obtain ⟨m,hm,e⟩:=hc _ (aNz 13 _ h0) j hj
 obtain ⟨k,hk,ek⟩:=aBn (mask:=mask) (i:=bits h % (mask+1)) (u:=bits h) (13+m)
 refine ⟨k,by omega,?_⟩
 rw [aBt]
 show (iter (adv mask) k (start mask (bits h % (mask+1)) (bits h))).j=j
 rw [ek,nW,e13,pE]
 exact e
theorem aPq {mask:Nat} (h:Int):∀k,(pos mask h k).j+(pos mask h k).more<=mask/\(pos mask h k).i<=mask:=by
 have hs:∀i u,i<=mask->(start mask i u).j+(start mask i u).more<=mask:=fun i u hi=>by
  show i+(runEnd mask i - i)<=mask
  unfold runEnd;split<;>omega
 intro k
 induction k with
 | zero =>
  have:bits h % (mask+1)<=mask:=by have:=Nat.mod_lt (bits h) (show mask+1 > 0 by omega);omega
  exact ⟨hs _ _ this,this⟩
 | succ k ih =>
  show (adv mask (pos mask h k)).j+(adv mask (pos mask h k)).more<=mask/\(adv mask (pos mask h k)).i<=mask
  unfold adv
  split
  ·exact ⟨by show (pos mask h k).j+1+((pos mask h k).more - 1)<=mask;omega,ih.2⟩
  ·have:(leap mask (pos mask h k).i (pos mask h k).perturb).1<=mask:=by
    show (_ % (mask+1))<=mask
    have:=Nat.mod_lt ((pos mask h k).i * 5+1+(pos mask h k).perturb / 32) (show mask+1 > 0 by omega)
    omega
   exact ⟨hs _ 0 this,this⟩
end ST
end
section
namespace ST
open PySem PySem.SetTable
def vN (xs:Array Nat):Prop:=∀(i k a b:Nat),xs[i]?=some a->xs[k]?=some b->i<k->a<b
theorem aAp {xs:Array Nat} {j:Nat} (hr:vN xs):∀(fuel lo hi:Nat),lo<=hi->hi<=xs.size->hi - lo<=fuel->(∀(i v:Nat),xs[i]?=some v->i<lo->v<j)->(∀(i v:Nat),xs[i]?=some v->hi<=i->j<=v) ->
  below.go xs j fuel lo hi<=xs.size/\(∀(i v:Nat),xs[i]?=some v->i<below.go xs j fuel lo hi->v<j)/\∀(i v:Nat),xs[i]?=some v->below.go xs j fuel lo hi<=i->j<=v
 | 0,lo,hi,h1,h2,h3,h4,h5=>by
  have e:lo=hi:=by omega
  subst e
  exact ⟨h2,h4,h5⟩
 | fuel+1,lo,hi,h1,h2,h3,h4,h5=>by
  unfold below.go
  by_cases hl:lo<hi
  ·rw [if_pos hl]
   dsimp only
   have hm:(lo+hi) / 2<xs.size:=by omega
   have em:xs[(lo+hi) / 2]?=some xs[(lo+hi) / 2]:=Array.getElem?_eq_getElem hm
   have eg:xs.getD ((lo+hi) / 2) j=xs[(lo+hi) / 2]:=by simp [Array.getD,hm]
   rw [eg]
   by_cases hv:xs[(lo+hi) / 2]<j
   ·rw [if_pos hv]
    refine aAp hr fuel _ hi (by omega) h2 (by omega) (fun i v e hi'=>?_) h5
    by_cases hq:i=(lo+hi) / 2
    ·subst hq;rw [em] at e;cases e;exact hv
    ·have:=hr i _ v _ e em (by omega);omega
   ·rw [if_neg hv]
    refine aAp hr fuel lo _ (by omega) (by omega) (by omega) h4 (fun i v e hi'=>?_)
    by_cases hq:i=(lo+hi) / 2
    ·subst hq;rw [em] at e;cases e;omega
    ·have:=hr _ i _ v em e (by omega);omega
  ·rw [if_neg hl]
   have e:lo=hi:=by omega
   subst e
   exact ⟨h2,h4,h5⟩
theorem iW {xs:Array Nat} (hr:vN xs) (j:Nat):below xs j<=xs.size/\(∀(i v:Nat),xs[i]?=some v->i<below xs j->v<j)/\∀(i v:Nat),xs[i]?=some v->below xs j<=i->j<=v :=
 aAp hr xs.size 0 xs.size (Nat.zero_le _) (Nat.le_refl _) (by omega) (fun _ _ _ h=>by omega) fun i v e h=>by
  have:=(Array.getElem?_eq_some_iff.mp e).1;omega
theorem below_at {xs:Array Nat} (hr:vN xs) {i j:Nat} (e:xs[i]?=some j):below xs j=i:=by
 obtain ⟨_,h2,h3⟩:=iW hr j
 rcases Nat.lt_trichotomy i (below xs j) with q | q | q
 ·have:=h2 i j e q;omega
 ·exact q.symm
 ·have hs:=(Array.getElem?_eq_some_iff.mp e).1
  have eb:xs[below xs j]?=some (xs[below xs j]'(by omega)):=Array.getElem?_eq_getElem (by omega)
  have a1:=h3 _ _ eb (Nat.le_refl _)
  have a2:=hr _ _ _ _ eb e q
  omega
theorem sA {t:SetTable} (hr:vN t.place) {i j:Nat} (e:t.place[i]?=some j):t.slot j=.live i:=by
 unfold SetTable.slot
 dsimp only
 rw [below_at hr e,e];simp
theorem aC5 {t:SetTable} (hd:t.dummies = #[]) {j:Nat} (hn:∀i:Nat,t.place[i]? ≠ some j):t.slot j=.empty:=by
 unfold SetTable.slot
 dsimp only
 rw [if_neg (by simpa using hn _),hd]
 rfl
theorem iM {α:Type} {xs:Array α} {p:Nat} {x:α} (hp:p<=xs.size) (i:Nat):(insertAt xs p x)[i]?=if i<p then xs[i]? else if i=p then some x else xs[i - 1]?:=by
 have e:(insertAt xs p x).toList=xs.toList.take p++x::xs.toList.drop p:=by
  simp [insertAt,List.take_of_length_le]
 rw [<- Array.getElem?_toList,e]
 have hl:(xs.toList.take p).length=p:=by simp;omega
 by_cases h1:i<p
 ·rw [if_pos h1,List.getElem?_append_left (by omega),List.getElem?_take,if_pos h1,Array.getElem?_toList]
 ·rw [if_neg h1,List.getElem?_append_right (by omega),hl]
  by_cases h2:i=p
  ·rw [if_pos h2,h2,Nat.sub_self];rfl
  ·rw [if_neg h2]
   obtain ⟨k,rfl⟩:∃k,i=p+1+k:=⟨i - p - 1,by omega⟩
   rw [show p+1+k - p=k+1 by omega,List.getElem?_cons_succ,List.getElem?_drop,Array.getElem?_toList]
   congr 1;omega
theorem rF {α:Type} {xs:Array α} {p:Nat} {x:α} (hp:p<=xs.size):(insertAt xs p x).size=xs.size+1:=by
 simp [insertAt];omega
theorem aIx {xs:Array Nat} (hr:vN xs) {j:Nat} (hn:∀i:Nat,xs[i]? ≠ some j):vN (insertAt xs (below xs j) j):=by
 obtain ⟨h1,h2,h3⟩:=iW hr j
 intro i k a b ea eb hik
 rw [iM h1] at ea eb
 have ne:∀(i v:Nat),xs[i]?=some v->v ≠ j:=fun i v e z=>hn i (z ▸ e)
 split at ea
 ·split at eb
  ·exact hr _ _ _ _ ea eb hik
  ·split at eb
   ·cases eb;exact h2 _ _ ea (by omega)
   ·exact hr _ _ _ _ ea eb (by omega)
 ·split at ea
  ·cases ea
   split at eb
   ·omega
   ·split at eb
    ·omega
    ·have a1:=h3 _ _ eb (by omega);have a2:=ne _ _ eb;omega
  ·split at eb
   ·omega
   ·split at eb
    ·omega
    ·exact hr _ _ _ _ ea eb (by omega)
theorem aLr {α:Type} {xs:Array α} {p:Nat} {x:α} (hp:p<=xs.size) {y:α}:(∃i:Nat,(insertAt xs p x)[i]?=some y) ↔ y=x\/∃i:Nat,xs[i]?=some y:=by
 constructor
 ·rintro ⟨i,e⟩
  rw [iM hp] at e
  split at e
  ·exact .inr ⟨_,e⟩
  ·split at e
   ·cases e;exact .inl rfl
   ·exact .inr ⟨_,e⟩
 ·rintro (rfl | ⟨i,e⟩)
  ·exact ⟨p,by rw [iM hp,if_neg (by omega),if_pos rfl]⟩
  ·by_cases h:i<p
   ·exact ⟨i,by rw [iM hp,if_pos h];exact e⟩
   ·exact ⟨i+1,by rw [iM hp,if_neg (by omega),if_neg (by omega)];exact e⟩
theorem aBe {t:SetTable} {f:Nat->Int} {h:Int}:∀(d m fuel:Nat),d<fuel->(∀k,m<=k->k<m+d->∃i,t.slot (pos t.mask h k).j=.live i/\(f i == h)=false) ->
  probe.go t f h fuel (pos t.mask h m)=probe.go t f h (fuel - d) (pos t.mask h (m+d))
 | 0,m,fuel,_,_=>rfl
 | d+1,m,0,hf,_=>by omega
 | d+1,m,fuel+1,hf,hk=>by
  obtain ⟨i,e1,e2⟩:=hk m (Nat.le_refl _) (by omega)
  have:=aBe d (m+1) fuel (by omega) fun k h1 h2=>hk k (by omega) (by omega)
  have e:probe.go t f h (fuel+1) (pos t.mask h m)=probe.go t f h fuel (pos t.mask h (m+1)):=by
   show (match t.slot (pos t.mask h m).j with | .empty=>some (Met.empty (pos t.mask h m).j (pos t.mask h m).dummy) | .dummy=>probe.go t f h fuel (t.advance { pos t.mask h m with dummy:=some (pos t.mask h m).j }) | .live i=>if f i == h then some (.candidate (pos t.mask h m).j i (t.advance (pos t.mask h m))) else probe.go t f h fuel (t.advance (pos t.mask h m)))=_
   rw [e1]
   dsimp only
   rw [e2,if_neg (by simp)];rfl
  rw [e,this,show fuel+1 - (d+1)=fuel - d by omega,show m+1+d=m+(d+1) by omega]
theorem aJ0 {t:SetTable} {f:Nat->Int} {h:Int} {m fuel:Nat} (hf:0<fuel) (e:t.slot (pos t.mask h m).j=.empty):probe.go t f h fuel (pos t.mask h m)=some (.empty (pos t.mask h m).j none):=by
 obtain ⟨n,rfl⟩:∃n,fuel=n+1:=⟨fuel - 1,by omega⟩
 show (match t.slot (pos t.mask h m).j with | .empty=>some (Met.empty (pos t.mask h m).j (pos t.mask h m).dummy) | .dummy=>probe.go t f h n (t.advance { pos t.mask h m with dummy:=some (pos t.mask h m).j }) | .live i=>if f i == h then some (.candidate (pos t.mask h m).j i (t.advance (pos t.mask h m))) else probe.go t f h n (t.advance (pos t.mask h m)))=_
 rw [e]
 dsimp only
 rw [xO]
theorem aLs {t:SetTable} {f:Nat->Int} {h:Int} {m fuel i:Nat} (hf:0<fuel) (e:t.slot (pos t.mask h m).j=.live i) (eh:(f i == h)=true):probe.go t f h fuel (pos t.mask h m)=some (.candidate (pos t.mask h m).j i (pos t.mask h (m+1))):=by
 obtain ⟨n,rfl⟩:∃n,fuel=n+1:=⟨fuel - 1,by omega⟩
 show (match t.slot (pos t.mask h m).j with | .empty=>some (Met.empty (pos t.mask h m).j (pos t.mask h m).dummy) | .dummy=>probe.go t f h n (t.advance { pos t.mask h m with dummy:=some (pos t.mask h m).j }) | .live i=>if f i == h then some (.candidate (pos t.mask h m).j i (t.advance (pos t.mask h m))) else probe.go t f h n (t.advance (pos t.mask h m)))=_
 rw [e]
 dsimp only
 rw [eh,if_pos rfl];rfl
end ST
end
section
namespace ST
open PySem PySem.SetTable
def Occ (xs:Array Nat) (j:Nat):Prop:=∃i:Nat,xs[i]?=some j
def Reach (mask:Nat) (xs:Array Nat) (h:Int) (j:Nat):Prop:=∃k,(pos mask h k).j=j/\∀k',k'<k->Occ xs (pos mask h k').j
structure TOk (es:Y3) (t:SetTable):Prop where
 cov:kG t.mask
 rise:vN t.place
 dum:t.dummies = #[]
 size:t.place.size=es.size
 fill:es.size<=t.mask
 reach:∀(i:Nat) (e:Int×Value) (j:Nat),es[i]?=some e->t.place[i]?=some j->Reach t.mask t.place e.1 j
theorem exists_first {P:Nat->Prop}:∀(N:Nat),P N->∃K,K<=N/\P K/\∀k,k<K->¬ P k:=by
 intro N
 induction N using Nat.strongRecOn with
 | _ N ih =>
  intro h
  by_cases q:∃k,k<N/\P k
  ·obtain ⟨k,hk,hp⟩:=q
   obtain ⟨K,h1,h2,h3⟩:=ih k hk hp
   exact ⟨K,by omega,h2,h3⟩
  ·exact ⟨N,Nat.le_refl _,h,fun k hk hp=>q ⟨k,hk,hp⟩⟩
theorem aJn {xs:Array Nat} (hr:vN xs):∀(j:Nat),(∀k,k<=j->Occ xs k)->∃i,j<=i/\xs[i]?=some j
 | 0,h=>by obtain ⟨i,e⟩:=h 0 (Nat.le_refl _);exact ⟨i,Nat.zero_le _,e⟩
 | j+1,h=>by
  obtain ⟨i,hi,e⟩:=aJn hr j fun k hk=>h k (by omega)
  obtain ⟨i',e'⟩:=h (j+1) (Nat.le_refl _)
  have:i<i':=by
   rcases Nat.lt_trichotomy i i' with q | q | q
   ·exact q
   ·subst q;rw [e] at e';cases e'
   ·have:=hr _ _ _ _ e' e q;omega
  exact ⟨i',by omega,e'⟩
theorem aDj {mask:Nat} {xs:Array Nat} (hc:kG mask) (hr:vN xs) (hs:xs.size<=mask) (h:Int):∃K,K<=10 * (13+mask)/\¬ Occ xs (pos mask h K).j/\∀k,k<K->Occ xs (pos mask h k).j:=by
 have:∃j,j<=mask/\¬ Occ xs j:=by
  refine Classical.byContradiction fun q=>?_
  obtain ⟨i,hi,e⟩:=aJn hr mask fun k hk=>Classical.byContradiction fun z=>q ⟨k,hk,z⟩
  have:=(Array.getElem?_eq_some_iff.mp e).1
  omega
 obtain ⟨j,hj,hn⟩:=this
 obtain ⟨k,hk,e⟩:=met hc h hj
 obtain ⟨K,h1,h2,h3⟩:=exists_first (P:=fun k=>¬ Occ xs (pos mask h k).j) k (by rw [e];exact hn)
 exact ⟨K,by omega,h2,fun k hk=>Classical.byContradiction (h3 k hk)⟩
theorem TOk.free {es:Y3} {t:SetTable} (o:TOk es t) (h:Int):∃K,K<=10 * (13+t.mask)/\¬ Occ t.place (pos t.mask h K).j/\∀k,k<K->Occ t.place (pos t.mask h k).j :=
 aDj o.cov o.rise (by rw [o.size];exact o.fill) h
theorem Reach.mono {mask:Nat} {xs ys:Array Nat} {h:Int} {j:Nat} (r:Reach mask xs h j) (hs:∀j,Occ xs j->Occ ys j):Reach mask ys h j:=by
 obtain ⟨k,e,q⟩:=r
 exact ⟨k,e,fun k' hk=>hs _ (q k' hk)⟩
theorem TOk.put {es:Y3} {t:SetTable} (o:TOk es t) {h:Int} {x:Value} {K:Nat} (hn:¬ Occ t.place (pos t.mask h K).j) (hk:∀k,k<K->Occ t.place (pos t.mask h k).j) (hf:es.size+1<=t.mask) :
  TOk (insertAt es (t.put (pos t.mask h K).j).2 (h,x)) (t.put (pos t.mask h K).j).1/\(t.put (pos t.mask h K).j).2<=es.size:=by
 obtain ⟨b1,b2,b3⟩:=iW o.rise (pos t.mask h K).j
 have hp:below t.place (pos t.mask h K).j<=es.size:=by rw [<- o.size];exact b1
 have sub:∀j,Occ t.place j->Occ (insertAt t.place (below t.place (pos t.mask h K).j) (pos t.mask h K).j) j:=fun j hj=>(aLr b1).mpr (.inr hj)
 refine ⟨⟨o.cov,aIx o.rise fun i e=>hn ⟨i,e⟩,?_,?_,?_,?_⟩,hp⟩
 ·show (if has t.dummies (pos t.mask h K).j then eraseAt t.dummies (below t.dummies (pos t.mask h K).j) else t.dummies) = #[]
  rw [o.dum];rfl
 ·show (insertAt t.place (below t.place (pos t.mask h K).j) (pos t.mask h K).j).size=(insertAt es (below t.place (pos t.mask h K).j) (h,x)).size
  rw [rF b1,rF hp,o.size]
 ·show (insertAt es (below t.place (pos t.mask h K).j) (h,x)).size<=t.mask
  rw [rF hp];exact hf
 ·intro i e j e1 e2
  have e1:(insertAt es (below t.place (pos t.mask h K).j) (h,x))[i]?=some e:=e1
  have e2:(insertAt t.place (below t.place (pos t.mask h K).j) (pos t.mask h K).j)[i]?=some j:=e2
  rw [iM hp] at e1
  rw [iM b1] at e2
  show Reach t.mask (insertAt t.place (below t.place (pos t.mask h K).j) (pos t.mask h K).j) e.1 j
  by_cases q1:i<below t.place (pos t.mask h K).j
  ·rw [if_pos q1] at e1 e2
   exact (o.reach i e j e1 e2).mono sub
  ·rw [if_neg q1] at e1 e2
   by_cases q2:i=below t.place (pos t.mask h K).j
   ·rw [if_pos q2] at e1 e2
    cases e1;cases e2
    exact ⟨K,rfl,fun k' hk'=>sub _ (hk k' hk')⟩
   ·rw [if_neg q2] at e1 e2
    exact (o.reach (i - 1) e j e1 e2).mono sub
def At (owner:Array (Option Nat)) (j k:Nat):Prop:=owner[j]?=some (some k)
structure Lay (mask:Nat) (hs:Y0) (owner:Array (Option Nat)) (n:Nat):Prop where
 size:owner.size=mask+1
 all:∀k,k<n->∃j,At owner j k
 one:∀j j' k,At owner j k->At owner j' k->j=j'
 lt:∀j k,At owner j k->k<n
 reach:∀j k h,At owner j k->hs[k]?=some h->∃q,(pos mask h q).j=j/\∀q',q'<q->∃k',At owner (pos mask h q').j k'
theorem tN {mask:Nat} {h:Int} {b i u:Nat} (e:pos mask h b=start mask i u):∀k,k<=runEnd mask i - i->pos mask h (b+k)={ start mask i u with j:=i+k,more:=runEnd mask i - i - k }
 | 0,_=>by rw [Nat.add_zero,e];rfl
 | k+1,hk=>by
  have ih:=tN e k (by omega)
  show adv mask (pos mask h (b+k))=_
  rw [ih]
  unfold adv
  rw [if_pos (by show runEnd mask i - i - k > 0;omega)]
  show ({ j:=i+k+1,more:=runEnd mask i - i - k - 1,i:=i,perturb:=u,dummy:=none }:Probe)={ j:=i+(k+1),more:=runEnd mask i - i - (k+1),i:=i,perturb:=u,dummy:=none }
  congr 1
theorem aF3 {mask:Nat} {h:Int} {b i u:Nat} (e:pos mask h b=start mask i u):pos mask h (b+(runEnd mask i - i+1))=start mask (leap mask i u).1 (leap mask i u).2:=by
 have:=tN e (runEnd mask i - i) (Nat.le_refl _)
 show adv mask (pos mask h (b+(runEnd mask i - i)))=_
 rw [this]
 unfold adv
 rw [if_neg (by show ¬ (runEnd mask i - i - (runEnd mask i - i) > 0);omega)]
 rfl
theorem yU {mask:Nat} {h:Int} {owner:Array (Option Nat)} (hsz:owner.size=mask+1):∀(fuel b i u:Nat),i<=mask->pos mask h b=start mask i u->(∀q,q<b->∃k,At owner (pos mask h q).j k) ->
  (∃T,T<fuel/\¬ ∃k,At owner (iter (lp mask) T (i,u)).1 k)->∃K,layClean.free mask owner fuel i u=some (pos mask h K).j/\(¬ ∃k,At owner (pos mask h K).j k)/\∀q,q<K->∃k,At owner (pos mask h q).j k
 | 0,b,i,u,_,_,_,⟨T,hT,_⟩=>by omega
 | fuel+1,b,i,u,hi,e,hb,⟨T,hT,hn⟩=>by
  have non:∀j,j<=mask->((owner.getD j (some 0)).isNone=true ↔ ¬ ∃k,At owner j k):=fun j hj=>by
   have hlt:j<owner.size:=by omega
   have eg:owner.getD j (some 0)=owner[j]:=by simp [Array.getD,hlt]
   rw [eg]
   constructor
   ·rintro h1 ⟨k,h2⟩
    unfold At at h2
    rw [Array.getElem?_eq_getElem hlt] at h2
    rw [Option.some.inj h2] at h1;cases h1
   ·intro h1
    cases hq:owner[j] with
    | none=>rfl
    | some k=>exact absurd ⟨k,by unfold At;rw [Array.getElem?_eq_getElem hlt,hq]⟩ h1
  have re:i<=runEnd mask i/\runEnd mask i<=mask:=by unfold runEnd;split<;>omega
  unfold layClean.free
  cases hf:(List.range (runEnd mask i+1 - i)).find? fun k=>(owner.getD (i+k) (some 0)).isNone with
  | some k =>
   obtain ⟨h1,h2,h3⟩:=List.find?_range_eq_some.mp hf
   have h2:=List.mem_range.mp h2
   have ej:∀q,q<=k->(pos mask h (b+q)).j=i+q:=fun q hq=>by rw [tN e q (by omega)]
   refine ⟨b+k,?_,?_,fun q hq=>?_⟩
   ·dsimp only;rw [ej k (Nat.le_refl _)]
   ·rw [ej k (Nat.le_refl _)];exact (non _ (by omega)).mp h1
   ·by_cases hqb:q<b
    ·exact hb q hqb
    ·obtain ⟨d,rfl⟩:∃d,q=b+d:=⟨q - b,by omega⟩
     rw [ej d (by omega)]
     refine Classical.byContradiction fun z=>?_
     have:=(non (i+d) (by omega)).mpr z
     have h4:=h3 d (by omega)
     rw [this] at h4;cases h4
  | none =>
   dsimp only
   have hall:∀d,d<=runEnd mask i - i->∃k,At owner (i+d) k:=fun d hd=>by
    refine Classical.byContradiction fun z=>?_
    have h1:=(non (i+d) (by omega)).mpr z
    have h2:=List.find?_eq_none.mp hf d (List.mem_range.mpr (by omega))
    exact h2 h1
   have hT0:T ≠ 0:=fun z=>by
    subst z
    exact hn (hall 0 (Nat.zero_le _))
   obtain ⟨T',rfl⟩:∃T',T=T'+1:=⟨T - 1,by omega⟩
   refine yU hsz fuel (b+(runEnd mask i - i+1)) _ _ ?_ (aF3 e) (fun q hq=>?_) ⟨T',by omega,hn⟩
   ·show (_ % (mask+1))<=mask
    have:=Nat.mod_lt (i * 5+1+u / 32) (show mask+1 > 0 by omega)
    omega
   ·by_cases hqb:q<b
    ·exact hb q hqb
    ·obtain ⟨d,rfl⟩:∃d,q=b+d:=⟨q - b,by omega⟩
     rw [tN e d (by omega)]
     exact hall d (by omega)
end ST
end
section
namespace ST
open PySem PySem.SetTable
theorem aKu {mask:Nat} (hc:kG mask) (h:Int) {j:Nat} (hj:j<=mask):∃T,T<=13+mask/\(iter (lp mask) T (bits h % (mask+1),bits h)).1=j:=by
 have h0:(bits h % (mask+1),bits h).1<=mask:=by
  have:=Nat.mod_lt (bits h) (show mask+1 > 0 by omega)
  show bits h % (mask+1)<=mask;omega
 have e13:iter (lp mask) 13 (bits h % (mask+1),bits h)=((iter (lp mask) 13 (bits h % (mask+1),bits h)).1,0):=by
  refine Prod.ext rfl ?_
  rw [aRm]
  exact Nat.div_eq_of_lt (Nat.lt_of_lt_of_le (aEg h) (by decide))
 obtain ⟨m,hm,e⟩:=hc _ (aNz 13 _ h0) j hj
 refine ⟨13+m,by omega,?_⟩
 rw [nW,e13,pE]
 exact e
theorem Lay.room {mask:Nat} {hs:Y0} {owner:Array (Option Nat)} {n:Nat} (o:Lay mask hs owner n) (hn:n<=mask):∃j,j<=mask/\¬ ∃k,At owner j k:=by
 refine Classical.byContradiction fun q=>?_
 have all:∀j,j<=mask->∃k,At owner j k:=fun j hj=>Classical.byContradiction fun z=>q ⟨j,hj,z⟩
 have hex:∀j,∃k,j<=mask->At owner j k:=fun j=>by
  by_cases hj:j<=mask
  ·obtain ⟨k,e⟩:=all j hj;exact ⟨k,fun _=>e⟩
  ·exact ⟨0,fun z=>absurd z hj⟩
 obtain ⟨f,hf⟩:∃f:Nat->Nat,∀j,j<=mask->At owner j (f j):=⟨fun j=>Classical.choose (hex j),fun j=>Classical.choose_spec (hex j)⟩
 have nd:((List.range (mask+1)).map f).Nodup:=by
  refine List.pairwise_map.mpr ((List.nodup_range (n:=mask+1)).imp_of_mem fun {a b} ha hb hab z=>?_)
  have ha:=hf a (by have:=List.mem_range.mp ha;omega)
  have hb:=hf b (by have:=List.mem_range.mp hb;omega)
  rw [z] at ha
  exact hab (o.one _ _ _ ha hb)
 have sub:((List.range (mask+1)).map f) ⊆ List.range n:=fun k hk=>by
  obtain ⟨j,hj,rfl⟩:=List.mem_map.mp hk
  exact List.mem_range.mpr (o.lt _ _ (hf j (by have:=List.mem_range.mp hj;omega)))
 have:=nd.length_le_of_subset sub
 simp at this
 omega
theorem aIh {mask:Nat} {hs:Y0} {owner:Array (Option Nat)} {n:Nat} {h:Int} (hc:kG mask) (o:Lay mask hs owner n) (hn:n<=mask) (he:hs[n]?=some h) :
  ∃j,layClean.free mask owner (turns mask) (bits h % (mask+1)) (bits h)=some j/\Lay mask hs (owner.setIfInBounds j (some n)) (n+1):=by
 obtain ⟨j0,hj0,hn0⟩:=o.room hn
 obtain ⟨T,hT,eT⟩:=aKu hc h hj0
 have hi:bits h % (mask+1)<=mask:=by have:=Nat.mod_lt (bits h) (show mask+1 > 0 by omega);omega
 obtain ⟨K,e,hK,hq⟩:=yU (h:=h) o.size (turns mask) 0 _ _ hi rfl (fun q hq=>by omega) ⟨T,by unfold turns;omega,by rw [eT];exact hn0⟩
 have hJ:(pos mask h K).j<owner.size:=by rw [o.size];have:=(aPq (mask:=mask) h K).1;omega
 have at':∀j k,At (owner.setIfInBounds (pos mask h K).j (some n)) j k ↔ (j=(pos mask h K).j/\k=n)\/(j ≠ (pos mask h K).j/\At owner j k):=fun j k=>by
  unfold At
  rw [Array.getElem?_setIfInBounds]
  by_cases q:(pos mask h K).j=j
  ·rw [if_pos q,if_pos hJ]
   constructor
   ·intro z;cases z;exact .inl ⟨q.symm,rfl⟩
   ·rintro (⟨_,rfl⟩ | ⟨z,_⟩)
    ·rfl
    ·exact absurd q.symm z
  ·rw [if_neg q]
   constructor
   ·intro z;exact .inr ⟨fun y=>q y.symm,z⟩
   ·rintro (⟨z,_⟩ | ⟨_,z⟩)
    ·exact absurd z.symm q
    ·exact z
 have keep:∀j k,At owner j k->At (owner.setIfInBounds (pos mask h K).j (some n)) j k:=fun j k z=>(at' j k).mpr (.inr ⟨fun y=>hK ⟨k,y ▸ z⟩,z⟩)
 refine ⟨_,e,⟨by rw [Array.size_setIfInBounds];exact o.size,fun k hk=>?_,fun j j' k h1 h2=>?_,fun j k h1=>?_,fun j k h' h1 h2=>?_⟩⟩
 ·by_cases q:k=n
  ·exact ⟨_,(at' _ _).mpr (.inl ⟨rfl,q⟩)⟩
  ·obtain ⟨j,z⟩:=o.all k (by omega)
   exact ⟨j,keep _ _ z⟩
 ·rcases (at' _ _).mp h1 with ⟨a1,a2⟩ | ⟨a1,a2⟩
  ·rcases (at' _ _).mp h2 with ⟨b1,b2⟩ | ⟨b1,b2⟩
   ·rw [a1,b1]
   ·have:=o.lt _ _ b2;omega
  ·rcases (at' _ _).mp h2 with ⟨b1,b2⟩ | ⟨b1,b2⟩
   ·have:=o.lt _ _ a2;omega
   ·exact o.one _ _ _ a2 b2
 ·rcases (at' _ _).mp h1 with ⟨a1,a2⟩ | ⟨a1,a2⟩
  ·omega
  ·have:=o.lt _ _ a2;omega
 ·rcases (at' _ _).mp h1 with ⟨a1,a2⟩ | ⟨a1,a2⟩
  ·subst a2
   rw [he] at h2;cases h2
   refine ⟨K,a1.symm,fun q' hq'=>?_⟩
   obtain ⟨k',z⟩:=hq q' hq'
   exact ⟨k',keep _ _ z⟩
  ·obtain ⟨q,e1,e2⟩:=o.reach j k h' a2 h2
   refine ⟨q,e1,fun q' hq'=>?_⟩
   obtain ⟨k',z⟩:=e2 q' hq'
   exact ⟨k',keep _ _ z⟩
def aMc (mask:Nat):Option (Array (Option Nat)×Nat)->Int->Option (Array (Option Nat)×Nat):=fun acc h=>do
  let (owner,k) <- acc
  let j <- layClean.free mask owner (turns mask) (bits h % (mask+1)) (bits h)
  pure (owner.setIfInBounds j (some k),k+1)
theorem aB2 {mask:Nat} {hs:Y0} (hc:kG mask) (hl:hs.length<=mask):∀(rest pre:Y0) (owner:Array (Option Nat)),hs=pre++rest->Lay mask hs owner pre.length ->
  ∃owner',rest.foldl (aMc mask) (some (owner,pre.length))=some (owner',hs.length)/\Lay mask hs owner' hs.length
 | [],pre,owner,e,o=>by
  rw [List.append_nil] at e
  subst e
  exact ⟨owner,rfl,o⟩
 | h::rest,pre,owner,e,o=>by
  have hn:pre.length<=mask:=by rw [e] at hl;simp at hl;omega
  have he:hs[pre.length]?=some h:=by rw [e];simp
  obtain ⟨j,e1,o1⟩:=aIh hc o hn he
  obtain ⟨owner',e2,o2⟩:=aB2 hc hl rest (pre ++ [h]) (owner.setIfInBounds j (some pre.length)) (by rw [e];simp) (by simpa using o1)
  refine ⟨owner',?_,o2⟩
  rw [List.foldl_cons]
  have:aMc mask (some (owner,pre.length)) h=some (owner.setIfInBounds j (some pre.length),(pre ++ [h]).length):=by
   show (layClean.free mask owner (turns mask) (bits h % (mask+1)) (bits h)).bind _=_
   rw [e1];simp
  rw [this];exact e2
theorem aFw {mask:Nat} {hashes:Array Int} (hc:kG mask) (hl:hashes.size<=mask):∃owner,layClean mask hashes=some owner/\Lay mask hashes.toList owner hashes.size:=by
 have o0:Lay mask hashes.toList (Array.replicate (mask+1) none) ([]:Y0).length:=by
  have no:∀j k,¬ At (Array.replicate (mask+1) none) j k:=fun j k z=>by
   unfold At at z
   rw [Array.getElem?_replicate] at z
   split at z<;>cases z
  exact ⟨by simp,fun k hk=>by simp at hk,fun j j' k z _=>absurd z (no j k),fun j k z=>absurd z (no j k),fun j k h z _=>absurd z (no j k)⟩
 obtain ⟨owner,e,o⟩:=aB2 (hs:=hashes.toList) hc (by simpa using hl) hashes.toList [] _ rfl o0
 refine ⟨owner,?_,by simpa using o⟩
 have:layClean mask hashes=((hashes.foldl (aMc mask) (some (Array.replicate (mask+1) none,0))).map (·.1)):=rfl
 rw [this,<- Array.foldl_toList]
 show Option.map _ (List.foldl (aMc mask) (some (Array.replicate (mask+1) none,([]:Y0).length)) hashes.toList)=_
 rw [e];rfl
end ST
end
section
namespace ST
open PySem PySem.SetTable
def fP (mask:Nat) (owner:Array (Option Nat)):List (Nat×Nat):=(List.range (mask+1)).filterMap fun j=>(owner.getD j none).map (j,·)
theorem iV {mask:Nat} {hs:Y0} {owner:Array (Option Nat)} {n:Nat} (o:Lay mask hs owner n) {j k:Nat}:(j,k)∈fP mask owner ↔ At owner j k:=by
 unfold fP
 rw [List.mem_filterMap]
 constructor
 ·rintro ⟨a,ha,e⟩
  have ha:=List.mem_range.mp ha
  have hlt:a<owner.size:=by rw [o.size];exact ha
  have eg:owner.getD a none=owner[a]:=by simp [Array.getD,hlt]
  rw [eg] at e
  cases hq:owner[a] with
  | none=>rw [hq] at e;cases e
  | some k' =>
   rw [hq] at e
   cases e
   unfold At;rw [Array.getElem?_eq_getElem hlt,hq]
 ·intro e
  have hlt:=(Array.getElem?_eq_some_iff.mp e).1
  refine ⟨j,List.mem_range.mpr (by rw [<- o.size];exact hlt),?_⟩
  have eg:owner.getD j none=owner[j]:=by simp [Array.getD,hlt]
  have:owner[j]=some k:=by
   have:=e;unfold At at this;rw [Array.getElem?_eq_getElem hlt] at this;exact Option.some.inj this
  rw [eg,this];rfl
theorem aEv {mask:Nat} {owner:Array (Option Nat)}:(fP mask owner).Pairwise fun a b=>a.1<b.1:=by
 refine List.Pairwise.filterMap (S:=fun a b:Nat×Nat=>a.1<b.1) _ (fun a a' h b hb b' hb'=>?_) (List.pairwise_lt_range (n:=mask+1))
 obtain ⟨x,_,rfl⟩:=Option.map_eq_some_iff.mp hb
 obtain ⟨y,_,rfl⟩:=Option.map_eq_some_iff.mp hb'
 exact h
theorem aD1 {mask:Nat} {hs:Y0} {owner:Array (Option Nat)} {n:Nat} (o:Lay mask hs owner n):((fP mask owner).map (·.2)).Perm (List.range n):=by
 refine (List.perm_ext_iff_of_nodup ?_ List.nodup_range).mpr fun k=>?_
 ·refine List.pairwise_map.mpr ((aEv (mask:=mask) (owner:=owner)).imp_of_mem fun {a b} ha hb hab z=>?_)
  have ha:=(iV o (j:=a.1) (k:=a.2)).mp ha
  have hb:=(iV o (j:=b.1) (k:=b.2)).mp hb
  have z:a.2=b.2:=z
  rw [z] at ha
  have:=o.one _ _ _ ha hb
  omega
 ·rw [List.mem_range]
  constructor
  ·intro h
   obtain ⟨⟨j,k'⟩,h1,rfl⟩:=List.mem_map.mp h
   exact o.lt _ _ ((iV o).mp h1)
  ·intro h
   obtain ⟨j,z⟩:=o.all k h
   exact List.mem_map.mpr ⟨(j,k),(iV o).mpr z,rfl⟩
theorem aDb {α:Type} {es:Array α}:∀ {ks:T0},(∀k∈ks,k<es.size)->∀i:Nat,(ks.filterMap (fun k=>es[k]?))[i]?=(ks[i]?).bind (fun k=>es[k]?)
 | [],_,i=>by simp
 | k::ks,h,i=>by
  have hk:=h k List.mem_cons_self
  have e:es[k]?=some es[k]:=Array.getElem?_eq_getElem hk
  rw [List.filterMap_cons_some e]
  cases i with
  | zero=>simp [e]
  | succ i=>simpa using aDb (fun k hk=>h k (List.mem_cons_of_mem _ hk)) i
theorem aAy {α:Type} (es:Array α):(List.range es.size).filterMap (es[·]?)=es.toList:=by
 refine List.ext_getElem? fun i=>?_
 rw [aDb (fun k hk=>List.mem_range.mp hk) i]
 by_cases h:i<es.size
 ·rw [List.getElem?_range h,Array.getElem?_toList];rfl
 ·rw [List.getElem?_eq_none (by simp;omega),List.getElem?_eq_none (by simp;omega)];rfl
theorem aIc {es:Y3} {t:SetTable} {wanted:Nat} (hc:kG (sizeAbove wanted - 1)) (hs:es.size<=sizeAbove wanted - 1) :
  ∃t' order,t.relaid (es.map (·.1)) wanted=some (t',order)/\TOk (order.filterMap (es[·]?)) t'/\(order.filterMap (es[·]?)).toList.Perm es.toList/\t'.led=t.led/\t'.plain=t.plain/\t'.mask=sizeAbove wanted - 1:=by
 obtain ⟨owner,e,o⟩:=aFw (mask:=sizeAbove wanted - 1) (hashes:=es.map (·.1)) hc (by simpa using hs)
 rw [Array.size_map] at o
 have perm:=aD1 o
 have hlt:∀k∈(fP (sizeAbove wanted - 1) owner).map (·.2),k<es.size:=fun k hk=>List.mem_range.mp (perm.subset hk)
 have hlen:(fP (sizeAbove wanted - 1) owner).length=es.size:=by have:=perm.length_eq;simpa using this
 refine ⟨{ mask:=sizeAbove wanted - 1,place:=((fP (sizeAbove wanted - 1) owner).map (·.1)).toArray,dummies:=#[],finger:=t.finger,led:=t.led,moves:=t.movedTo (sizeAbove wanted - 1),plain:=t.plain },((fP (sizeAbove wanted - 1) owner).map (·.2)).toArray,?_,?_,?_,rfl,rfl,rfl⟩
 ·unfold SetTable.relaid SetTable.laid
  rw [e];rfl
 ·have efm:(((fP (sizeAbove wanted - 1) owner).map (·.2)).toArray.filterMap (es[·]?)).toList=((fP (sizeAbove wanted - 1) owner).map (·.2)).filterMap (es[·]?):=by simp
  have hsz:(((fP (sizeAbove wanted - 1) owner).map (·.2)).toArray.filterMap (es[·]?)).size=es.size:=by
   rw [<- Array.length_toList,efm,(perm.filterMap (es[·]?)).length_eq,aAy];simp
  have occ:∀j,Occ ((fP (sizeAbove wanted - 1) owner).map (·.1)).toArray j ↔ ∃k,At owner j k:=fun j=>by
   constructor
   ·rintro ⟨i,ei⟩
    rw [List.getElem?_toArray,List.getElem?_map] at ei
    obtain ⟨⟨j',k⟩,e1,rfl⟩:=Option.map_eq_some_iff.mp ei
    exact ⟨k,(iV o).mp (List.mem_of_getElem? e1)⟩
   ·rintro ⟨k,z⟩
    obtain ⟨i,hi⟩:=List.mem_iff_getElem?.mp ((iV o).mpr z)
    exact ⟨i,by rw [List.getElem?_toArray,List.getElem?_map,hi];rfl⟩
  refine ⟨hc,?_,rfl,?_,by rw [hsz];exact hs,?_⟩
  ·intro i k a b ea eb hik
   rw [List.getElem?_toArray,List.getElem?_map] at ea eb
   obtain ⟨x,e1,rfl⟩:=Option.map_eq_some_iff.mp ea
   obtain ⟨y,e2,rfl⟩:=Option.map_eq_some_iff.mp eb
   obtain ⟨h1,e1⟩:=List.getElem?_eq_some_iff.mp e1
   obtain ⟨h2,e2⟩:=List.getElem?_eq_some_iff.mp e2
   have:=List.pairwise_iff_getElem.mp (aEv (mask:=sizeAbove wanted - 1) (owner:=owner)) i k h1 h2 hik
   rw [e1,e2] at this;exact this
  ·rw [hsz];simp [hlen]
  ·intro i en j e1 e2
   rw [<- Array.getElem?_toList,efm,aDb hlt] at e1
   obtain ⟨k,e3,e4⟩:=Option.bind_eq_some_iff.mp e1
   have e2:((fP (sizeAbove wanted - 1) owner).map (·.1)).toArray[i]?=some j:=e2
   rw [List.getElem?_toArray,List.getElem?_map] at e2
   rw [List.getElem?_map] at e3
   obtain ⟨x,e5,rfl⟩:=Option.map_eq_some_iff.mp e2
   rw [e5] at e3
   cases e3
   have za:=(iV o (j:=x.1) (k:=x.2)).mp (List.mem_of_getElem? e5)
   have e4:es[x.2]?=some en:=e4
   obtain ⟨q,q1,q2⟩:=o.reach x.1 x.2 en.1 za (by simp [e4])
   exact ⟨q,q1,fun q' hq'=>(occ _).mpr (q2 q' hq')⟩
 ·have efm:(((fP (sizeAbove wanted - 1) owner).map (·.2)).toArray.filterMap (es[·]?)).toList=((fP (sizeAbove wanted - 1) owner).map (·.2)).filterMap (es[·]?):=by simp
  rw [efm]
  have:=perm.filterMap (es[·]?)
  rw [aAy] at this
  exact this
end ST
end
section
namespace ST
open PySem PySem.SetTable
section
variable {prog:Program} {w:World} {K:Type} [DecidableEq K] {knd:KeyKind prog w K} {A:Around} {E:Y9} {s:Shared}
theorem vQ (n:Nat) {v:Value} (h:carriedByValue v=true):ofAClassStatement n v=pure false:=by
 cases v with
 | ref a=>simp [carriedByValue] at h
 | _=>first | rfl | (cases n<;>rfl)
theorem aJ5 {ks:List K} {a:Addr} {Q:Bool->Shared->Prop} (hk:IsTupleKey knd s.heap ks a) (h:Q false s):wpAny (model prog w) A (ofAClassStatement 8 (.ref a)) Q E s:=by
 have hT:=hk.typeIs
 obtain ⟨o,items,n,ho,hc,hd,hi⟩:=hk
 unfold ofAClassStatement
 refine wpAny_bind (wpAny_typeOf hT ?_)
 dsimp only
 rw [if_pos (by decide)]
 refine wpAny_bind (wpAny_pure ?_)
 rw [if_neg (by simp)]
 refine wpAny_bind (wpAny_seqItems ho hd ?_)
 dsimp only
 refine wpAny_bind ?_
 show wpAny _ _ (forIn items _ _) _ _ s
 rw [<- Array.forIn_toList]
 refine wpAny_forIn_list _ (fun rest r s'=>r.1=none/\s'=s/\∀v∈rest,carriedByValue v=true) _ ?_ ?_ _ _ ⟨rfl,rfl,hi.byValue⟩
 ·rintro v rest r s' ⟨hr,rfl,hall⟩
  rw [vQ _ (hall v List.mem_cons_self)]
  refine wpAny_bind (wpAny_pure ?_)
  rw [if_neg (by simp)]
  exact wpAny_pure ⟨rfl,rfl,fun u hu'=>hall u (List.mem_cons_of_mem _ hu')⟩
 ·rintro ⟨r1,r2⟩ s' ⟨hr,rfl,_⟩
  simp only at hr
  subst hr
  exact wpAny_pure h
theorem aP4 {ks:List K} {a:Addr} {ys:Y1} {Q:Bool->Shared->Prop} (hk:IsTupleKey knd s.heap ks a) (hy:∀y∈ys,∃ks' b,y=.ref b/\IsTupleKey knd s.heap ks' b) (h:Q false s):wpAny (model prog w) A (searchCouldBeSeen (.ref a) ys) Q E s:=by
 unfold searchCouldBeSeen
 refine wpAny_bind ?_
 refine wpAny_forIn_list _ (fun rest r s'=>r.1=none/\s'=s/\∀y∈rest,∃ks' b,y=Value.ref b/\IsTupleKey knd s.heap ks' b) _ ?_ ?_ _ _ ⟨rfl,rfl,hy⟩
 ·rintro v rest r s' ⟨hr,rfl,hall⟩
  obtain ⟨ks',b,rfl,hb⟩:=hall v List.mem_cons_self
  have tl:∀y∈rest,∃ks' b,y=Value.ref b/\IsTupleKey knd s'.heap ks' b:=fun u hu'=>hall u (List.mem_cons_of_mem _ hu')
  dsimp only
  by_cases hab:(a == b || (carriedByValue (.ref a) && carriedByValue (.ref b)))=true
  ·rw [if_pos hab]
   exact wpAny_pure ⟨rfl,rfl,tl⟩
  ·rw [if_neg hab]
   refine wpAny_bind (wpAny_eqIsQuiet_tuple hk ?_)
   rw [if_neg (by simp)]
   refine wpAny_bind (wpAny_eqIsQuiet_tuple hb ?_)
   rw [if_neg (by simp)]
   refine wpAny_bind (aJ5 hk ?_)
   rw [if_neg (by simp)]
   refine wpAny_bind (aJ5 hb ?_)
   rw [if_neg (by simp)]
   exact wpAny_pure ⟨rfl,rfl,tl⟩
 ·rintro ⟨r1,r2⟩ s' ⟨hr,rfl,_⟩
  simp only at hr
  subst hr
  exact wpAny_pure h
end
end ST
end
section
namespace ST
open PySem PySem.SetTable
section
variable {prog:Program} {w:World} {K:Type} [DecidableEq K] (knd:KeyKind prog w K)
structure TS (h:Heap) (es:Y3) (t:SetTable) (kas:List (List K×Addr)):Prop where
 ok:TOk es t
 ents:es.toList=kas.map fun p=>(tupleKeyHash knd p.1,Value.ref p.2)
 keys:∀p∈kas,IsTupleKey knd h p.1 p.2
 nd:(kas.map (·.1)).Nodup
end
section
variable {prog:Program} {w:World} {K:Type} [DecidableEq K] {knd:KeyKind prog w K} {A:Around} {E:Y9} {s:Shared}
theorem TS.at {h:Heap} {es:Y3} {t:SetTable} {kas:List (List K×Addr)} (T:TS knd h es t kas) (i:Nat):es[i]?=(kas[i]?).map fun p=>(tupleKeyHash knd p.1,Value.ref p.2):=by
 rw [<- Array.getElem?_toList,T.ents,List.getElem?_map]
theorem TS.len {h:Heap} {es:Y3} {t:SetTable} {kas:List (List K×Addr)} (T:TS knd h es t kas):es.size=kas.length:=by
 rw [<- Array.length_toList,T.ents,List.length_map]
theorem TS.fits {h:Heap} {es:Y3} {t:SetTable} {kas:List (List K×Addr)} (T:TS knd h es t kas):t.fits es.size=true:=by
 unfold SetTable.fits SetTable.fill
 rw [T.ok.size,T.ok.dum]
 simp [T.ok.fill]
theorem aHc {S x:Addr} {o:Obj} {es:Y3} {ep:Nat} {t:SetTable} {kas:List (List K×Addr)} {ks:List K} {N:Nat} {Q:SetFound->Shared->Prop}
  (ho:s.heap.get? S=some o) (hd:o.data=.set es ep t) (T:TS knd s.heap es t kas) (hx:IsTupleKey knd s.heap ks x) (hu:A.units<cLine) (hg:t.gaveWay=false) (hN:N<=10 * (13+t.mask))
  (hf:¬ Occ t.place (pos t.mask (tupleKeyHash knd ks) N).j) (hb:∀k,k<N->Occ t.place (pos t.mask (tupleKeyHash knd ks) k).j)
  (hq:Q (if ks∈kas.map (·.1) then .there none else .free (pos t.mask (tupleKeyHash knd ks) N).j false) s) :
  ∀(d m fuel:Nat) (stand:Option Probe),m+d=N->d<fuel->stand.getD (t.probeStart (tupleKeyHash knd ks))=pos t.mask (tupleKeyHash knd ks) m ->
   (∀(i:Nat) (p:List K×Addr) (j:Nat),kas[i]?=some p->p.1=ks->t.place[i]?=some j->∃k,m<=k/\k<N/\(pos t.mask (tupleKeyHash knd ks) k).j=j) ->
   wpAny (model prog w) A (setSearchFrom S (.ref x) (tupleKeyHash knd ks) true fuel stand) Q E s:=by
 intro d
 induction d using Nat.strongRecOn with
 | _ d ih =>
  intro m fuel stand hm hfu hst hkey
  obtain ⟨fuel,rfl⟩:∃n,fuel=n+1:=⟨fuel - 1,by omega⟩
  unfold setSearchFrom
  refine wpAny_bind (wpAny_setState_of ho hd T.fits ?_)
  dsimp only
  rw [hg,if_neg (by simp),hst]
  obtain ⟨k,hkN,⟨hmk,hstop⟩,hfirst⟩:=exists_first (P:=fun k=>m<=k/\(k=N\/∃(i:Nat) (p:List K×Addr),t.place[i]?=some (pos t.mask (tupleKeyHash knd ks) k).j/\kas[i]?=some p/\tupleKeyHash knd p.1=tupleKeyHash knd ks)) N ⟨by omega,.inl rfl⟩
  have kasAt:∀(i j:Nat),t.place[i]?=some j->∃p,kas[i]?=some p:=fun i j e=>by
   have h1:=(Array.getElem?_eq_some_iff.mp e).1
   rw [T.ok.size,T.len] at h1
   exact ⟨_,List.getElem?_eq_getElem h1⟩
  have jump:∀f:Nat->Int,(∀i,f i=(es[i]?.map (·.1)).getD 0)->t.probe f (tupleKeyHash knd ks) (pos t.mask (tupleKeyHash knd ks) m)=probe.go t f (tupleKeyHash knd ks) (10 * turns t.mask - (k - m)) (pos t.mask (tupleKeyHash knd ks) k):=fun f hf'=>by
   have:=aBe (t:=t) (f:=f) (h:=tupleKeyHash knd ks) (k - m) m (10 * turns t.mask) (by unfold turns;omega) fun k' h1 h2=>by
    obtain ⟨i,e⟩:=hb k' (by omega)
    refine ⟨i,sA T.ok.rise e,?_⟩
    obtain ⟨p,ep⟩:=kasAt i _ e
    rw [hf' i,T.at i,ep]
    refine Bool.eq_false_iff.mpr fun z=>hfirst k' (by omega) ⟨h1,.inr ⟨i,p,e,ep,by simpa using z⟩⟩
   rw [show m+(k - m)=k by omega] at this
   exact this
  have fpos:0<10 * turns t.mask - (k - m):=by unfold turns;omega
  by_cases hcand:∃(i:Nat) (p:List K×Addr),t.place[i]?=some (pos t.mask (tupleKeyHash knd ks) k).j/\kas[i]?=some p/\tupleKeyHash knd p.1=tupleKeyHash knd ks
  ·obtain ⟨i,p,e1,e2,e3⟩:=hcand
   have hkN':k<N:=by
    rcases Nat.lt_or_ge k N with q | q
    ·exact q
    ·have:k=N:=by omega
     subst this
     exact absurd ⟨i,e1⟩ hf
   have pr:∀f:Nat->Int,(∀i,f i=(es[i]?.map (·.1)).getD 0)->t.probe f (tupleKeyHash knd ks) (pos t.mask (tupleKeyHash knd ks) m)=some (.candidate (pos t.mask (tupleKeyHash knd ks) k).j i (pos t.mask (tupleKeyHash knd ks) (k+1))):=fun f hf'=>by
    rw [jump f hf']
    refine aLs fpos (sA T.ok.rise e1) ?_
    rw [hf' i,T.at i,e2]
    simpa using e3
   rw [pr]
   rotate_left
   ·intro i;rfl
   dsimp only
   have ei:es[i]?=some (tupleKeyHash knd p.1,Value.ref p.2):=by rw [T.at i,e2];rfl
   have hp:=T.keys p (List.mem_of_getElem? e2)
   have rest:wpAny (model prog w) A (do
     let some (_,y):=es[i]? | unsupported "internal:set-entry"
     let equal <- holding [y] (eqBool y (.ref x))
     let (es',_,t') <- setState S
     if true && equal then return SetFound.there none
     let some same:=t'.sameMemory t.moves t.mask | unsupported "set.changed-during-lookup:is-the-new-block-at-the-old-address"
     let still <- match (if same then t'.slot (pos t.mask (tupleKeyHash knd ks) k).j else .empty) with
      | .live i'=>match es'[i']? with
       | some (_,y')=>do pure (if <- isSame y' y then some i' else none)
       | none=>pure none
      | _=>pure none
     match still with
     | none=>rule "set.search.anew";setSearchFrom S (.ref x) (tupleKeyHash knd ks) true fuel none
     | some i'=>if equal then return SetFound.there (some i') else setSearchFrom S (.ref x) (tupleKeyHash knd ks) true fuel (some (pos t.mask (tupleKeyHash knd ks) (k+1)))) Q E s:=by
    rw [ei]
    dsimp only
    refine wpAny_bind (wpAny_holding (wpAny_eqBool_tuple hu hp hx ?_))
    refine wpAny_bind (wpAny_setState_of ho hd T.fits ?_)
    dsimp only
    by_cases heq:p.1=ks
    ·rw [decide_eq_true heq,if_pos (by simp)]
     have:ks∈kas.map (·.1):=List.mem_map.mpr ⟨p,List.mem_of_getElem? e2,heq⟩
     rw [if_pos this] at hq
     exact wpAny_pure hq
    ·rw [decide_eq_false heq,if_neg (by simp)]
     have hsm:t.sameMemory t.moves t.mask=some true:=by simp [SetTable.sameMemory]
     rw [hsm]
     dsimp only
     rw [if_pos rfl,sA T.ok.rise e1]
     dsimp only
     rw [ei]
     dsimp only
     have his:isSame (.ref p.2) (.ref p.2)=pure true:=by show (if (p.2 == p.2)=true then pure true else _)=_;rw [if_pos (beq_self_eq_true p.2)]
     rw [his]
     refine wpAny_bind (wpAny_pure ?_)
     rw [if_pos rfl]
     refine wpAny_bind (wpAny_pure ?_)
     show wpAny _ _ (if false=true then _ else _) _ _ _
     rw [if_neg (by simp)]
     refine ih (N - (k+1)) (by omega) (k+1) fuel _ (by omega) (by omega) rfl fun i' p' j' h1 h2 h3=>?_
     obtain ⟨k',a1,a2,a3⟩:=hkey i' p' j' h1 h2 h3
     refine ⟨k',?_,a2,a3⟩
     rcases Nat.lt_trichotomy k' k with z | z | z
     ·exact absurd ⟨a1,.inr ⟨i',p',by rw [a3];exact h3,h1,by rw [h2]⟩⟩ (hfirst k' z)
     ·subst z
      rw [<- a3] at h3
      have:i=i':=by
       rcases Nat.lt_trichotomy i i' with y | y | y
       ·have:=T.ok.rise _ _ _ _ e1 h3 y;omega
       ·exact y
       ·have:=T.ok.rise _ _ _ _ h3 e1 y;omega
      subst this
      rw [e2] at h1;cases h1
      exact absurd h2 heq
     ·omega
   cases hl:t.led with
   | true =>
    rw [if_neg (by simp)]
    exact rest
   | false =>
    rw [if_pos (by simp)]
    refine wpAny_bind (aP4 hx (fun y hy=>?_) ?_)
    ·obtain ⟨e,he,rfl⟩:=List.mem_map.mp hy
     have he:e∈es:=(Array.mem_filter.mp (Array.mem_toList_iff.mp he)).1
     have he:e∈es.toList:=Array.mem_toList_iff.mpr he
     rw [T.ents] at he
     obtain ⟨p',hp',rfl⟩:=List.mem_map.mp he
     exact ⟨p'.1,p'.2,rfl,T.keys p' hp'⟩
    ·rw [if_neg (by simp)]
     exact rest
  ·have hkN':k=N:=by
    rcases hstop with q | q
    ·exact q
    ·exact absurd q hcand
   subst hkN'
   have pr:∀f:Nat->Int,(∀i,f i=(es[i]?.map (·.1)).getD 0)->t.probe f (tupleKeyHash knd ks) (pos t.mask (tupleKeyHash knd ks) m)=some (.empty (pos t.mask (tupleKeyHash knd ks) k).j none):=fun f hf'=>by
    rw [jump f hf']
    exact aJ0 fpos (aC5 T.ok.dum fun i e=>hf ⟨i,e⟩)
   rw [pr]
   rotate_left
   ·intro i;rfl
   dsimp only
   have:¬ ks∈kas.map (·.1):=fun z=>by
    obtain ⟨p,hp,rfl⟩:=List.mem_map.mp z
    obtain ⟨i,hi⟩:=List.mem_iff_getElem?.mp hp
    have hlt:i<t.place.size:=by rw [T.ok.size,T.len];exact (List.getElem?_eq_some_iff.mp hi).1
    obtain ⟨k',a1,a2,a3⟩:=hkey i p _ hi rfl (Array.getElem?_eq_getElem hlt)
    exact hfirst k' a2 ⟨a1,.inr ⟨i,p,by rw [a3];exact Array.getElem?_eq_getElem hlt,hi,rfl⟩⟩
   rw [if_neg this] at hq
   exact wpAny_pure hq
end
end ST
end
section
namespace ST
open PySem PySem.SetTable
section
variable {prog:Program} {w:World} {A:Around} {E:Y9} {s:Shared}
theorem hbv {ks:Y0} {a:Addr} {Q:Bool->Shared->Prop} (hk:IsTupleKey (intKind prog w) s.heap ks a) (h:Q true s):wpAny (model prog w) A (hashByValue 8 (.ref a)) Q E s:=by
 have hT:=hk.typeIs
 obtain ⟨o,items,n,ho,hc,hd,hi⟩:=hk
 have hall:∀v∈items.toList,hashByValue 7 v=pure true:=by
  clear ho hd hc h
  generalize items.toList=l at hi
  induction hi with
  | nil=>intro v hv;simp at hv
  | @cons k v' ks vs h1 _ ih =>
   intro v hv
   rcases List.mem_cons.mp hv with rfl | hv
   ·obtain ⟨t,rfl⟩:=Value.isInt_shape h1;rfl
   ·exact ih v hv
 unfold hashByValue
 refine wpAny_bind (wpAny_specialOf hT F.slot_tuple_hash.lookup ?_)
 show wpAny _ _ (seqItems? (.ref a) >>= _) _ _ s
 refine wpAny_bind (wpAny_seqItems ho hd ?_)
 refine wpAny_bind ?_
 show wpAny _ _ (forIn items _ _) _ _ s
 rw [<- Array.forIn_toList]
 refine wpAny_forIn_list _ (fun rest r s'=>r.1=none/\s'=s/\∀v∈rest,hashByValue 7 v=pure true) _ ?_ ?_ _ _ ⟨rfl,rfl,hall⟩
 ·rintro v rest r s' ⟨hr,rfl,hall⟩
  rw [hall v List.mem_cons_self]
  refine wpAny_bind (wpAny_pure ?_)
  rw [if_neg (by simp)]
  exact wpAny_pure ⟨rfl,rfl,fun u hu'=>hall u (List.mem_cons_of_mem _ hu')⟩
 ·rintro ⟨r1,r2⟩ s' ⟨hr,rfl,_⟩
  simp only at hr
  subst hr
  exact wpAny_pure h
theorem vM {h h':Heap} {ks:Y0} {a S:Addr} {o:Obj} {es:Y3} {ep:Nat} {t:SetTable} (x:IsTupleKey (intKind prog w) h ks a) (ho:h.get? S=some o) (hd:o.data=.set es ep t) (hs:Heap.SameBut S h h'):IsTupleKey (intKind prog w) h' ks a:=by
 obtain ⟨o',items,n,ho',hc,hd',hi⟩:=x
 have hne:a ≠ S:=by
  rintro rfl
  obtain rfl:o'=o:=Option.some.inj (ho'.symm.trans ho)
  rw [hd] at hd';exact nomatch hd'
 exact ⟨o',items,n,(hs.2 a hne).trans ho',hc,hd',hi⟩
def kZ (prog:Program) (w:World) (h:Heap) (S:Addr) (kas:Y7):Prop :=
 ∃o es ep t,h.get? S=some o/\o.ExactSet/\o.data=.set es ep t/\TS (intKind prog w) h es t kas/\t.plain=true/\t.led = !(w.params.followText "set-order")/\((t.mask=7/\kas.length<=4)\/(t.mask=31/\kas.length<=18))
theorem TS.heap {h h':Heap} {es:Y3} {t:SetTable} {kas:Y7} (T:TS (intKind prog w) h es t kas) (hk:∀p∈kas,IsTupleKey (intKind prog w) h' p.1 p.2):TS (intKind prog w) h' es t kas:=⟨T.ok,T.ents,hk,T.nd⟩
theorem aJf {kas:Y7} {es:Y3} {p:Nat} {ks:Y0} {x:Addr} (he:es.toList=kas.map fun p=>(tupleKeyHash (intKind prog w) p.1,Value.ref p.2)) (hp:p<=es.size) :
  (insertAt es p (tupleKeyHash (intKind prog w) ks,Value.ref x)).toList=(kas.take p++(ks,x)::kas.drop p).map fun p=>(tupleKeyHash (intKind prog w) p.1,Value.ref p.2):=by
 have e:(insertAt es p (tupleKeyHash (intKind prog w) ks,Value.ref x)).toList=es.toList.take p++(tupleKeyHash (intKind prog w) ks,Value.ref x)::es.toList.drop p:=by
  simp [insertAt,List.take_of_length_le]
 rw [e,he];simp
theorem aJ2 {α:Type} {l:List α} {p:Nat} {x:α}:(l.take p++x::l.drop p).Perm (x::l):=by
 have:(l.take p++x::l.drop p).Perm (x::(l.take p++l.drop p)):=List.perm_middle
 rwa [List.take_append_drop] at this
theorem yQ {kas:Y7} {l:List (Int×Value)} (hp:l.Perm (kas.map fun p=>(tupleKeyHash (intKind prog w) p.1,Value.ref p.2))):∃kas':Y7,l=kas'.map (fun p=>(tupleKeyHash (intKind prog w) p.1,Value.ref p.2))/\kas'.Perm kas:=by
 generalize e:(kas.map fun p=>(tupleKeyHash (intKind prog w) p.1,Value.ref p.2))=m at hp
 induction hp generalizing kas with
 | nil=>exact ⟨[],rfl,by cases kas<;>first | exact .refl _ | cases e⟩
 | cons x _ ih =>
  cases kas with
  | nil=>cases e
  | cons k kas =>
   cases e
   obtain ⟨kas',h1,h2⟩:=ih rfl
   exact ⟨k::kas',by rw [h1];rfl,h2.cons k⟩
 | swap x y l =>
  cases kas with
  | nil=>cases e
  | cons k kas =>
   cases kas with
   | nil=>cases e
   | cons k2 kas=>cases e;exact ⟨k2::k::kas,rfl,.swap _ _ _⟩
 | trans h1 h2 ih1 ih2 =>
  obtain ⟨kas',a1,a2⟩:=ih2 e
  obtain ⟨kas'',b1,b2⟩:=ih1 a1.symm
  exact ⟨kas'',b1,b2.trans a2⟩
theorem aBo {h:Heap} {S:Addr} {o:Obj} {es es':Y3} {ep:Nat} {t t':SetTable} (ho:h.get? S=some o) (hd:o.data=.set es ep t) :
  (h.update S (Obj.putSet es' t')).get? S=some { o with data:=.set es' (ep+1) t' }:=by
 have:=Heap.get?_update_self (Obj.putSet es' t') ho (by rw [putSet_of es' t' hd];rfl)
 rw [putSet_of es' t' hd] at this;exact this
theorem aRw {S x:Addr} {kas:Y7} {ks:Y0} {Q:Bool->Shared->Prop} (hS:kZ prog w s.heap S kas) (hx:IsTupleKey (intKind prog w) s.heap ks x) (hu:A.units<cLine) (hn:kas.length<18)
  (h:∀b h' kas',Heap.SameBut S s.heap h'->kZ prog w h' S kas'->(if ks∈kas.map (·.1) then kas'=kas else kas'.Perm ((ks,x)::kas))->Q b { s with heap:=h',toks:=s.toks+(ks.length+1) }) :
  wpAny (model prog w) A (setAdd S (.ref x)) Q E s:=by
 obtain ⟨o,es,ep,t,ho,hex,hd,T,hpl,hled,hsz⟩:=hS
 unfold setAdd
 refine wpAny_holding (wpAny_bind (wpAny_pyHash_tuple hu hx ?_))
 unfold setAddHashed setAddHashedIn
 have hx':IsTupleKey (intKind prog w) ({ s with toks:=s.toks+(ks.length+1) }:Shared).heap ks x:=hx
 have T':TS (intKind prog w) ({ s with toks:=s.toks+(ks.length+1) }:Shared).heap es t kas:=T
 have ho':({ s with toks:=s.toks+(ks.length+1) }:Shared).heap.get? S=some o:=ho
 generalize hs1:({ s with toks:=s.toks+(ks.length+1) }:Shared)=s1 at hx' T' ho'
 have heap1:s1.heap=s.heap:=by rw [<- hs1]
 have hend:∀b h' kas',Heap.SameBut S s1.heap h'->kZ prog w h' S kas'->(if ks∈kas.map (·.1) then kas'=kas else kas'.Perm ((ks,x)::kas))->Q b { s1 with heap:=h' }:=by
  rw [<- hs1];exact h
 refine wpAny_holding (wpAny_bind (wpAny_setState_of ho' hd T.fits ?_))
 dsimp only
 rw [show byScan (.ref x) es=false from rfl,if_neg (by simp)]
 obtain ⟨N,hN,hf,hb⟩:=T.ok.free (tupleKeyHash (intKind prog w) ks)
 have hg:t.gaveWay=false:=by
  unfold SetTable.gaveWay
  rcases hsz with ⟨e,_⟩ | ⟨e,_⟩<;>rw [e]<;>rfl
 unfold setSearch
 refine wpAny_bind (aHc (N:=N) ho' hd T' hx' hu hg hN hf hb ?_ N 0 100000 none (by omega) ?_ rfl ?_)
 ·by_cases hin:ks∈kas.map (·.1)
  ·rw [if_pos hin]
   refine wpAny_pure ?_
   have:=hend false s1.heap kas (Heap.SameBut.refl _ _) ⟨o,es,ep,t,ho',hex,hd,T',hpl,hled,hsz⟩ (by rw [if_pos hin])
   have e:({ s1 with heap:=s1.heap }:Shared)=s1:=by cases s1;rfl
   rw [e] at this;exact this
  ·rw [if_neg hin]
   dsimp only
   refine wpAny_bind (wpAny_setState_of ho' hd T.fits ?_)
   dsimp only
   have hf1:es.size+1<=t.mask:=by
    rw [T.len]
    rcases hsz with ⟨e,hl⟩ | ⟨e,hl⟩<;>rw [e]<;>omega
   obtain ⟨ok1,hp⟩:=T.ok.put (x:=.ref x) hf hb hf1
   have epl:(t.put (pos t.mask (tupleKeyHash (intKind prog w) ks) N).j).1.plain=true:=hpl
   rw [epl,if_pos rfl]
   refine wpAny_bind (hbv hx' ?_)
   rw [if_pos rfl]
   have ents1:=aJf (w:=w) (prog:=prog) (ks:=ks) (x:=x) T.ents hp
   have hsz1:(insertAt es (t.put (pos t.mask (tupleKeyHash (intKind prog w) ks) N).j).2 (tupleKeyHash (intKind prog w) ks,Value.ref x)).size=kas.length+1:=by rw [rF hp,T.len]
   refine wpAny_bind (wpAny_storeSet_of ho' hd ?_ (fits_of_scanBound (by rw [hsz1];unfold scanBound;omega)))
   have ho1:=aBo (es':=insertAt es (t.put (pos t.mask (tupleKeyHash (intKind prog w) ks) N).j).2 (tupleKeyHash (intKind prog w) ks,Value.ref x)) (t':=(t.put (pos t.mask (tupleKeyHash (intKind prog w) ks) N).j).1) ho' hd
   have sb1:=Heap.SameBut.update s1.heap S (Obj.putSet (insertAt es (t.put (pos t.mask (tupleKeyHash (intKind prog w) ks) N).j).2 (tupleKeyHash (intKind prog w) ks,Value.ref x)) (t.put (pos t.mask (tupleKeyHash (intKind prog w) ks) N).j).1)
   have keys1:∀p∈(ks,x)::kas,IsTupleKey (intKind prog w) (s1.heap.update S (Obj.putSet (insertAt es (t.put (pos t.mask (tupleKeyHash (intKind prog w) ks) N).j).2 (tupleKeyHash (intKind prog w) ks,Value.ref x)) (t.put (pos t.mask (tupleKeyHash (intKind prog w) ks) N).j).1)) p.1 p.2:=fun p hp'=>by
    rcases List.mem_cons.mp hp' with rfl | hp'
    ·exact vM hx' ho' hd sb1
    ·exact vM (T'.keys p hp') ho' hd sb1
   have nd1:(((ks,x)::kas).map (·.1)).Nodup:=List.nodup_cons.mpr ⟨hin,T.nd⟩
   have perm1:=aJ2 (l:=kas) (p:=(t.put (pos t.mask (tupleKeyHash (intKind prog w) ks) N).j).2) (x:=(ks,x))
   have T1:TS (intKind prog w) (s1.heap.update S (Obj.putSet (insertAt es (t.put (pos t.mask (tupleKeyHash (intKind prog w) ks) N).j).2 (tupleKeyHash (intKind prog w) ks,Value.ref x)) (t.put (pos t.mask (tupleKeyHash (intKind prog w) ks) N).j).1)) (insertAt es (t.put (pos t.mask (tupleKeyHash (intKind prog w) ks) N).j).2 (tupleKeyHash (intKind prog w) ks,Value.ref x)) (t.put (pos t.mask (tupleKeyHash (intKind prog w) ks) N).j).1 (kas.take (t.put (pos t.mask (tupleKeyHash (intKind prog w) ks) N).j).2++(ks,x)::kas.drop (t.put (pos t.mask (tupleKeyHash (intKind prog w) ks) N).j).2) :=
    ⟨ok1,ents1,fun p hp'=>keys1 p (perm1.subset hp'),(perm1.map (·.1)).nodup_iff.mpr nd1⟩
   have emask:(t.put (pos t.mask (tupleKeyHash (intKind prog w) ks) N).j).1.mask=t.mask:=rfl
   have efill:(t.put (pos t.mask (tupleKeyHash (intKind prog w) ks) N).j).1.fill=kas.length+1:=by
    unfold SetTable.fill
    rw [ok1.size,ok1.dum,hsz1];rfl
   by_cases hfull:(t.put (pos t.mask (tupleKeyHash (intKind prog w) ks) N).j).1.tooFull=true
   ·rw [hfull,if_pos (by simp)]
    have h4:t.mask=7/\kas.length=4:=by
     unfold SetTable.tooFull at hfull
     rw [efill,emask] at hfull
     have hfull:=of_decide_eq_true hfull
     rcases hsz with ⟨e,hl⟩ | ⟨e,hl⟩<;>rw [e] at hfull<;>constructor<;>omega
    refine wpAny_bind ?_
    unfold setRelay
    refine wpAny_bind (wpAny_setState_of ho1 rfl T1.fits ?_)
    dsimp only
    have ew:SetTable.grown (es.size+1)=20:=by rw [T.len,h4.2];rfl
    have es32:sizeAbove 20=32:=by decide
    rw [ew,es32,if_neg (by rw [sizeLine_eq];omega)]
    obtain ⟨t',order,er,ok2,perm2,l2,p2,m2⟩:=aIc (es:=insertAt es (t.put (pos t.mask (tupleKeyHash (intKind prog w) ks) N).j).2 (tupleKeyHash (intKind prog w) ks,Value.ref x)) (t:=(t.put (pos t.mask (tupleKeyHash (intKind prog w) ks) N).j).1) (wanted:=20) (by rw [es32];exact aKr) (by rw [es32,hsz1];omega)
    rw [er]
    have hsz2:(order.filterMap ((insertAt es (t.put (pos t.mask (tupleKeyHash (intKind prog w) ks) N).j).2 (tupleKeyHash (intKind prog w) ks,Value.ref x))[·]?)).size=(insertAt es (t.put (pos t.mask (tupleKeyHash (intKind prog w) ks) N).j).2 (tupleKeyHash (intKind prog w) ks,Value.ref x)).size:=by
     rw [<- Array.length_toList,perm2.length_eq,Array.length_toList]
    refine wpAny_bind ?_
    show wpAny _ _ (if ((order.filterMap ((insertAt es (t.put (pos t.mask (tupleKeyHash (intKind prog w) ks) N).j).2 (tupleKeyHash (intKind prog w) ks,Value.ref x))[·]?)).size != (insertAt es (t.put (pos t.mask (tupleKeyHash (intKind prog w) ks) N).j).2 (tupleKeyHash (intKind prog w) ks,Value.ref x)).size)=true then _ else _) _ _ _
    rw [if_neg (by rw [hsz2];simp)]
    refine wpAny_pure ?_
    dsimp only
    refine wpAny_storeSet_of ho1 rfl ?_ (fits_of_scanBound (by rw [hsz2,hsz1];unfold scanBound;omega))
    refine wpAny_pure ?_
    rw [T1.ents] at perm2
    obtain ⟨kas2,e2,pk⟩:=yQ perm2
    have ho2:=aBo (es':=order.filterMap ((insertAt es (t.put (pos t.mask (tupleKeyHash (intKind prog w) ks) N).j).2 (tupleKeyHash (intKind prog w) ks,Value.ref x))[·]?)) (t':=t') ho1 rfl
    have sb2:=Heap.SameBut.update (s1.heap.update S (Obj.putSet (insertAt es (t.put (pos t.mask (tupleKeyHash (intKind prog w) ks) N).j).2 (tupleKeyHash (intKind prog w) ks,Value.ref x)) (t.put (pos t.mask (tupleKeyHash (intKind prog w) ks) N).j).1)) S (Obj.putSet (order.filterMap ((insertAt es (t.put (pos t.mask (tupleKeyHash (intKind prog w) ks) N).j).2 (tupleKeyHash (intKind prog w) ks,Value.ref x))[·]?)) t')
    have pk2:=pk.trans perm1
    refine hend true _ kas2 (sb1.trans sb2) ⟨_,_,_,t',ho2,hex,rfl,⟨ok2,e2,fun p hp'=>vM (keys1 p (pk2.subset hp')) ho1 rfl sb2,(pk2.map (·.1)).nodup_iff.mpr nd1⟩,by rw [p2];exact epl,by rw [l2];exact hled,.inr ⟨by rw [m2,es32],?_⟩⟩ (by rw [if_neg hin];exact pk2)
    have:=pk2.length_eq
    simp at this;omega
   ·rw [Bool.eq_false_iff.mpr hfull,if_neg (by simp)]
    refine wpAny_pure (hend true _ _ sb1 ⟨_,_,_,_,ho1,hex,rfl,T1,epl,hled,?_⟩ (by rw [if_neg hin];exact perm1))
    have hlen:=perm1.length_eq
    simp at hlen
    unfold SetTable.tooFull at hfull
    rw [efill,emask] at hfull
    have hfull:¬ ((kas.length+1) * 5 >= t.mask * 3):=fun z=>hfull (decide_eq_true z)
    rcases hsz with ⟨e,hl⟩ | ⟨e,hl⟩
    ·rw [e] at hfull
     exact .inl ⟨e,by simp;omega⟩
    ·rw [e] at hfull
     exact .inr ⟨e,by simp;omega⟩
 ·rcases hsz with ⟨e,_⟩ | ⟨e,_⟩<;>rw [e] at hN<;>omega
 ·intro i p j h1 h2 h3
  obtain ⟨k,e1,e2⟩:=T.ok.reach i (tupleKeyHash (intKind prog w) p.1,Value.ref p.2) j (by rw [T.at i,h1];rfl) h3
  have e1:(pos t.mask (tupleKeyHash (intKind prog w) p.1) k).j=j:=e1
  have e2:∀k',k'<k->Occ t.place (pos t.mask (tupleKeyHash (intKind prog w) p.1) k').j:=e2
  rw [h2] at e1 e2
  refine ⟨k,Nat.zero_le _,?_,e1⟩
  rcases Nat.lt_trichotomy k N with q | q | q
  ·exact q
  ·subst q
   exact absurd ⟨i,by rw [e1];exact h3⟩ hf
  ·exact absurd (e2 N q) hf
end
end ST
end
section
namespace ST
open PySem PySem.SetTable
section
variable {prog:Program} {w:World} {A:Around} {E:Y9} {s:Shared}
theorem kZ.keep {h h':Heap} {S:Addr} {kas:Y7} (x:kZ prog w h S kas) (hk:∀o,h.get? S=some o->h'.get? S=some o) (ht:∀p∈kas,IsTupleKey (intKind prog w) h' p.1 p.2):kZ prog w h' S kas:=by
 obtain ⟨o,es,ep,t,ho,hex,hd,T,r⟩:=x
 exact ⟨o,es,ep,t,hk o ho,hex,hd,T.heap ht,r⟩
theorem kZ.len {h:Heap} {S:Addr} {kas:Y7} (x:kZ prog w h S kas):kas.length<=18:=by
 obtain ⟨o,es,ep,t,ho,hex,hd,T,_,_,r⟩:=x
 rcases r with ⟨_,r⟩ | ⟨_,r⟩<;>omega
theorem kZ.keys {h:Heap} {S:Addr} {kas:Y7} (x:kZ prog w h S kas):∀p∈kas,IsTupleKey (intKind prog w) h p.1 p.2:=by
 obtain ⟨o,es,ep,t,ho,hex,hd,T,_⟩:=x
 exact T.keys
theorem kZ.nd {h:Heap} {S:Addr} {kas:Y7} (x:kZ prog w h S kas):(kas.map (·.1)).Nodup:=by
 obtain ⟨o,es,ep,t,ho,hex,hd,T,_⟩:=x
 exact T.nd
def Ded (key:Nat->Y0) (adr:Nat->Addr) (i:Nat) (kas:Y7):Prop :=
 (∀ks,ks∈kas.map (·.1) ↔ ∃i',i'<i/\key i'=ks)/\(∀p∈kas,∃i',i'<i/\p=(key i',adr i'))/\kas.length<=i
theorem Ded.zero {key:Nat->Y0} {adr:Nat->Addr}:Ded key adr 0 []:=⟨fun ks=>⟨fun z=>by simp at z,fun ⟨i,h,_⟩=>by omega⟩,fun p hp=>by simp at hp,by simp⟩
theorem Ded.step {key:Nat->Y0} {adr:Nat->Addr} {i:Nat} {kas kas':Y7} (d:Ded key adr i kas) (h:if key i∈kas.map (·.1) then kas'=kas else kas'.Perm ((key i,adr i)::kas)):Ded key adr (i+1) kas':=by
 obtain ⟨d1,d2,d3⟩:=d
 by_cases hin:key i∈kas.map (·.1)
 ·rw [if_pos hin] at h
  subst h
  refine ⟨fun ks=>?_,fun p hp=>?_,by omega⟩
  ·rw [d1 ks]
   constructor
   ·rintro ⟨i',h1,h2⟩;exact ⟨i',by omega,h2⟩
   ·rintro ⟨i',h1,h2⟩
    by_cases q:i'=i
    ·subst q;rw [<- h2];exact (d1 _).mp hin
    ·exact ⟨i',by omega,h2⟩
  ·obtain ⟨i',h1,h2⟩:=d2 p hp
   exact ⟨i',by omega,h2⟩
 ·rw [if_neg hin] at h
  refine ⟨fun ks=>?_,fun p hp=>?_,by have:=h.length_eq;simp at this;omega⟩
  ·rw [(h.map (·.1)).mem_iff,List.map_cons,List.mem_cons,d1 ks]
   constructor
   ·rintro (rfl | ⟨i',h1,h2⟩)
    ·exact ⟨i,by omega,rfl⟩
    ·exact ⟨i',by omega,h2⟩
   ·rintro ⟨i',h1,h2⟩
    by_cases q:i'=i
    ·subst q;exact .inl h2.symm
    ·exact .inr ⟨i',by omega,h2⟩
  ·rcases List.mem_cons.mp (h.subset hp) with rfl | hp
   ·exact ⟨i,by omega,rfl⟩
   ·obtain ⟨i',h1,h2⟩:=d2 p hp
    exact ⟨i',by omega,h2⟩
theorem jE {h h':Heap} {ks:Y0} {a:Addr} (x:IsTupleKey (intKind prog w) h ks a) (hk:∀o,h.get? a=some o->h'.get? a=some o):IsTupleKey (intKind prog w) h' ks a:=by
 obtain ⟨o,items,n,ho,hc,hd,hi⟩:=x
 exact ⟨o,items,n,hk o ho,hc,hd,hi⟩
theorem aUn {R:Result->Shared->Prop} {I:Addr} {fp wr:Y2} {G:Array GenState->Array GenState->Prop} {n:Nat} {P:Nat->Value->Prop} {St:Nat->Shared->Prop}
  (W:WalksS prog w A.in1 I fp wr G n P St) (S:Addr) (hSf:S ∉ fp) (hu:A.in1.units<cLine) (key:Nat->Y0) (adr:Nat->Addr) (hval:∀i v,P i v->v=.ref (adr i)) (hb:n<=18) (hnw:∀i,i<n->adr i ∉ S::wr) :
  ∀(k i:Nat) (s:Shared) (kas:Y7),n - i=k->i<=n->St i s->kZ prog w s.heap S kas->Ded key adr i kas->(∀i,i<n->IsTupleKey (intKind prog w) s.heap (key i) (adr i)) ->
   (∀s' kas',Moved (S::wr) G s s'->kZ prog w s'.heap S kas'->Ded key adr n kas'->R (.ok (.ret .none)) s') ->
   codeAny (model prog w) A (.builtin "set.update.loop" ⟨[.ref S,.ref I],[]⟩) R s:=by
 have hSw:S ∉ wr:=fun h=>hSf (W.sub _ h)
 have hsub:∀b∈wr,b∈S::wr:=fun b hb=>List.mem_cons_of_mem _ hb
 intro k
 induction k with
 | zero =>
  intro i s kas hk hi hst hS hD hT hR
  have hin:i=n:=by omega
  subst hin
  refine codeAny_builtin PyProof.Rows.F.entry_set_update_loop ?_
  rw [Around.under_plainId PyProof.Rows.F.plain_set_update_loop _]
  show wpAny _ A.in1 (pyNext (.ref I) >>= _) _ _ s
  refine wpAny_bind (W.done s _ _ hst fun s' hm=>?_)
  show wpAny _ A.in1 (ret Value.none) _ _ s'
  refine wpAny_pure (hR s' kas (hm.mono hsub) (hS.keep (fun o e=>hm.heap S o hSw e) fun p hp=>?_) hD)
  obtain ⟨i',h1,rfl⟩:=hD.2.1 p hp
  exact jE (hT i' h1) fun o e=>hm.heap _ o (fun z=>hnw i' h1 (hsub _ z)) e
 | succ k ih =>
  intro i s kas hk hi hst hS hD hT hR
  have hlt:i<n:=by omega
  refine codeAny_builtin PyProof.Rows.F.entry_set_update_loop ?_
  rw [Around.under_plainId PyProof.Rows.F.plain_set_update_loop _]
  show wpAny _ A.in1 (pyNext (.ref I) >>= _) _ _ s
  refine wpAny_bind (W.item i s _ _ hlt hst fun v s' hP hst' hm=>?_)
  obtain rfl:=hval i v hP
  have hT':∀i,i<n->IsTupleKey (intKind prog w) s'.heap (key i) (adr i):=fun i' h1=>jE (hT i' h1) fun o e=>hm.heap _ o (fun z=>hnw i' h1 (hsub _ z)) e
  have hS':kZ prog w s'.heap S kas:=hS.keep (fun o e=>hm.heap S o hSw e) fun p hp=>by
   obtain ⟨i',h1,rfl⟩:=hD.2.1 p hp
   exact hT' i' (by omega)
  show wpAny _ A.in1 (holding [Value.ref (adr i)] (setAdd S (.ref (adr i))) >>= _) _ _ s'
  refine wpAny_bind (wpAny_holding (aRw hS' (hT' i hlt) hu (by have:=hD.2.2;omega) fun b h' kas' sb hS2 hc=>?_))
  have hT2:∀i,i<n->IsTupleKey (intKind prog w) h' (key i) (adr i):=fun i' h1=>jE (hT' i' h1) fun o e=>by
   rw [sb.2 _ (fun z=>hnw i' h1 (by rw [z];exact List.mem_cons_self))];exact e
  refine wpAny_pure ⟨plainId_quiet PyProof.Rows.F.plain_set_update_loop _,ih (i+1) _ kas' (by omega) hlt (W.frame _ s' _ _ hst' (Nat.le_add_right _ _) fun b hb o e=>?_) hS2 (hD.step hc) hT2 fun s'' kas'' hm'' hS'' hD''=>?_⟩
  ·rw [sb.2 b (fun h:b=S=>hSf (by rw [<- h];exact hb))];exact e
  ·refine hR s'' kas'' (Moved.trans W.gtrans ((hm.mono hsub).then_heap (Nat.le_add_right _ _) fun b o hb e=>?_) hm'') hS'' hD''
   rw [sb.2 b (fun h:b=S=>hb (by rw [h];exact List.mem_cons_self))];exact e
theorem aKq {Q₁:Y9} (a:Value)
  (h:Q₁ (.ref s.heap.objs.size) { s with heap:=s.heap.push { cls:=.type "set",dict:=none,data:=.set #[] 0 (.fresh 0 0 (!(w.params.followText "set-order"))) } }) :
  codeAny (model prog w) A (.call (.builtin "set.__new__") ⟨[.type "set",a],[]⟩) (wants Q₁ E) s:=by
 refine codeAny_of_tree ?_
 show wpAny _ A.in1 (do checkBuiltinCall "set.__new__" ⟨[.type "set",a],[]⟩;again (.builtin "set.__new__" ⟨[.type "set",a],[]⟩)) _ _ s
 refine wpAny_bind (wpAny_of_eq (F.newCall_set_1 a) (wpAny_pure ⟨plainId_quiet F.plain_set_new _,codeAny_builtin F.entry_set_new ?_⟩))
 rw [Around.under_plainId F.plain_set_new _]
 unfold Builtin.«set.__new__» Builtin.Frozenset.newClass
 have hsub:=sub_set_self
 obtain ⟨hp,g,d,tk,os⟩:=s
 dsimp only
 wp_walk
 refine wpAny_askSetting (wpAny_pure ?_)
 dsimp only
 simp only [newObj]
 refine wpAny_bind (wpAny_alloc (wpAny_pure ?_))
 exact wpAny_pure h
end
end ST
end
section
namespace ST
open PySem PySem.SetTable
section
variable {prog:Program} {w:World} {A:Around} {E:Y9} {s:Shared}
theorem aIt {h:Heap} {S:Addr} {o:Obj} (ho:h.get? S=some o) (he:o={ cls:=.type "set",dict:=none,data:=.set #[] 0 (.fresh 0 0 (!(w.params.followText "set-order"))) }):kZ prog w h S []:=by
 subst he
 refine ⟨_,#[],0,_,ho,⟨rfl,rfl,rfl⟩,rfl,⟨⟨aLn,fun i k a b e=>by simp [SetTable.fresh] at e,rfl,rfl,by simp,fun i e j e1=>by simp at e1⟩,rfl,fun p hp=>by simp at hp,by simp⟩,rfl,rfl,.inl ⟨rfl,by simp⟩⟩
theorem call_setT {l:Addr} {items:Array Value} {key:Nat->Y0} {adr:Nat->Addr} {Q:Y9}
  (hh:A.handled=none) (hu:∀B:Around,B.units<=A.units+100->B.units<cLine) (hl:s.heap.IsList l items) (hi:∀(i:Nat) (v:Value),items[i]?=some v->v=Value.ref (adr i)) (hk:∀i,i<items.size->IsTupleKey (intKind prog w) s.heap (key i) (adr i)) (hb:items.size<=18)
  (h:∀(h':Heap) (tk:Nat) (kas:Y7),kZ prog w h' s.heap.objs.size kas->Ded key adr items.size kas ->
   (∀b o,b<s.heap.objs.size->s.heap.get? b=some o->h'.get? b=some o)->Q (.ref s.heap.objs.size) { s with heap:=h',toks:=tk }) :
  wpAny (model prog w) A (call (.type "set") [.ref l]) Q E s:=by
 obtain ⟨c,tl,hmro⟩:=F.called_set.mro
 have hmade:=F.called_set.made
 have hsub:=F.called_set.sub
 refine wpAny_call (codeAny_of_tree ?_)
 show wpAny _ _ (callAny (.type "set") _) _ _ _
 refine wpAny_pure ⟨Code.quiet_builtin _ (by decide +kernel),codeAny_builtin F.entry_type_call ?_⟩
 rw [Around.under_plain (weight_type_call_type "set" [.ref l] []) rfl]
 have h1:=F.called_set.notType
 have h2:=F.called_set.canCreate
 have hct:=F.typeCall_set_1 (.ref l)
 repeat (any_goals (first | assumption | wp_step))
 generalize hfr:(SetTable.fresh 0 0 (!(w.params.followText "set-order")))=fr
 refine codeAny_mono (aKq (.ref l) (E:=E) (Q₁:=fun obj s₁=>obj=.ref s.heap.objs.size/\s₁={ s with heap:=s.heap.push { cls:=.type "set",dict:=none,data:=.set #[] 0 fr } }) (by rw [hfr];exact ⟨rfl,rfl⟩)) fun r s₁ hr=>?_
 cases r with
 | error e=>exact hr
 | ok fl =>
  cases fl with
  | ret obj =>
   obtain ⟨rfl,rfl⟩:=hr
   have hS:(s.heap.push { cls:=.type "set",dict:=none,data:=.set #[] 0 fr }).get? s.heap.objs.size=some { cls:=.type "set",dict:=none,data:=.set #[] 0 fr }:=Heap.get?_push_size _ rfl
   have hT:Shared.TypeIs { s with heap:=s.heap.push { cls:=.type "set",dict:=none,data:=.set #[] 0 fr } } (.ref s.heap.objs.size) "set" :=⟨_,hS,rfl⟩
   have hli:=F.called_set.init.lookup
   have hbi:=F.called_set.init.bind (.ref s.heap.objs.size)
   repeat (any_goals (first | assumption | wp_step))
   refine codeAny_mono (codeAny_call_builtin (R:=wants (fun r s₂=>r=.none/\∃h' tk kas,s₂={ s with heap:=h',toks:=tk }/\kZ prog w h' s.heap.objs.size kas/\Ded key adr items.size kas /\
     (∀b o,b<s.heap.objs.size->s.heap.get? b=some o->h'.get? b=some o)) E) F.called_set.init.plain F.entry_set_init (check_set_init_1 hT ?_)) fun r₂ s₂ hr₂=>?_
   ·obtain ⟨ol,hol,hcl,nl,hdl⟩:=hl
    obtain ⟨ocls,odict,odata,oslots⟩:=ol
    simp only at hcl hdl
    subst hcl;subst hdl
    have hol':(s.heap.push { cls:=.type "set",dict:=none,data:=.set #[] 0 fr }).get? l=some { cls:=.type "list",dict:=odict,data:=.seq items nl,slots:=oslots }:=Heap.get?_push_of_some _ hol
    have hsls:=F.sub_list_set
    have hslf:=F.sub_list_frozenset
    have hne:(Value.type "list" == Value.type "dict")=false:=by decide
    have hl1:(s.heap.push { cls:=.type "set",dict:=none,data:=.set #[] 0 fr }).IsList l items:=⟨_,hol',rfl,nl,rfl⟩
    have hfits:fr.fits 0=true:=by rw [<- hfr];rfl
    have hfr':fr=(SetTable.fresh 0 0 (!(w.params.followText "set-order"))):=hfr.symm
    unfold Builtin.«set.__init__» noKeywords Builtin.Frozenset.updateFrom
    generalize hPI:pyIter=PI
    subst hfr'
    wp_walk
    subst hPI
    refine wpAny_pyIter_list hl1 ?_
    refine wpAny_bind (wpAny_runValue ?_)
    have hlS:l<s.heap.objs.size:=Heap.lt_size hol
    have hh3:A.in1.in1.in1.handled=none:=by simp [hh]
    have hneI:l ≠ (s.heap.push { cls:=.type "set",dict:=none,data:=.set #[] 0 (.fresh 0 0 (!(w.params.followText "set-order"))) }).objs.size:=by
     rw [Heap.size_push];exact Nat.ne_of_lt (Nat.lt_succ_of_lt hlS)
    have hSf:s.heap.objs.size ∉ [(s.heap.push { cls:=.type "set",dict:=none,data:=.set #[] 0 (.fresh 0 0 (!(w.params.followText "set-order"))) }).objs.size,l]:=by
     rw [Heap.size_push];simp only [List.mem_cons,List.mem_singleton,List.not_mem_nil,or_false,not_or]
     exact ⟨Nat.ne_of_lt (Nat.lt_succ_self _),Nat.ne_of_gt hlS⟩
    have adlt:∀i,i<items.size->adr i<s.heap.objs.size:=fun i hi'=>by
     obtain ⟨o,_,_,ho,_⟩:=hk i hi'
     exact Heap.lt_size ho
    refine aUn ((Walks.list hh3 _ l hneI items).toS) s.heap.objs.size hSf (hu _ ?hU) key adr hi hb (fun i hi' z=>?_) (items.size - 0) 0 _ [] (by omega) (Nat.zero_le _)
     ⟨⟨_,Heap.get?_push_size _ rfl,rfl,rfl⟩,(hl1.push _)⟩ ?hS0 Ded.zero (fun i hi'=>?_) ?hR
    case hU=>simp
    case hS0 =>
     exact aIt (Heap.get?_push_of_some _ hS) rfl
    case hR =>
     intro s' kas hm hS' hD'
     obtain ⟨h',g',d',tk',os'⟩:=s'
     have eg:g'=s.gens:=hm.gens
     have ed:d'=s.drawn:=hm.drawn
     have eo:os'=s.os:=hm.os
     subst eg;subst ed;subst eo
     show wpAny _ _ _ _ _ _
     refine wpAny_pure ?_
     show wpAny _ _ (ret Value.none) _ _ _
     refine wpAny_pure ⟨rfl,h',tk',kas,rfl,hS',hD',fun b o hb e=>?_⟩
     have hb1:b ≠ s.heap.objs.size:=Nat.ne_of_lt hb
     have hb2:b ≠ (s.heap.push { cls:=.type "set",dict:=none,data:=.set #[] 0 (.fresh 0 0 (!(w.params.followText "set-order"))) }).objs.size:=by
      rw [Heap.size_push];exact Nat.ne_of_lt (Nat.lt_succ_of_lt hb)
     exact hm.heap b o (by simp only [List.mem_cons,List.mem_singleton,List.not_mem_nil,or_false,not_or];exact ⟨hb1,hb2⟩) (Heap.get?_push_of_some _ (Heap.get?_push_of_some _ e))
    ·have:=adlt i hi'
     rw [Heap.size_push] at z
     simp only [List.mem_cons,List.mem_singleton,List.not_mem_nil,or_false] at z
     rcases z with z | z
     ·exact Nat.ne_of_lt this z
     ·exact Nat.ne_of_lt (Nat.lt_succ_of_lt this) z
    ·exact jE (hk i hi') fun o e=>Heap.get?_push_of_some _ (Heap.get?_push_of_some _ e)
   ·cases r₂ with
    | error e=>exact hr₂
    | ok fl₂ =>
     cases fl₂ with
     | ret r =>
      obtain ⟨rfl,h',tk,kas,rfl,hS',hD',hk'⟩:=hr₂
      repeat (any_goals (first | assumption | wp_step))
      exact h _ _ _ hS' hD' hk'
     | _=>exact hr₂.elim
  | _=>exact hr.elim
end
end ST
end
section
namespace ST
open PySem PySem.SetTable
theorem yW {α:Type} {next:Nat->Nat}:∀(fuel k:Nat) (left:List α) (out:Array α),left.length=fuel->(pickOrder.go next fuel k left out).toList.Perm (out.toList++left)
 | 0,k,left,out,h=>by
  have:left=[]:=List.length_eq_zero_iff.mp h
  subst this
  show out.toList.Perm _
  rw [List.append_nil]
 | fuel+1,k,left,out,h=>by
  unfold pickOrder.go
  have hlt:next k % left.length<left.length:=Nat.mod_lt _ (by omega)
  rw [List.getElem?_eq_getElem hlt]
  dsimp only
  refine (yW fuel (k+1) (left.eraseIdx (next k % left.length)) _ (by rw [List.length_eraseIdx,if_pos hlt];omega)).trans ?_
  rw [Array.toList_push,List.append_assoc]
  refine List.Perm.append_left _ ?_
  rw [List.eraseIdx_eq_take_drop_succ]
  have e2:left=left.take (next k % left.length)++left[next k % left.length]::left.drop (next k % left.length+1):=by simp
  have:=(List.perm_middle (l₁:=left.take (next k % left.length)) (a:=left[next k % left.length]) (l₂:=left.drop (next k % left.length+1))).symm
  rw [<- e2] at this
  exact this
def gD (w:World) (S:Addr) (ep:Nat) (es:Y3):Y3:=if w.params.followText "set-order" then pickOrder (w.params.setOrder S ep) es else es
theorem xS {w:World} {S:Addr} {ep:Nat} {es:Y3}:(gD w S ep es).toList.Perm es.toList:=by
 unfold gD
 split
 ·have:=yW (next:=w.params.setOrder S ep) es.size 0 es.toList #[] (by simp)
  simpa [pickOrder] using this
 ·exact .refl _
theorem rM {w:World} {S:Addr} {ep:Nat} {es:Y3}:(gD w S ep es).size=es.size:=by
 have:=(xS (w:=w) (S:=S) (ep:=ep) (es:=es)).length_eq
 simpa using this
theorem aDe {xs:Array Nat} (hr:vN xs) {i j:Nat} (e:xs[i]?=some j):below xs (j+1)=i+1:=by
 obtain ⟨h1,h2,h3⟩:=iW hr (j+1)
 rcases Nat.lt_trichotomy (below xs (j+1)) (i+1) with q | q | q
 ·have:=h3 i j e (by omega);omega
 ·exact q
 ·have hs:i+1<xs.size:=by omega
  have e2:=h2 (i+1) _ (Array.getElem?_eq_getElem hs) q
  have e3:=hr _ _ _ _ e (Array.getElem?_eq_getElem hs) (by omega)
  omega
theorem aDq {xs:Array Nat} (hr:vN xs):below xs 0=0:=by
 obtain ⟨h1,h2,h3⟩:=iW hr 0
 rcases Nat.eq_zero_or_pos (below xs 0) with q | q
 ·exact q
 ·have hs:0<xs.size:=by omega
  have:=h2 0 _ (Array.getElem?_eq_getElem hs) q
  omega
section
variable {prog:Program} {w:World} {A:Around} {E:Y9} {s:Shared}
theorem aFk {S:Addr} {o:Obj} {es:Y3} {ep i slot:Nat} {t:SetTable} {kas:Y7} {Q:Option (Value×Nat)->Shared->Prop}
  (ho:s.heap.get? S=some o) (hd:o.data=.set es ep t) (T:TS (intKind prog w) s.heap es t kas) (hpl:t.plain=true) (hled:t.led = !(w.params.followText "set-order")) (hsl:w.params.followText "set-order" = false->below t.place slot=i)
  (hQ:match (gD w S ep es)[i]? with | some e=>∀slot',(w.params.followText "set-order" = false->below t.place slot'=i+1)->Q (some (e.2,slot')) s | none=>Q none s) :
  wpAny (model prog w) A (setNext S slot i ep) Q E s:=by
 unfold setNext
 refine wpAny_bind (wpAny_setState_of ho hd T.fits ?_)
 dsimp only
 unfold setsByText
 refine wpAny_bind (wpAny_bind (wpAny_askSetting (wpAny_pure ?_)))
 dsimp only
 cases hb:w.params.followText "set-order" with
 | true =>
  show wpAny _ _ (if w.params.followText "set-order" = true then _ else _) _ _ _
  rw [if_pos hb,if_neg (by simp)]
  refine wpAny_bind ?_
  unfold setWalk
  refine wpAny_bind (wpAny_setState_of ho hd T.fits ?_)
  dsimp only
  unfold setsByText
  refine wpAny_bind (wpAny_bind (wpAny_askSetting (wpAny_pure ?_)))
  show wpAny _ _ (if w.params.followText "set-order" = true then _ else _) _ _ _
  rw [if_pos hb]
  refine wpAny_bind (wpAny_askSetting (wpAny_pure ?_))
  refine wpAny_pure ?_
  have ew:gD w S ep es=pickOrder (w.params.setOrder S ep) es:=by unfold gD;rw [if_pos hb]
  rw [ew] at hQ
  show Q (((pickOrder (w.params.setOrder S ep) es)[i]?).map fun e=>(e.2,slot)) s
  cases hg:(pickOrder (w.params.setOrder S ep) es)[i]? with
  | none=>rw [hg] at hQ;exact hQ
  | some e=>rw [hg] at hQ;exact hQ slot fun z=>by rw [hb] at z;cases z
 | false =>
  show wpAny _ _ (if w.params.followText "set-order" = true then _ else _) _ _ _
  have ew:gD w S ep es=es:=by unfold gD;rw [if_neg (by rw [hb];simp)]
  rw [ew] at hQ
  rw [if_neg (by rw [hb];simp)]
  have hl:t.led=true:=by rw [hled,hb];rfl
  have hdr:(!t.plain && decide (es.size > 1))=false:=by rw [hpl];rfl
  show wpAny _ _ (if (!t.plain && decide (es.size > 1))=true then _ else _) _ _ _
  rw [if_neg (by rw [hdr];simp)]
  refine wpAny_bind ?_
  show wpAny _ _ (if (!t.led && !es.isEmpty)=true then _ else _) _ _ _
  rw [if_neg (by rw [hl];simp)]
  refine wpAny_pure (wpAny_pure ?_)
  rw [hsl hb]
  cases hg:es[i]? with
  | none =>
   rw [hg] at hQ
   exact hQ
  | some e =>
   rw [hg] at hQ
   have hlt:i<t.place.size:=by rw [T.ok.size];exact (Array.getElem?_eq_some_iff.mp hg).1
   rw [Array.getElem?_eq_getElem hlt]
   exact hQ _ fun _=>aDe T.ok.rise (Array.getElem?_eq_getElem hlt)
end
end ST
end
section
namespace ST
open PySem PySem.SetTable
namespace F
theorem slot_next:Slot "set_iterator" "__next__" "set_iterator.__next__" :=
 .of (owner := "set_iterator") (n := "__next__") (by rw [typeLookup_type,builtinLookup_eq_fast];kernel_rfl) (by decide +kernel) (by decide +kernel) (by decide +kernel)
  (by first | exact .inl (by decide +kernel) | exact .inr (by decide +kernel)) (by rw [isSubtype_type];kernel_rfl)
theorem entry_next:entryFor table "set_iterator.__next__" = some Builtin.«set_iterator.__next__» :=entryFor_of_fast (by kernel_rfl)
theorem args_next (a:Value):argsOk "set_iterator.__next__" ⟨[a],[]⟩:=by unfold argsOk;kernel_rfl
theorem slot_iter:Slot "set_iterator" "__iter__" "set_iterator.__iter__" :=
 .of (owner := "set_iterator") (n := "__iter__") (by rw [typeLookup_type,builtinLookup_eq_fast];kernel_rfl) (by decide +kernel) (by decide +kernel) (by decide +kernel)
  (by first | exact .inl (by decide +kernel) | exact .inr (by decide +kernel)) (by rw [isSubtype_type];kernel_rfl)
theorem args_iter (a:Value):argsOk "set_iterator.__iter__" ⟨[a],[]⟩:=by unfold argsOk;kernel_rfl
theorem entry_iter:entryFor table "set_iterator.__iter__" = some Builtin.«dict_keyiterator.__iter__» :=
 entryFor_alias (id' := "dict_keyiterator.__iter__") (by kernel_rfl) (by first | rfl | decide +kernel) (by decide +kernel) (by kernel_rfl)
theorem entry_set_iter:entryFor table "set.__iter__" = some Builtin.«frozenset.__iter__» :=
 entryFor_alias (id' := "frozenset.__iter__") (by kernel_rfl) (by first | rfl | decide +kernel) (by decide +kernel) (by kernel_rfl)
end F
section
variable {prog:Program} {w:World} {A:Around} {E:Y9} {s:Shared}
def tQ (slot i:Nat) (S:Addr) (n ep:Nat):Obj:={ cls:=.type "set_iterator",dict:=none,data:=.fields #[.int slot 0,.int i 0,.ref S,.int n 0,.int ep 0],slots:=#[] }
def StS (I S:Addr) (o:Obj) (es:Y3) (ep:Nat) (t:SetTable) (prog:Program) (w:World) (kas:Y7) (i:Nat) (s:Shared):Prop :=
 ∃slot,s.heap.get? I=some (tQ slot i S es.size ep)/\(w.params.followText "set-order" = false->below t.place slot=i)/\s.heap.get? S=some o/\TS (intKind prog w) s.heap es t kas
theorem StS.ty {I S:Addr} {o:Obj} {es:Y3} {ep:Nat} {t:SetTable} {kas:Y7} {i:Nat} (h:StS I S o es ep t prog w kas i s):s.TypeIs (.ref I) "set_iterator" :=by
 obtain ⟨slot,h1,_⟩:=h
 exact ⟨_,h1,rfl⟩
theorem aMt {I S:Addr} {o:Obj} {es:Y3} {ep:Nat} {t:SetTable} {kas:Y7} {i:Nat} {Q:Option Value->Shared->Prop} (hd:o.data=.set es ep t) (hpl:t.plain=true) (hled:t.led = !(w.params.followText "set-order")) (hIS:I ≠ S) (hka:∀p∈kas,p.2 ≠ I)
  (hst:StS I S o es ep t prog w kas i s) (hi:i<es.size)
  (hQ:∀v h',(gD w S ep es)[i]?.map (·.2)=some v->StS I S o es ep t prog w kas (i+1) { s with heap:=h' }->Heap.SameBut I s.heap h'->Q (some v) { s with heap:=h' }):wpAny (model prog w) A (pyNext (.ref I)) Q E s:=by
 have hT:=hst.ty
 obtain ⟨slot,h1,h2,h3,T⟩:=hst
 have hlt:i<(gD w S ep es).size:=by rw [rM];exact hi
 have eg:=Array.getElem?_eq_getElem hlt
 unfold pyNext
 refine wpAny_bind (wpAny_attempt (wpAny_callSpecial?_slot (name:=Str.ofString "__next__") hT F.slot_next
  (wpAny_call_entry F.slot_next hT F.entry_next ?_ (F.args_next _))))
 show wpAny _ _ (fieldsOf (.ref I) >>= _) _ _ s
 refine wpAny_bind (wpAny_fieldsOf h1 rfl ?_)
 show wpAny _ _ (setEntries S >>= _) _ _ s
 refine wpAny_bind (wpAny_setEntries_of h3 hd T.fits ?_)
 show wpAny _ _ (if ((es.size:Int) != (es.size:Int))=true then _ else _) _ _ s
 rw [if_neg (by simp)]
 show wpAny _ _ (setNext S (slot:Int).toNat (i:Int).toNat (ep:Int).toNat >>= _) _ _ s
 rw [Int.toNat_natCast,Int.toNat_natCast,Int.toNat_natCast]
 refine wpAny_bind (aFk h3 hd T hpl hled h2 ?_)
 rw [eg]
 dsimp only
 intro slot' hs'
 refine wpAny_bind (wpAny_setField_rec h1 (by simp) fun h' e1 sb1=>?_)
 refine wpAny_bind (wpAny_setField_rec (s:={ s with heap:=h' }) e1 (by simp) fun h'' e2 sb2=>?_)
 refine wpAny_pure ⟨_,rfl,?_⟩
 refine wpAny_pure (hQ _ h'' (by rw [eg];rfl) ⟨slot',?_,hs',?_,T.heap fun p hp=>?_⟩ (sb1.trans sb2))
 ·exact e2
 ·have:h''.get? S=some o:=by rw [sb2.2 S (Ne.symm hIS),sb1.2 S (Ne.symm hIS)];exact h3
  exact this
 ·exact jE (T.keys p hp) fun o' e'=>by
   show h''.get? p.2=some o'
   rw [sb2.2 _ (hka p hp),sb1.2 _ (hka p hp)];exact e'
theorem aRd {I S:Addr} {o:Obj} {es:Y3} {ep:Nat} {t:SetTable} {kas:Y7} {Q:Option Value->Shared->Prop} (hh:A.handled=none) (hd:o.data=.set es ep t) (hpl:t.plain=true) (hled:t.led = !(w.params.followText "set-order"))
  (hst:StS I S o es ep t prog w kas es.size s) (hQ:∀h',Heap.ExtBut I s.heap h'->Q none { s with heap:=h' }):wpAny (model prog w) A (pyNext (.ref I)) Q E s:=by
 have hT:=hst.ty
 obtain ⟨slot,h1,h2,h3,T⟩:=hst
 have eg:(gD w S ep es)[es.size]?=none:=by rw [Array.getElem?_eq_none];rw [rM];exact Nat.le_refl _
 unfold pyNext
 refine wpAny_bind (wpAny_attempt (wpAny_callSpecial?_slot (name:=Str.ofString "__next__") hT F.slot_next
  (wpAny_call_entry F.slot_next hT F.entry_next ?_ (F.args_next _))))
 show wpAny _ _ (fieldsOf (.ref I) >>= _) _ _ s
 refine wpAny_bind (wpAny_fieldsOf h1 rfl ?_)
 show wpAny _ _ (setEntries S >>= _) _ _ s
 refine wpAny_bind (wpAny_setEntries_of h3 hd T.fits ?_)
 show wpAny _ _ (if ((es.size:Int) != (es.size:Int))=true then _ else _) _ _ s
 rw [if_neg (by simp)]
 show wpAny _ _ (setNext S (slot:Int).toNat ((es.size:Nat):Int).toNat (ep:Int).toNat >>= _) _ _ s
 rw [Int.toNat_natCast,Int.toNat_natCast,Int.toNat_natCast]
 refine wpAny_bind (aFk h3 hd T hpl hled h2 ?_)
 rw [eg]
 dsimp only
 refine wpAny_bind (wpAny_setField_rec h1 (by simp) fun h' e1 sb1=>?_)
 show wpAny _ _ (newExc (.type "StopIteration") [] >>= _) _ _ _
 refine wpAny_bind ?_
 simp only [newExc,newTuple]
 refine wpAny_bind (wpAny_newObj_type ?_ (by size_fits))
 refine wpAny_bind (m:=firstArgMember _ _) (wpAny_of_eq (a:=Value.none) (by first | rfl | (simp only [firstArgMember];rfl)) ?_)
 refine wpAny_newObj_type ?_ (by size_fits)
 simp only [raiseNew]
 refine wpAny_bind (wpAny_handled ?_)
 rw [show A.in1.handled=none from hh]
 refine wpAny_bind (wpAny_pure (wpAny_throw ?_))
 refine wpAny_bind (wpAny_isInstance (T := "StopIteration") (b:=true) ⟨_,Heap.get?_push_size _ rfl,rfl⟩ isSubtype_stop ?_)
 exact wpAny_pure (hQ _ ((sb1.extBut.push _).push _))
end
end ST
end
section
namespace ST
open PySem PySem.SetTable
section
variable {prog:Program} {w:World} {A:Around} {E:Y9} {s:Shared}
def StH (I S:Addr) (o:Obj) (es:Y3) (ep:Nat) (t:SetTable) (prog:Program) (w:World) (kas:Y7) (i:Nat) (h:Heap):Prop :=
 ∃slot,h.get? I=some (tQ slot i S es.size ep)/\(w.params.followText "set-order" = false->below t.place slot=i)/\h.get? S=some o/\TS (intKind prog w) h es t kas
theorem aQb {I S:Addr} {o:Obj} {es:Y3} {ep:Nat} {t:SetTable} {kas:Y7} (hh:A.handled=none) (hd:o.data=.set es ep t) (hpl:t.plain=true) (hled:t.led = !(w.params.followText "set-order")) (hIS:I ≠ S) (hka:∀p∈kas,p.2 ≠ I) :
  Walks prog w A I (I::S::kas.map (·.2)) [I] es.size (fun i v=>(gD w S ep es)[i]?.map (·.2)=some v) (fun i h=>StH I S o es ep t prog w kas i h) where
 sub:=fun b hb=>by simp at hb;simp [hb]
 frame:=fun i h h' st hk=>by
  obtain ⟨slot,h1,h2,h3,T⟩:=st
  exact ⟨slot,hk I (by simp) _ h1,h2,hk S (by simp) _ h3,T.heap fun p hp=>jE (T.keys p hp) fun o' e=>hk p.2 (by simp;exact .inr (.inr ⟨p.1,hp⟩)) o' e⟩
 item:=fun i s Q E hi st hQ=>by
  refine aMt (i:=i) hd hpl hled hIS hka st hi fun v h' hv st' sb=>?_
  exact hQ v h' s.toks hv st' fun b o' hb e=>by rw [sb.2 b (fun z=>hb (by simp [z]))];exact e
 done:=fun s Q E st hQ=>aRd hh hd hpl hled st fun h' he=>hQ h' s.toks fun b o' hb e=>he b o' (fun z=>hb (by simp [z])) e
 self:=fun i s Q E st hQ=>by
  have hT:s.TypeIs (.ref I) "set_iterator" :=by obtain ⟨slot,h1,_⟩:=st;exact ⟨_,h1,rfl⟩
  refine wpAny_pyIter_slot hT F.slot_iter (wpAny_call_entry F.slot_iter hT F.entry_iter ?_ (F.args_iter _))
  show wpAny _ _ (ret (.ref I)) _ _ s
  exact wpAny_pure ⟨_,rfl, "set_iterator",_,hT,F.slot_next.lookup,hQ⟩
theorem aDr {P:Nat->Value->Prop} {acc:Array Value} {ws:Y3} (h:ItemsOf P acc ws.size) (hP:∀i v,P i v->ws[i]?.map (·.2)=some v):acc.toList=ws.toList.map (·.2):=by
 refine List.ext_getElem? fun i=>?_
 rw [List.getElem?_map,Array.getElem?_toList,Array.getElem?_toList]
 by_cases hi:i<acc.size
 ·have e:=Array.getElem?_eq_getElem hi
  rw [e]
  exact (hP i _ (h.2 i _ e)).symm
 ·have hw:¬ i<ws.size:=by rw [<- h.1];exact hi
  rw [Array.getElem?_eq_none (by omega),Array.getElem?_eq_none (by omega)];rfl
theorem aBy {S:Addr} {kas:Y7} {Q:Y1->Shared->Prop} (hh:A.handled=none) (hS:kZ prog w s.heap S kas)
  (hQ:∀(kas':Y7) (s':Shared),kas'.Perm kas->Moved [] (fun a b=>b=a) s s'->s.heap.objs.size<=s'.heap.objs.size->Q (kas'.map fun p=>Value.ref p.2) s'):wpAny (model prog w) A (collect (.ref S)) Q E s:=by
 obtain ⟨o,es,ep,t,ho,hex,hd,T,hpl,hled,hsz⟩:=hS
 have hT:s.TypeIs (.ref S) "set" :=⟨o,ho,hex.1⟩
 have hSlt:S<s.heap.objs.size:=Heap.lt_size ho
 unfold collect
 refine wpAny_bind (wpAny_runValue (codeAny_builtin PySem.F.entry_proto_collect ?_))
 rw [Around.under_plainId PySem.F.plain_proto_collect _]
 show wpAny _ A.in1 (newList [] >>= fun l=>again (.builtin "list.__iadd__" ⟨[l,.ref S],[]⟩)) _ _ s
 refine wpAny_bind (wpAny_newObj_type ?_)
 refine wpAny_pure ⟨plainId_quiet PySem.F.plain_list_iadd _,codeAny_builtin PySem.F.entry_list_iadd ?_⟩
 rw [Around.under_plainId PySem.F.plain_list_iadd _]
 generalize hh1:s.heap.push { cls:=.type "list",data:=.seq ([]:Y1).toArray }=h1
 have e1:∀b o,s.heap.get? b=some o->h1.get? b=some o:=fun b o e=>by rw [<- hh1];exact Heap.get?_push_of_some _ e
 have hL:h1.get? s.heap.objs.size=some { cls:=.type "list",data:=.seq ([]:Y1).toArray }:=by rw [<- hh1];exact Heap.get?_push_size _ rfl
 have sz1:h1.objs.size=s.heap.objs.size+1:=by rw [<- hh1,Heap.size_push]
 have hne:s.heap.objs.size ≠ S:=Ne.symm (Nat.ne_of_lt hSlt)
 have hT1:Shared.TypeIs { s with heap:=h1 } (.ref S) "set" :=⟨o,e1 _ _ ho,hex.1⟩
 have T1:TS (intKind prog w) h1 es t kas:=T.heap fun p hp=>jE (T.keys p hp) fun o e=>e1 _ _ e
 show wpAny _ A.in1 (Builtin.List.listExtendWith (.ref s.heap.objs.size) (.ref S) (.ref s.heap.objs.size)) _ _ _
 unfold Builtin.List.listExtendWith
 refine wpAny_bind (wpAny_typeOf hT1 ?_)
 have hsr:Builtin.List.listSameRef (.ref s.heap.objs.size) (.ref S)=false:=by simp [Builtin.List.listSameRef,hne]
 rw [if_neg (by rw [hsr];decide)]
 refine wpAny_bind (wpAny_pyIter_slot hT1 PySem.F.slot_set_iter (wpAny_call_entry PySem.F.slot_set_iter hT1 F.entry_set_iter ?_ (PySem.F.args_set_iter_1 _)))
 show wpAny _ _ (Builtin.Frozenset.sizeOf S >>= _) _ _ _
 unfold Builtin.Frozenset.sizeOf
 refine wpAny_bind (wpAny_bind (wpAny_setEntries_of (s:={ s with heap:=h1 }) (e1 _ _ ho) hd T.fits (wpAny_pure ?_)))
 unfold setDrawn
 refine wpAny_bind (wpAny_bind (wpAny_setState_of (s:={ s with heap:=h1 }) (e1 _ _ ho) hd T.fits ?_))
 dsimp only
 unfold setsByText
 refine wpAny_bind (wpAny_bind (wpAny_askSetting (wpAny_pure ?_)))
 refine wpAny_pure ?_
 show wpAny _ _ (if (!(w.params.followText "set-order") && (!t.plain && decide (es.size > 1)))=true then _ else _) _ _ _
 rw [hpl,if_neg (by simp)]
 refine wpAny_bind (wpAny_pure ?_)
 refine wpAny_bind (wpAny_setEpoch_of (s:={ s with heap:=h1 }) (e1 _ _ ho) hd T.fits ?_)
 refine wpAny_bind (wpAny_newObj_type ?_)
 refine wpAny_pure ⟨_,rfl, "set_iterator",_,⟨_,Heap.get?_push_size _ rfl,rfl⟩,F.slot_next.lookup,?_⟩
 generalize hh2:h1.push _=h2
 have eI:h2.get? h1.objs.size=some (tQ 0 0 S es.size ep):=by rw [<- hh2];exact Heap.get?_push_size _ rfl
 have e2:∀b o,h1.get? b=some o->h2.get? b=some o:=fun b o e=>by rw [<- hh2];exact Heap.get?_push_of_some _ e
 have T2:TS (intKind prog w) h2 es t kas:=T1.heap fun p hp=>jE (T1.keys p hp) fun o e=>e2 _ _ e
 have hT2:Shared.TypeIs { s with heap:=h2 } (.ref S) "set" :=⟨o,e2 _ _ (e1 _ _ ho),hex.1⟩
 refine wpAny_bind (wpAny_holding ?_)
 unfold Builtin.List.listLengthHint
 refine wpAny_bind (wpAny_specialOf hT2 PySem.F.slot_set_len.lookup ?_)
 generalize hid:("set.__len__" : String)=id0
 wp_delta
 rw [show splitId id0=some ("set", "__len__") from by subst hid;decide +kernel]
 subst hid
 refine wpAny_bind (wpAny_isInstance (b:=true) hT2 (by rw [isSubtype_type];kernel_rfl) ?_)
 show wpAny _ _ (typeOf (.ref S) >>= _) _ _ _
 refine wpAny_bind (wpAny_typeOf hT2 ?_)
 refine wpAny_pure ?_
 rw [if_pos (by rfl)]
 have hL2:h2.get? s.heap.objs.size=some { cls:=.type "list",dict:=none,data:=.seq #[] 0,slots:=#[] }:=e2 _ _ hL
 refine wpAny_bind (wpAny_rule (wpAny_bind ?_))
 unfold Builtin.List.listTouch
 refine wpAny_bind (PyProof.Rows.listUpdate_at (s:={ s with heap:=h2 }) hL2 rfl ?_)
 have hL3:(h2.update s.heap.objs.size (Obj.mapSeq (·.push Value.none))).get? s.heap.objs.size=some { cls:=.type "list",dict:=none,data:=.seq #[Value.none] 1,slots:=#[] }:=Heap.get?_update_self _ hL2 rfl
 refine PyProof.Rows.listUpdate_at (s:={ s with heap:=h2.update s.heap.objs.size (Obj.mapSeq (·.push Value.none)) }) hL3 rfl ?_
 have hL4:((h2.update s.heap.objs.size (Obj.mapSeq (·.push Value.none))).update s.heap.objs.size (Obj.mapSeq (·.pop))).get? s.heap.objs.size=some { cls:=.type "list",dict:=none,data:=.seq #[] 2,slots:=#[] }:=Heap.get?_update_self _ hL3 rfl
 have e4:∀b,b ≠ s.heap.objs.size->((h2.update s.heap.objs.size (Obj.mapSeq (·.push Value.none))).update s.heap.objs.size (Obj.mapSeq (·.pop))).get? b=h2.get? b:=fun b hb=>by
  rw [Heap.get?_update_other _ _ (Ne.symm hb),Heap.get?_update_other _ _ (Ne.symm hb)]
 generalize ((h2.update s.heap.objs.size (Obj.mapSeq (·.push Value.none))).update s.heap.objs.size (Obj.mapSeq (·.pop)))=h4 at hL4 e4
 have klt:∀p∈kas,p.2<s.heap.objs.size:=fun p hp=>by
  obtain ⟨o',_,_,ho',_⟩:=T.keys p hp
  exact Heap.lt_size ho'
 have hI4:h4.get? h1.objs.size=some (tQ 0 0 S es.size ep):=by
  rw [e4 _ (by rw [sz1];exact Nat.succ_ne_self _)];exact eI
 have hS4:h4.get? S=some o:=by rw [e4 _ (Ne.symm hne)];exact e2 _ _ (e1 _ _ ho)
 have T4:TS (intKind prog w) h4 es t kas:=T2.heap fun p hp=>jE (T2.keys p hp) fun o' e=>by
  rw [e4 _ (Nat.ne_of_lt (klt p hp))];exact e
 have hIS:h1.objs.size ≠ S:=by rw [sz1];exact Ne.symm (Nat.ne_of_lt (Nat.lt_succ_of_lt hSlt))
 have hkI:∀p∈kas,p.2 ≠ h1.objs.size:=fun p hp=>by rw [sz1];exact Nat.ne_of_lt (Nat.lt_succ_of_lt (klt p hp))
 have W:=aQb (prog:=prog) (w:=w) (A:=A.in1) (I:=h1.objs.size) (S:=S) (o:=o) (es:=es) (ep:=ep) (t:=t) (kas:=kas) (by simpa using hh) hd hpl hled hIS hkI
 have hLf:s.heap.objs.size ∉ h1.objs.size::S::kas.map (·.2):=fun z=>by
  rcases List.mem_cons.mp z with z | z
  ·rw [sz1] at z;exact Nat.succ_ne_self _ z.symm
  ·rcases List.mem_cons.mp z with z | z
   ·exact hne z
   ·obtain ⟨p,hp,e⟩:=List.mem_map.mp z
    exact Nat.ne_of_lt (klt p hp) e
 have hn:es.size<=sizeLine:=by
  rw [sizeLine_eq,T.len]
  rcases hsz with ⟨_,h⟩ | ⟨_,h⟩<;>omega
 refine wpAny_pure ⟨plainId_quiet PySem.F.plain_extend_loop _,codeAny_extend_loopS W.toS hn _ hLf _ es.size 0 _ _ _ rfl (Nat.zero_le _) ⟨0,hI4,fun _=>aDq T.ok.rise,hS4,T4⟩ hL4 (ItemsOf.nil _) fun s' acc' c' hm hS' hacc=>?_⟩
 show wpAny _ A (load s.heap.objs.size >>= _) _ _ s'
 refine wpAny_bind (wpAny_load hS' ?_)
 refine wpAny_pure ?_
 have eacc:=aDr (ws:=gD w S ep es) (by rw [rM];exact hacc) (fun i v h=>h)
 show Q acc'.toList s'
 have pm:(gD w S ep es).toList.Perm (kas.map fun p=>(tupleKeyHash (intKind prog w) p.1,Value.ref p.2)):=by
  have:=xS (w:=w) (S:=S) (ep:=ep) (es:=es)
  rw [T.ents] at this;exact this
 obtain ⟨kas',ek,pk⟩:=yQ pm
 rw [eacc,ek,List.map_map]
 refine hQ kas' s' pk ⟨fun b o' _ e=>?_,hm.gens,hm.drawn,hm.os,hm.toks⟩ (Nat.le_of_lt (Heap.lt_size hS'))
 have hb1:b ≠ s.heap.objs.size:=Nat.ne_of_lt (Heap.lt_size e)
 have hb2:b ≠ h1.objs.size:=by rw [sz1];exact Nat.ne_of_lt (Nat.lt_succ_of_lt (Heap.lt_size e))
 refine hm.heap b o' (fun z=>?_) (by show h4.get? b=some o';rw [e4 b hb1];exact e2 _ _ (e1 _ _ e))
 rcases List.mem_cons.mp z with z | z
 ·exact hb1 z
 ·exact hb2 (List.mem_singleton.mp z)
end
end ST
end
section
namespace ST
open PySem PySem.W PyProof.Rows
section
variable {n:Nat} {lt:Nat->Nat->Bool} {cmp:Nat->Nat->(Bool->Shared->Prop)->Shared->Prop} {s:Shared}
structure Ord (n:Nat) (lt:Nat->Nat->Bool):Prop where
 irr:∀i,lt i i=false
 tr:∀i j k,lt i j=true->lt j k=true->lt i k=true
 tot:∀i j,i<n->j<n->i ≠ j->lt i j=true\/lt j i=true
structure Arr (n:Nat) (p:Array Nat):Prop where
 size:p.size=n
 lt:∀i,i<n->p.getD i 0<n
 inj:∀i j,i<n->j<n->p.getD i 0=p.getD j 0->i=j
def Up (lt:Nat->Nat->Bool) (p:Array Nat) (k:Nat):Prop:=∀i j,i<j->j<k->lt (p.getD i 0) (p.getD j 0)=true
def Down (lt:Nat->Nat->Bool) (p:Array Nat) (k:Nat):Prop:=∀i j,i<j->j<k->lt (p.getD j 0) (p.getD i 0)=true
theorem aNq (o:Ord n lt) {p:Array Nat} {k:Nat} (hk:1<=k) (h:Up lt p k) (h1:lt (p.getD (k - 1) 0) (p.getD k 0)=true):Up lt p (k+1):=fun i j hij hj=>by
 by_cases q:j=k
 ·subst q
  by_cases q2:i=j - 1
  ·subst q2;exact h1
  ·exact o.tr _ _ _ (h i (j - 1) (by omega) (by omega)) h1
 ·exact h i j hij (by omega)
theorem aF7 (o:Ord n lt) {p:Array Nat} {k:Nat} (hk:1<=k) (h:Down lt p k) (h1:lt (p.getD k 0) (p.getD (k - 1) 0)=true):Down lt p (k+1):=fun i j hij hj=>by
 by_cases q:j=k
 ·subst q
  by_cases q2:i=j - 1
  ·subst q2;exact h1
  ·exact o.tr _ _ _ h1 (h i (j - 1) (by omega) (by omega))
 ·exact h i j hij (by omega)
variable (o:Ord n lt) (hc:∀i j,i<n->j<n->∀C:Bool->Shared->Prop,C (lt i j) s->cmp i j C s)
include o hc
theorem aC0 {p:Array Nat} (a:Arr n p):∀(f m:Nat) {Q:Nat->Shared->Prop},m+f=n->1<=m->Up lt p m->(∀m',m<=m'->m'<=n->Up lt p m'->(m'<n->lt (p.getD m' 0) (p.getD (m' - 1) 0)=true)->Q m' s)->(kas_asc p f m).kasWp cmp Q s
 | 0,m,Q,e,h1,hu,hq=>hq m (Nat.le_refl _) (by omega) hu fun z=>by omega
 | f+1,m,Q,e,h1,hu,hq=>by
  refine hc _ _ (a.lt m (by omega)) (a.lt (m - 1) (by omega)) _ ?_
  cases ec:lt (p.getD m 0) (p.getD (m - 1) 0) with
  | true =>
   dsimp only;rw [if_pos rfl]
   exact hq m (Nat.le_refl _) (by omega) hu fun _=>ec
  | false =>
   dsimp only;rw [if_neg (by simp)]
   have h2:lt (p.getD (m - 1) 0) (p.getD m 0)=true:=by
    rcases o.tot _ _ (a.lt (m - 1) (by omega)) (a.lt m (by omega)) (fun z=>by have:=a.inj _ _ (by omega) (by omega) z;omega) with q | q
    ·exact q
    ·rw [ec] at q;cases q
   exact aC0 a f (m+1) (by omega) (by omega) (aNq o h1 hu h2) fun m' g1 g2 g3 g4=>hq m' (by omega) g2 g3 g4
theorem aD9 {p:Array Nat} (a:Arr n p):∀(f k:Nat) {Q:Array Nat×Nat×Nat->Shared->Prop},k+f=n->2<=k->Down lt p k->(∀k',k<=k'->k'<=n->Down lt p k'->Q (p,k',0) s)->(kas_desc f p k 0).kasWp cmp Q s
 | 0,k,Q,e,h1,hd,hq=>hq k (Nat.le_refl _) (by omega) hd
 | f+1,k,Q,e,h1,hd,hq=>by
  refine hc _ _ (a.lt k (by omega)) (a.lt (k - 1) (by omega)) _ ?_
  cases ec:lt (p.getD k 0) (p.getD (k - 1) 0) with
  | true =>
   dsimp only;rw [if_pos rfl,if_neg (by omega)]
   exact aD9 a f (k+1) (by omega) (by omega) (aF7 o (by omega) hd ec) fun k' g1 g2 g3=>hq k' (by omega) g2 g3
  | false =>
   dsimp only;rw [if_neg (by simp)]
   refine hc _ _ (a.lt (k - 1) (by omega)) (a.lt k (by omega)) _ ?_
   have h2:lt (p.getD (k - 1) 0) (p.getD k 0)=true:=by
    rcases o.tot _ _ (a.lt (k - 1) (by omega)) (a.lt k (by omega)) (fun z=>by have:=a.inj _ _ (by omega) (by omega) z;omega) with q | q
    ·exact q
    ·rw [ec] at q;cases q
   rw [h2];dsimp only;rw [if_pos rfl]
   exact hq k (Nat.le_refl _) (by omega) hd
end
theorem getD_eq {p:Array Nat} {i:Nat}:p.getD i 0=(p[i]?).getD 0:=by
 by_cases h:i<p.size
 ·simp [Array.getD,h]
 ·simp [Array.getD,h,Array.getElem?_eq_none (Nat.le_of_not_lt h)]
theorem rev_getD {n:Nat} {p:Array Nat} (hs:p.size=n) {k:Nat} (hk:k<=n) (i:Nat):(kas_rev p 0 k).getD i 0=if i<k then p.getD (k - 1 - i) 0 else p.getD i 0:=by
 rw [getD_eq]
 unfold kas_rev
 rw [getElem?_mirror (by omega) _ (by omega)]
 by_cases h1:i<k
 ·rw [if_pos h1]
  by_cases h2:(0<=i/\i<0+(k - 0) / 2)\/(k - (k - 0) / 2<=i/\i<k)
  ·rw [if_pos h2,getD_eq,show 0+k - 1 - i=k - 1 - i by omega]
  ·rw [if_neg h2,getD_eq]
   have:i=k - 1 - i:=by omega
   rw [<- this]
 ·rw [if_neg h1,if_neg (by omega),getD_eq]
theorem aE1 {n:Nat} {p:Array Nat} (a:Arr n p) {k:Nat} (hk:k<=n):Arr n (kas_rev p 0 k):=by
 refine ⟨by rw [kas_rev_size];exact a.size,fun i hi=>?_,fun i j hi hj e=>?_⟩
 ·rw [rev_getD a.size hk];split<;>exact a.lt _ (by omega)
 ·rw [rev_getD a.size hk,rev_getD a.size hk] at e
  split at e
  ·split at e
   ·have:=a.inj _ _ (by omega) (by omega) e;omega
   ·have:=a.inj _ _ (by omega) (by omega) e;omega
  ·split at e
   ·have:=a.inj _ _ (by omega) (by omega) e;omega
   ·exact a.inj _ _ (by omega) (by omega) e
theorem oA {n:Nat} {p:Array Nat} (hs:p.size=n) {k l:Nat} (hk:k<n) (hl:l<=k) (i:Nat):(bubble p k (k - l)).getD i 0=if i=l then p.getD k 0 else if l<i/\i<=k then p.getD (i - 1) 0 else p.getD i 0:=by
 rw [getD_eq,getElem?_bubble (by omega) _ (by omega),show k - (k - l)=l by omega]
 split
 ·rw [getD_eq]
 ·split
  ·rw [getD_eq]
  ·rw [getD_eq]
theorem aL5 {n:Nat} {p:Array Nat} (a:Arr n p) {k l:Nat} (hk:k<n) (hl:l<=k):Arr n (bubble p k (k - l)):=by
 refine ⟨by rw [bubble_size];exact a.size,fun i hi=>?_,fun i j hi hj e=>?_⟩
 ·rw [oA a.size hk hl];split
  ·exact a.lt _ hk
  ·split<;>exact a.lt _ (by omega)
 ·rw [oA a.size hk hl,oA a.size hk hl] at e
  have iv:∀x y,x<n->y<n->p.getD x 0=p.getD y 0->x=y:=a.inj
  split at e
  ·split at e
   ·omega
   ·split at e
    ·have:=iv _ _ (by omega) (by omega) e;omega
    ·have:=iv _ _ (by omega) (by omega) e;omega
  ·split at e
   ·split at e
    ·have:=iv _ _ (by omega) (by omega) e;omega
    ·split at e
     ·have:=iv _ _ (by omega) (by omega) e;omega
     ·have:=iv _ _ (by omega) (by omega) e;omega
   ·split at e
    ·have:=iv _ _ (by omega) (by omega) e;omega
    ·split at e
     ·have:=iv _ _ (by omega) (by omega) e;omega
     ·exact iv _ _ (by omega) (by omega) e
section
variable {n:Nat} {lt:Nat->Nat->Bool} {cmp:Nat->Nat->(Bool->Shared->Prop)->Shared->Prop} {s:Shared}
variable (o:Ord n lt) (hc:∀i j,i<n->j<n->∀C:Bool->Shared->Prop,C (lt i j) s->cmp i j C s)
include o hc
theorem aMm {p:Array Nat} (a:Arr n p) {k:Nat} (hk:1<=k) (hkn:k<=n) (hd:Down lt p k) {Q:Nat×Array Nat->Shared->Prop} (hq:∀m p',Arr n p'->1<=m->m<=n->Up lt p' m->Q (m,p') s):(kas_tail3 k n p).kasWp cmp Q s:=by
 unfold kas_tail3
 rw [KasT.kasWp_bind]
 refine aC0 o hc (aE1 a hkn) (n - k) k (by omega) hk (fun i j hij hj=>?_) fun m' g1 g2 g3 g4=>hq m' _ (aE1 a hkn) (by omega) g2 g3
 rw [rev_getD a.size hkn,rev_getD a.size hkn,if_pos (by omega),if_pos (by omega)]
 exact hd _ _ (by omega) (by omega)
theorem aHt {p:Array Nat} (a:Arr n p) (hn:1<=n) {Q:Nat×Array Nat->Shared->Prop} (hq:∀m p',Arr n p'->1<=m->m<=n->Up lt p' m->Q (m,p') s):(kas_count n p).kasWp cmp Q s:=by
 unfold kas_count
 rw [KasT.kasWp_bind]
 refine aC0 o hc a (n - 1) 1 (by omega) (Nat.le_refl _) (fun i j h1 h2=>by omega) fun m g1 g2 g3 g4=>?_
 by_cases hm:m=n
 ·rw [if_pos (by simp [hm])]
  exact hq m p a g1 g2 g3
 ·rw [if_neg (by simpa using hm)]
  by_cases h1:m > 1
  ·rw [if_pos h1]
   refine hc _ _ (a.lt 0 (by omega)) (a.lt (m - 1) (by omega)) _ ?_
   rw [g3 0 (m - 1) (by omega) (by omega)];dsimp only;rw [if_pos rfl]
   exact hq m p a g1 g2 g3
  ·rw [if_neg h1]
   have e1:m=1:=by omega
   subst e1
   have h10:=g4 (by omega)
   unfold kas_descPart
   rw [KasT.kasWp_bind]
   refine aD9 o hc a (n - 2) 2 (by omega) (Nat.le_refl _) (fun i j hij hj=>?_) fun k' q1 q2 q3=>?_
   ·have:i=0:=by omega
    have:j=1:=by omega
    subst i;subst j;exact h10
   ·dsimp only
    rw [if_neg (by omega)]
    exact aMm o hc a (by omega) q2 q3 hq
theorem uT {p:Array Nat} (a:Arr n p) {k:Nat} (hk:k<n) (hu:Up lt p k):∀(f l r:Nat) {Q:Nat->Shared->Prop},r - l<=f->l<=r->r<=k->(∀i,i<l->lt (p.getD i 0) (p.getD k 0)=true)->(∀i,r<=i->i<k->lt (p.getD k 0) (p.getD i 0)=true) ->
  (∀l',l'<=k->(∀i,i<l'->lt (p.getD i 0) (p.getD k 0)=true)->(∀i,l'<=i->i<k->lt (p.getD k 0) (p.getD i 0)=true)->Q l' s)->(kas_place p k f l r).kasWp cmp Q s
 | 0,l,r,Q,h1,h2,h3,h4,h5,hq=>by
  have:l=r:=by omega
  subst this
  exact hq l h3 h4 h5
 | f+1,l,r,Q,h1,h2,h3,h4,h5,hq=>by
  unfold kas_place
  by_cases hlr:l >= r
  ·rw [if_pos hlr]
   have:l=r:=by omega
   subst this
   exact hq l h3 h4 h5
  ·rw [if_neg hlr]
   refine hc _ _ (a.lt k hk) (a.lt _ (by omega)) _ ?_
   cases ec:lt (p.getD k 0) (p.getD ((l+r) / 2) 0) with
   | true =>
    dsimp only;rw [if_pos rfl]
    refine uT a hk hu f l ((l+r) / 2) (by omega) (by omega) (by omega) h4 (fun i g1 g2=>?_) hq
    by_cases q:i=(l+r) / 2
    ·subst q;exact ec
    ·exact o.tr _ _ _ ec (hu _ _ (by omega) g2)
   | false =>
    dsimp only;rw [if_neg (by simp)]
    have h6:lt (p.getD ((l+r) / 2) 0) (p.getD k 0)=true:=by
     rcases o.tot _ _ (a.lt ((l+r) / 2) (by omega)) (a.lt k hk) (fun z=>by have:=a.inj _ _ (by omega) (by omega) z;omega) with q | q
     ·exact q
     ·rw [ec] at q;cases q
    refine uT a hk hu f ((l+r) / 2+1) r (by omega) (by omega) h3 (fun i g1=>?_) h5 hq
    by_cases q:i=(l+r) / 2
    ·subst q;exact h6
    ·exact o.tr _ _ _ (hu _ _ (by omega) (by omega)) h6
theorem aJu:∀(f k:Nat) (p:Array Nat) {Q:Array Nat->Shared->Prop},Arr n p->k+f=n->Up lt p k->(∀p',Arr n p'->Up lt p' n->Q p' s)->(kas_bin f p k).kasWp cmp Q s
 | 0,k,p,Q,a,e,hu,hq=>by
  have:k=n:=by omega
  subst this
  exact hq p a hu
 | f+1,k,p,Q,a,e,hu,hq=>by
  unfold kas_bin
  rw [KasT.kasWp_bind]
  refine uT o hc a (show k<n by omega) hu k 0 k (by omega) (by omega) (Nat.le_refl _) (fun i hi=>by omega) (fun i h1 h2=>by omega) fun l h1 h2 h3=>?_
  refine aJu f (k+1) _ (aL5 a (by omega) h1) (by omega) (fun i j hij hj=>?_) hq
  rw [oA a.size (by omega) h1,oA a.size (by omega) h1]
  by_cases q1:i=l
  ·rw [if_pos q1,if_neg (by omega),if_pos (by omega)]
   exact h3 _ (by omega) (by omega)
  ·rw [if_neg q1]
   by_cases q2:l<i/\i<=k
   ·rw [if_pos q2,if_neg (by omega),if_pos (by omega)]
    exact hu _ _ (by omega) (by omega)
   ·rw [if_neg q2]
    by_cases q3:j=l
    ·rw [if_pos q3];exact h2 _ (by omega)
    ·rw [if_neg q3]
     by_cases q4:l<j/\j<=k
     ·rw [if_pos q4];exact hu _ _ (by omega) (by omega)
     ·rw [if_neg q4];exact hu _ _ (by omega) (by omega)
theorem aLo (hn:1<=n) {Q:Array Nat->Shared->Prop} (hq:∀p,Arr n p->Up lt p n->Q p s):(kas_sort n).kasWp cmp Q s:=by
 have a0:Arr n (List.toArray (List.range n)):=by
  have g:∀i,i<n->(List.toArray (List.range n)).getD i 0=i:=fun i hi=>by rw [getD_eq,List.getElem?_toArray,List.getElem?_range hi];rfl
  exact ⟨by simp,fun i hi=>by rw [g i hi];exact hi,fun i j hi hj e=>by rwa [g i hi,g j hj] at e⟩
 unfold kas_sort
 rw [KasT.kasWp_bind]
 refine aHt o hc a0 hn fun m p' a' h1 h2 hu=>?_
 dsimp only
 by_cases hm:m<n
 ·rw [if_pos hm,show max m 1=m by omega]
  exact aJu o hc (n - m) m p' a' (by omega) hu hq
 ·rw [if_neg hm]
  have:m=n:=by omega
  subst this
  exact hq p' a' hu
end
end ST
end
section
namespace ST
open PySem PySem.W PyProof.Rows
def ltL:Y0->Y0->Bool
 | [],[]=>false
 | [],_::_=>true
 | _::_,[]=>false
 | x::xs,y::ys=>if x=y then ltL xs ys else decide (x<y)
theorem ltL_irr:∀x,ltL x x=false
 | []=>rfl
 | x::xs=>by unfold ltL;rw [if_pos rfl];exact ltL_irr xs
theorem ltL_tr:∀x y z,ltL x y=true->ltL y z=true->ltL x z=true
 | [],[],z,h,_=>by cases h
 | [],_::_,[],_,h=>by cases h
 | [],_::_,_::_,_,_=>rfl
 | _::_,[],_,h,_=>by cases h
 | _::_,_::_,[],_,h=>by cases h
 | x::xs,y::ys,z::zs,h1,h2=>by
  unfold ltL at h1 h2 ⊢
  by_cases e1:x=y
  ·rw [if_pos e1] at h1
   subst e1
   by_cases e2:x=z
   ·rw [if_pos e2] at h2 ⊢;exact ltL_tr xs ys zs h1 h2
   ·rw [if_neg e2] at h2 ⊢;exact h2
  ·rw [if_neg e1] at h1
   have h1:=of_decide_eq_true h1
   by_cases e2:y=z
   ·subst e2;rw [if_neg e1];exact decide_eq_true h1
   ·rw [if_neg e2] at h2
    have h2:=of_decide_eq_true h2
    rw [if_neg (by omega)];exact decide_eq_true (by omega)
theorem ltL_tot:∀x y,x ≠ y->ltL x y=true\/ltL y x=true
 | [],[],h=>absurd rfl h
 | [],_::_,_=>.inl rfl
 | _::_,[],_=>.inr rfl
 | x::xs,y::ys,h=>by
  unfold ltL
  by_cases e:x=y
  ·subst e
   rw [if_pos rfl,if_pos rfl]
   exact ltL_tot xs ys fun z=>h (by rw [z])
  ·rw [if_neg e,if_neg (Ne.symm e)]
   rcases Int.lt_or_gt_of_ne e with q | q
   ·exact .inl (decide_eq_true q)
   ·exact .inr (decide_eq_true q)
section
variable {prog:Program} {w:World} {A:Around} {E:Y9} {s:Shared}
theorem aKf {b:Bool} {Q:Bool->Shared->Prop}:∀ {x y:Y0} {xs ys:Y1} {fin:Bool} (i:Nat),ItemsAre (intKind prog w) x xs->ItemsAre (intKind prog w) y ys->fin=decide (x.length<y.length)->Q (ltL x y) s->KatLex prog w A b fin Q (xs.zip ys) i s
 | _,_,_,_,fin,i,.nil,.nil,hf,hq=>by
  have:fin=false:=by rw [hf];rfl
  subst this
  exact kat_nil hq
 | _,_,_,_,fin,i,.nil,.cons _ _,hf,hq=>by
  have:fin=true:=by rw [hf];simp
  subst this
  exact kat_nil hq
 | _,_,_,_,fin,i,.cons _ _,.nil,hf,hq=>by
  have:fin=false:=by rw [hf];simp
  subst this
  exact kat_nil hq
 | x::x',y::y',_,_,fin,i,.cons h1 hx,.cons h2 hy,hf,hq=>by
  refine kat_cons ((intKind prog w).eqBool h1 h2 ?_)
  unfold ltL at hq
  by_cases e:x=y
  ·rw [decide_eq_true e]
   rw [if_pos e] at hq
   have hf':fin=decide (x'.length<y'.length):=by
    rw [hf];simp only [List.length_cons,Nat.add_lt_add_iff_right]
   exact kat_yes (aKf (i+1) hx hy hf' hq)
  ·rw [decide_eq_false e]
   rw [if_neg e] at hq
   obtain ⟨t,rfl⟩:=Value.isInt_shape h1
   obtain ⟨u,rfl⟩:=Value.isInt_shape h2
   refine kat_no ?_
   cases (b && i == 0) with
   | true=>exact oneLt_int hq
   | false=>exact kat_one _ _ (PyProof.Rows.lt_int (show W.BoolBack Q (.bool _) s from hq))
theorem aT5 {b:Bool} {Q:Bool->Shared->Prop} {x y:Y0} {a c:Addr} (hx:IsTupleKey (intKind prog w) s.heap x a) (hy:IsTupleKey (intKind prog w) s.heap y c) (hq:Q (ltL x y) s):wpAny (model prog w) A (keyLt' (tuples' b) (.ref a) (.ref c)) Q E s:=by
 obtain ⟨ox,xs,n,hox,_,hdx,hix⟩:=hx
 obtain ⟨oy,ys,k,hoy,_,hdy,hiy⟩:=hy
 refine kat_lt hox hdx hoy hdy (aKf 0 hix hiy ?_ hq)
 have l1:=hix.length;have l2:=hiy.length
 simp at l1 l2
 rw [l1,l2]
end
end ST
end
section
namespace VL
open PySem L2
def mT:List D->Option (LI)
 | []=>some []
 | d::ds=>match d with
  | .tup es=>(match eD es,mT ds with | some k,some ks=>some (k::ks) | _,_=>none)
  | _=>none
def sZ (k:Y0):LI->LI
 | []=>[k]
 | x::xs=>if ST.ltL k x=true then k::x::xs else if k=x then x::xs else x::sZ k xs
def jO (ks:LI):LI:=ks.foldr sZ []
def TI (k:Y0):D:=.tup (k.map .int)
def kSS:List (D×Bool)->R (D×Bool)
 | [(.lst _ ds,_)]=>(match mT ds with
  | some ks=>if decide (ks.length<=18) && ks.all (fun k=>!k.isEmpty) then .ok (.lst true ((jO ks).map TI),true) else .bad
  | none=>.bad)
 | _=>.bad
def aLy:D×Bool->D×Bool->R (D×Bool):=fun x y=>match x.1,y.1 with
 | .tup ds,.tup es=>(match eD ds,eD es with | some a,some b=>.ok (.bl (!ST.ltL b a),true) | _,_=>.bad)
 | _,_=>.bad
def aGi (d:D):Option D:=match d with | .lst true ds=>if D.bK ds && decide (ds.length<1000000) then some (.lst true ds.reverse) else none | _=>none
def aG6 (i:Nat):aX:=fun ρ=>match (getD ρ i).bind aGi with | some d=>.next (putD ρ i d) | none=>.bad
end VL
end
section
namespace ST
open PySem PySem.W PyProof.Rows
section
variable {prog:Program} {w:World} {A:Around} {E:Y9} {s:Shared}
def refs (kas:Y7):Y1:=kas.map fun p=>Value.ref p.2
theorem uO (kas:Y7) {i:Nat} (h:i<kas.length):(refs kas).getD i Value.none=Value.ref (kas[i].2):=by
 simp [refs,h]
theorem wB {h:Heap}:∀ {kas:Y7},(∀p∈kas,IsTupleKey (intKind prog w) h p.1 p.2)->(∀p∈kas,p.1 ≠ [])->∃fs,KatTups h (refs kas) fs/\fs.length=kas.length/\∀v∈fs,∃x t,v=.int x t
 | [],_,_=>⟨[],KatTups.nil,rfl,fun v hv=>by simp at hv⟩
 | p::kas,hk,hn=>by
  obtain ⟨fs,h1,h2,h3⟩:=wB (fun q hq=>hk q (List.mem_cons_of_mem _ hq)) fun q hq=>hn q (List.mem_cons_of_mem _ hq)
  obtain ⟨o,items,m,ho,hc,hd,hi⟩:=hk p List.mem_cons_self
  have hne:=hn p List.mem_cons_self
  obtain ⟨ks,ad⟩:=p
  cases hq:items.toList with
  | nil=>rw [hq] at hi;cases hi;exact absurd rfl hne
  | cons v vs =>
   rw [hq] at hi
   cases hi with
   | @cons k _ _ _ h4 _ =>
    obtain ⟨t,rfl⟩:=Value.isInt_shape h4
    refine ⟨.int k t::fs,KatTups.cons ho hc hd ?_ h1,by simp [h2],fun v hv=>?_⟩
    ·rw [<- Array.getElem?_toList,hq];rfl
    ·rcases List.mem_cons.mp hv with rfl | hv
     ·exact ⟨_,t,rfl⟩
     ·exact h3 v hv
theorem aBw {a:Addr} {kas:Y7} {n:Nat} {P:PySem.Fin->Shared->Prop} (ho:s.heap.get? a=some (seqObj "list" (refs kas).toArray n)) (hk:∀p∈kas,IsTupleKey (intKind prog w) s.heap p.1 p.2) (hne:∀p∈kas,p.1 ≠ []) (nd:(kas.map (·.1)).Nodup) (h64:kas.length<64)
  (h:∀kas':Y7,kas'.Perm kas->kas'.Pairwise (fun x y=>ltL x.1 y.1=true)->P (.done (.ret .none)) { s with heap:=sortedHeap s.heap a (refs kas) (refs kas').toArray }) :
  wpAny (model prog w) A (Builtin.«list.sort» ⟨[.ref a],[]⟩) P E s:=by
 rw [list_sort_plain]
 have ha:a<s.heap.objs.size:=Heap.lt_size ho
 have hl:(refs kas).length=kas.length:=by simp [refs]
 refine wpAny_bind (listItems_at ho rfl ?_)
 refine wpAny_bind (listUpdate_at ho rfl ?_ (by rw [List.size_toArray,sizeLine_eq,hl];omega) (Nat.zero_le _))
 obtain ⟨e1,ho1⟩:∃e1,(s.heap.update a (Obj.mapSeq fun _=>#[])).get? a=some (seqObj "list" #[] e1):=⟨_,get?_update_seq ho (fun _=>#[])⟩
 refine wpAny_bind (seqEpoch_at ho1 rfl ?_)
 refine wpAny_bind (wpAny_newTuple ?_ (by show (refs kas).length<=_;rw [sizeLine_eq,hl];omega))
 refine wpAny_bind (wpAny_newList ?_ (Nat.zero_le _))
 refine wpAny_holding ?_
 have ho6:(((s.heap.update a (Obj.mapSeq fun _=>#[])).push (seqObj "tuple" (refs kas).toArray 0)).push (seqObj "list" #[] 0)).get? a=some (seqObj "list" #[] e1) :=
  Heap.get?_push_of_some _ (Heap.get?_push_of_some _ ho1)
 have hk6:∀p∈kas,IsTupleKey (intKind prog w) (((s.heap.update a (Obj.mapSeq fun _=>#[])).push (seqObj "tuple" (refs kas).toArray 0)).push (seqObj "list" #[] 0)) p.1 p.2:=fun p hp=>by
  obtain ⟨o,items,m,h1,h2,h3,h4⟩:=hk p hp
  have hpa:p.2 ≠ a:=fun z=>by
   rw [z] at h1
   rw [ho] at h1
   cases h1
   exact absurd (show Value.type "list" = Value.type "tuple" from h2) (by decide)
  refine ⟨o,items,m,Heap.get?_push_of_some _ (Heap.get?_push_of_some _ ?_),h2,h3,h4⟩
  rw [Heap.get?_update_other _ _ (Ne.symm hpa)];exact h1
 show wpAny (model prog w) A _ P E { s with heap:=((s.heap.update a (Obj.mapSeq fun _=>#[])).push (seqObj "tuple" (refs kas).toArray 0)).push (seqObj "list" #[] 0) }
 dsimp only
 by_cases h2:(refs kas).toArray.size<2
 ·rw [if_pos h2,if_pos h2]
  refine wpAny_bind (wpAny_pure ?_)
  rw [StateT.run_pure]
  refine wpAny_bind (wpAny_pure ?_)
  dsimp only
  refine wpAny_bind (seqEpoch_at ho6 rfl ?_)
  have e0:((arrOf (SortSt.mk' general' ((refs kas).toArray.zip (refs kas).toArray) #[] 7 none)).map (·.2))=(refs kas).toArray:=by
   show ((refs kas).toArray.zip (refs kas).toArray).map (·.2)=_
   apply Array.toList_inj.mp
   simp
   exact List.map_snd_zip (Nat.le_refl _)
  refine wpAny_bind (listUpdate_at ho6 rfl ?_ (Nat.zero_le _) (hsz2:=by rw [e0,List.size_toArray,sizeLine_eq,hl];omega))
  rw [e0]
  simp only [bne_self_eq_false,Bool.false_eq_true,if_false]
  refine wpAny_pure (h kas (.refl _) ?_)
  rw [List.size_toArray,hl] at h2
  match kas,h2 with
  | [],_=>exact .nil
  | [x],_=>exact List.pairwise_singleton _ _
  | _::_::_,h2=>simp at h2;omega
 ·rw [if_neg h2,if_neg h2]
  rw [List.size_toArray,hl] at h2
  obtain ⟨fs,t1,t2,t3⟩:=wB hk6 hne
  refine wpAny_bind (kat_kind (T:=.type "int") t1 (by omega) (fun v hv=>?_) (by decide) ?_)
  ·obtain ⟨x,t,rfl⟩:=t3 v hv
   exact Looks.of_pure rfl
  ·have inj:∀i j (hi:i<kas.length) (hj:j<kas.length),kas[i].1=kas[j].1->i=j:=fun i j hi hj e=>by
    have:=(List.getElem_inj (xs:=kas.map (·.1)) (i:=i) (j:=j) (h₀:=by simpa using hi) (h₁:=by simpa using hj) nd).mp (by simpa using e)
    exact this
   have o:Ord kas.length (fun i j=>ltL ((kas[i]?.map (·.1)).getD []) ((kas[j]?.map (·.1)).getD [])):=by
    refine ⟨fun i=>ltL_irr _,fun i j k=>ltL_tr _ _ _,fun i j hi hj hij=>ltL_tot _ _ fun z=>hij (inj i j hi hj ?_)⟩
    simpa [hi,hj] using z
   refine wpAny_bind (wpAny_mono (kat_run (ks:=refs kas) (vs:=refs kas) (κ:=tuples' (Value.type "int" != Value.type "tuple")) (Q:=fun st' s'=>∃p:Array Nat,arrOf st'=p.map (kas_item ((refs kas).toArray.zip (refs kas).toArray))/\failedOf st'=none/\Arr kas.length p/\Up (fun i j=>ltL ((kas[i]?.map (·.1)).getD []) ((kas[j]?.map (·.1)).getD [])) p kas.length/\s'={ s with heap:=((s.heap.update a (Obj.mapSeq fun _=>#[])).push (seqObj "tuple" (refs kas).toArray 0)).push (seqObj "list" #[] 0) })
    (G:=fun p s'=>Arr kas.length p/\Up (fun i j=>ltL ((kas[i]?.map (·.1)).getD []) ((kas[j]?.map (·.1)).getD [])) p kas.length/\s'={ s with heap:=((s.heap.update a (Obj.mapSeq fun _=>#[])).push (seqObj "tuple" (refs kas).toArray 0)).push (seqObj "list" #[] 0) })
    rfl (by omega) (by omega) (fun p st' s' _ a2 a3 a4=>⟨p,a2,a3,a4⟩) ?_) ?_ fun _ _ e=>e)
   ·rw [hl]
    refine aLo o (fun i j hi hj C hC=>?_) (by omega) fun p a1 a2=>⟨a1,a2,rfl⟩
    unfold kas_ask
    rw [uO kas hi,uO kas hj]
    refine aT5 (hk6 _ (List.getElem_mem hi)) (hk6 _ (List.getElem_mem hj)) ?_
    simpa [hi,hj] using hC
   ·rintro ⟨⟨⟩,st'⟩ s' ⟨p,har,hf,ar,up,rfl⟩
    dsimp only
    have hout:=kat_snds (ks:=refs kas) (vs:=refs kas) rfl har
    obtain ⟨kas',ek⟩:∃kas',kas'=p.toList.map fun i=>kas.getD i ([],0):=⟨_,rfl⟩
    have psz:p.toList.length=kas.length:=by rw [Array.length_toList,ar.size]
    have plt:∀i∈p.toList,i<kas.length:=fun i hi=>by
     obtain ⟨k,hk',e⟩:=List.mem_iff_getElem.mp hi
     have:=ar.lt k (by omega)
     rw [getD_eq,Array.getElem?_eq_getElem (by rw [ar.size];omega)] at this
     rw [<- e];simpa using this
    have pget:∀k (hk':k<kas.length),p.getD k 0=p.toList[k]'(by omega):=fun k hk'=>by
     rw [getD_eq,Array.getElem?_eq_getElem (by rw [ar.size];omega)];simp
    have er:(p.toList.map fun i=>(refs kas).getD i Value.none)=refs kas':=by
     rw [ek]
     show _=List.map (fun p:Y0×Addr=>Value.ref p.2) (List.map (fun i=>kas.getD i ([],0)) p.toList)
     rw [List.map_map]
     refine List.map_congr_left fun i hi=>?_
     have:=plt i hi
     rw [uO kas this]
     simp [this]
    rw [er] at hout
    have hsz:(refs kas').length=kas.length:=by rw [<- er,List.length_map,psz]
    refine wpAny_bind (seqEpoch_at ho6 rfl ?_)
    refine wpAny_bind (listUpdate_at ho6 rfl ?_ (Nat.zero_le _) (hsz2:=by rw [hout,List.size_toArray,hsz,sizeLine_eq];omega))
    rw [hf,hout]
    simp only [bne_self_eq_false,Bool.false_eq_true,if_false]
    refine wpAny_pure (h kas' ?_ ?_)
    ·have pp:p.toList.Perm (List.range kas.length):=by
      refine (List.perm_ext_iff_of_nodup ?_ List.nodup_range).mpr fun k=>?_
      ·refine List.pairwise_iff_getElem.mpr fun i j hi hj hij z=>?_
       have:=ar.inj i j (by omega) (by omega) (by rw [pget i (by omega),pget j (by omega)];exact z)
       omega
      ·constructor
       ·intro hk';exact List.mem_range.mpr (plt k hk')
       ·intro hk'
        refine Classical.byContradiction fun z=>?_
        have nd2:p.toList.Nodup:=by
         refine List.pairwise_iff_getElem.mpr fun i j hi hj hij z=>?_
         have:=ar.inj i j (by omega) (by omega) (by rw [pget i (by omega),pget j (by omega)];exact z)
         omega
        have sub:(k::p.toList) ⊆ List.range kas.length:=fun y hy=>by
         rcases List.mem_cons.mp hy with rfl | hy
         ·exact hk'
         ·exact List.mem_range.mpr (plt y hy)
        have:=(List.nodup_cons.mpr ⟨z,nd2⟩).length_le_of_subset sub
        rw [List.length_cons,psz,List.length_range] at this
        omega
     have:=pp.map fun i=>kas.getD i ([],0)
     rw [<- ek] at this
     refine this.trans (List.Perm.of_eq ?_)
     refine List.ext_getElem (by simp) fun i h1 h2=>?_
     simp at h1
     simp [h1]
    ·rw [ek]
     refine List.pairwise_iff_getElem.mpr fun i j hi hj hij=>?_
     rw [List.length_map] at hi hj
     have u:=up i j hij (by omega)
     rw [pget i (by omega),pget j (by omega)] at u
     have l1:=plt _ (List.getElem_mem (l:=p.toList) (n:=i) hi)
     have l2:=plt _ (List.getElem_mem (l:=p.toList) (n:=j) hj)
     rw [List.getElem_map,List.getElem_map]
     have gd:∀k,k<kas.length->(kas.getD k ([],0)).1=((kas[k]?.map (·.1)).getD []):=fun k hk'=>by simp [hk']
     rw [gd _ l1,gd _ l2]
     exact u
end
end ST
end
section
namespace ST
open PySem PySem.W PyProof.Rows
section
variable {prog:Program} {w:World} {A:Around} {E:Y9} {s:Shared}
theorem sorted_set {S:Addr} {kas:Y7} {Q:Y9} (hh:A.handled=none) (hS:kZ prog w s.heap S kas) (hne:∀p∈kas,p.1 ≠ [])
  (h:∀(kas':Y7) (D:Addr) (e:Nat) (h':Heap) (tk:Nat),kas'.Perm kas->kas'.Pairwise (fun x y=>ltL x.1 y.1=true)->h'.get? D=some (seqObj "list" (refs kas').toArray e)->s.heap.objs.size<=D->s.toks<=tk->(∀b o,s.heap.get? b=some o->h'.get? b=some o) ->
   Q (.ref D) { s with heap:=h',toks:=tk }):wpAny (model prog w) A (call (.builtin "sorted") [.ref S]) Q E s:=by
 have hlen:=hS.len
 refine Calls.call_function_entry kind_sorted plain_sorted entry_sorted (args_sorted1 _) ?_
 unfold Builtin.«sorted»
 refine wpAny_bind (m:=checkCount "sorted" 1 1 _) (wpAny_pure ?_)
 refine wpAny_bind (aBy (by simpa using hh) hS fun kas1 s1 pk hm hsz=>?_)
 have hk1:∀p∈kas1,IsTupleKey (intKind prog w) s1.heap p.1 p.2:=fun p hp=>jE (hS.keys p (pk.subset hp)) fun o e=>hm.heap _ o (by simp) e
 have hl1:kas1.length=kas.length:=pk.length_eq
 refine wpAny_bind (wpAny_newList ?_ (by show (refs kas1).length<=_;rw [sizeLine_eq];simp [refs];omega))
 have hoL:(s1.heap.push (seqObj "list" (refs kas1).toArray 0)).get? s1.heap.objs.size=some (seqObj "list" (refs kas1).toArray 0):=Heap.get?_push_size _ rfl
 refine wpAny_bind (wpAny_holding (wpAny_call_entry slot_list_sort ⟨_,hoL,rfl⟩ entry_list_sort ?body (args_list_sort _)))
 case body =>
  refine aBw (s:={ s1 with heap:=s1.heap.push (seqObj "list" (refs kas1).toArray 0) }) hoL (fun p hp=>jE (hk1 p hp) fun o e=>Heap.get?_push_of_some _ e) (fun p hp=>hne p (pk.subset hp)) ((pk.map (·.1)).nodup_iff.mpr hS.nd) (by omega) fun kas2 pk2 up2=>?_
  refine ⟨_,rfl,wpAny_pure ⟨_,rfl,?_⟩⟩
  obtain ⟨h1,g1,d1,t1,o1⟩:=s1
  have eg:g1=s.gens:=hm.gens
  have ed:d1=s.drawn:=hm.drawn
  have eo:o1=s.os:=hm.os
  subst eg;subst ed;subst eo
  have hlt:h1.objs.size<(h1.push (seqObj "list" (refs kas1).toArray 0)).objs.size:=by rw [size_push'];exact Nat.lt_succ_self _
  obtain ⟨e2,he2⟩:∃e2,(sortedHeap (h1.push (seqObj "list" (refs kas1).toArray 0)) h1.objs.size (refs kas1) (refs kas2).toArray).get? h1.objs.size=some (seqObj "list" (refs kas2).toArray e2):=by
   unfold sortedHeap
   obtain ⟨e1,ho1⟩:∃e1,((h1.push (seqObj "list" (refs kas1).toArray 0)).update h1.objs.size (Obj.mapSeq fun _=>#[])).get? h1.objs.size=some (seqObj "list" #[] e1):=⟨_,get?_update_seq hoL (fun _=>#[])⟩
   exact ⟨_,get?_update_seq (Heap.get?_push_of_some _ (Heap.get?_push_of_some _ ho1)) fun _=>(refs kas2).toArray⟩
  refine h kas2 h1.objs.size e2 _ t1 (pk2.trans pk) up2 he2 hsz hm.toks fun b o e=>?_
  have e':h1.get? b=some o:=hm.heap b o (by simp) e
  have hne':h1.objs.size ≠ b:=Ne.symm (Nat.ne_of_lt (Heap.lt_size e'))
  unfold sortedHeap
  rw [Heap.get?_update_other _ _ hne']
  refine Heap.get?_push_of_some _ (Heap.get?_push_of_some _ ?_)
  rw [Heap.get?_update_other _ _ hne']
  exact Heap.get?_push_of_some _ e'
end
end ST
end
section
namespace VL
open PySem PySem.Spec PyProof.Rows L2
section
variable {P:Program} {w:World} {K:FG} {mg:Y6} {h:Heap}
theorem aRh {x:Str} {st:Stmt} {N ps:List Str} {k n np:Nat} {body:aX} (F:FnAt K x st) (kb:K.In h) (nb:h.Ns mainGlobals mg) (S:FnScope N ps (aH st)) (hN:N.length=n) (hnp:ps.length=np) (hk:np<=n)
  (hb:∀(kV doc pm:Value) (an:Option Addr) (cdv ct:Value) (us:Y1),us.length=ps.length->bindArgs (PySem.W.fnOf x x (jT st) (fJ st) (aH st) .none kV doc pm an cdv ct) ⟨us,[]⟩=pure (ps.zip us))
  (hbody:∀base:Heap,K.In base->base.Ns mainGlobals mg->∀(f:Addr) (cdv:Value) (A:Around) (outer:List PySem.Env) (s:Shared) (H:Hp) (E:XK),Room k (A.deeper (envOfC x (aH st) s.heap.objs.size f cdv)) ->
   SSs (fK (CX1 P w) P w K mg base N x (aH st) f cdv A outer s H E) (wOf K E) (fJ st) body) :
  ∃(f:Addr) (fd:FuncData),mg x=some (.ref f)/\(∀(s:Shared) (us:Y1),us.length=ps.length->BindsTo s fd ⟨us,[]⟩ (ps.zip us)) /\
   ∀base:Heap,K.In base->base.Ns mainGlobals mg->FnOk P w K mg base (CX1 P w) (k+1) f fd ps (spV K np (fnOf n body)):=by
 obtain ⟨f,fd,hf,F⟩:=F.ex
 obtain ⟨oc,od,kV,doc,pm,an,cdv,ct,osl,rfl,lk,hcd⟩:=F.ex
 refine ⟨f,_,PySem.W.mg_of kb nb hf,fun s us hl=>.of_eq (hb kV doc pm an cdv ct us hl),fun base kb' nb'=>?_⟩
 refine aOr lk hcd S (fun vs H Q E h=>h.1.trans hnp.symm) fun A outer s H vs Q E hr hsp=>?_
 exact ⟨_,hbody base kb' nb' f cdv A outer s H E hr,aOo hN hk hsp⟩
end
def aSo (o:Obj):Bool:=match o.data,o.cls with
 | .seq _ _,.type t=>t == "list"
 | _,_=>false
def qO (K:FG):Bool:=K.all fun q=>!aSo q.2
theorem aI5:∀ {K:FG} {a:Addr} {o:Obj},K.lookup a=some o->(a,o)∈K
 | [],_,_,e=>by cases e
 | (b,u)::K,a,o,e=>by
  rw [List.lookup_cons] at e
  cases q:a == b with
  | true =>
   rw [q] at e
   have hb:a=b:=by simpa using q
   cases e;rw [hb];exact List.mem_cons_self
  | false=>rw [q] at e;exact List.mem_cons_of_mem _ (aI5 e)
theorem aCv {K:FG} (h:qO K=true) {a:Addr} {o:Obj} (e:K.lookup a=some o):aSo o=false:=by
 unfold qO at h
 rw [List.all_eq_true] at h
 have:=h (a,o) (aI5 e)
 simpa using this
theorem aU9 {K:FG} (h:qO K=true) {H:Hp} {a:Addr} {xs:List V} (s:SqL K H a xs):Rd H a (.lst xs):=by
 rcases s with s | ⟨o,its,n,e,c,d,e2,r⟩
 ·exact s
 ·have:=aCv h e
  unfold aSo at this
  rw [e2,c] at this
  have this:(("list" : String) == "list")=false:=this
  simp at this
theorem vP {K:FG} {F H:Hp}:∀ns:Y0,aJ K F H (ns.map D.int) (ns.map V.int) []
 | []=>⟨rfl,rfl⟩
 | n::ns=>⟨.int n,ns.map V.int,[],[],rfl,⟨rfl,rfl⟩,vP ns,rfl⟩
theorem aM2 {K:FG} (hn:qO K=true) {fn:Fn} {ns:Y0} (hf:∃os,fn [.lst false (ns.map D.int)]=.ok (.bl true,os)) {H:Hp} {a:Addr} (s:SqL K H a (ns.map V.int)):spV K 1 fn [.ref a] H (fun v _=>v=.bl true) fun _ _ _=>False:=by
 obtain ⟨os,hf⟩:=hf
 refine ⟨rfl,H,[.lst false (ns.map D.int)],[[]],bB.refl _,⟨rfl,rfl,fun i d e=>?_⟩,by simp,by simp,?_⟩
 ·cases i with
  | zero =>
   have e:D.lst false (ns.map D.int)=d:=by simpa using e
   subst e
   refine ⟨.ref a,[],rfl,rfl,?_⟩
   unfold Own
   exact ⟨a,ns.map V.int,[],rfl,vP ns,.inr ⟨rfl,aU9 hn s,rfl,rfl⟩⟩
  | succ i=>simp at e
 ·rw [hf]
  intro r F' H' fps' fr _ _ _ _ o _ _
  unfold Own at o
  exact o.1
theorem aI9 {P:Program} {w:World} {H:Hp} {s:Shared} {e:Value} {s':Shared} (h:CX1 P w [] H s (fun _ _ _=>False) e s'):False:=by
 obtain ⟨_,_,_,_,_,_,_,_,_,_,_,_,_,z⟩:=h
 exact z
end VL
end
section
namespace VL
open PySem PySem.Spec PyProof.Rows L2
abbrev UpL (xs:LI):Prop:=xs.Pairwise fun x y=>ST.ltL x y=true
theorem uC {k y:Y0}:∀ {xs:LI},y∈sZ k xs ↔ y=k\/y∈xs
 | []=>by simp [sZ]
 | x::xs=>by
  unfold sZ
  by_cases h1:ST.ltL k x=true
  ·rw [if_pos h1];simp
  ·rw [if_neg h1]
   by_cases h2:k=x
   ·rw [if_pos h2];subst h2;simp
   ·rw [if_neg h2,List.mem_cons,uC (xs:=xs),List.mem_cons]
    constructor
    ·rintro (h | h | h)
     ·exact .inr (.inl h)
     ·exact .inl h
     ·exact .inr (.inr h)
    ·rintro (h | h | h)
     ·exact .inr (.inl h)
     ·exact .inl h
     ·exact .inr (.inr h)
theorem aEf {k:Y0}:∀ {xs:LI},UpL xs->UpL (sZ k xs)
 | [],_=>by simp [sZ]
 | x::xs,h=>by
  obtain ⟨h1,h2⟩:=List.pairwise_cons.mp h
  unfold sZ
  by_cases q1:ST.ltL k x=true
  ·rw [if_pos q1]
   refine List.pairwise_cons.mpr ⟨fun y hy=>?_,h⟩
   rcases List.mem_cons.mp hy with rfl | hy
   ·exact q1
   ·exact ST.ltL_tr _ _ _ q1 (h1 y hy)
  ·rw [if_neg q1]
   by_cases q2:k=x
   ·rw [if_pos q2];exact h
   ·rw [if_neg q2]
    refine List.pairwise_cons.mpr ⟨fun y hy=>?_,aEf h2⟩
    rcases uC.mp hy with rfl | hy
    ·rcases ST.ltL_tot _ _ q2 with z | z
     ·exact absurd z q1
     ·exact z
    ·exact h1 y hy
theorem uE:∀ks:LI,UpL (jO ks)
 | []=>List.Pairwise.nil
 | k::ks=>aEf (uE ks)
theorem rY {y:Y0}:∀ {ks:LI},y∈jO ks ↔ y∈ks
 | []=>by simp [jO]
 | k::ks=>by
  show y∈sZ k (jO ks) ↔ _
  rw [uC,rY (ks:=ks),List.mem_cons]
theorem aKo:∀ {xs ys:LI},UpL xs->UpL ys->(∀z,z∈xs ↔ z∈ys)->xs=ys
 | [],[],_,_,_=>rfl
 | [],y::ys,_,_,h=>by have:=(h y).mpr List.mem_cons_self;cases this
 | x::xs,[],_,_,h=>by have:=(h x).mp List.mem_cons_self;cases this
 | x::xs,y::ys,h1,h2,h=>by
  obtain ⟨p1,p2⟩:=List.pairwise_cons.mp h1
  obtain ⟨q1,q2⟩:=List.pairwise_cons.mp h2
  have e:x=y:=by
   rcases List.mem_cons.mp ((h x).mp List.mem_cons_self) with e | e
   ·exact e
   ·rcases List.mem_cons.mp ((h y).mpr List.mem_cons_self) with e' | e'
    ·exact e'.symm
    ·have:=ST.ltL_tr _ _ _ (p1 y e') (q1 x e)
     rw [ST.ltL_irr] at this;cases this
  subst e
  congr 1
  refine aKo p2 q2 fun z=>?_
  constructor
  ·intro hz
   rcases List.mem_cons.mp ((h z).mp (List.mem_cons_of_mem _ hz)) with e | e
   ·subst e;have:=p1 _ hz;rw [ST.ltL_irr] at this;cases this
   ·exact e
  ·intro hz
   rcases List.mem_cons.mp ((h z).mpr (List.mem_cons_of_mem _ hz)) with e | e
   ·subst e;have:=q1 _ hz;rw [ST.ltL_irr] at this;cases this
   ·exact e
section
variable {X:Cx} {W:XW} {e:Expr} {pos:Pos}
def wN (rs:Y7):List V:=rs.map fun p=>V.ref p.2
def rSS (K:FG):List V->Hp->VK->Prop:=fun vs H Q=>∃l rs,vs=[.ref l]/\SqL K H l (wN rs)/\(∀p∈rs,SqT K H p.2 (p.1.map V.int))/\rs.length<=18/\(∀p∈rs,p.1 ≠ []) /\
 ∀p rs',H p=none->rs'.map (·.1)=jO (rs.map (·.1))->(∀q∈rs',q∈rs)->Q (.ref p) (upd H p (.lst (wN rs')))
theorem aB0 {prog:Program} {w:World}:∀ {ns:Y0} {us:Y1},Vals (ns.map V.int) us->ItemsAre (intKind prog w) ns us
 | [],us,r=>by rw [List.map_nil] at r;cases r;exact .nil
 | n::ns,us,r=>by
  rw [List.map_cons] at r
  cases r with
  | cons h t =>
   obtain ⟨t',rfl⟩:=h
   exact .cons (by simp [intKind,Value.isInt]) (aB0 t)
theorem xX:∀ {rs:Y7} {us:Y1},Vals (wN rs) us->us=ST.refs rs
 | [],us,r=>by cases r;rfl
 | p::rs,us,r=>by
  have r:Vals (V.ref p.2::wN rs) us:=r
  cases r with
  | cons h t=>rw [xX t];cases h;rfl
theorem yV:∀ {rs:Y7},Vals (wN rs) (ST.refs rs)
 | []=>.nil
 | p::rs=>.cons rfl yV
theorem aDh {k:Nat} {t:TA} {p p2 pos2:Pos} (hr:Room k X.A) (hc:X.calm=true) (hm1:X.mg "sorted" = none) (hm2:X.mg "set" = none) (ha:PA X [e] t) (hg1:Gl X "sorted" :=by rfl) (hg2:Gl X "set" :=by rfl)
  (hs1:starEach [.Call (.Name "set" p2) [e] [] pos2] X.env=(false,eval (.Call (.Name "set" p2) [e] [] pos2) X.env)::starEach [] X.env:=by rfl)
  (hs2:starEach [e] X.env=(false,eval e X.env)::starEach [] X.env:=by rfl) (hpl1:(backTo pos (starEach [] X.env)).any (·.1)=false:=by rfl) (hpl2:(backTo pos2 (starEach [] X.env)).any (·.1)=false:=by rfl)
  (hb0:backTo pos (starEach [] X.env)=[]:=by rfl)
  (hv1:bootBuiltins "sorted" = some (.builtin "sorted"):=by decide +kernel) (hv2:bootBuiltins "set" = some (.type "set"):=by decide +kernel) :
  PE X (.Call (.Name "sorted" p) [.Call (.Name "set" p2) [e] [] pos2] [] pos) (tCB (rSS X.K) t):=by
 intro pins s σ H Q I h
 refine wpAny_Call_Name_kw (nQ I hg1 hm1 hv1 ?_ (by decide) (by decide))
 refine PyProof.Rows.callWith_builtin1 ?_ hs1 hpl1
 rw [hs1]
 show wpAny _ _ (spliced ((false,eval (.Call (.Name "set" p2) [e] [] pos2) X.env)::backTo pos (starEach [] X.env))) _ _ s
 refine Calls.spliced_cons ?_
 refine wpAny_Call_Name_kw (nQ I hg2 hm2 hv2 ?_ (by decide) (by decide))
 refine PyProof.Rows.callWith_type1 (thn (ha pos2 pins s σ H _ I h) fun us s1 ⟨vs,H1,I1,r1,q1⟩=>?_) hs2 hpl2
 obtain ⟨l,rs,rfl,hl,ht,hlen,hne,q⟩:=q1
 obtain ⟨u,rfl,ru⟩:=vals1 r1
 cases ru
 obtain ⟨its,rv,pl,hz⟩:=I1.list hl
 have eits:=xX rv
 subst eits
 have hkey:∀p∈rs,IsTupleKey (intKind X.prog X.w) s1.heap p.1 p.2:=fun p hp=>by
  obtain ⟨its,r,⟨o,ho,hc,n,hd⟩,_⟩:=I1.tuple (ht p hp)
  exact ⟨o,_,n,ho,hc,hd,aB0 (by simpa using r)⟩
 have hsz:(ST.refs rs).toArray.size=rs.length:=by simp [ST.refs]
 refine ST.call_setT (key:=fun i=>((rs[i]?).getD ([],0)).1) (adr:=fun i=>((rs[i]?).getD ([],0)).2) (I1.ok.hd hc) (fun B hB=>by have:=hr.un;omega) pl.isList (fun i v e=>?_) (fun i hi=>?_) (by rw [hsz];exact hlen) fun h' tk kas hS hD keep=>?_
 ·simp [ST.refs] at e
  obtain ⟨a,b,e1,e2⟩:=e
  rw [e1,<- e2];rfl
 ·rw [hsz] at hi
  rw [List.getElem?_eq_getElem hi]
  exact hkey _ (List.getElem_mem hi)
 ·rw [hsz] at hD
  rw [hb0]
  refine Calls.spliced_nil ?_
  have hin:∀p∈kas,p∈rs:=fun p hp=>by
   obtain ⟨i,hi,e⟩:=hD.2.1 p hp
   dsimp only at e
   rw [List.getElem?_eq_getElem hi] at e
   rw [e];exact List.getElem_mem hi
  refine ST.sorted_set (s:={ s1 with heap:=h',toks:=tk }) (I1.ok.hd hc) hS (fun p hp=>hne p (hin p hp)) fun kas' D ep h2 tk2 hp hu hD2 hsz2 _ keep2=>?_
  obtain ⟨oS,_,_,_,hoS,_⟩:=hS
  have hlt:s1.heap.objs.size<=D:=Nat.le_trans (Nat.le_of_lt (Heap.lt_size hoS)) hsz2
  have k2:∀b u,s1.heap.get? b=some u->h2.get? b=some u:=fun b u e=>keep2 b u (keep b u (Heap.lt_size e) e)
  refine ⟨.ref D,upd H1 D (.lst (wN kas')),I1.laid (t':=tk2) (o:=.lst (wN kas')) k2 hlt ?_,rfl,q D kas' (I1.hok.fresh hlt) ?_ fun p hp'=>hin p (hp.mem_iff.mp hp')⟩
  ·refine ⟨?_,ST.refs kas',ep,yV,hD2⟩
   have e1:=hp.length_eq
   have e2:=hD.2.2
   refine gO ?_
   simp [wN];omega
  ·refine aKo ?_ (uE _) fun z=>?_
   ·exact List.pairwise_map.mpr hu
   ·rw [rY,(hp.map (·.1)).mem_iff,hD.1 z]
    constructor
    ·rintro ⟨i,hi,e⟩
     dsimp only at e
     rw [List.getElem?_eq_getElem hi] at e
     rw [<- e];exact List.mem_map_of_mem (List.getElem_mem hi)
    ·intro hz'
     obtain ⟨p,hp',e⟩:=List.mem_map.mp hz'
     obtain ⟨i,hi,e'⟩:=List.getElem_of_mem hp'
     exact ⟨i,hi,by dsimp only;rw [List.getElem?_eq_getElem hi];show rs[i].1=z;rw [e',e]⟩
theorem xK {K:FG} {F H:Hp} (hs:bB F H):∀(ds:List D) {ks:LI} {xs:List V} {fp:Y2},mT ds=some ks->aJ K F H ds xs fp->∃rs:Y7,rs.map (·.1)=ks/\xs=wN rs/\∀p∈rs,Own K F H (TI p.1) (.ref p.2) []
 | [],ks,xs,fp,e,o=>by
  unfold mT at e;cases e
  unfold aJ at o
  exact ⟨[],rfl,o.1,fun p hp=>by cases hp⟩
 | d::ds,ks,xs,fp,e,o=>by
  unfold mT at e
  cases d<;>try cases e
  rename_i es
  dsimp only at e
  cases q1:eD es with
  | none=>rw [q1] at e;cases e
  | some k =>
   cases q2:mT ds with
   | none=>rw [q1,q2] at e;cases e
   | some ks' =>
    rw [q1,q2] at e
    have e:some (k::ks')=some ks:=e
    cases e
    unfold aJ at o
    obtain ⟨v,r,f1,f2,e1,o1,o2,e2⟩:=o
    obtain ⟨rs,h1,h2,h3⟩:=xK hs ds q2 o2
    unfold Own at o1
    obtain ⟨_,a,ys,ev,hq,ho⟩:=o1
    have ey:=gL es q1 ho
    refine ⟨(k,a)::rs,by rw [List.map_cons,h1],by rw [e1,h2,ev];rfl,fun p hp=>?_⟩
    rcases List.mem_cons.mp hp with rfl | hp
    ·unfold TI Own
     exact ⟨rfl,a,ys,rfl,hq,by rw [ey];exact vP k⟩
    ·exact h3 p hp
theorem aB4:∀ns:Y0,eD (ns.map D.int)=some ns
 | []=>rfl
 | n::ns=>by
  show (eD (ns.map D.int)).map (n::·)=_
  rw [aB4 ns];rfl
theorem aD2 {K:FG} {F H:Hp}:∀(rs:Y7),(∀p∈rs,Own K F H (TI p.1) (.ref p.2) [])->aJ K F H ((rs.map (·.1)).map TI) (wN rs) []
 | [],_=>aJ.nil
 | p::rs,h=>aJ.cons (h p List.mem_cons_self) (aD2 rs fun q hq=>h q (List.mem_cons_of_mem _ hq))
theorem aRt {K:FG}:OpA K kSS (rSS K):=by
 intro F0 H0 F H xs vs fa Q gr a n k h
 match xs,h,a with
 | [(.lst o ds,b)],h,a =>
  unfold Args at a
  obtain ⟨v,r,fp,f2,e,o1,n1,t,w⟩:=a
  unfold Args at t
  obtain ⟨p,ys,fq,e1,q1,r1,_⟩:=Own.lst gr.inn o1
  have h:(match mT ds with | some ks=>(if (decide (ks.length<=18) && ks.all (fun k=>!k.isEmpty))=true then R.ok (D.lst true ((jO ks).map TI),true) else .bad) | none=>.bad).holds (EPost K F0 H0 Q):=h
  cases qt:mT ds with
  | none=>rw [qt] at h;exact h.elim
  | some ks =>
   rw [qt] at h
   dsimp only at h
   by_cases hc:(decide (ks.length<=18) && ks.all (fun k=>!k.isEmpty))=true
   ·rw [if_pos hc] at h
    rw [Bool.and_eq_true,decide_eq_true_iff] at hc
    obtain ⟨rs,h1,h2,h3⟩:=xK gr.inn ds qt r1
    subst h1
    rw [List.length_map] at hc
    refine ⟨p,rs,by rw [e,t.1,e1],h2 ▸ q1,fun p hp=>?_,hc.1,fun p hp z=>?_,fun q rs' hq e1 e2=>?_⟩
    ·have:=h3 p hp
     unfold TI Own at this
     obtain ⟨_,a,xs,ea,sq,ow⟩:=this
     cases ea
     have ow':=gL (p.1.map D.int) (ns:=p.1) (aB4 p.1) ow
     rw [<- ow']
     exact bB.xJ gr.inn sq
    ·have:=List.all_eq_true.mp hc.2 p.1 (List.mem_map_of_mem hp)
     rw [z] at this;cases this
    ·rw [<- e1] at h
     exact EPost.aHi gr h hq (aD2 rs' fun p hp=>h3 p (e2 p hp))
   ·rw [if_neg hc] at h;exact h.elim
 | [],h,a=>exact h.elim
 | [(.non,_)],h,a=>exact h.elim
 | [(.bl _,_)],h,a=>exact h.elim
 | [(.int _,_)],h,a=>exact h.elim
 | [(.str _,_)],h,a=>exact h.elim
 | [(.tup _,_)],h,a=>exact h.elim
 | [(.ext _ _,_)],h,a=>exact h.elim
 | (x,bx)::y::ys,h,a=>cases x<;>exact h.elim
theorem aCt {k:Nat} {f:aS} {p p2 pos2:Pos} (hr:Room k X.A) (hc:X.calm=true) (hm1:X.mg "sorted" = none) (hm2:X.mg "set" = none) (ha:SE X e f) (hg1:Gl X "sorted" :=by rfl) (hg2:Gl X "set" :=by rfl)
  (hs1:starEach [.Call (.Name "set" p2) [e] [] pos2] X.env=(false,eval (.Call (.Name "set" p2) [e] [] pos2) X.env)::starEach [] X.env:=by rfl)
  (hs2:starEach [e] X.env=(false,eval e X.env)::starEach [] X.env:=by rfl) (hpl1:(backTo pos (starEach [] X.env)).any (·.1)=false:=by rfl) (hpl2:(backTo pos2 (starEach [] X.env)).any (·.1)=false:=by rfl)
  (hb0:backTo pos (starEach [] X.env)=[]:=by rfl)
  (hv1:bootBuiltins "sorted" = some (.builtin "sorted"):=by decide +kernel) (hv2:bootBuiltins "set" = some (.type "set"):=by decide +kernel) :
  SE X (.Call (.Name "sorted" p) [.Call (.Name "set" p2) [e] [] pos2] [] pos) (vCB kSS (aE f aL)) :=
 L2.PE.imp (aDh hr hc hm1 hm2 (aB ha aG hs2) hg1 hg2 hs1 hs2 hpl1 hpl2 hb0 hv1 hv2) fun _ _ _ h=>aK0 aRt h
end
end VL
end
section
namespace HT
open PySem PyProof.Rows
section
open PySem.SeqAt
open PySem.AutoSeq1 (wpAny_loadPart')
open PySem.MeetsSeq PySem.MeetsSeq2 PySem.MeetsSeq3
def lexLe (a b:Y0):Bool:=!ST.ltL b a
theorem aCs (x y:Int) (xs ys:Y0):lexLe (x::xs) (y::ys)=if x=y then lexLe xs ys else decide (x<=y):=by
 unfold lexLe;rw [ST.ltL]
 by_cases h:x=y
 ·rw [if_pos h,if_pos h.symm]
 ·rw [if_neg h,if_neg (Ne.symm h)]
  by_cases h2:x<=y
  ·rw [decide_eq_true h2,decide_eq_false (show ¬ y<x by omega)];rfl
  ·rw [decide_eq_false h2,decide_eq_true (show y<x by omega)];rfl
theorem aKk (A:Around) (s:Shared) (a:Int) (t:Tok) (c:Int) (u:Tok) (prog:Program) (w:World) (E:Y9) (Q:Y9) (h:Q (.bool (decide (a<=c))) s) :
  wpAny (model prog w) A (richCompare .LtE (.int a t) (.int c u)) Q E s :=
 (PyProof.Rows.le_int h:wpAny (model prog w) A (compareOp .LtE (.int a t) (.int c u)) Q E s)
theorem wO (l b:Addr) (items items2:Array Value) (n n2:Nat) (dd dd2:Option Addr) (sl sl2:Array (Option Value)) (ns ms:Y0) (hi:IntsAre items.toList ns) (hj:IntsAre items2.toList ms) :
  Meets (Builtin.«tuple.__le__» ⟨[.ref l,.ref b],[]⟩)
   (fun _ R s=>s.heap.get? l=some { cls:=.type "tuple",dict:=dd,data:=.seq items n,slots:=sl }/\s.heap.get? b=some { cls:=.type "tuple",dict:=dd2,data:=.seq items2 n2,slots:=sl2 } /\
    R (.ok (.ret (.bool (lexLe ns ms)))) s) :=
 .of_wp fun prog w A R s h=>by
  obtain ⟨hp,g,d,tk,os⟩:=s;obtain ⟨hl,hb,h⟩:=h
  have f2:=AutoSeq1.sub_tuple_tuple
  have z1:items.size=ns.length:=by rw [<- hi.length];simp
  have z2:items2.size=ms.length:=by rw [<- hj.length];simp
  wp_walk using wpAny_loadPart' hl,wpAny_loadPart' hb,wpAny_forIn_list _ (fun rest b s'=>b.1=none/\s'=⟨hp,g,d,tk,os⟩/\∃(vs ws:Y1) (ns' ms':Y0),rest=vs.zip ws /\
   IntsAre vs ns'/\IntsAre ws ms'/\ns'.length+items2.size=ms'.length+items.size/\R (.ok (.ret (.bool (lexLe ns' ms')))) ⟨hp,g,d,tk,os⟩) _
  case turn =>
   rintro ⟨y,x⟩ rest b s' ⟨hb',rfl,vs,ws,ns',ms',hz,hvi,hwi,hlen,hR⟩
   cases hvi with
   | nil=>rw [List.zip_nil_left] at hz;cases hz
   | cons a t hvi' =>
    cases hwi with
    | nil=>rw [List.zip_nil_right] at hz;cases hz
    | cons c u hwi' =>
     rw [List.zip_cons_cons] at hz
     injection hz with hyx hrest
     injection hyx with hy hx
     subst hy hx
     rw [aCs] at hR
     simp only [List.length_cons] at hlen
     obtain ⟨e,he,hiff⟩:=aJy A.in1 ⟨hp,g,d,tk,os⟩ a t c u
     refine wpAny_bind (he prog w _ _ ?_)
     cases e with
     | true =>
      rw [if_pos (hiff.mp rfl)] at hR
      wp_walk
      exact ⟨rfl,rfl,_,_,_,_,hrest,hvi',hwi',by omega,hR⟩
     | false =>
      rw [if_neg (fun q=>absurd (hiff.mpr q) Bool.false_ne_true)] at hR
      have hri:=aKk A.in1 ⟨hp,g,d,tk,os⟩ a t c u prog w
      wp_walk using hri
      exact ⟨_,rfl,by simpa using hR⟩
  case fin =>
   rintro ⟨b1,b2⟩ s' ⟨hb',rfl,vs,ws,ns',ms',hz,hvi,hwi,hlen,hR⟩
   simp only at hb'
   subst hb'
   have hv:lexLe ns' ms'=decide (items.size<=items2.size):=by
    cases hvi with
    | nil =>
     cases hwi with
     | nil =>
      simp only [List.length_nil] at hlen
      exact (decide_eq_true (by omega)).symm
     | cons c u hw =>
      simp only [List.length_nil,List.length_cons] at hlen
      exact (decide_eq_true (by omega)).symm
    | cons a t hv =>
     cases hwi with
     | nil =>
      simp only [List.length_nil,List.length_cons] at hlen
      exact (decide_eq_false (by omega)).symm
     | cons c u hw =>
      rw [List.zip_cons_cons] at hz
      cases hz
   rw [hv] at hR
   wp_walk
   exact ⟨_,rfl,by simpa [Builtin.Tuple.tupleCompareSizes] using hR⟩
  case h =>
   exact ⟨rfl,rfl,items.toList,items2.toList,ns,ms,rfl,hi,hj,by omega,h⟩
end
section
variable {prog:Program} {w:World} {A:Around} {E:Y9} {s:Shared}
theorem le_tupInts {l b:Addr} {items items2:Array Value} {ns ms:Y0} {Q:Y9} (hl:IsTup s.heap l items) (hb:IsTup s.heap b items2) (hi:IntsAre items.toList ns) (hj:IntsAre items2.toList ms)
  (hu:A.units<cLine) (h:Q (.bool (lexLe ns ms)) s):wpAny (model prog w) A (compareOp .LtE (.ref l) (.ref b)) Q E s:=by
 obtain ⟨⟨cls,dd,data,sl⟩,ho,hc,n,hd⟩:=id hl
 obtain ⟨⟨cls2,dd2,data2,sl2⟩,ho2,hc2,n2,hd2⟩:=id hb
 simp only at hc hd hc2 hd2
 subst hc hd hc2 hd2
 exact richCompare_meets_room (op:=.LtE) ⟨_,ho,rfl⟩ ⟨_,ho2,rfl⟩ PySem.F.slot_tuple_le PySem.F.entry_tuple_le (PySem.F.args_tuple_le_2 _ _) (wO l b items items2 n n2 dd dd2 sl sl2 ns ms hi hj)
  ⟨ho,ho2,show Value.bool (lexLe ns ms) ≠ Value.notImplemented/\Q (.bool (lexLe ns ms)) s from ⟨(fun x=>nomatch x),h⟩⟩ hu
end
end HT
namespace VL
open PySem PySem.Spec PyProof.Rows L2
section
variable {X:Cx} {W:XW} {a b e:Expr} {pos:Pos}
def aT1 (K:FG):R2:=fun x y H Q=>∃a b ns ms,x=.ref a/\y=.ref b/\SqT K H a (ns.map V.int)/\SqT K H b (ms.map V.int)/\Q (.bl (HT.lexLe ns ms)) H
theorem aRj (hu:X.A.units<cLine):OpR X (compareOp .LtE) (aT1 X.K):=by
 intro pins s σ H x y v u Q I rx ry h
 obtain ⟨a,b,ns,ms,rfl,rfl,ha,hb,q⟩:=h
 cases rx
 cases ry
 obtain ⟨its,r1,p1,_⟩:=I.tuple ha
 obtain ⟨its2,r2,p2,_⟩:=I.tuple hb
 have i1:IntsAre its.toArray.toList ns:=intsAre_of r1
 have i2:IntsAre its2.toArray.toList ms:=intsAre_of r2
 exact HT.le_tupInts p1 p2 i1 i2 hu ⟨.bl (HT.lexLe ns ms),H,I,rfl,q⟩
theorem aL7 {K:FG}:Op2 K aLy (aT1 K):=by
 intro F0 H0 F H x y v u fx fy Q gr o1 n1 k1 o2 n2 k2 h
 obtain ⟨x,bx⟩:=x
 obtain ⟨y,by'⟩:=y
 cases x<;>try exact h.elim
 cases y<;>try exact h.elim
 rename_i ds es
 have h:(match eD ds,eD es with | some a,some b=>R.ok (D.bl (!ST.ltL b a),true) | _,_=>.bad).holds (EPost K F0 H0 Q):=h
 cases q1:eD ds with
 | none=>rw [q1] at h;exact h.elim
 | some a =>
  cases q2:eD es with
  | none=>rw [q1,q2] at h;exact h.elim
  | some b =>
   rw [q1,q2] at h
   obtain ⟨p1,xs,e1,s1,r1,_⟩:=Own.tup gr.inn o1
   obtain ⟨p2,ys,e2,s2,r2,_⟩:=Own.tup gr.inn o2
   rw [gL ds q1 r1] at s1
   rw [gL es q2 r2] at s2
   exact ⟨p1,p2,a,b,e1,e2,s1,s2,EPost.dU gr h rfl⟩
theorem aPj {k:Nat} {f g:aS} (hr:Room k X.A) (ha:SE X a f) (hb:SE X b g):ST X (.Compare a [.LtE] [b] pos) (bA (v2 aLy f g)):=lS (aRj (by have:=hr.un;omega)) aL7 ha hb (jF _)
theorem aPz:PA X [] (pB []):=fun _ _ _ _ H Q I h=>Calls.spliced_nil ⟨[],H,I,.nil,h⟩
theorem aB5 (i:Nat) {x:Str} {p:Pos} {es:List Expr} {is:T0} (hr:PA X es (pB is)) (hN:X.N[i]?=some x:=by rfl) (hv:Vis X.env.scope x:=by first | exact Or.inl rfl | exact Or.inr (Or.inl rfl) | exact Or.inr (Or.inr rfl)) (hd:(x == ("__debug__" : Str))=false:=by decide)
  (hcd:(x == ("__classdict__" : Str))=false:=by decide) (hs:starEach (.Name x p::es) X.env=(false,eval (.Name x p) X.env)::starEach es X.env:=by rfl):PA X (.Name x p::es) (pB (i::is)):=by
 have:=fI (nG (pos:=p) hN hv hd hcd) hr hs
 intro pos pins s σ H Q I h
 exact this pos pins s σ H Q I h
theorem aHp {k n:Nat} {x:Str} {fn:Fn} {is:T0} {p:Pos} {es:List Expr} (F:Kn X.prog X.w X.K X.mg X.base k x n fn) (hr:Room k X.A) (ha:PA X (e::es) (pB is)) (hn:is.length=n) (hg:Gl X x:=by rfl) (hdb:(x == ("__debug__" : Str))=false:=by decide)
  (he:starEach (e::es) X.env=(false,eval e X.env)::starEach es X.env:=by rfl) (hpl:(backTo pos (starEach es X.env)).any (·.1)=false:=by rfl):SX X W (.Call (.Name x p) (e::es) [] pos) (pQ fn is):=by
 obtain ⟨f,fd,ps,F,hm,hk,hb⟩:=F.ex
 exact (aEt F hr hg hm hk hb .nil (fun _ _ _ _ _ _ _ h=>by obtain ⟨_,_,_,_,_,_,_,_,_,_,_,_,_,z⟩:=h;exact z.elim) ha hdb he hpl).imp fun _ _ _ h=>aH0 hn h
theorem aBh (i:Nat) {x:Str} {f g:aS} {p sp ap cp pos':Pos} (hi:SE X b g) (he:SE X e f) (hN:X.N[i]?=some x:=by rfl) (hv:Vis X.env.scope x:=by first | exact Or.inl rfl | exact Or.inr (Or.inl rfl) | exact Or.inr (Or.inr rfl)) (hd:(x == ("__debug__" : Str))=false:=by decide)
  (hcd:(x == ("__classdict__" : Str))=false:=by decide) (hix:zL b:=by intro _ _;rfl) (hs:swapsWith (.Call (.Attribute (.Subscript (.Name x p) b sp) "append" ap) [e] [] cp) none pos'.line X.env=pure false:=by rfl)
  (hbase:attributeBase (.Subscript (.Name x p) b sp) "append" X.env (eval (.Subscript (.Name x p) b sp) X.env)=eval (.Subscript (.Name x p) b sp) X.env:=by rfl)
  (hfew:((backTo cp (starEach [e] X.env)).all (fun x=>!x.1) && (backToKw cp (keywordEach [] X.env)).all (fun x=>x.1.isSome)
   && decide (([e]:List Expr).length+([]:List Keyword).length+(if ([]:List Keyword).isEmpty then 0 else 1)<30))=true:=by rfl)
  (hline:(ap.endLine == cp.line)=true:=by rfl) (hst:starEach [e] X.env=(false,eval e X.env)::starEach [] X.env:=by rfl) (hplain:(backTo cp (starEach [] X.env)).any (·.1)=false:=by rfl) :
  SS X W (.Expr (.Call (.Attribute (.Subscript (.Name x p) b sp) "append" ap) [e] [] cp) pos') (iO i g f) :=
 (tM (aO9 PySem.F.plainAttrs_list PySem.F.slot_list_append PySem.F.type_list_append rL (aOg aE8 (nG hN hv hd hcd) hi hix) (fI he nO hst) hbase hfew hline hst hplain) hs).imp fun _ _ _ h=>aCe h
theorem aHv {K:FG} {F H:Hp} {ds:List D} {xs:List V} (h:aJ K F H ds xs []):aJ K F H ds.reverse xs.reverse []:=by
 have hl:=aJ.length ds h
 refine aJ.of_get _ (by simpa using hl) fun i d v e1 e2=>?_
 have hi:i<ds.length:=by simpa using (List.getElem?_eq_some_iff.mp e1).1
 rw [List.getElem?_reverse hi] at e1
 rw [List.getElem?_reverse (by omega)] at e2
 rw [<- hl] at e2
 exact aJ.aS0 h e1 e2
theorem aPy {K:FG} {σ:L2.St} {H:Hp} {D':Ends} {i:Nat} (h:sv K W (aG6 i) D' σ H):aB6 (aUd K "list" aAz (aAf i)) D' σ H:=by
 obtain ⟨ρ,F,fps,S,h⟩:=h
 unfold aG6 at h
 cases eg:getD ρ i with
 | none=>rw [eg] at h;exact h.elim
 | some d0 =>
  rw [eg] at h
  have h:cK K W F H fps.flatten ρ σ D' (match aGi d0 with | some d=>.next (putD ρ i d) | none=>.bad):=h
  cases ek:aGi d0 with
  | none=>rw [ek] at h;exact h.elim
  | some d1 =>
   rw [ek] at h
   unfold aGi at ek
   split at ek<;>try cases ek
   rename_i ds
   by_cases hc:(D.bK ds && decide (ds.length<1000000))=true
   ·rw [if_pos hc] at ek;cases ek
    rw [Bool.and_eq_true,decide_eq_true_iff] at hc
    obtain ⟨v,fp,h1,h2,h3⟩:=S.get eg
    obtain ⟨a,xs,fq,ev,r,w1,w2,w3⟩:=Own.opened h3
    subst ev;subst w3
    have nfp:=S.sub h2
    have:=aJ.eB ds hc.1 r
    subst this
    refine ⟨.ref a,h1,.inl ⟨rfl,xs,SqL.of w2⟩,a,xs,rfl,rfl,w2,?_⟩
    refine dS.mut (fu:=[]) h S (Grow.refl S.same) (fun b hb=>by cases hb) eg h1 h2 List.mem_cons_self (Own.closed (aHv (r.other (by simp))) w1 bN) (by simp) fun b hb=>.inl hb
   ·rw [if_neg hc] at ek;cases ek
theorem aR3 (i:Nat) {x:Str} {p ap cp pos':Pos} (hN:X.N[i]?=some x:=by rfl) (hv:Vis X.env.scope x:=by first | exact Or.inl rfl | exact Or.inr (Or.inl rfl) | exact Or.inr (Or.inr rfl)) (hd:(x == ("__debug__" : Str))=false:=by decide)
  (hcd:(x == ("__classdict__" : Str))=false:=by decide) (hs:swapsWith (.Call (.Attribute (.Name x p) "reverse" ap) [] [] cp) none pos'.line X.env=pure false:=by rfl)
  (hbase:attributeBase (.Name x p) "reverse" X.env (eval (.Name x p) X.env)=eval (.Name x p) X.env:=by rfl) (hline:(ap.endLine == cp.line)=true:=by rfl) :
  SS X W (.Expr (.Call (.Attribute (.Name x p) "reverse" ap) [] [] cp) pos') (aG6 i) :=
 (tM (aPs PySem.F.plainAttrs_list PySem.F.slot_list_reverse PySem.F.type_list_reverse aD0 (nG hN hv hd hcd) hbase hline) hs).imp fun _ _ _ h=>aPy h
end
end VL
end
section
namespace VL.PY
open VL PySem
def eqF (n:Str):Str->Bool:=fun c=>c == n
def fuel:Nat:=1000
def wF:aX:=(cH (xOf (wY (v1 (oX "int") (aD 0)) (v1 aI4 (v1 (oX "bool") (aD 0))))))
def jJ:Fn:=fnOf 1 wF
def pY:aX:=(cH (xOf (wY (bD jJ (aE (aD 0) aL)) (rX (fun i j=>decide (i<=j)) (fun i j=>decide (i<=j)) (aD 1) (aD 0) (aD 2)))))
def cA:Fn:=fnOf 3 pY
def xW:aX:=(aR (sIf (nE (fC (fL (v1 (oX "tuple") (aD 1)))) (bA (v2 (kEq true) (vCB eN (aE (aD 1) aL)) (vC (.int 4))))) (cH (xOf (vC (.bl false)))) bJ) (aR (aY 2 (xOf (v2 sW (v2 kIx (aD 0) (vC (.int 0))) (vC (.int 1))))) (aR (sIf (nE (fC (fL (bD cA (aE (v2 kIx (aD 1) (vC (.int 0))) (aE (vC (.int 0)) (aE (aD 2) aL)))))) (fC (fL (bD cA (aE (v2 kIx (aD 1) (vC (.int 2))) (aE (vC (.int 0)) (aE (aD 2) aL))))))) (cH (xOf (vC (.bl false)))) bJ) (cH (xOf (wY (bD cA (aE (v2 kIx (aD 1) (vC (.int 1))) (aE (vC (.int 0)) (aE (v2 sW (v2 kIx (aD 0) (vC (.int 1))) (vC (.int 1))) aL)))) (bD cA (aE (v2 kIx (aD 1) (vC (.int 3))) (aE (vC (.int 0)) (aE (vC (.int 1000)) aL))))))))))
def sD:Fn:=fnOf 3 xW
def qX:aX:=(aR (aY 1 (xOf (v2 kIx (aD 0) (vC (.int 2))))) (aR (sIf (nE (fC (fL (v1 (oX "list") (aD 1)))) (bA (v2 kGt (vCB eN (aE (aD 1) aL)) (vC (.int 600))))) (lG "BadMachine" (zTop (mK (fun _=>some ("the deeds are a list of " : Str).length) (mK (aBs (vC (.int 600))) (mK (fun _=>some (" at most" : Str).length) (fun _=>some 0)))))) bJ) (aR (iF (wI (aD 1)) (dR [2,3]) (sIf (fC (fL (bD sD (aE (aD 0) (aE (aD 3) aL))))) (lG "BadMachine" (zTop (mK (fun _=>some ("number " : Str).length) (mK (aBs (aD 2)) (mK (fun _=>some (" is no deed of such a machine" : Str).length) (fun _=>some 0)))))) bJ)) (iF (iR2 (aE (vC (.int 1)) (aE (vCB eN (aE (aD 1) aL)) aL))) (bH 2) (sIf (bA (v2 aLy (v2 kIx (aD 1) (aD 2)) (v2 kIx (aD 1) (v2 sW (aD 2) (vC (.int 1)))))) (lG "BadMachine" (zTop (mK (fun _=>some ("deed " : Str).length) (mK (aBs (aD 2)) (mK (fun _=>some (" does not rise above the one ahead of it" : Str).length) (fun _=>some 0)))))) bJ)))))
def lE:Fn:=fnOf 4 qX
def nA:aX:=(aR (sIf (nE (fC (fL (v1 (oX "tuple") (aD 0)))) (bA (v2 (kEq true) (vCB eN (aE (aD 0) aL)) (vC (.int 3))))) (lG "BadMachine" (fun _=>some ("a machine is a triple of places, kinds and deeds" : Str).length)) bJ) (aR (sIf (fC (fL (bD cA (aE (v2 kIx (aD 0) (vC (.int 0))) (aE (vC (.int 1)) (aE (vC (.int 200)) aL)))))) (lG "BadMachine" (zTop (mK (fun _=>some ("a machine has 1 to " : Str).length) (mK (aBs (vC (.int 200))) (mK (fun _=>some (" places" : Str).length) (fun _=>some 0)))))) bJ) (aR (sIf (fC (fL (bD cA (aE (v2 kIx (aD 0) (vC (.int 1))) (aE (vC (.int 1)) (aE (vC (.int 8)) aL)))))) (lG "BadMachine" (zTop (mK (fun _=>some ("a machine has 1 to " : Str).length) (mK (aBs (vC (.int 8))) (mK (fun _=>some (" kinds of deeds" : Str).length) (fun _=>some 0)))))) bJ) (mI (gZ lE (aE (aD 0) aL))))))
def gF:Fn:=fnOf 1 nA
def qV:aX:=(aR (aY 1 (xOf (bS (iR1 (aE (v2 kIx (aD 0) (vC (.int 0))) aL)) 1 [] (bH 0) bV (fW aL)))) (aR (iF (wI (v2 kIx (aD 0) (vC (.int 2)))) (dR [2,3]) (iO 1 (v2 kIx (aD 3) (vC (.int 0))) (aD 2))) (jN 1)))
def lJ:Fn:=fnOf 4 qV
def yN:aX:=(aR (aY 1 (xOf (bD lJ (aE (aD 0) aL)))) (aR (aY 2 (xOf (bS (iR1 (aE (v2 kIx (aD 0) (vC (.int 0))) aL)) 1 [] (bH 0) bV (vC .non)))) (aR (aY 3 (xOf (fW (aE (vC (.int 0)) aL)))) (aR (aY 4 (xOf (vC (.int 0)))) (aR (rZ [1] (bZ (bA (v2 kLt (aD 4) (vCB eN (aE (aD 3) aL)))) (aR (iF (gK (v2 kIx (aD 1) (v2 kIx (aD 3) (aD 4)))) (bH 5) (aR (aY 6 (xOf (v2 kIx (v2 kIx (v2 kIx (aD 0) (vC (.int 2))) (aD 5)) (vC (.int 2))))) (sIf (lX (bA (v2 (kEq true) (aD 6) (vC (.int 0)))) (bA (v2 (iS false) (v2 kIx (aD 2) (aD 6)) (vC .non)))) (aR (dJ 2 (aD 6) (aD 5)) (eW 3 (aD 6))) bJ))) (vB 4 (fun i j=>i+j) (vC (.int 1)))) fuel)) (jN 2))))))
def oK:Fn:=fnOf 7 yN
def xN:aX:=(aR (mI (gZ gF (aE (aD 0) aL))) (cH (xOf (bS (wI (bD oK (aE (aD 0) aL))) 2 [] (dR [0,1]) bV (vOr (v2 (kEq false) (aD 0) (vC (.int 0))) (v2 (iS true) (aD 1) (vC .non)))))))
def oH:Fn:=fnOf 1 xN
def iG:aX:=(aR (aY 5 (xOf (vC .non))) (aR (iF (gK (aD 2)) (bH 6) (aR (aY 7 (xOf (v2 kIx (v2 kIx (aD 0) (vC (.int 2))) (aD 6)))) (aR (aY 8 (xOf (v2 bW (v2 kIx (aD 1) (aD 6)) (v2 kIx (aD 3) (v2 kIx (aD 7) (vC (.int 2))))))) (sIf (bA (v2 kGt (aD 8) (v2 kIx (aD 3) (v2 kIx (aD 7) (vC (.int 0)))))) (aR (dJ 3 (v2 kIx (aD 7) (vC (.int 0))) (aD 8)) (aR (dJ 4 (v2 kIx (aD 7) (vC (.int 0))) (aD 6)) (aY 5 (xOf (v2 kIx (aD 7) (vC (.int 0))))))) bJ)))) (jN 5)))
def gI:Fn:=fnOf 9 iG
def qZ:aX:=(aR (aY 2 (gZ oH (aE (aD 0) aL))) (aR (aY 3 (xOf (bS (wI (v2 kIx (aD 0) (vC (.int 2)))) 2 [2] (dR [0,1]) (fL (v2 kIx (aD 2) (v2 kIx (aD 1) (vC (.int 0))))) (aD 0)))) (aR (aY 4 (xOf (bS (iR1 (aE (v2 kIx (aD 0) (vC (.int 0))) aL)) 1 [] (bH 0) bV (vC (.int 0))))) (aR (aY 5 (xOf (bS (iR1 (aE (v2 kIx (aD 0) (vC (.int 0))) aL)) 1 [] (bH 0) bV (vC .non)))) (aR (aY 6 (xOf (vC (.int 0)))) (aR (aY 7 (xOf (vC (.int 0)))) (aR (rZ [3] (bZ (lX (bA (v2 (iS true) (aD 6) (vC .non))) (bA (v2 kLt (aD 7) (v2 kIx (aD 0) (vC (.int 0)))))) (aR (aY 6 (pQ gI [0,1,3,4,5])) (vB 7 (fun i j=>i+j) (vC (.int 1)))) fuel)) (rZ [4,5] (cH (xOf (eQ (aE (aD 4) (aE (aD 5) (aE (aD 6) aL))))))))))))))
def iK:Fn:=fnOf 8 qZ
end VL.PY
end
section
namespace VL.K10
open VL PySem PY
def tZ:aX:=(aR (sIf (fL (aD 0)) (cH (xOf (v2 kIx (aD 0) (v2 gG (aD 1) (vCB eN (aE (aD 0) aL)))))) bJ) (cH (xOf (vC (.int 0)))))
def vI:Fn:=fnOf 2 tZ
def aEu:aX:=(aR (aY 2 (xOf (v2 gG (v2 bW (bD vI (aE (aD 0) (aE (aD 1) aL))) (v2 bT (vC (.int 104729)) (v2 bW (aD 1) (vC (.int 1))))) (vC (.int 4294967291))))) (aR (aY 2 (xOf (v2 gG (v2 bT (aD 2) (vC (.int 48271))) (vC (.int 4294967279))))) (cH (xOf (v2 gG (v2 bW (v2 bT (v2 jK (aD 2) (vC (.int 64))) (vC (.int 69621))) (aD 2)) (vC (.int 4294967231)))))))
def cX:Fn:=fnOf 3 aEu
def sH:aX:=(aR (aY 3 (xOf (v2 bW (vC (.int 1)) (v2 gG (bD cX (aE (aD 0) (aE (aD 1) aL))) (aD 2))))) (aR (aY 4 (xOf (v2 bW (vC (.int 1)) (v2 gG (bD cX (aE (aD 0) (aE (v2 bW (aD 1) (vC (.int 1))) aL))) (vC (.int 3)))))) (aR (aY 5 (xOf (fW aL))) (aR (iF (iR1 (aE (v2 gG (bD cX (aE (aD 0) (aE (v2 bW (aD 1) (vC (.int 2))) aL))) (v2 bW (v2 bT (vC (.int 2)) (aD 2)) (vC (.int 1)))) aL)) (bH 6) (aR (aY 7 (xOf (bD cX (aE (aD 0) (aE (v2 bW (v2 bW (aD 1) (vC (.int 3))) (aD 6)) aL))))) (aR (aY 8 (xOf (v2 kIx (fW (aE (vC (.int 0)) (aE (vC (.int 1)) (aE (vC (.int 2)) (aE (vC (.int 3)) (aE (vC (.int 5)) (aE (vC (.int 9)) (aE (vC (.int 1)) (aE (vC (.int 0)) aL))))))))) (v2 gG (v2 jK (aD 7) (vC (.int 4096))) (vC (.int 8)))))) (eW 5 (eQ (aE (v2 gG (aD 7) (aD 3)) (aE (v2 gG (v2 jK (aD 7) (vC (.int 16))) (aD 4)) (aE (v2 gG (v2 jK (aD 7) (vC (.int 64))) (aD 3)) (aE (aD 8) aL))))))))) (rZ [5] (cH (xOf (eQ (aE (aD 3) (aE (aD 4) (aE (vCB kSS (aE (aD 5) aL)) aL)))))))))))
def mV:Fn:=fnOf 9 sH
def sT:aX:=(aR (aY 1 (xOf (fW (aE (vC (.int 0)) aL)))) (aR (aY 2 (xOf (vC (.int 0)))) (aR (bZ (bA (v2 kLt (aD 2) (vCB eN (aE (aD 1) aL)))) (aR (iF (gK (v2 kIx (aD 0) (vC (.int 2)))) (dR [3,4,5,6]) (sIf (lX (bA (v2 (kEq false) (aD 3) (v2 kIx (aD 1) (aD 2)))) (bA (v2 (kIn true) (aD 5) (aD 1)))) (eW 1 (aD 5)) bJ)) (aY 2 (xOf (v2 bW (aD 2) (vC (.int 1)))))) fuel) (jN 1))))
def mX:Fn:=fnOf 7 sT
end VL.K10
end
section
namespace ST
open PySem PySem.SetTable
end ST
end
section
namespace SU
open ST
open PySem PySem.SetTable
section
variable {prog:Program} {w:World} {A:Around} {E:Y9} {s:Shared}
end
end SU
end
section
namespace SU
open ST
open PySem PySem.SetTable
namespace F
end F
section
variable {prog:Program} {w:World} {A:Around} {E:Y9} {s:Shared}
end
end SU
end
section
namespace SU
open ST
open PySem PySem.SetTable
section
variable {prog:Program} {w:World} {A:Around} {E:Y9} {s:Shared}
end
end SU
end
section
namespace SU
open PySem PySem.SetTable ST
section
variable {prog:Program} {w:World} {A:Around} {E:Y9} {s:Shared}
end
end SU
end
section
namespace SU
open PySem PySem.SetTable ST
section
variable {prog:Program} {w:World} {A:Around} {E:Y9} {s:Shared}
end
end SU
end
section
namespace SU
open PySem PySem.W PyProof.Rows ST
section
variable {prog:Program} {w:World} {A:Around} {E:Y9} {s:Shared}
end
end SU
end
section
namespace VL
open PySem PySem.Spec PyProof.Rows L2
section
variable {X:Cx} {W:XW} {e:Expr} {pos:Pos}
end
end VL
end
section
namespace VL.K11
open VL PySem PY K10
end VL.K11
end
section
namespace VL
open PySem PySem.Spec PyProof.Rows L2
def kvM (kvs:List (Key×Int)):List (Key×V):=kvs.map fun p=>(p.1,V.int p.2)
def pA (kvs:List (Key×Int)) (k:Key):Option Int:=(kvs.find? fun kv=>decide (kv.1=k)).map (·.2)
def aBi (kvs:List (Key×Int)) (k:Key) (v:Int):List (Key×Int):=if kvs.any (fun kv=>decide (kv.1=k)) then kvs.map (fun kv=>if kv.1=k then (kv.1,v) else kv) else kvs ++ [(k,v)]
theorem aDi (k:Key):∀kvs:List (Key×Int),pK (kvM kvs) k=(pA kvs k).map V.int
 | []=>rfl
 | p::kvs=>by
  unfold pK pA kvM
  rw [List.map_cons,List.find?_cons,List.find?_cons]
  by_cases h:p.1=k
  ·simp [h]
  ·simp [h]
   have:=aDi k kvs
   unfold pK pA kvM at this
   simpa using this
theorem aPu (k:Key) (v:Int) (kvs:List (Key×Int)):putK (kvM kvs) k (V.int v)=kvM (aBi kvs k v):=by
 unfold putK aBi kvM
 have e:(List.any (kvs.map fun p=>(p.1,V.int p.2)) fun kv=>decide (kv.1=k))=kvs.any fun kv=>decide (kv.1=k):=by rw [List.any_map];rfl
 rw [e]
 by_cases h:(kvs.any fun kv=>decide (kv.1=k))=true
 ·rw [if_pos h,if_pos h,List.map_map,List.map_map]
  refine List.map_congr_left fun p _=>?_
  show (if p.1=k then (p.1,V.int v) else (p.1,V.int p.2))=((if p.1=k then (p.1,v) else p).1,V.int (if p.1=k then (p.1,v) else p).2)
  split<;>rfl
 ·rw [if_neg h,if_neg h,List.map_append];rfl
section
variable {X:Cx} {W:XW} {a b e:Expr} {pos:Pos} {K:FG} {F H:Hp}
theorem Own.dk {o:Bool} {kvs:List (Key×Int)} {v:V} {fp:Y2} (g:bB F H) (h:Own K F H (.ext o (.dK kvs)) v fp):∃p,v=.ref p/\H p=some (.dK (kvM kvs)):=by
 unfold Own at h
 obtain ⟨a,u,e,t,h⟩:=h
 have t:u=.dK (kvM kvs):=t
 subst t
 rcases h with ⟨_,_,h,_⟩ | ⟨_,h,_⟩
 ·exact ⟨a,e,h⟩
 ·exact ⟨a,e,g a _ h⟩
def aJt:D×Bool->D×Bool->R (D×Bool):=fun x y=>match x.1,y.1 with
 | .int k,.ext _ (.dK kvs)=>.ok (.bl (pA kvs (.inl k)).isSome,true)
 | _,_=>.bad
def aIr:D×Bool->D×Bool->R (D×Bool):=fun x y=>match x.1,y.1 with
 | .ext _ (.dK kvs),.int k=>(match pA kvs (.inl k) with | some v=>.ok (.int v,true) | none=>.bad)
 | _,_=>.bad
theorem aRs {f g:aS} {σ:L2.St} {Q:VK} (h:tv K (v2 aJt f g) σ H Q):aTi (tv K f) (tv K g) σ H Q:=by
 obtain ⟨ρ,F,fps,S,h⟩:=h
 refine ⟨ρ,F,fps,S,R.aM (R.aN.mp h) fun x hx v F1 H1 fx g1 o1 n1 k1=>?_⟩
 refine ⟨ρ,F1,fps,S.grow g1,R.aM (R.aN.mp hx) fun y hy u F2 H2 fy g2 o2 n2 k2=>?_⟩
 obtain ⟨x,bx⟩:=x
 obtain ⟨y,by'⟩:=y
 cases x<;>try exact hy.elim
 cases y<;>try exact hy.elim
 rename_i k ow t
 cases t<;>try exact hy.elim
 rename_i kvs
 obtain ⟨p,ep,hp⟩:=Own.dk g2.inn o2
 unfold Own at o1
 refine ⟨p,pK (kvM kvs) (.inl k),ep,?_,?_⟩
 ·rw [o1.1];exact zT.k (k:=.inl k) hp
 ·rw [aDi,Option.isSome_map]
  exact EPost.dU (g1.trans g2) hy rfl
theorem aQp {k:Nat} {f g:aS} (hr:Room k X.A) (ha:SE X a f) (hb:SE X b g) (hm:behindInMarks .In b=false:=by with_unfolding_all rfl):ST X (.Compare a [.In] [b] pos) (bA (v2 aJt f g)):=by
 have:=aR1 (pos:=pos) (aSs (X:=X) (by have:=hr.un;omega) ha hb) hm
 exact L2.PT.imp this fun σ H Q h=>aRs (aBx h)
theorem aRp {f g:aS} {σ:L2.St} {Q:VK} (h:tv K (v2 aIr f g) σ H Q):aOi (tv K f) (tv K g) σ H Q:=by
 obtain ⟨ρ,F,fps,S,h⟩:=h
 refine ⟨ρ,F,fps,S,R.aM (R.aN.mp h) fun x hx v F1 H1 fx g1 o1 n1 k1=>?_⟩
 refine ⟨ρ,F1,fps,S.grow g1,R.aM (R.aN.mp hx) fun y hy u F2 H2 fy g2 o2 n2 k2=>?_⟩
 obtain ⟨x,bx⟩:=x
 obtain ⟨y,by'⟩:=y
 cases x<;>try exact hy.elim
 rename_i ow t
 cases t<;>try exact hy.elim
 rename_i kvs
 cases y<;>try exact hy.elim
 rename_i k
 have hy:(match pA kvs (.inl k) with | some v=>R.ok (D.int v,true) | none=>.bad).holds (EPost K F H Q):=hy
 cases ev:pA kvs (.inl k) with
 | none=>rw [ev] at hy;exact hy.elim
 | some i =>
  rw [ev] at hy
  obtain ⟨p,ep,hp⟩:=Own.dk g2.inn (o1.grow g2)
  unfold Own at o2
  refine ⟨p,.int i,ep,?_,EPost.dU (g1.trans g2) hy rfl⟩
  have:=zT.k (k:=.inl k) hp
  rw [aDi,ev] at this
  rw [o2.1];exact this
theorem aRi {k:Nat} {f g:aS} (hr:Room k X.A) (ha:SE X a f) (hb:SE X b g) (hs:aQv b:=by intro _ _;rfl):SE X (.Subscript a b pos) (v2 aIr f g) :=
 (aMb (by have:=hr.un;omega) ha hb hs).imp fun _ _ _ h=>aRp h
def vU (f g:aS):aS:=fun ρ=>(f ρ).bind fun x=>(g ρ).bind fun y=>match x.1,y.1 with
 | .int k,.int v=>.ok (.ext true (.dK [(.inl k,v)]),true)
 | _,_=>.bad
theorem aH9 {f g:aS} {σ:L2.St} {Q:VK} (h:tv K (vU f g) σ H Q):aN0 [(tv K f,tv K g)] σ H Q:=by
 obtain ⟨ρ,F,fps,S,h⟩:=h
 intro p hp
 have g0:Grow F H F (upd H p (.dK [])):=Grow.one S.same hp
 have hF:F p=none:=S.same.free hp
 unfold vU at h
 refine ⟨ρ,F,fps,S.grow g0,R.aM (R.aN.mp h) fun x hx v F1 H1 fx g1 o1 n1 k1=>?_⟩
 refine ⟨ρ,F1,fps,(S.grow g0).grow g1,R.aM (R.aN.mp hx) fun y hy u F2 H2 fy g2 o2 n2 k2=>?_⟩
 obtain ⟨x,bx⟩:=x
 obtain ⟨y,by'⟩:=y
 cases x<;>try exact hy.elim
 cases y<;>try exact hy.elim
 rename_i k i
 have gg:=(g0.trans g1).trans g2
 have g12:=g1.trans g2
 have hp2:H2 p=some (.dK []):=g12.all p _ bN
 have hF2:F2 p=none:=by
  cases e:F2 p with
  | none=>rfl
  | some o =>
   rcases g12.new p o e with q | q
   ·rw [hF] at q;cases q
   ·rw [bN] at q;cases q
 unfold Own at o1 o2
 refine ⟨hp2,[(.inl k,.int i)],by rw [o1.1,o2.1];rfl,by simp,?_⟩
 have G:Grow F H F2 (upd H2 p (.dK (kvM [(.inl k,i)]))):=by
  refine ⟨gg.fr,fun b o e=>?_,fun b o e=>?_,fun b o e=>?_⟩
  ·rw [aZ (bM e hp)];exact gg.all b o e
  ·rw [aZ fun z=>by rw [z,hF2] at e;cases e];exact gg.inn b o e
  ·exact gg.new b o e
 have hy:EPost K F H Q (.ext true (.dK [(.inl k,i)]),true):=hy
 refine hy (.ref p) F2 _ [p] G ?_ (by simp) fun _ b hb=>by
  have:b=p:=by simpa using hb
  rw [this];exact hp
 unfold Own
 exact ⟨p,_,rfl,rfl,.inl ⟨rfl,hF2,bN,rfl⟩⟩
theorem aH8 {f g:aS} (ha:SE X a f) (hb:SE X b g):SE X (.Dict [some a] [b] pos) (vU f g) :=
 (aMd (aJ9 ha hb aLj) rfl rfl (by simp) (by simp)).imp fun _ _ _ h=>aH9 h
end
section
variable {K:FG} {W:XW} {F H F' H' F1 H1:Hp} {Z Z' Z1:Y2} {σ σ1:L2.St} {ρ ρ1:VL.Env} {D':Ends}
theorem Sim.mutateO {fps:Y5} (S:Sim K F H σ ρ fps) {i:Nat} {d d':D} {v:V} {fp fp':Y2} {a:Addr} {uu:HO} (e:getD ρ i=some d) (es:σ[i]?=some (some v)) (ef:fps[i]?=some fp)
  (ha:a∈fp) (o:Own K F (upd H a uu) d' v fp') (n:fp'.Nodup) (dj:∀b∈fp',b∈fp\/(b ∉ fps.flatten)) :
  Sim K F (upd H a uu) σ (putD ρ i d') (fps.set i fp'):=by
 have hz:a∈fps.flatten:=List.mem_flatten.mpr ⟨fp,List.mem_of_getElem? ef,ha⟩
 have fa:=(S.zone a hz).1
 refine ⟨fun b u q=>?_,by rw [gY];exact S.ls,by rw [gY,List.length_set];exact S.lf,fun j s c e1 e2=>?_,dW S.nd ef n dj,fun b hb=>?_⟩
 ·rw [aZ (bM q fa)];exact S.same b u q
 ·rcases vG e1 e2 (by rw [e];rfl) with ⟨rfl,rfl⟩ | ⟨hj,e3⟩
  ·exact ⟨v,fp',es,List.getElem?_set_self (List.getElem?_eq_some_iff.mp ef).1,o⟩
  ·obtain ⟨w,f,h1,h2,h3⟩:=S.at_ j s c e3 e2
   exact ⟨w,f,h1,by rw [List.getElem?_set_ne hj];exact h2,h3.other (apart S.nd ef h2 hj ha)⟩
 ·rcases bC hb with h | h
  ·refine ⟨(S.zone b h).1,?_⟩
   by_cases hba:b=a
   ·subst hba;rw [bN];simp
   ·rw [aZ hba];exact (S.zone b h).2
  ·obtain ⟨q1,ys,q2⟩:=Own.zone d' o b h
   exact ⟨q1,by rw [q2];simp⟩
theorem dS.aX5 {fps:Y5} {P:L2.St->Hp->Prop} {i:Nat} {d d':D} {v:V} {fp fp' fu:Y2} {a:Addr} {uu:HO} (h:dS K F H fps.flatten ρ σ P (putD ρ i d')) (S:Sim K F H σ ρ fps) (g2:Grow F H F1 H1) (k3:∀b∈fu,H b=none)
  (eg:getD ρ i=some d) (h1:σ[i]?=some (some v)) (h2:fps[i]?=some fp) (ha:a∈fp) (o:Own K F1 (upd H1 a uu) d' v fp') (n:fp'.Nodup) (dj:∀b∈fp',b∈fp\/b∈fu):P σ (upd H1 a uu):=by
 have S3:=(S.grow g2).mutateO eg h1 h2 ha o n fun b hb=>(dj b hb).imp_right (S.aCo k3 b)
 have ez:Evo F H fps.flatten F1 H1 (fps.flatten++fu):=g2.aS2 fun b hb=>(List.mem_append.mp hb).imp_right (k3 b)
 have hz:∀b∈fp,b∈fps.flatten:=fun b hb=>List.mem_flatten.mpr ⟨_,List.mem_of_getElem? h2,hb⟩
 refine h σ F1 _ _ (ez.trans (aD3 (List.mem_append_left _ (hz a ha)) fun b hb=>?_)) S3 (vY.pins)
 rcases bC hb with q | q
 ·exact List.mem_append_left _ q
 ·rcases dj b q with q | q
  ·exact List.mem_append_left _ (hz b q)
  ·exact List.mem_append_right _ q
end
section
variable {X:Cx} {W:XW} {a b e:Expr} {pos:Pos} {K:FG} {F H:Hp}
def uI (i:Nat) (g f:aS):aX:=fun ρ=>match f ρ with
 | .ok (.int v,_)=>(match g ρ with
  | .ok (.int k,_)=>(match getD ρ i with | some (.ext true (.dK kvs))=>if kvs.length<1000000 then .next (putD ρ i (.ext true (.dK (aBi kvs (.inl k) v)))) else .bad | _=>.bad)
  | _=>.bad)
 | _=>.bad
theorem aLp {σ:L2.St} {D':Ends} {i:Nat} {g f:aS} (h:sv K W (uI i g f) D' σ H):aOy (aAf i) (tv K g) (tv K f) D' σ H:=by
 obtain ⟨ρ,F,fps,S,h⟩:=h
 unfold uI at h
 refine ⟨ρ,F,fps,S,?_⟩
 cases ef:f ρ with
 | exc _=>rw [ef] at h;exact h.elim
 | bad=>rw [ef] at h;exact h.elim
 | ok x =>
  rw [ef] at h
  obtain ⟨x,bx⟩:=x
  cases x<;>try exact h.elim
  rename_i v
  dsimp only at h
  intro u F1 H1 fx g1 o1 n1 k1
  cases eg:g ρ with
  | exc _=>rw [eg] at h;exact h.elim
  | bad=>rw [eg] at h;exact h.elim
  | ok y =>
   rw [eg] at h
   obtain ⟨y,by'⟩:=y
   cases y<;>try exact h.elim
   rename_i k
   dsimp only at h
   cases ed:getD ρ i with
   | none=>rw [ed] at h;exact h.elim
   | some d0 =>
    rw [ed] at h
    cases d0<;>try exact h.elim
    rename_i ow t
    cases t<;>try (cases ow<;>exact h.elim)
    rename_i kvs
    cases ow
    ·exact h.elim
    have h:cK K W F H fps.flatten ρ σ D' (if kvs.length<1000000 then .next (putD ρ i (.ext true (.dK (aBi kvs (.inl k) v)))) else .bad):=h
    by_cases hlen:kvs.length<1000000
    ·rw [if_pos hlen] at h
     have S1:=S.grow g1
     obtain ⟨w,fp,h1,h2,h3⟩:=S1.get ed
     unfold Own at h3
     obtain ⟨a,uu,ew,tu,hh⟩:=h3
     have tu:uu=.dK (kvM kvs):=tu
     subst tu
     rcases hh with ⟨_,w1,w2,w3⟩ | ⟨w0,_⟩
     ·subst ew;subst w3
      refine ⟨.ref a,h1,ρ,F1,fps,S1,?_⟩
      rw [eg]
      intro q F2 H2 fy g2 o2 n2 k2
      unfold Own at o1 o2
      have w2':=g2.all a _ w2
      refine ⟨a,upd H2 a (.dK (kvM (aBi kvs (.inl k) v))),rfl,?_,?_⟩
      ·rw [o1.1,o2.1,<- aPu]
       exact aJ1.k (k:=.inl k) w2' (by unfold kvM;rw [List.length_map];exact tS hlen)
      ·have gg:=g1.trans g2
       have w1':=(S1.grow g2).zone1 h2 List.mem_cons_self
       refine dS.aX5 (fu:=[]) h S gg (fun b hb=>by cases hb) ed h1 h2 List.mem_cons_self ?_ (by simp) fun b hb=>.inl hb
       unfold Own
       exact ⟨a,_,rfl,rfl,.inl ⟨rfl,w1',bN,rfl⟩⟩
     ·cases w0
    ·rw [if_neg hlen] at h;exact h.elim
theorem aNm {k:Nat} (i:Nat) {x:Str} {f g:aS} {p tp:Pos} (hr:Room k X.A) (hi:SE X b g) (he:SE X e f) (hN:X.N[i]?=some x:=by rfl) (hv:Vis X.env.scope x:=by first | exact Or.inl rfl | exact Or.inr (Or.inl rfl) | exact Or.inr (Or.inr rfl)) (hd:(x == ("__debug__" : Str))=false:=by decide)
  (hcd:(x == ("__classdict__" : Str))=false:=by decide) (hs:swapsWith e (some (.Subscript (.Name x p) b tp)) pos.line X.env=pure false:=by rfl):SS X W (.Assign [.Subscript (.Name x p) b tp] e pos) (uI i g f) :=
 (aLm (by have:=hr.un;omega) (nG hN hv hd hcd) hi he hs).imp fun _ _ _ h=>aLp h
end
end VL
end
section
namespace VL
open PySem PySem.Spec PyProof.Rows L2
section
variable {X:Cx} {W:XW} {a b e:Expr} {pos:Pos} {K:FG} {F H:Hp}
def aMv (f:aS):aS:=fun ρ=>(f ρ).bind fun x=>if x.2 then .ok (x.1.frz,true) else .bad
theorem aNp {f:aS} {σ:L2.St} {Q:VK} (h:tv K (aMv f) σ H Q):tv K f σ H Q:=by
 obtain ⟨ρ,F,fps,S,h⟩:=h
 refine ⟨ρ,F,fps,S,R.aM (R.aN.mp h) fun x hx v F1 H1 fx g1 o1 n1 k1=>?_⟩
 obtain ⟨x,b⟩:=x
 cases b
 ·exact hx.elim
 ·have hx:EPost K F H Q (x.frz,true):=hx
  have z:∀a∈fx,F1 a=none:=fun a ha=>(Own.zone x o1 a ha).1
  exact hx v (fO F1 H1 fx) H1 [] (g1.frz (k1 rfl) z) (Own.freeze z x (fun _ h=>h) o1) (by simp) (fun _ b hb=>by cases hb)
theorem aSx {f:aS} (h:SE X e f):SE X e (aMv f):=h.imp fun _ _ _ h=>aNp h
end
end VL
end
section
namespace VL
open PySem PySem.Spec PyProof.Rows L2
section
variable {X:Cx} {W:XW} {a b:Expr} {pos:Pos} {K:FG} {σ:L2.St} {H:Hp} {D':Ends}
end
end VL
end
section
namespace VL.K20
open VL PySem PY K10 K11
def kX:aX:=(aR (aY 0 (xOf (vCB aIp (aE (aD 0) aL)))) (aR (aY 1 (xOf (vCB aIp (aE (aD 1) aL)))) (aR (bZ (bA (v2 (kEq true) (aD 1) (vC (.int 0)))) (aR (aY 2 (xOf (v2 gG (aD 0) (aD 1)))) (aR (aY 0 (xOf (aD 1))) (aY 1 (xOf (aD 2))))) fuel) (jN 0))))
def eU:Fn:=fnOf 3 kX
def wG:aX:=(aR (aY 2 (xOf (bD eU (aE (aD 0) (aE (aD 1) aL))))) (cH (xOf (eQ (aE (v2 jK (aD 0) (aD 2)) (aE (v2 jK (aD 1) (aD 2)) aL))))))
def eO:Fn:=fnOf 3 wG
def oP:aX:=(aR (sIf (nE (fC (fL (v1 (oX "tuple") (aD 0)))) (bA (v2 (kEq true) (vCB eN (aE (aD 0) aL)) (vC (.int 2))))) (cH (xOf (vC (.bl false)))) bJ) (aR (sIf (nE (fC (fL (bD jJ (aE (v2 kIx (aD 0) (vC (.int 0))) aL)))) (fC (fL (bD jJ (aE (v2 kIx (aD 0) (vC (.int 1))) aL))))) (cH (xOf (vC (.bl false)))) bJ) (cH (xOf (wY (v2 kGt (v2 kIx (aD 0) (vC (.int 1))) (vC (.int 0))) (v2 (kEq false) (bD eU (aE (v2 kIx (aD 0) (vC (.int 0))) (aE (v2 kIx (aD 0) (vC (.int 1))) aL))) (vC (.int 1))))))))
def kK:Fn:=fnOf 1 oP
def jX:aX:=(aR (iF (gK (aD 0)) (bH 1) (sIf (nE (fC (fL (bD kK (aE (aD 1) aL)))) (bA (v2 kLt (v2 kIx (aD 1) (vC (.int 0))) (vC (.int 0))))) (cH (xOf (vC (.bl false)))) bJ)) (cH (xOf (vC (.bl true)))))
def fY:Fn:=fnOf 2 jX
def yC:aX:=(cH (xOf (v2 kLt (v2 bT (v2 kIx (aD 0) (vC (.int 0))) (v2 kIx (aD 1) (vC (.int 1)))) (v2 bT (v2 kIx (aD 1) (vC (.int 0))) (v2 kIx (aD 0) (vC (.int 1)))))))
def iP:Fn:=fnOf 2 yC
def aHs:aX:=(cH (xOf (bD eO (aE (v2 bW (v2 bT (v2 kIx (aD 0) (vC (.int 0))) (v2 kIx (aD 1) (vC (.int 1)))) (v2 bT (v2 kIx (aD 1) (vC (.int 0))) (v2 kIx (aD 0) (vC (.int 1))))) (aE (v2 bT (v2 kIx (aD 0) (vC (.int 1))) (v2 kIx (aD 1) (vC (.int 1)))) aL)))))
def vX:Fn:=fnOf 2 aHs
def sR:aX:=(aR (aY 2 (xOf (bS (iR1 (aE (v2 kIx (aD 0) (vC (.int 0))) aL)) 1 [] (bH 0) bV (vC .non)))) (aR (iF (wI (v2 kIx (aD 0) (vC (.int 2)))) (dR [3,4]) (aR (aY 5 (xOf (v2 kIx (aD 1) (v2 kIx (aD 4) (vC (.int 0)))))) (sIf (bA (v2 (iS true) (aD 5) (vC .non))) (aR (aY 6 (xOf (v2 bW (v2 kIx (aD 5) (vC (.int 0))) (v2 kIx (aD 4) (vC (.int 3)))))) (sIf (nE (bA (v2 (iS false) (v2 kIx (aD 2) (v2 kIx (aD 4) (vC (.int 2)))) (vC .non))) (bA (v2 kGt (aD 6) (v2 kIx (v2 kIx (aD 2) (v2 kIx (aD 4) (vC (.int 2)))) (vC (.int 0)))))) (dJ 2 (v2 kIx (aD 4) (vC (.int 2))) (eQ (aE (aD 6) (aE (aD 3) aL)))) bJ)) bJ))) (jN 2)))
def nY:Fn:=fnOf 7 sR
def nU:aX:=(aR (aY 1 (xOf (bS (iR1 (aE (v2 kIx (aD 0) (vC (.int 0))) aL)) 1 [] (bH 0) bV (vC .non)))) (aR (dJ 1 (vC (.int 0)) (eQ (aE (vC (.int 0)) (aE (vC .non) aL)))) (aR (rZ [1] (aY 2 (xOf (fW (aE (aD 1) aL))))) (aR (iF (iR1 (aE (v2 kIx (aD 0) (vC (.int 0))) aL)) (bH 3) (eW 2 (aMv (bD nY (aE (aD 0) (aE (v2 kIx (aD 2) (v1 (kU fun i=>.int (-i)) (vC (.int 1)))) aL)))))) (jN 2)))))
def jC:Fn:=fnOf 4 nU
def lR:aX:=(aR (aY 2 (xOf (v2 sW (vCB eN (aE (aD 0) aL)) (vC (.int 1))))) (aR (sIf (bA (v2 (iS false) (v2 kIx (v2 kIx (aD 0) (aD 2)) (aD 1)) (vC .non))) (cH (xOf (vC .non))) bJ) (aR (aY 3 (xOf (vC .non))) (aR (iF (iR1 (aE (aD 2) aL)) (bH 4) (sIf (bA (v2 (iS true) (v2 kIx (v2 kIx (aD 0) (aD 4)) (aD 1)) (vC .non))) (aR (aY 5 (xOf (eQ (aE (v2 sW (v2 kIx (v2 kIx (v2 kIx (aD 0) (aD 2)) (aD 1)) (vC (.int 0))) (v2 kIx (v2 kIx (v2 kIx (aD 0) (aD 4)) (aD 1)) (vC (.int 0)))) (aE (v2 sW (aD 2) (aD 4)) aL))))) (sIf (nE (bA (v2 (iS false) (aD 3) (vC .non))) (fL (bD iP (aE (aD 5) (aE (aD 3) aL))))) (aY 3 (xOf (aD 5))) bJ)) bJ)) (jN 3)))))
def lK:Fn:=fnOf 6 lR
def mB:aX:=(aR (aY 1 (xOf (vC .non))) (aR (aY 2 (xOf (vC .non))) (aR (iF (iR1 (aE (vCB eN (aE (v2 kIx (aD 0) (vC (.int 0))) aL)) aL)) (bH 3) (aR (aY 4 (xOf (bD lK (aE (aD 0) (aE (aD 3) aL))))) (sIf (lX (bA (v2 (iS true) (aD 4) (vC .non))) (nE (bA (v2 (iS false) (aD 2) (vC .non))) (fL (bD iP (aE (aD 2) (aE (aD 4) aL)))))) (aR (aY 1 (xOf (aD 3))) (aY 2 (xOf (aD 4)))) bJ))) (jN 1))))
def iD:Fn:=fnOf 5 mB
def sQ:aX:=(aR (aY 3 (xOf (vU (aD 2) (vC (.int 0))))) (aR (aY 4 (xOf (fW aL))) (aR (aY 5 (xOf (v2 sW (vCB eN (aE (aD 1) aL)) (vC (.int 1))))) (bZ (fL (vC (.bl true))) (aR (eW 4 (v2 kIx (v2 kIx (v2 kIx (aD 1) (aD 5)) (aD 2)) (vC (.int 1)))) (aR (aY 2 (xOf (v2 kIx (v2 kIx (v2 kIx (aD 0) (vC (.int 2))) (v2 kIx (aD 4) (v1 (kU fun i=>.int (-i)) (vC (.int 1))))) (vC (.int 0))))) (aR (sIf (bA (v2 aJt (aD 2) (aD 3))) (aR (aY 6 (xOf (vSl (aD 4) (sF (v2 aIr (aD 3) (aD 2))) kQ))) (aR (aG6 6) (jN 6))) bJ) (aR (uI 3 (aD 2) (vCB eN (aE (aD 4) aL))) (vB 5 (fun i j=>i - j) (vC (.int 1))))))) fuel))))
def nX:Fn:=fnOf 7 sQ
def iX:aX:=(aR (aY 1 (xOf (bD jC (aE (aD 0) aL)))) (aR (rZ [1] (aY 2 (xOf (bD iD (aE (aD 1) aL))))) (aR (sIf (bA (v2 (iS false) (aD 2) (vC .non))) (cH (xOf (fW aL))) bJ) (cH (xOf (bD nX (aE (aD 0) (aE (aD 1) (aE (aD 2) aL)))))))))
def jL:Fn:=fnOf 3 iX
def mH:aX:=(cH (xOf (vCB aG1 (aE (bS (gK (aD 1)) 1 [0] (bH 0) bV (v2 kIx (v2 kIx (v2 kIx (aD 1) (vC (.int 2))) (aD 0)) (vC (.int 3)))) aL))))
def fF:Fn:=fnOf 2 mH
def sO:aX:=(aR (aY 2 (xOf (bS (gK (v2 kIx (aD 0) (vC (.int 2)))) 1 [1] (bH 0) bV (v2 sW (v2 bT (v2 kIx (aD 0) (vC (.int 3))) (v2 kIx (aD 1) (vC (.int 1)))) (v2 kIx (aD 1) (vC (.int 0))))))) (rZ [2] (cH (xOf (bS (gK (v2 kIx (bD iK (aE (aD 0) (aE (aD 2) aL))) (vC (.int 0)))) 1 [1] (bH 0) bV (bD eO (aE (aD 0) (aE (v2 kIx (aD 1) (vC (.int 1))) aL))))))))
def kB:Fn:=fnOf 3 sO
def kE:aX:=(aR (mI (gZ gF (aE (aD 0) aL))) (aR (aY 1 (xOf (bD jL (aE (aD 0) aL)))) (aR (rZ [1] (aY 2 (xOf (vC (.tup (([0,1]:Y0).map D.int)))))) (aR (sIf (bA (v2 kGt (vCB eN (aE (aD 1) aL)) (vC (.int 0)))) (rZ [1] (aY 2 (xOf (bD eO (aE (bD fF (aE (aD 0) (aE (aD 1) aL))) (aE (vCB eN (aE (aD 1) aL)) aL)))))) bJ) (cH (xOf (eQ (aE (aD 2) (aE (aD 1) (aE (bD kB (aE (aD 0) (aE (aD 2) aL))) aL))))))))))
def gQ:Fn:=fnOf 3 kE
def oM:aX:=(aR (sIf (nE (bA (v2 (kEq true) (vCB eN (aE (aD 3) aL)) (v2 kIx (aD 0) (vC (.int 0))))) (fC (fL (bD fY (aE (aD 3) aL))))) (cH (xOf (vC (.bl false)))) bJ) (aR (iF (gK (v2 kIx (aD 0) (vC (.int 2)))) (bH 4) (sIf (fL (v2 kIx (aD 1) (v2 kIx (aD 4) (vC (.int 0))))) (aR (aY 5 (xOf (bD vX (aE (v2 kIx (aD 3) (v2 kIx (aD 4) (vC (.int 2)))) (aE (eQ (aE (v2 kIx (aD 4) (vC (.int 3))) (aE (vC (.int 1)) aL))) aL))))) (sIf (fL (bD iP (aE (bD vX (aE (v2 kIx (aD 3) (v2 kIx (aD 4) (vC (.int 0)))) (aE (aD 2) aL))) (aE (aD 5) aL)))) (cH (xOf (vC (.bl false)))) bJ)) bJ)) (cH (xOf (vC (.bl true))))))
def rR:Fn:=fnOf 6 oM
def oO:aX:=(aR (aY 3 (xOf (v2 kIx (aD 0) (vC (.int 2))))) (aR (iF (gK (aD 2)) (bH 4) (sIf (fC (fL (bD cA (aE (aD 4) (aE (vC (.int 0)) (aE (v2 sW (vCB eN (aE (aD 3) aL)) (vC (.int 1))) aL)))))) (cH (xOf (vC (.bl false)))) bJ)) (aR (aY 5 (xOf (v2 kIx (v2 kIx (aD 3) (v2 kIx (aD 2) (v1 (kU fun i=>.int (-i)) (vC (.int 1))))) (vC (.int 2))))) (aR (sIf (fC (fL (v2 kIx (aD 1) (aD 5)))) (cH (xOf (vC (.bl false)))) bJ) (aR (iF (gK (aD 2)) (bH 4) (aR (sIf (bA (v2 (kEq true) (v2 kIx (v2 kIx (aD 3) (aD 4)) (vC (.int 0))) (aD 5))) (cH (xOf (vC (.bl false)))) bJ) (aY 5 (xOf (v2 kIx (v2 kIx (aD 3) (aD 4)) (vC (.int 2))))))) (cH (xOf (vC (.bl true)))))))))
def kL:Fn:=fnOf 6 oO
def iI:aX:=(aR (sIf (bA (v2 (kEq false) (vCB eN (aE (aD 3) aL)) (vC (.int 0)))) (cH (xOf (v2 (kEq false) (aD 2) (vC (.tup (([0,1]:Y0).map D.int)))))) bJ) (aR (sIf (fC (fL (bD kL (aE (aD 0) (aE (aD 1) (aE (aD 3) aL)))))) (cH (xOf (vC (.bl false)))) bJ) (cH (xOf (v2 (kEq false) (aD 2) (bD eO (aE (bD fF (aE (aD 0) (aE (aD 3) aL))) (aE (vCB eN (aE (aD 3) aL)) aL))))))))
def lQ:Fn:=fnOf 4 iI
def kO:aX:=(aR (aY 4 (gZ oH (aE (aD 0) aL))) (cH (xOf (wY (bD lQ (aE (aD 0) (aE (aD 4) (aE (aD 1) (aE (aD 2) aL))))) (bD rR (aE (aD 0) (aE (aD 4) (aE (aD 1) (aE (aD 3) aL)))))))))
def gR:Fn:=fnOf 5 kO
end VL.K20
end
section
namespace VL
open PySem PySem.Spec PyProof.Rows L2
section
variable {X:Cx}
theorem aE0:∀ {as:Y2} {us:Y1},Vals (as.map V.ref) us->us=as.map Value.ref
 | [],us,h=>by cases h;rfl
 | a::as,us,h=>by
  cases h with
  | cons h1 h2 =>
   rw [aE0 h2]
   cases (show _=Value.ref a from h1)
   rfl
theorem aGk {as:Y2} {kn tb:Str->Bool} (hf:∀c C,kn c=true->hZ X.K c C->ExcF X.K C/\PySem.W.kitAny X.K (.ref C) (as.map Value.ref)=some (tb c)) :
  lD X (.builtin "isinstance") (fun vs H Q=>∃F d v fp c o p,bB F H/\vs=[v,.ref p]/\d=D.ext o (.exc c)/\Own X.K F H d v fp/\kn c=true/\H p=some (.tup (as.map V.ref))/\Q (.bl (tb c)) H):=by
 intro pins s σ H vs us Q I r h
 obtain ⟨F,d,v,fp,c,ow,p,hs,e,rfl,o,hk,hp,q⟩:=h
 subst e
 obtain ⟨u,u2,rfl,r1,r2⟩:=r.two
 cases (show u2=Value.ref p from r2)
 unfold Own at o
 obtain ⟨a,w,ev,⟨C,hC,ew⟩,o⟩:=o
 subst ev
 cases (show u=Value.ref a from r1)
 have hH:H a=some (ExcAt a C):=by
  rcases o with ⟨_,_,o,_⟩ | ⟨_,o,_⟩
  ·rw [<- ew];exact o
  ·rw [<- ew];exact hs a _ o
 obtain ⟨ef,ek⟩:=hf c C hk hC
 have ho:∃o vs,s.heap.get? a=some o/\o.cls=.ref C/\o.data=.fields vs:=(I.hok a _ hH).1
 obtain ⟨its,rv,⟨ob,h1,h2,n,h3⟩,_⟩:=I.tuple (SqT.of hp)
 rw [aE0 rv] at h3
 obtain ⟨oc,od,odt,osl⟩:=ob
 dsimp only at h2 h3
 subst h2;subst h3
 exact PySem.W.kia_tup (aBv ef) I.kIn ho h1 ek (fun z=>nomatch z) fun tk=>⟨.bl (tb c),H,I.tok _,rfl,q⟩
theorem aRg:PA X [] (fun σ H Q=>Q (([]:Y2).map V.ref) H):=nO
theorem aE3 {x:Str} {A:Addr} {p:Pos} {es:List Expr} {as:Y2} (hm:X.mg x=some (.ref A)) (h:PA X es (fun σ H Q=>Q (as.map V.ref) H)) (hg:Gl X x:=by rfl) (hd:(x == ("__debug__" : Str))=false:=by decide)
  (hs:starEach (.Name x p::es) X.env=(false,eval (.Name x p) X.env)::starEach es X.env:=by rfl):PA X (.Name x p::es) (fun σ H Q=>Q ((A::as).map V.ref) H) :=
 fI (tI hg hm (show RelV (.ref A) _ from rfl) hd) h hs
theorem aLc {as:Y2} {kn tb:Str->Bool} {a ce:Expr} {f:aS} {p pos:Pos} (hce:PE X ce (aP8 fun σ H Q=>Q (as.map V.ref) H)) (hf:∀c C,kn c=true->hZ X.K c C->ExcF X.K C/\PySem.W.kitAny X.K (.ref C) (as.map Value.ref)=some (tb c)) (hz:as.length<=1000000) (ha:SE X a f) (hm:X.mg "isinstance" = none) (hg:Gl X "isinstance" :=by rfl)
  (hs1:starEach [a,ce] X.env=(false,eval a X.env)::starEach [ce] X.env:=by rfl) (hs2:starEach [ce] X.env=(false,eval ce X.env)::starEach [] X.env:=by rfl)
  (hpl:(backTo pos (starEach [ce] X.env)).any (·.1)=false:=by rfl):SE X (.Call (.Name "isinstance" p) [a,ce] [] pos) (v1 (aGu kn tb) f) :=
 (rE (aGk hf) hg hm PyProof.Rows.boot_isinstance (fI ha (fI hce nO hs2) hs1) (by decide) (by decide) hs1 hpl).imp fun σ H Q h=>by
  obtain ⟨ρ,F,fps,S,h⟩:=h
  refine ⟨ρ,F,fps,S,R.aM (R.aN.mp h) fun x hx v F1 H1 fx g1 o1 n1 k1=>?_⟩
  unfold aGu at hx
  split at hx
  ·rename_i o c e
   by_cases hc:kn c=true
   ·rw [if_pos hc] at hx
    refine ⟨gO (by rw [List.length_map];exact hz),fun q hq=>?_⟩
    have g2:=Grow.one (o:=.tup (as.map V.ref)) g1.inn hq
    exact ⟨F1,x.1,v,fx,c,o,q,g2.inn,rfl,e,o1.grow g2,hc,bN,EPost.dU (g1.trans g2) hx rfl⟩
   ·rw [if_neg hc] at hx;exact hx.elim
  ·exact hx.elim
end
section
open PySem
variable {es xs:List Expr} {p:Pos} {env:PySem.Env}
end
end VL
end
section
namespace VL.K21
open VL PySem PY K10 K11 K20
def knF:Str->Bool:=fun c=>c == "BadMachine"
def ffF:Str->Bool:=fun _=>false
def pZ:aX:=(aR (aY 4 (xOf (bD mX (aE (aD 0) aL)))) (aR (sIf (nE (bA (v2 (kEq true) (vCB eN (aE (aD 3) aL)) (v2 kIx (aD 0) (vC (.int 0))))) (nE (bA (v2 kLt (v2 kIx (aD 1) (vC (.int 0))) (vC (.int 0)))) (fL (vCB aEa (aE (bS (gK (aD 3)) 1 [] (bH 0) bV (v2 kLt (v2 kIx (aD 0) (vC (.int 0))) (vC (.int 0)))) aL))))) (cH (xOf (vC (.bl false)))) bJ) (aR (iF (gK (v2 kIx (aD 0) (vC (.int 2)))) (dR [5,6,7,8]) (aR (aY 9 (xOf (v2 bW (v2 bT (v2 kIx (v2 kIx (aD 3) (aD 5)) (vC (.int 0))) (v2 kIx (aD 1) (vC (.int 1)))) (v2 bT (v2 kIx (aD 1) (vC (.int 0))) (v2 kIx (v2 kIx (aD 3) (aD 5)) (vC (.int 1))))))) (aR (aY 10 (xOf (v2 bT (v2 bW (v2 bT (aD 8) (v2 kIx (v2 kIx (aD 3) (aD 7)) (vC (.int 1)))) (v2 kIx (v2 kIx (aD 3) (aD 7)) (vC (.int 0)))) (v2 kIx (aD 1) (vC (.int 1)))))) (sIf (lX (bA (v2 (kIn false) (aD 5) (aD 4))) (bA (v2 kLt (v2 bT (aD 9) (v2 kIx (v2 kIx (aD 3) (aD 7)) (vC (.int 1)))) (v2 bT (aD 10) (v2 kIx (v2 kIx (aD 3) (aD 5)) (vC (.int 1))))))) (cH (xOf (vC (.bl false)))) bJ)))) (aR (sIf (bA (v2 (kEq false) (aD 2) (fW aL))) (cH (xOf (v2 (kEq false) (v2 kIx (aD 1) (vC (.int 0))) (vC (.int 0))))) bJ) (aR (sIf (fC (fL (vCB aMp (aE (bS (gK (aD 2)) 1 [0] (bH 0) bV (rX (fun i j=>decide (i<=j)) (fun i j=>decide (i<j)) (vC (.int 0)) (aD 0) (vCB eN (aE (v2 kIx (aD 1) (vC (.int 2))) aL)))) aL)))) (cH (xOf (vC (.bl false)))) bJ) (aR (iF (iR1 (aE (vCB eN (aE (aD 2) aL)) aL)) (bH 11) (sIf (bA (v2 (kEq true) (v2 kIx (v2 kIx (v2 kIx (aD 0) (vC (.int 2))) (v2 kIx (aD 2) (v2 sW (aD 11) (vC (.int 1))))) (vC (.int 2))) (v2 kIx (v2 kIx (v2 kIx (aD 0) (vC (.int 2))) (v2 kIx (aD 2) (aD 11))) (vC (.int 0))))) (cH (xOf (vC (.bl false)))) bJ)) (aR (aY 8 (xOf (vCB aG1 (aE (bS (gK (aD 2)) 1 [0] (bH 0) bV (v2 kIx (v2 kIx (v2 kIx (aD 1) (vC (.int 2))) (aD 0)) (vC (.int 3)))) aL)))) (cH (xOf (wY (v2 (kIn false) (v2 kIx (v2 kIx (v2 kIx (aD 0) (vC (.int 2))) (v2 kIx (aD 2) (vC (.int 0)))) (vC (.int 0))) (aD 4)) (v2 (kEq false) (v2 bT (aD 8) (v2 kIx (aD 1) (vC (.int 1)))) (v2 bT (v2 kIx (aD 1) (vC (.int 0))) (vCB eN (aE (aD 2) aL))))))))))))))
def aAb:Fn:=fnOf 12 pZ
def aCc:aX:=(aR (aY 2 (xOf (vC .non))) (aR (aRu 3 knF (sIf (bA (v2 (kEq false) (aD 0) (vC (.int 0)))) (mI (gZ gQ (aE (aD 1) aL))) (mI (gZ gR (aE (aD 1) (aE (eQ (aE (vC (.int 0)) (aE (vC (.int 1)) aL))) (aE (fW aL) (aE (fW aL) aL))))))) (aY 2 (xOf (aD 3)))) (cH (xOf (wY (v1 (aGu knF (eqF "BadMachine")) (aD 2)) (v1 aI4 (v1 (aGu knF ffF) (aD 2))))))))
def hX:Fn:=fnOf 4 aCc
def sy1:aX:=(aY 1 (xOf (bD mV (aE (aD 0) (aE (vC (.int 0)) (aE (vC (.int 6)) aL))))))
def sy2:aX:=(sIf (bA (v2 (kEq false) (v2 gG (bD cX (aE (aD 0) (aE (vC (.int 44)) aL))) (vC (.int 5))) (vC (.int 0)))) (aR (aY 2 (xOf (v2 bW (vC (.int 2)) (v2 gG (bD cX (aE (aD 0) (aE (vC (.int 45)) aL))) (vC (.int 3)))))) (aR (aY 3 (xOf (v2 gG (bD cX (aE (aD 0) (aE (vC (.int 46)) aL))) (vC (.int 4))))) (aY 1 (xOf (eQ (aE (aD 2) (aE (vC (.int 1)) (aE (bS (iR1 (aE (aD 2) aL)) 1 [3,2] (bH 0) bV (eQ (aE (aD 0) (aE (vC (.int 0)) (aE (v2 gG (v2 bW (aD 0) (vC (.int 1))) (aD 2)) (aE (aD 1) aL)))))) aL)))))))) bJ)
def sy3:aX:=(oJ [4,5,6] (xOf (bD gQ (aE (aD 1) aL))))
def sy4:aX:=(aY 7 (xOf (bD cX (aE (aD 0) (aE (vC (.int 40)) aL)))))
def sy5:aX:=(aY 8 (xOf (v2 gG (aD 7) (vC (.int 8)))))
def sy6:aX:=(sIf (bA (v2 kLt (aD 8) (vC (.int 2)))) (aY 4 (xOf (v2 kIx (fW (aE (eQ (aE (vC (.int 0)) (aE (vC (.int 1)) aL))) (aE (eQ (aE (vC (.int 1)) (aE (vC (.int 1)) aL))) (aE (eQ (aE (vC (.int 3)) (aE (vC (.int 2)) aL))) (aE (eQ (aE (v1 (kU fun i=>.int (-i)) (vC (.int 1))) (aE (vC (.int 1)) aL))) (aE (eQ (aE (vC (.int 9)) (aE (vC (.int 1)) aL))) aL)))))) (v2 gG (v2 jK (aD 7) (vC (.int 8))) (vC (.int 5)))))) bJ)
def sy7:aX:=(sIf (bA (v2 (kEq false) (aD 8) (vC (.int 2)))) (aR (aY 9 (xOf (v2 gG (v2 jK (aD 7) (vC (.int 8))) (v2 bW (vCB eN (aE (aD 5) aL)) (vC (.int 1)))))) (aY 5 (xOf (v2 bW (v2 bW (vSl (aD 5) kQ (sF (aD 9))) (fW (aE (v2 kIx (fW (aE (v1 (kU fun i=>.int (-i)) (vC (.int 1))) (aE (vC (.int 0)) (aE (vCB eN (aE (v2 kIx (aD 1) (vC (.int 2))) aL)) (aE (vC (.int 1)) aL))))) (v2 gG (v2 jK (aD 7) (vC (.int 64))) (vC (.int 4)))) aL))) (vSl (aD 5) (sF (aD 9)) kQ))))) bJ)
def sy8:aX:=(sIf (bA (v2 (kIn false) (aD 8) (eQ (aE (vC (.int 3)) (aE (vC (.int 7)) aL))))) (aY 5 (xOf (v2 kIx (fW (aE (v2 bW (vSl (aD 5) (sF (vC (.int 1))) kQ) (vSl (aD 5) kQ (sF (vC (.int 1))))) (aE (v2 bW (aD 5) (aD 5)) (aE (vSl (aD 5) (sF (vC (.int 1))) kQ) (aE (fW aL) (aE (v2 bW (aD 5) (aD 5)) aL)))))) (v2 gG (v2 jK (aD 7) (vC (.int 8))) (vC (.int 5)))))) bJ)
def sy9:aX:=(sIf (bA (v2 (kEq false) (aD 8) (vC (.int 4)))) (aR (aY 9 (xOf (v2 gG (v2 jK (aD 7) (vC (.int 8))) (v2 kIx (aD 1) (vC (.int 0)))))) (aY 6 (xOf (v2 bW (v2 bW (vSl (aD 6) kQ (sF (aD 9))) (fW (aE (v2 kIx (fW (aE (eQ (aE (vC (.int 0)) (aE (vC (.int 1)) aL))) (aE (eQ (aE (vC (.int 5)) (aE (vC (.int 2)) aL))) (aE (eQ (aE (v1 (kU fun i=>.int (-i)) (vC (.int 1))) (aE (vC (.int 3)) aL))) (aE (eQ (aE (vC (.int 40)) (aE (vC (.int 1)) aL))) aL))))) (v2 gG (v2 jK (aD 7) (vC (.int 64))) (vC (.int 4)))) aL))) (vSl (aD 6) (sF (v2 bW (aD 9) (vC (.int 1)))) kQ))))) bJ)
def aGq:aX:=(sIf (bA (v2 (kEq false) (aD 8) (vC (.int 5)))) (aY 6 (xOf (v2 kIx (fW (aE (v2 bW (aD 6) (fW (aE (eQ (aE (vC (.int 0)) (aE (vC (.int 1)) aL))) aL))) (aE (vSl (aD 6) kQ (sF (v1 (kU fun i=>.int (-i)) (vC (.int 1))))) aL))) (v2 gG (v2 jK (aD 7) (vC (.int 8))) (vC (.int 2)))))) bJ)
def aG0:aX:=(sIf (bA (v2 (kEq false) (aD 8) (vC (.int 6)))) (aY 6 (xOf (bS (gK (aD 6)) 1 [] (bH 0) bV (eQ (aE (v2 bW (v2 kIx (aD 0) (vC (.int 0))) (v2 kIx (aD 0) (vC (.int 1)))) (aE (v2 kIx (aD 0) (vC (.int 1))) aL)))))) bJ)
def aH4:aX:=(rZ [5,6] (aY 10 (gZ gR (aE (aD 1) (aE (aD 4) (aE (vCB vT (aE (aD 5) aL)) (aE (vCB vT (aE (aD 6) aL)) aL)))))))
def aJi:aX:=(sIf (nE (fC (fL (v1 (oX "bool") (aD 10)))) (bA (v2 (kEq true) (aD 10) (bD aAb (aE (aD 1) (aE (aD 4) (aE (aD 5) (aE (aD 6) aL)))))))) (cH (xOf (vC (.bl false)))) bJ)
def aJw:aX:=(aY 11 (xOf (v2 kIx (fW (aE (eQ (aE (vC (.int 0)) (aE (vC (.int 1)) (aE (fW aL) aL)))) (aE (eQ (aE (vC (.int 1)) (aE (vC (.int 9)) (aE (fW aL) aL)))) (aE (eQ (aE (vC (.int 2)) (aE (vC (.int 1)) (aE (fW (aE (eQ (aE (vC (.int 0)) (aE (vC (.int 0)) (aE (vC (.int 2)) (aE (vC (.int 1)) aL))))) aL)) aL)))) (aE (eQ (aE (vC (.int 2)) (aE (vC (.int 1)) (aE (v2 bT (fW (aE (eQ (aE (vC (.int 0)) (aE (vC (.int 0)) (aE (vC (.int 1)) (aE (vC (.int 1)) aL))))) aL)) (vC (.int 2))) aL)))) aL))))) (v2 gG (v2 jK (aD 7) (vC (.int 8))) (vC (.int 4))))))
def aMi:aX:=(cH (xOf (v2 (kEq false) (bS (iR1 (aE (vC (.int 2)) aL)) 1 [11] (bH 0) bV (bD hX (aE (aD 0) (aE (aD 1) aL)))) (v2 bT (fW (aE (vC (.bl true)) aL)) (vC (.int 2))))))
def b_law:aX:=(aR sy1 (aR sy2 (aR sy3 (aR sy4 (aR sy5 (aR sy6 (aR sy7 (aR sy8 (aR sy9 (aR aGq (aR aG0 (aR aH4 (aR aJi (aR aJw aMi))))))))))))))
def f_law:Fn:=fnOf 12 b_law
end VL.K21
end
section
namespace VL
open PySem PySem.Spec PyProof.Rows L2
theorem iZ {X:Cx} {pos:Pos} {x:Str} {i:Int} (hm:∃t,X.mg x=some (.int i t)) (hg:Gl X x:=by rfl) (hd:(x == ("__debug__" : Str))=false:=by decide):SE X (.Name x pos) (vC (.int i)):=by
 obtain ⟨t,hm⟩:=hm
 exact aM1 hm hg hd
theorem yH {X:Cx} {pos:Pos} {x:Str} {ns:Y0} (h:∃(p:Addr) (o:Obj) (its:Array Value) (n:Nat),X.mg x=some (.ref p)/\X.K.lookup p=some o/\o.cls=.type "tuple" /\o.data=.seq its n/\IntsAre its.toList ns) (hz:ns.length<=1000000) (hg:Gl X x:=by rfl) (hdb:(x == ("__debug__" : Str))=false:=by decide):SE X (.Name x pos) (vC (.tup (ns.map D.int))):=by
 obtain ⟨p,o,its,n,h1,h2,h3,h4,h5⟩:=h
 exact aHo h1 h2 h3 h4 h5 hz hg hdb
theorem al1 {f0:aS}:zQ 1 (aE f0 aL):=oC aHy
theorem al2 {f0 f1:aS}:zQ 2 (aE f0 (aE f1 aL)):=oC al1
theorem al3 {f0 f1 f2:aS}:zQ 3 (aE f0 (aE f1 (aE f2 aL))):=oC al2
theorem al4 {f0 f1 f2 f3:aS}:zQ 4 (aE f0 (aE f1 (aE f2 (aE f3 aL)))):=oC al3
namespace K21
open PY K10 K11 K20
structure XT (K:FG) (mg:Y6) (P M R C D F:Addr):Prop where
 cP:hZ K "PurseError" P
 mP:mg "PurseError" = some (.ref P)
 mM:mg "BadMachine" = some (.ref M)
 mR:mg "BadRow" = some (.ref R)
 mC:mg "BadPrices" = some (.ref C)
 mD:mg "BadModel" = some (.ref D)
 mF:mg "BadForm" = some (.ref F)
 cM:hZ K "BadMachine" M
 xM:PySem.W.excIn K M bmV "ValueError.__new__" = true
 eM:PySem.W.exmOne K (.ref M) (.ref P)=some true
 xx:ExcF K M
 kM:PySem.W.kitOne K (.ref M) (.ref M)=some true
 kT:PySem.W.kitAny K (.ref M) [.ref F,.ref D,.ref C,.ref R]=some false
section
variable {K:FG} {mg:Y6} {P M R C D F:Addr} (x:XT K mg P M R C D F)
include x
theorem XT.one:∀c C',knF c=true->hZ K c C'->c = "BadMachine" /\C'=M:=fun c C' h1 h2=>by
 have e:c = "BadMachine" :=beq_iff_eq.mp h1
 subst e
 have:=h2.symm.trans x.cM
 cases this;exact ⟨rfl,rfl⟩
theorem XT.ct:∀c C',knF c=true->hZ K c C'->PySem.W.exmOne K (.ref C') (.ref P)=some true:=fun c C' h1 h2=>by rw [(x.one c C' h1 h2).2];exact x.eM
theorem XT.fM:∀c C',knF c=true->hZ K c C'->ExcF K C'/\PySem.W.kitOne K (.ref C') (.ref M)=some (eqF "BadMachine" c):=fun c C' h1 h2=>by obtain ⟨rfl,rfl⟩:=x.one c C' h1 h2;exact ⟨x.xx,x.kM⟩
theorem XT.fT:∀c C',knF c=true->hZ K c C'->ExcF K C'/\PySem.W.kitAny K (.ref C') ([F,D,C,R].map Value.ref)=some (ffF c):=fun c C' h1 h2=>by rw [(x.one c C' h1 h2).2];exact ⟨x.xx,x.kT⟩
end
def top (i:Nat):Stmt:=PySem.Challenge.pw_pursehall_k21_price_shown.main.body.getD i (.Pass ⟨0,0,0,0⟩)
structure Txt (K:FG) (mg:Y6):Prop where
 n_abs:mg "abs" = none
 n_all:mg "all" = none
 n_any:mg "any" = none
 n_bool:mg "bool" = none
 n_enumerate:mg "enumerate" = none
 n_int:mg "int" = none
 n_isinstance:mg "isinstance" = none
 n_len:mg "len" = none
 n_list:mg "list" = none
 n_range:mg "range" = none
 n_set:mg "set" = none
 n_sorted:mg "sorted" = none
 n_sum:mg "sum" = none
 n_tuple:mg "tuple" = none
 i_MOST_PLACES:∃t,mg "MOST_PLACES" = some (.int 200 t)
 i_MOST_KINDS:∃t,mg "MOST_KINDS" = some (.int 8 t)
 i_MOST_DEEDS:∃t,mg "MOST_DEEDS" = some (.int 600 t)
 i_MOST_COST:∃t,mg "MOST_COST" = some (.int 1000 t)
 t_NOUGHT:∃(p:Addr) (o:Obj) (its:Array Value) (n:Nat),mg "NOUGHT" = some (.ref p)/\K.lookup p=some o/\o.cls=.type "tuple" /\o.data=.seq its n/\IntsAre its.toList [0,1]
 d_is_whole:FnAt K "is_whole" (top 2)
 d_is_between:FnAt K "is_between" (top 3)
 d_common_divisor:FnAt K "common_divisor" (top 4)
 d_fraction:FnAt K "fraction" (top 5)
 d_is_fraction:FnAt K "is_fraction" (top 6)
 d_are_from_nought:FnAt K "are_from_nought" (top 7)
 d_is_less:FnAt K "is_less" (top 8)
 d_plus:FnAt K "plus" (top 9)
 d_is_deed:FnAt K "is_deed" (top 22)
 d_look_deeds:FnAt K "look_deeds" (top 23)
 d_look_machine:FnAt K "look_machine" (top 24)
 d_deeds_from:FnAt K "deeds_from" (top 25)
 d_came_by:FnAt K "came_by" (top 26)
 d_reached:FnAt K "reached" (top 27)
 d_raise_once:FnAt K "raise_once" (top 29)
 d_most_gains:FnAt K "most_gains" (top 30)
 d_next_rows:FnAt K "next_rows" (top 32)
 d_dearest_rows:FnAt K "dearest_rows" (top 33)
 d_least_rise:FnAt K "least_rise" (top 34)
 d_place_of_most:FnAt K "place_of_most" (top 35)
 d_ring_back:FnAt K "ring_back" (top 36)
 d_dearest_ring:FnAt K "dearest_ring" (top 37)
 d_cost_together:FnAt K "cost_together" (top 38)
 d_purse_for:FnAt K "purse_for" (top 39)
 d_least_price:FnAt K "least_price" (top 40)
 d_is_paid:FnAt K "is_paid" (top 41)
 d_leads_round:FnAt K "leads_round" (top 42)
 d_ring_shows:FnAt K "ring_shows" (top 43)
 d_shows_price:FnAt K "shows_price" (top 44)
 d_q_cell:FnAt K "_law_cell" (top 46)
 d_q_mix:FnAt K "_law_mix" (top 47)
 d_q_machine:FnAt K "_law_machine" (top 48)
 d_q_reached:FnAt K "_law_reached" (top 49)
 d_q_due:FnAt K "_law_due" (top 50)
 d_q_refused:FnAt K "_law_refused" (top 51)
 d_law:FnAt K "law" (top 52)
 xc:∃P M R C D F,XT K mg P M R C D F
abbrev KnT (P:Program) (w:World) (K:FG) (mg:Y6) (base:Heap) (l:Nat) (n:Str) (k:Nat) (f:Fn):Prop:=Txt K mg->K.In base->base.Ns mainGlobals mg->Kn P w K mg base l n k f
section
variable {P:Program} {w:World} {K:FG} {mg:Y6} {base:Heap}
def aDg:List Str:=["thing"]
theorem aBd:FnScope aDg ["thing"] (aH (top 2)):=⟨rfl,rfl,rfl,by decide +kernel,rfl,by decide +kernel,by decide +kernel⟩
theorem nK:KnT P w K mg base 1 "is_whole" 1 jJ:=fun T kb nb =>
 cG T.d_is_whole kb nb aBd rfl rfl (by decide) (fun _ _ _ _ _ _ us hl=>match us,hl with | [_],_=>rfl) fun f cdv A outer s H E hr =>
  (aK (bG (aQ (pJ (pG (T' := "int") (by decide) (aA 0) T.n_isinstance T.n_int (by decide +kernel)) (oB (aH1 (pG (T' := "bool") (by decide) (aA 0) T.n_isinstance T.n_bool (by decide +kernel))))))))
def zY:List Str:=["thing", "least", "most"]
theorem wM:FnScope zY ["thing", "least", "most"] (aH (top 3)):=⟨rfl,rfl,rfl,by decide +kernel,rfl,by decide +kernel,by decide +kernel⟩
theorem dD:KnT P w K mg base 2 "is_between" 3 cA:=fun T kb nb =>
 cG T.d_is_between kb nb wM rfl rfl (by decide) (fun _ _ _ _ _ _ us hl=>match us,hl with | [_,_,_],_=>rfl) fun f cdv A outer s H E hr =>
  (aK (bG (aQ (pJ (aW (nK T kb nb) (hr.mono (by decide)) (aB (aA 0) aG) al1) (oB (aA3 aK6 aK6 (aA 1) (aA 0) (aA 2)))))))
def rS:List Str:=["one", "other", "rest"]
theorem cJ:FnScope rS ["one", "other"] (aH (top 4)):=⟨rfl,rfl,rfl,by decide +kernel,rfl,by decide +kernel,by decide +kernel⟩
theorem kA:KnT P w K mg base 1 "common_divisor" 2 eU:=fun T kb nb =>
 cG T.d_common_divisor kb nb cJ rfl rfl (by decide) (fun _ _ _ _ _ _ us hl=>match us,hl with | [_,_],_=>rfl) fun f cdv A outer s H E hr =>
  (aF (aU 0 cJ.nd (aQ (aK5 T.n_abs (aA 0)))) (aF (aU 1 cJ.nd (aQ (aK5 T.n_abs (aA 1)))) (aF (nM fuel dE.own (oV hr (aA 1) aC) (aF (aU 2 cJ.nd (aQ (cO (aA 0) (aA 1)))) (aF (aU 0 cJ.nd (aQ (aA 1))) (aK (aU 1 cJ.nd (aQ (aA 2))))))) (aK (gP 0)))))
def aC2:List Str:=["top", "bottom", "divisor"]
theorem sP:FnScope aC2 ["top", "bottom"] (aH (top 5)):=⟨rfl,rfl,rfl,by decide +kernel,rfl,by decide +kernel,by decide +kernel⟩
theorem jY:KnT P w K mg base 2 "fraction" 2 eO:=fun T kb nb =>
 cG T.d_fraction kb nb sP rfl rfl (by decide) (fun _ _ _ _ _ _ us hl=>match us,hl with | [_,_],_=>rfl) fun f cdv A outer s H E hr =>
  (aF (aU 2 sP.nd (aQ (aW (kA T kb nb) (hr.mono (by decide)) (aB (aA 0) (aB (aA 1) aG)) al2))) (aK (bG (aQ (bY (aB (eK (aA 0) (aA 2)) (aB (eK (aA 1) (aA 2)) aG)))))))
def wQ:List Str:=["thing"]
theorem vZ:FnScope wQ ["thing"] (aH (top 6)):=⟨rfl,rfl,rfl,by decide +kernel,rfl,by decide +kernel,by decide +kernel⟩
theorem uP:KnT P w K mg base 2 "is_fraction" 1 kK:=fun T kb nb =>
 cG T.d_is_fraction kb nb vZ rfl rfl (by decide) (fun _ _ _ _ _ _ us hl=>match us,hl with | [_],_=>rfl) fun f cdv A outer s H E hr =>
  (aF (bR (mJ (jZ (eG (cF (pG (T' := "tuple") (by decide) (aA 0) T.n_isinstance T.n_tuple (by decide +kernel)))) (gM (oV hr (cR T.n_len (aA 0)) aC)))) (aK (bG (aQ eY))) bF) (aF (bR (mJ (jZ (eG (cF (aW (nK T kb nb) (hr.mono (by decide)) (aB (aI (aA 0) aC) aG) al1))) (gM (eG (cF (aW (nK T kb nb) (hr.mono (by decide)) (aB (aI (aA 0) aC) aG) al1)))))) (aK (bG (aQ eY))) bF) (aK (bG (aQ (pJ (aT0 (aI (aA 0) aC) aC) (oB (uJ hr (aW (kA T kb nb) (hr.mono (by decide)) (aB (aI (aA 0) aC) (aB (aI (aA 0) aC) aG)) al2) aC))))))))
def rA:List Str:=["things", "thing"]
theorem jM:FnScope rA ["things"] (aH (top 7)):=⟨rfl,rfl,rfl,by decide +kernel,rfl,by decide +kernel,by decide +kernel⟩
theorem pC:KnT P w K mg base 3 "are_from_nought" 1 fY:=fun T kb nb =>
 cG T.d_are_from_nought kb nb jM rfl rfl (by decide) (fun _ _ _ _ _ _ us hl=>match us,hl with | [_],_=>rfl) fun f cdv A outer s H E hr =>
  (aF (eL dE.own rfl (fR (aA 0)) (cT 1 jM.nd) bI (aK (bR (mJ (jZ (eG (cF (aW (uP T kb nb) (hr.mono (by decide)) (aB (aA 1) aG) al1))) (gM (vF (aI (aA 1) aC) aC)))) (aK (bG (aQ eY))) bF))) (aK (bG (aQ eY))))
def aGy:List Str:=["one", "other"]
theorem aC1:FnScope aGy ["one", "other"] (aH (top 8)):=⟨rfl,rfl,rfl,by decide +kernel,rfl,by decide +kernel,by decide +kernel⟩
theorem pM:KnT P w K mg base 1 "is_less" 2 iP:=fun T kb nb =>
 cG T.d_is_less kb nb aC1 rfl rfl (by decide) (fun _ _ _ _ _ _ us hl=>match us,hl with | [_,_],_=>rfl) fun f cdv A outer s H E hr =>
  (aK (bG (aQ (aNy (bU (aI (aA 0) aC) (aI (aA 1) aC)) (bU (aI (aA 1) aC) (aI (aA 0) aC))))))
def aPx:List Str:=["one", "other"]
theorem aLi:FnScope aPx ["one", "other"] (aH (top 9)):=⟨rfl,rfl,rfl,by decide +kernel,rfl,by decide +kernel,by decide +kernel⟩
theorem aEj:KnT P w K mg base 3 "plus" 2 vX:=fun T kb nb =>
 cG T.d_plus kb nb aLi rfl rfl (by decide) (fun _ _ _ _ _ _ us hl=>match us,hl with | [_,_],_=>rfl) fun f cdv A outer s H E hr =>
  (aK (bG (aQ (aW (jY T kb nb) (hr.mono (by decide)) (aB (bO (bU (aI (aA 0) aC) (aI (aA 1) aC)) (bU (aI (aA 1) aC) (aI (aA 0) aC))) (aB (bU (aI (aA 0) aC) (aI (aA 1) aC)) aG)) al2))))
def aHd:List Str:=["machine", "deed", "last_place"]
theorem uK:FnScope aHd ["machine", "deed"] (aH (top 22)):=⟨rfl,rfl,rfl,by decide +kernel,rfl,by decide +kernel,by decide +kernel⟩
theorem aCy:KnT P w K mg base 3 "is_deed" 2 sD:=fun T kb nb =>
 cG T.d_is_deed kb nb uK rfl rfl (by decide) (fun _ _ _ _ _ _ us hl=>match us,hl with | [_,_],_=>rfl) fun f cdv A outer s H E hr =>
  (aF (bR (mJ (jZ (eG (cF (pG (T' := "tuple") (by decide) (aA 1) T.n_isinstance T.n_tuple (by decide +kernel)))) (gM (oV hr (cR T.n_len (aA 1)) aC)))) (aK (bG (aQ eY))) bF) (aF (aU 2 uK.nd (aQ (kF (aI (aA 0) aC) aC))) (aF (bR (mJ (jZ (eG (cF (aW (dD T kb nb) (hr.mono (by decide)) (aB (aI (aA 1) aC) (aB aC (aB (aA 2) aG))) al3))) (gM (eG (cF (aW (dD T kb nb) (hr.mono (by decide)) (aB (aI (aA 1) aC) (aB aC (aB (aA 2) aG))) al3)))))) (aK (bG (aQ eY))) bF) (aK (bG (aQ (pJ (aW (dD T kb nb) (hr.mono (by decide)) (aB (aI (aA 1) aC) (aB aC (aB (kF (aI (aA 0) aC) aC) aG))) al3) (oB (aW (dD T kb nb) (hr.mono (by decide)) (aB (aI (aA 1) aC) (aB aC (aB (iZ T.i_MOST_COST) aG))) al3)))))))))
def aAv:List Str:=["machine", "deeds", "number", "deed"]
theorem fB:FnScope aAv ["machine"] (aH (top 23)):=⟨rfl,rfl,rfl,by decide +kernel,rfl,by decide +kernel,by decide +kernel⟩
theorem wU (T:Txt K mg) (kb:K.In base) (nb:base.Ns mainGlobals mg):Kn P w K mg base 4 "look_deeds" 1 lE:=by
 obtain ⟨_,_,_,_,_,_,XX⟩:=T.xc
 exact cG T.d_look_deeds kb nb fB rfl rfl (by decide) (fun _ _ _ _ _ _ us hl=>match us,hl with | [_],_=>rfl) fun f cdv A outer s H E hr =>
   (aF (aU 1 fB.nd (aQ (aI (aA 0) aC))) (aF (bR (mJ (jZ (eG (cF (pG (T' := "list") (by decide) (aA 1) T.n_isinstance T.n_list (by decide +kernel)))) (gM (aD8 (cR T.n_len (aA 1)) (iZ T.i_MOST_DEEDS))))) (aK (lC rN rfl XX.cM XX.xM XX.mM (qG (cU iR (cU (qN (iZ T.i_MOST_DEEDS)) (cU iR pU)))))) bF) (aF (eL dE.own rfl (qS T.n_enumerate (aA 1)) (nH rfl (fA (cT 2 fB.nd) (fA (cT 3 fB.nd) sJ)) rfl rfl) (lM rfl) (aK (bR (eG (cF (aW (aCy T kb nb) (hr.mono (by decide)) (aB (aA 0) (aB (aA 3) aG)) al2))) (aK (lC rN rfl XX.cM XX.xM XX.mM (qG (cU iR (cU (qN (aA 2)) (cU iR pU)))))) bF))) (aK (eL dE.own rfl (aFy T.n_range (aB aC (aB (cR T.n_len (aA 1)) aG))) (cT 2 fB.nd) bI (aK (bR (aPj hr (aI (aA 1) (aA 2)) (aI (aA 1) (kF (aA 2) aC))) (aK (lC rN rfl XX.cM XX.xM XX.mM (qG (cU iR (cU (qN (aA 2)) (cU iR pU)))))) bF)))))))
def tV:List Str:=["machine"]
theorem sU:FnScope tV ["machine"] (aH (top 24)):=⟨rfl,rfl,rfl,by decide +kernel,rfl,by decide +kernel,by decide +kernel⟩
theorem lV (T:Txt K mg) (kb:K.In base) (nb:base.Ns mainGlobals mg):Kn P w K mg base 5 "look_machine" 1 gF:=by
 obtain ⟨_,_,_,_,_,_,XX⟩:=T.xc
 exact cG T.d_look_machine kb nb sU rfl rfl (by decide) (fun _ _ _ _ _ _ us hl=>match us,hl with | [_],_=>rfl) fun f cdv A outer s H E hr =>
   (aF (bR (mJ (jZ (eG (cF (pG (T' := "tuple") (by decide) (aA 0) T.n_isinstance T.n_tuple (by decide +kernel)))) (gM (oV hr (cR T.n_len (aA 0)) aC)))) (aK (lC rN rfl XX.cM XX.xM XX.mM iR)) bF) (aF (bR (eG (cF (aW (dD T kb nb) (hr.mono (by decide)) (aB (aI (aA 0) aC) (aB aC (aB (iZ T.i_MOST_PLACES) aG))) al3))) (aK (lC rN rfl XX.cM XX.xM XX.mM (qG (cU iR (cU (qN (iZ T.i_MOST_PLACES)) (cU iR pU)))))) bF) (aF (bR (eG (cF (aW (dD T kb nb) (hr.mono (by decide)) (aB (aI (aA 0) aC) (aB aC (aB (iZ T.i_MOST_KINDS) aG))) al3))) (aK (lC rN rfl XX.cM XX.xM XX.mM (qG (cU iR (cU (qN (iZ T.i_MOST_KINDS)) (cU iR pU)))))) bF) (aK (qW (jR dE (wU T kb nb) (hr.mono (by decide)) (aB (aA 0) aG) al1))))))
def pS:List Str:=["machine", "numbers", "number", "deed"]
theorem gW:FnScope pS ["machine"] (aH (top 25)):=⟨rfl,rfl,rfl,by decide +kernel,rfl,by decide +kernel,by decide +kernel⟩
theorem xI:KnT P w K mg base 1 "deeds_from" 1 lJ:=fun T kb nb =>
 cG T.d_deeds_from kb nb gW rfl rfl (by decide) (fun _ _ _ _ _ _ us hl=>match us,hl with | [_],_=>rfl) fun f cdv A outer s H E hr =>
  (aF (dA 1 gW.nd (aH (top 25)) pS ["place"] 1 [] rfl rfl rfl (cS T.n_range (aB (aI (aA 0) aC) aG)) bI (by decide +kernel) fun _ _ _ _=>⟨(cT 0 (show List.Nodup (["place"]:List Str) from (by decide +kernel))),oN,(cE aG)⟩) (aF (eL dE.own rfl (qS T.n_enumerate (aI (aA 0) aC)) (nH rfl (fA (cT 2 gW.nd) (fA (cT 3 gW.nd) sJ)) rfl rfl) (lM rfl) (aK (aBh 1 (aI (aA 3) aC) (aA 2)))) (aK (gP 1))))
def yZ:List Str:=["machine", "onward", "came", "places", "at", "number", "place"]
theorem eP:FnScope yZ ["machine"] (aH (top 26)):=⟨rfl,rfl,rfl,by decide +kernel,rfl,by decide +kernel,by decide +kernel⟩
theorem aC3:KnT P w K mg base 2 "came_by" 1 oK:=fun T kb nb =>
 cG T.d_came_by kb nb eP rfl rfl (by decide) (fun _ _ _ _ _ _ us hl=>match us,hl with | [_],_=>rfl) fun f cdv A outer s H E hr =>
  (aF (aU 1 eP.nd (aQ (aW (xI T kb nb) (hr.mono (by decide)) (aB (aA 0) aG) al1))) (aF (dA 2 eP.nd (aH (top 26)) yZ ["place"] 1 [] rfl rfl rfl (cS T.n_range (aB (aI (aA 0) aC) aG)) bI (by decide +kernel) fun _ _ _ _=>⟨(cT 0 (show List.Nodup (["place"]:List Str) from (by decide +kernel))),oN,cZ⟩) (aF (aU 3 eP.nd (aQ (cE (aB aC aG)))) (aF (aU 4 eP.nd (aQ aC)) (aF (kN [1] (nM fuel dE.own (vF (aA 4) (cR T.n_len (aA 3))) (aF (eL dE.own rfl (fR (aI (aA 1) (aI (aA 3) (aA 4)))) (cT 5 eP.nd) bI (aF (aU 6 eP.nd (aQ (aI (aI (aI (aA 0) aC) (aA 5)) aC))) (aK (bR (mJ (uA (oV hr (aA 6) aC) (rH (sC (aI (aA 2) (aA 6)) cZ)))) (aF (jB 2 (aA 6) (aA 5)) (aK (kS 3 (aA 6)))) bF)))) (aK (aC8 4 eP.nd aIj aC))))) (aK (gP 2)))))))
def yK:List Str:=["machine"]
theorem aC7:FnScope yK ["machine"] (aH (top 27)):=⟨rfl,rfl,rfl,by decide +kernel,rfl,by decide +kernel,by decide +kernel⟩
theorem vL:KnT P w K mg base 6 "reached" 1 oH:=fun T kb nb =>
 cG T.d_reached kb nb aC7 rfl rfl (by decide) (fun _ _ _ _ _ _ us hl=>match us,hl with | [_],_=>rfl) fun f cdv A outer s H E hr =>
  (aF (qW (jR dE (lV T kb nb) (hr.mono (by decide)) (aB (aA 0) aG) al1)) (aK (bG (aQ (hG (aH (top 27)) yK ["place", "number"] 2 [] rfl rfl rfl (qS T.n_enumerate (aW (aC3 T kb nb) (hr.mono (by decide)) (aB (aA 0) aG) al1)) (lM rfl) (by decide +kernel) fun _ _ _ _=>⟨(nH rfl (fA (cT 0 (show List.Nodup (["place", "number"]:List Str) from (by decide +kernel))) (fA (cT 1 (show List.Nodup (["place", "number"]:List Str) from (by decide +kernel))) sJ)) rfl rfl),oN,(aUi (uJ hr (aA 0) aC) (oB (aMz (aA 1) cZ)))⟩)))))
def aAa:List Str:=["machine", "gains", "numbers", "most", "onward", "raised", "number", "deed", "gain"]
theorem eF:FnScope aAa ["machine", "gains", "numbers", "most", "onward"] (aH (top 29)):=⟨rfl,rfl,rfl,by decide +kernel,rfl,by decide +kernel,by decide +kernel⟩
theorem wL:KnT P w K mg base 1 "raise_once" 5 gI:=fun T kb nb =>
 cG T.d_raise_once kb nb eF rfl rfl (by decide) (fun _ _ _ _ _ _ us hl=>match us,hl with | [_,_,_,_,_],_=>rfl) fun f cdv A outer s H E hr =>
  (aF (aU 5 eF.nd (aQ cZ)) (aF (eL dE.own rfl (fR (aA 2)) (cT 6 eF.nd) bI (aF (aU 7 eF.nd (aQ (aI (aI (aA 0) aC) (aA 6)))) (aF (aU 8 eF.nd (aQ (bO (aI (aA 1) (aA 6)) (aI (aA 3) (aI (aA 7) aC))))) (aK (bR (aD8 (aA 8) (aI (aA 3) (aI (aA 7) aC))) (aF (jB 3 (aI (aA 7) aC) (aA 8)) (aF (jB 4 (aI (aA 7) aC) (aA 6)) (aK (aU 5 eF.nd (aQ (aI (aA 7) aC)))))) bF))))) (aK (gP 5))))
def iL:List Str:=["machine", "gains", "come_to", "numbers", "most", "onward", "raised", "rounds"]
theorem cD:FnScope iL ["machine", "gains"] (aH (top 30)):=⟨rfl,rfl,rfl,by decide +kernel,rfl,by decide +kernel,by decide +kernel⟩
theorem wW:KnT P w K mg base 7 "most_gains" 2 iK:=fun T kb nb =>
 cG T.d_most_gains kb nb cD rfl rfl (by decide) (fun _ _ _ _ _ _ us hl=>match us,hl with | [_,_],_=>rfl) fun f cdv A outer s H E hr =>
  (aF (aU 2 cD.nd (jR dE (vL T kb nb) (hr.mono (by decide)) (aB (aA 0) aG) al1)) (aF (dA 3 cD.nd (aH (top 30)) iL ["number", "deed", "come_to"] 2 [2] rfl rfl rfl (qS T.n_enumerate (aI (aA 0) aC)) (lM rfl) (by decide +kernel) fun _ _ _ _=>⟨(nH rfl (fA (cT 0 (show List.Nodup (["number", "deed", "come_to"]:List Str) from (by decide +kernel))) (fA (cT 1 (show List.Nodup (["number", "deed", "come_to"]:List Str) from (by decide +kernel))) sJ)) rfl rfl),(aWy (cF (aI (aA 2) (aI (aA 1) aC)))),(aA 0)⟩) (aF (dA 4 cD.nd (aH (top 30)) iL ["place"] 1 [] rfl rfl rfl (cS T.n_range (aB (aI (aA 0) aC) aG)) bI (by decide +kernel) fun _ _ _ _=>⟨(cT 0 (show List.Nodup (["place"]:List Str) from (by decide +kernel))),oN,aC⟩) (aF (dA 5 cD.nd (aH (top 30)) iL ["place"] 1 [] rfl rfl rfl (cS T.n_range (aB (aI (aA 0) aC) aG)) bI (by decide +kernel) fun _ _ _ _=>⟨(cT 0 (show List.Nodup (["place"]:List Str) from (by decide +kernel))),oN,cZ⟩) (aF (aU 6 cD.nd (aQ aC)) (aF (aU 7 cD.nd (aQ aC)) (aF (kN [3] (nM fuel dE.own (mJ (uA (tR (aA 6) cZ) (rH (vF (aA 7) (aI (aA 0) aC))))) (aF (aU 6 cD.nd (aHp (wL T kb nb) (hr.mono (by decide)) (aB5 0 (aB5 1 (aB5 3 (aB5 4 (aB5 5 aPz))))) rfl)) (aK (aC8 7 cD.nd aIj aC))))) (aK (kN [4,5] (bG (aQ (bY (aB (aA 4) (aB (aA 5) (aB (aA 6) aG)))))))))))))))
def sM:List Str:=["machine", "rows", "dearest", "number", "deed", "ahead", "cost"]
theorem eS:FnScope sM ["machine", "rows"] (aH (top 32)):=⟨rfl,rfl,rfl,by decide +kernel,rfl,by decide +kernel,by decide +kernel⟩
theorem zK:KnT P w K mg base 1 "next_rows" 2 nY:=fun T kb nb =>
 cG T.d_next_rows kb nb eS rfl rfl (by decide) (fun _ _ _ _ _ _ us hl=>match us,hl with | [_,_],_=>rfl) fun f cdv A outer s H E hr =>
  (aF (dA 2 eS.nd (aH (top 32)) sM ["place"] 1 [] rfl rfl rfl (cS T.n_range (aB (aI (aA 0) aC) aG)) bI (by decide +kernel) fun _ _ _ _=>⟨(cT 0 (show List.Nodup (["place"]:List Str) from (by decide +kernel))),oN,cZ⟩) (aF (eL dE.own rfl (qS T.n_enumerate (aI (aA 0) aC)) (nH rfl (fA (cT 3 eS.nd) (fA (cT 4 eS.nd) sJ)) rfl rfl) (lM rfl) (aF (aU 5 eS.nd (aQ (aI (aA 1) (aI (aA 4) aC)))) (aK (bR (tR (aA 5) cZ) (aF (aU 6 eS.nd (aQ (bO (aI (aA 5) aC) (aI (aA 4) aC)))) (aK (bR (mJ (jZ (sC (aI (aA 2) (aI (aA 4) aC)) cZ) (gM (aD8 (aA 6) (aI (aI (aA 2) (aI (aA 4) aC)) aC))))) (aK (jB 2 (aI (aA 4) aC) (bY (aB (aA 6) (aB (aA 3) aG))))) bF))) bF)))) (aK (gP 2))))
def nD:List Str:=["machine", "begun", "dearest", "step"]
theorem fG:FnScope nD ["machine"] (aH (top 33)):=⟨rfl,rfl,rfl,by decide +kernel,rfl,by decide +kernel,by decide +kernel⟩
theorem sY:KnT P w K mg base 2 "dearest_rows" 1 jC:=fun T kb nb =>
 cG T.d_dearest_rows kb nb fG rfl rfl (by decide) (fun _ _ _ _ _ _ us hl=>match us,hl with | [_],_=>rfl) fun f cdv A outer s H E hr =>
  (aF (dA 1 fG.nd (aH (top 33)) nD ["place"] 1 [] rfl rfl rfl (cS T.n_range (aB (aI (aA 0) aC) aG)) bI (by decide +kernel) fun _ _ _ _=>⟨(cT 0 (show List.Nodup (["place"]:List Str) from (by decide +kernel))),oN,cZ⟩) (aF (jB 1 aC (bY (aB aC (aB cZ aG)))) (aF (kN [1] (aU 2 fG.nd (aQ (cE (aB (aA 1) aG))))) (aF (eL dE.own rfl (cS T.n_range (aB (aI (aA 0) aC) aG)) (cT 3 fG.nd) bI (aK (kS 2 (aSx (aW (zK T kb nb) (hr.mono (by decide)) (aB (aA 0) (aB (aI (aA 2) (pH aC)) aG)) al2))))) (aK (gP 2))))))
def zX:List Str:=["dearest", "place", "many", "least", "step", "rise"]
theorem eE:FnScope zX ["dearest", "place"] (aH (top 34)):=⟨rfl,rfl,rfl,by decide +kernel,rfl,by decide +kernel,by decide +kernel⟩
theorem xG:KnT P w K mg base 2 "least_rise" 2 lK:=fun T kb nb =>
 cG T.d_least_rise kb nb eE rfl rfl (by decide) (fun _ _ _ _ _ _ us hl=>match us,hl with | [_,_],_=>rfl) fun f cdv A outer s H E hr =>
  (aF (aU 2 eE.nd (aQ (kF (cR T.n_len (aA 0)) aC))) (aF (bR (sC (aI (aI (aA 0) (aA 2)) (aA 1)) cZ) (aK (bG (aQ cZ))) bF) (aF (aU 3 eE.nd (aQ cZ)) (aF (eL dE.own rfl (cS T.n_range (aB (aA 2) aG)) (cT 4 eE.nd) bI (aK (bR (tR (aI (aI (aA 0) (aA 4)) (aA 1)) cZ) (aF (aU 5 eE.nd (aQ (bY (aB (kF (aI (aI (aI (aA 0) (aA 2)) (aA 1)) aC) (aI (aI (aI (aA 0) (aA 4)) (aA 1)) aC)) (aB (kF (aA 2) (aA 4)) aG))))) (aK (bR (mJ (jZ (sC (aA 3) cZ) (gM (cF (aW (pM T kb nb) (hr.mono (by decide)) (aB (aA 5) (aB (aA 3) aG)) al2))))) (aK (aU 3 eE.nd (aQ (aA 5)))) bF))) bF))) (aK (gP 3))))))
def sV:List Str:=["dearest", "best", "most", "place", "rise"]
theorem cC:FnScope sV ["dearest"] (aH (top 35)):=⟨rfl,rfl,rfl,by decide +kernel,rfl,by decide +kernel,by decide +kernel⟩
theorem rW:KnT P w K mg base 3 "place_of_most" 1 iD:=fun T kb nb =>
 cG T.d_place_of_most kb nb cC rfl rfl (by decide) (fun _ _ _ _ _ _ us hl=>match us,hl with | [_],_=>rfl) fun f cdv A outer s H E hr =>
  (aF (aU 1 cC.nd (aQ cZ)) (aF (aU 2 cC.nd (aQ cZ)) (aF (eL dE.own rfl (cS T.n_range (aB (cR T.n_len (aI (aA 0) aC)) aG)) (cT 3 cC.nd) bI (aF (aU 4 cC.nd (aQ (aW (xG T kb nb) (hr.mono (by decide)) (aB (aA 0) (aB (aA 3) aG)) al2))) (aK (bR (mJ (uA (tR (aA 4) cZ) (rH (mJ (jZ (sC (aA 2) cZ) (gM (cF (aW (pM T kb nb) (hr.mono (by decide)) (aB (aA 2) (aB (aA 4) aG)) al2)))))))) (aF (aU 1 cC.nd (aQ (aA 3))) (aK (aU 2 cC.nd (aQ (aA 4))))) bF)))) (aK (gP 1)))))
def aCi:List Str:=["machine", "dearest", "place", "passed", "back", "step", "ring"]
theorem dZ:FnScope aCi ["machine", "dearest", "place"] (aH (top 36)):=⟨rfl,rfl,rfl,by decide +kernel,rfl,by decide +kernel,by decide +kernel⟩
theorem aAg:KnT P w K mg base 1 "ring_back" 3 nX:=fun T kb nb =>
 cG T.d_ring_back kb nb dZ rfl rfl (by decide) (fun _ _ _ _ _ _ us hl=>match us,hl with | [_,_,_],_=>rfl) fun f cdv A outer s H E hr =>
  (aF (aU 3 dZ.nd (aQ (aH8 (aA 2) aC))) (aF (aU 4 dZ.nd (aQ (cE aG))) (aF (aU 5 dZ.nd (aQ (kF (cR T.n_len (aA 1)) aC))) (aK (nM fuel dE.own (cF eY) (aF (kS 4 (aI (aI (aI (aA 1) (aA 5)) (aA 2)) aC)) (aF (aU 2 dZ.nd (aQ (aI (aI (aI (aA 0) aC) (aI (aA 4) (pH aC))) aC))) (aF (bR (aQp hr (aA 2) (aA 3)) (aF (aU 6 dZ.nd (aQ (qI (aA 4) (lL (aRi hr (aA 3) (aA 2))) iN))) (aF (aR3 6) (aK (gP 6)))) bF) (aF (aNm 3 hr (aA 2) (cR T.n_len (aA 4))) (aK (aC8 5 dZ.nd aQ3 aC)))))))))))
def uM:List Str:=["machine", "dearest", "place"]
theorem iC:FnScope uM ["machine"] (aH (top 37)):=⟨rfl,rfl,rfl,by decide +kernel,rfl,by decide +kernel,by decide +kernel⟩
theorem tF:KnT P w K mg base 4 "dearest_ring" 1 jL:=fun T kb nb =>
 cG T.d_dearest_ring kb nb iC rfl rfl (by decide) (fun _ _ _ _ _ _ us hl=>match us,hl with | [_],_=>rfl) fun f cdv A outer s H E hr =>
  (aF (aU 1 iC.nd (aQ (aW (sY T kb nb) (hr.mono (by decide)) (aB (aA 0) aG) al1))) (aF (kN [1] (aU 2 iC.nd (aQ (aW (rW T kb nb) (hr.mono (by decide)) (aB (aA 1) aG) al1)))) (aF (bR (sC (aA 2) cZ) (aK (bG (aQ (cE aG)))) bF) (aK (bG (aQ (aW (aAg T kb nb) (hr.mono (by decide)) (aB (aA 0) (aB (aA 1) (aB (aA 2) aG))) al3)))))))
def lW:List Str:=["machine", "ring"]
theorem rV:FnScope lW ["machine", "ring"] (aH (top 38)):=⟨rfl,rfl,rfl,by decide +kernel,rfl,by decide +kernel,by decide +kernel⟩
theorem kW:KnT P w K mg base 1 "cost_together" 2 fF:=fun T kb nb =>
 cG T.d_cost_together kb nb rV rfl rfl (by decide) (fun _ _ _ _ _ _ us hl=>match us,hl with | [_,_],_=>rfl) fun f cdv A outer s H E hr =>
  (aK (bG (aQ (aJ7 rfl T.n_sum (hG (aH (top 38)) lW ["number", "machine"] 1 [0] rfl rfl rfl (fR (aA 1)) bI (by decide +kernel) fun _ _ _ _=>⟨(cT 0 (show List.Nodup (["number", "machine"]:List Str) from (by decide +kernel))),oN,(aI (aI (aI (aA 1) aC) (aA 0)) aC)⟩)))))
def mO:List Str:=["machine", "price", "gains"]
theorem pW:FnScope mO ["machine", "price"] (aH (top 39)):=⟨rfl,rfl,rfl,by decide +kernel,rfl,by decide +kernel,by decide +kernel⟩
theorem zB:KnT P w K mg base 8 "purse_for" 2 kB:=fun T kb nb =>
 cG T.d_purse_for kb nb pW rfl rfl (by decide) (fun _ _ _ _ _ _ us hl=>match us,hl with | [_,_],_=>rfl) fun f cdv A outer s H E hr =>
  (aF (dA 2 pW.nd (aH (top 39)) mO ["deed", "price"] 1 [1] rfl rfl rfl (fR (aI (aA 0) aC)) bI (by decide +kernel) fun _ _ _ _=>⟨(cT 0 (show List.Nodup (["deed", "price"]:List Str) from (by decide +kernel))),oN,(kF (bU (aI (aA 0) aC) (aI (aA 1) aC)) (aI (aA 1) aC))⟩) (aK (kN [2] (bG (aQ (hG (aH (top 39)) mO ["parts", "price"] 1 [1] rfl rfl rfl (fR (aI (aW (wW T kb nb) (hr.mono (by decide)) (aB (aA 0) (aB (aA 2) aG)) al2) aC)) bI (by decide +kernel) fun _ _ _ _=>⟨(cT 0 (show List.Nodup (["parts", "price"]:List Str) from (by decide +kernel))),oN,(aW (jY T kb nb) (hr.mono (by decide)) (aB (aA 0) (aB (aI (aA 1) aC) aG)) al2)⟩))))))
def wZ:List Str:=["machine", "ring", "price"]
theorem fZ:FnScope wZ ["machine"] (aH (top 40)):=⟨rfl,rfl,rfl,by decide +kernel,rfl,by decide +kernel,by decide +kernel⟩
theorem mY:KnT P w K mg base 9 "least_price" 1 gQ:=fun T kb nb =>
 cG T.d_least_price kb nb fZ rfl rfl (by decide) (fun _ _ _ _ _ _ us hl=>match us,hl with | [_],_=>rfl) fun f cdv A outer s H E hr =>
  (aF (qW (jR dE (lV T kb nb) (hr.mono (by decide)) (aB (aA 0) aG) al1)) (aF (aU 1 fZ.nd (aQ (aW (tF T kb nb) (hr.mono (by decide)) (aB (aA 0) aG) al1))) (aF (kN [1] (aU 2 fZ.nd (aQ (yH T.t_NOUGHT (by decide))))) (aF (bR (aD8 (cR T.n_len (aA 1)) aC) (aK (kN [1] (aU 2 fZ.nd (aQ (aW (jY T kb nb) (hr.mono (by decide)) (aB (aW (kW T kb nb) (hr.mono (by decide)) (aB (aA 0) (aB (aA 1) aG)) al2) (aB (cR T.n_len (aA 1)) aG)) al2))))) bF) (aK (bG (aQ (bY (aB (aA 2) (aB (aA 1) (aB (aW (zB T kb nb) (hr.mono (by decide)) (aB (aA 0) (aB (aA 2) aG)) al2) aG)))))))))))
def aG3:List Str:=["machine", "come_to", "price", "purse", "deed", "need"]
theorem pN:FnScope aG3 ["machine", "come_to", "price", "purse"] (aH (top 41)):=⟨rfl,rfl,rfl,by decide +kernel,rfl,by decide +kernel,by decide +kernel⟩
theorem aDu:KnT P w K mg base 4 "is_paid" 4 rR:=fun T kb nb =>
 cG T.d_is_paid kb nb pN rfl rfl (by decide) (fun _ _ _ _ _ _ us hl=>match us,hl with | [_,_,_,_],_=>rfl) fun f cdv A outer s H E hr =>
  (aF (bR (mJ (jZ (oV hr (cR T.n_len (aA 3)) (aI (aA 0) aC)) (gM (eG (cF (aW (pC T kb nb) (hr.mono (by decide)) (aB (aA 3) aG) al1)))))) (aK (bG (aQ eY))) bF) (aF (eL dE.own rfl (fR (aI (aA 0) aC)) (cT 4 pN.nd) bI (aK (bR (cF (aI (aA 1) (aI (aA 4) aC))) (aF (aU 5 pN.nd (aQ (aW (aEj T kb nb) (hr.mono (by decide)) (aB (aI (aA 3) (aI (aA 4) aC)) (aB (bY (aB (aI (aA 4) aC) (aB aC aG))) aG)) al2))) (aK (bR (cF (aW (pM T kb nb) (hr.mono (by decide)) (aB (aW (aEj T kb nb) (hr.mono (by decide)) (aB (aI (aA 3) (aI (aA 4) aC)) (aB (aA 2) aG)) al2) (aB (aA 5) aG)) al2)) (aK (bG (aQ eY))) bF))) bF))) (aK (bG (aQ eY)))))
def xA:List Str:=["machine", "come_to", "ring", "deeds", "number", "place"]
theorem dP:FnScope xA ["machine", "come_to", "ring"] (aH (top 42)):=⟨rfl,rfl,rfl,by decide +kernel,rfl,by decide +kernel,by decide +kernel⟩
theorem uU:KnT P w K mg base 3 "leads_round" 3 kL:=fun T kb nb =>
 cG T.d_leads_round kb nb dP rfl rfl (by decide) (fun _ _ _ _ _ _ us hl=>match us,hl with | [_,_,_],_=>rfl) fun f cdv A outer s H E hr =>
  (aF (aU 3 dP.nd (aQ (aI (aA 0) aC))) (aF (eL dE.own rfl (fR (aA 2)) (cT 4 dP.nd) bI (aK (bR (eG (cF (aW (dD T kb nb) (hr.mono (by decide)) (aB (aA 4) (aB aC (aB (kF (cR T.n_len (aA 3)) aC) aG))) al3))) (aK (bG (aQ eY))) bF))) (aF (aU 5 dP.nd (aQ (aI (aI (aA 3) (aI (aA 2) (pH aC))) aC))) (aF (bR (eG (cF (aI (aA 1) (aA 5)))) (aK (bG (aQ eY))) bF) (aF (eL dE.own rfl (fR (aA 2)) (cT 4 dP.nd) bI (aF (bR (oV hr (aI (aI (aA 3) (aA 4)) aC) (aA 5)) (aK (bG (aQ eY))) bF) (aK (aU 5 dP.nd (aQ (aI (aI (aA 3) (aA 4)) aC)))))) (aK (bG (aQ eY))))))))
def aAc:List Str:=["machine", "come_to", "price", "ring"]
theorem xB:FnScope aAc ["machine", "come_to", "price", "ring"] (aH (top 43)):=⟨rfl,rfl,rfl,by decide +kernel,rfl,by decide +kernel,by decide +kernel⟩
theorem wJ:KnT P w K mg base 4 "ring_shows" 4 lQ:=fun T kb nb =>
 cG T.d_ring_shows kb nb xB rfl rfl (by decide) (fun _ _ _ _ _ _ us hl=>match us,hl with | [_,_,_,_],_=>rfl) fun f cdv A outer s H E hr =>
  (aF (bR (pV hr (cR T.n_len (aA 3)) aC) (aK (bG (aQ (uJ hr (aA 2) (yH T.t_NOUGHT (by decide)))))) bF) (aF (bR (eG (cF (aW (uU T kb nb) (hr.mono (by decide)) (aB (aA 0) (aB (aA 1) (aB (aA 3) aG))) al3))) (aK (bG (aQ eY))) bF) (aK (bG (aQ (uJ hr (aA 2) (aW (jY T kb nb) (hr.mono (by decide)) (aB (aW (kW T kb nb) (hr.mono (by decide)) (aB (aA 0) (aB (aA 3) aG)) al2) (aB (cR T.n_len (aA 3)) aG)) al2)))))))
def wX:List Str:=["machine", "price", "ring", "purse", "come_to"]
theorem nP:FnScope wX ["machine", "price", "ring", "purse"] (aH (top 44)):=⟨rfl,rfl,rfl,by decide +kernel,rfl,by decide +kernel,by decide +kernel⟩
theorem nB:KnT P w K mg base 7 "shows_price" 4 gR:=fun T kb nb =>
 cG T.d_shows_price kb nb nP rfl rfl (by decide) (fun _ _ _ _ _ _ us hl=>match us,hl with | [_,_,_,_],_=>rfl) fun f cdv A outer s H E hr =>
  (aF (aU 4 nP.nd (jR dE (vL T kb nb) (hr.mono (by decide)) (aB (aA 0) aG) al1)) (aK (bG (aQ (pJ (aW (wJ T kb nb) (hr.mono (by decide)) (aB (aA 0) (aB (aA 4) (aB (aA 1) (aB (aA 2) aG)))) al4) (oB (aW (aDu T kb nb) (hr.mono (by decide)) (aB (aA 0) (aB (aA 4) (aB (aA 1) (aB (aA 3) aG)))) al4)))))))
def aIi:List Str:=["_law_script", "_law_k"]
theorem aHa:FnScope aIi ["_law_script", "_law_k"] (aH (top 46)):=⟨rfl,rfl,rfl,by decide +kernel,rfl,by decide +kernel,by decide +kernel⟩
theorem aF9:KnT P w K mg base 1 "_law_cell" 2 vI:=fun T kb nb =>
 cG T.d_q_cell kb nb aHa rfl rfl (by decide) (fun _ _ _ _ _ _ us hl=>match us,hl with | [_,_],_=>rfl) fun f cdv A outer s H E hr =>
  (aF (bR (cF (aA 0)) (aK (bG (aQ (aI (aA 0) (cO (aA 1) (cR T.n_len (aA 0))))))) bF) (aK (bG (aQ aC))))
def aLu:List Str:=["_law_script", "_law_k", "_law_number"]
theorem vR:FnScope aLu ["_law_script", "_law_k"] (aH (top 47)):=⟨rfl,rfl,rfl,by decide +kernel,rfl,by decide +kernel,by decide +kernel⟩
theorem hV:KnT P w K mg base 2 "_law_mix" 2 cX:=fun T kb nb =>
 cG T.d_q_mix kb nb vR rfl rfl (by decide) (fun _ _ _ _ _ _ us hl=>match us,hl with | [_,_],_=>rfl) fun f cdv A outer s H E hr =>
  (aF (aU 2 vR.nd (aQ (cO (bO (aW (aF9 T kb nb) (hr.mono (by decide)) (aB (aA 0) (aB (aA 1) aG)) al2) (bU aC (bO (aA 1) aC))) aC))) (aF (aU 2 vR.nd (aQ (cO (bU (aA 2) aC) aC))) (aK (bG (aQ (cO (bO (bU (eK (aA 2) aC) aC) (aA 2)) aC))))))
def aA0:List Str:=["_law_script", "_law_k", "_law_most", "_law_places", "_law_kinds", "_law_deeds", "_law_j", "_law_number", "_law_cost"]
theorem dY:FnScope aA0 ["_law_script", "_law_k", "_law_most"] (aH (top 48)):=⟨rfl,rfl,rfl,by decide +kernel,rfl,by decide +kernel,by decide +kernel⟩
theorem aAu:KnT P w K mg base 3 "_law_machine" 3 mV:=fun T kb nb =>
 cG T.d_q_machine kb nb dY rfl rfl (by decide) (fun _ _ _ _ _ _ us hl=>match us,hl with | [_,_,_],_=>rfl) fun f cdv A outer s H E hr =>
  (aF (aU 3 dY.nd (aQ (bO aC (cO (aW (hV T kb nb) (hr.mono (by decide)) (aB (aA 0) (aB (aA 1) aG)) al2) (aA 2))))) (aF (aU 4 dY.nd (aQ (bO aC (cO (aW (hV T kb nb) (hr.mono (by decide)) (aB (aA 0) (aB (bO (aA 1) aC) aG)) al2) aC)))) (aF (aU 5 dY.nd (aQ (cE aG))) (aF (eL dE.own rfl (cS T.n_range (aB (cO (aW (hV T kb nb) (hr.mono (by decide)) (aB (aA 0) (aB (bO (aA 1) aC) aG)) al2) (bO (bU aC (aA 2)) aC)) aG)) (cT 6 dY.nd) bI (aF (aU 7 dY.nd (aQ (aW (hV T kb nb) (hr.mono (by decide)) (aB (aA 0) (aB (bO (bO (aA 1) aC) (aA 6)) aG)) al2))) (aF (aU 8 dY.nd (aQ (aI (cE (aB aC (aB aC (aB aC (aB aC (aB aC (aB aC (aB aC (aB aC aG))))))))) (cO (eK (aA 7) aC) aC)))) (aK (kS 5 (bY (aB (cO (aA 7) (aA 3)) (aB (cO (eK (aA 7) aC) (aA 4)) (aB (cO (eK (aA 7) aC) (aA 3)) (aB (aA 8) aG)))))))))) (aK (kN [5] (bG (aQ (bY (aB (aA 3) (aB (aA 4) (aB (aCt hr rfl T.n_sorted T.n_set (aA 5)) aG))))))))))))
def aBz:List Str:=["_law_machine_here", "_law_found", "_law_at", "_law_one", "_law_kind", "_law_other", "_law_cost"]
theorem dB:FnScope aBz ["_law_machine_here"] (aH (top 49)):=⟨rfl,rfl,rfl,by decide +kernel,rfl,by decide +kernel,by decide +kernel⟩
theorem aAq:KnT P w K mg base 1 "_law_reached" 1 mX:=fun T kb nb =>
 cG T.d_q_reached kb nb dB rfl rfl (by decide) (fun _ _ _ _ _ _ us hl=>match us,hl with | [_],_=>rfl) fun f cdv A outer s H E hr =>
  (aF (aU 1 dB.nd (aQ (cE (aB aC aG)))) (aF (aU 2 dB.nd (aQ aC)) (aF (nM fuel dE.own (vF (aA 2) (cR T.n_len (aA 1))) (aF (eL dE.own rfl (fR (aI (aA 0) aC)) (nH rfl (fA (cT 3 dB.nd) (fA (cT 4 dB.nd) (fA (cT 5 dB.nd) (fA (cT 6 dB.nd) sJ)))) rfl rfl) (lM rfl) (aK (bR (mJ (uA (pV hr (aA 3) (aI (aA 1) (aA 2))) (rH (aSn hr (aA 5) (aA 1))))) (aK (kS 1 (aA 5))) bF))) (aK (aU 2 dB.nd (aQ (bO (aA 2) aC)))))) (aK (gP 1)))))
def tH:List Str:=["_law_machine_here", "_law_price", "_law_ring", "_law_purse", "_law_some", "_law_one", "_law_kind", "_law_other", "_law_cost", "_law_had", "_law_need", "_law_k"]
theorem eZ:FnScope tH ["_law_machine_here", "_law_price", "_law_ring", "_law_purse"] (aH (top 50)):=⟨rfl,rfl,rfl,by decide +kernel,rfl,by decide +kernel,by decide +kernel⟩
theorem aJz:KnT P w K mg base 2 "_law_due" 4 aAb:=fun T kb nb =>
 cG T.d_q_due kb nb eZ rfl rfl (by decide) (fun _ _ _ _ _ _ us hl=>match us,hl with | [_,_,_,_],_=>rfl) fun f cdv A outer s H E hr =>
  (aF (aU 4 eZ.nd (aQ (aW (aAq T kb nb) (hr.mono (by decide)) (aB (aA 0) aG) al1))) (aF (bR (mJ (jZ (oV hr (cR T.n_len (aA 3)) (aI (aA 0) aC)) (jZ (vF (aI (aA 1) aC) aC) (gM (cF (aR0 rfl T.n_any (hG (aH (top 50)) tH ["_law_one"] 1 [] rfl rfl rfl (fR (aA 3)) bI (by decide +kernel) fun _ _ _ _=>⟨(cT 0 (show List.Nodup (["_law_one"]:List Str) from (by decide +kernel))),oN,(aNy (aI (aA 0) aC) aC)⟩))))))) (aK (bG (aQ eY))) bF) (aF (eL dE.own rfl (fR (aI (aA 0) aC)) (nH rfl (fA (cT 5 eZ.nd) (fA (cT 6 eZ.nd) (fA (cT 7 eZ.nd) (fA (cT 8 eZ.nd) sJ)))) rfl rfl) (lM rfl) (aF (aU 9 eZ.nd (aQ (bO (bU (aI (aI (aA 3) (aA 5)) aC) (aI (aA 1) aC)) (bU (aI (aA 1) aC) (aI (aI (aA 3) (aA 5)) aC))))) (aF (aU 10 eZ.nd (aQ (bU (bO (bU (aA 8) (aI (aI (aA 3) (aA 7)) aC)) (aI (aI (aA 3) (aA 7)) aC)) (aI (aA 1) aC)))) (aK (bR (mJ (uA (aOv hr (aA 5) (aA 4)) (rH (vF (bU (aA 9) (aI (aI (aA 3) (aA 7)) aC)) (bU (aA 10) (aI (aI (aA 3) (aA 5)) aC)))))) (aK (bG (aQ eY))) bF))))) (aF (bR (pV hr (aA 2) (cE aG)) (aK (bG (aQ (uJ hr (aI (aA 1) aC) aC)))) bF) (aF (bR (eG (cF (aSy rfl T.n_all (hG (aH (top 50)) tH ["_law_number", "_law_machine_here"] 1 [0] rfl rfl rfl (fR (aA 2)) bI (by decide +kernel) fun _ _ _ _=>⟨(cT 0 (show List.Nodup (["_law_number", "_law_machine_here"]:List Str) from (by decide +kernel))),oN,(aA3 aK6 aJ6 aC (aA 0) (cR T.n_len (aI (aA 1) aC)))⟩)))) (aK (bG (aQ eY))) bF) (aF (eL dE.own rfl (cS T.n_range (aB (cR T.n_len (aA 2)) aG)) (cT 11 eZ.nd) bI (aK (bR (oV hr (aI (aI (aI (aA 0) aC) (aI (aA 2) (kF (aA 11) aC))) aC) (aI (aI (aI (aA 0) aC) (aI (aA 2) (aA 11))) aC)) (aK (bG (aQ eY))) bF))) (aF (aU 8 eZ.nd (aQ (aJ7 rfl T.n_sum (hG (aH (top 50)) tH ["_law_number", "_law_machine_here"] 1 [0] rfl rfl rfl (fR (aA 2)) bI (by decide +kernel) fun _ _ _ _=>⟨(cT 0 (show List.Nodup (["_law_number", "_law_machine_here"]:List Str) from (by decide +kernel))),oN,(aI (aI (aI (aA 1) aC) (aA 0)) aC)⟩)))) (aK (bG (aQ (pJ (aVn hr (aI (aI (aI (aA 0) aC) (aI (aA 2) aC)) aC) (aA 4)) (oB (uJ hr (bU (aA 8) (aI (aA 1) aC)) (bU (aI (aA 1) aC) (cR T.n_len (aA 2))))))))))))))))
def aCf:List Str:=["_law_way", "_law_machine_here", "_law_kept", "e"]
theorem iH:FnScope aCf ["_law_way", "_law_machine_here"] (aH (top 51)):=⟨rfl,rfl,rfl,by decide +kernel,rfl,by decide +kernel,by decide +kernel⟩
theorem zR (T:Txt K mg) (kb:K.In base) (nb:base.Ns mainGlobals mg):Kn P w K mg base 10 "_law_refused" 2 hX:=by
 obtain ⟨_,_,_,_,_,_,XX⟩:=T.xc
 exact cG T.d_q_refused kb nb iH rfl rfl (by decide) (fun _ _ _ _ _ _ us hl=>match us,hl with | [_,_],_=>rfl) fun f cdv A outer s H E hr =>
   (aF (aU 2 iH.nd (aQ cZ)) (aF (aSa iH.nd rfl rfl rfl rfl rfl XX.cP rfl XX.mP (by decide) XX.ct (fun E1 pn1 W1 L1=>(aK (bR (pV hr (aA 0) aC) (aK (qW (jR L1 (mY T kb nb) (hr.mono (by decide)) (aB (aA 1) aG) al1))) (aK (qW (jR L1 (nB T kb nb) (hr.mono (by decide)) (aB (aA 1) (aB (bY (aB aC (aB aC aG))) (aB (cE aG) (aB (cE aG) aG)))) al4)))))) (fun e E2=>(aK (aU 2 iH.nd (aQ (aA 3)))))) (aK (bG (aQ (pJ (aPe (tI rfl XX.mM (show RelV (.ref _) _ from rfl)) (fun _ h=>h) XX.fM (aA 2) T.n_isinstance) (oB (aH1 (aLc (aJa (aE3 XX.mF (aE3 XX.mD (aE3 XX.mC (aE3 XX.mR aRg))))) XX.fT (Nat.le_of_ble_eq_true rfl) (aA 2) T.n_isinstance)))))))))
def fS:List Str:=["_law_script", "_law_machine_here", "_law_many", "_law_cost", "_law_price", "_law_ring", "_law_purse", "_law_number", "_law_way", "_law_at", "_law_found", "_law_bad"]
theorem dI:FnScope fS ["_law_script"] (aH (top 52)):=⟨rfl,rfl,rfl,by decide +kernel,rfl,by decide +kernel,by decide +kernel⟩
def stL (n:Nat):Stmt:=(fJ (top 52)).getD n (.Pass ⟨0,0,0,0⟩)
section
variable (T:Txt K mg) (base:Heap) (kb:K.In base) (nb:base.Ns mainGlobals mg) (f:Addr) (cdv:Value) (A:Around) (outer:List PySem.Env) (s:Shared) (H:Hp) (E:XK) (hr:Room 10 (A.deeper (envOfC "law" (aH (top 52)) s.heap.objs.size f cdv)))
include T kb nb hr
theorem aVq:SS (fK (CX1 P w) P w K mg base fS "law" (aH (top 52)) f cdv A outer s H E) (wOf K E) (stL 0) sy1 :=
 (aU 1 dI.nd (aQ (aW (aAu T kb nb) (hr.mono (by decide)) (aB (aA 0) (aB aC (aB aC aG))) al3)))
theorem aVk:SS (fK (CX1 P w) P w K mg base fS "law" (aH (top 52)) f cdv A outer s H E) (wOf K E) (stL 1) sy2 :=
 (bR (pV hr (cO (aW (hV T kb nb) (hr.mono (by decide)) (aB (aA 0) (aB aC aG)) al2) aC) aC) (aF (aU 2 dI.nd (aQ (bO aC (cO (aW (hV T kb nb) (hr.mono (by decide)) (aB (aA 0) (aB aC aG)) al2) aC)))) (aF (aU 3 dI.nd (aQ (cO (aW (hV T kb nb) (hr.mono (by decide)) (aB (aA 0) (aB aC aG)) al2) aC))) (aK (aU 1 dI.nd (aQ (bY (aB (aA 2) (aB aC (aB (hG (aH (top 52)) fS ["_law_place", "_law_cost", "_law_many"] 1 [3,2] rfl rfl rfl (cS T.n_range (aB (aA 2) aG)) bI (by decide +kernel) fun _ _ _ _=>⟨(cT 0 (show List.Nodup (["_law_place", "_law_cost", "_law_many"]:List Str) from (by decide +kernel))),oN,(bY (aB (aA 0) (aB aC (aB (cO (bO (aA 0) aC) (aA 2)) (aB (aA 1) aG)))))⟩) aG))))))))) bF)
theorem aVo:SS (fK (CX1 P w) P w K mg base fS "law" (aH (top 52)) f cdv A outer s H E) (wOf K E) (stL 2) sy3 :=
 (aFz rfl (aQ (aW (mY T kb nb) (hr.mono (by decide)) (aB (aA 1) aG) al1)) (fA (cT 4 dI.nd) (fA (cT 5 dI.nd) (fA (cT 6 dI.nd) sJ))) rfl)
theorem aVs:SS (fK (CX1 P w) P w K mg base fS "law" (aH (top 52)) f cdv A outer s H E) (wOf K E) (stL 3) sy4 :=
 (aU 7 dI.nd (aQ (aW (hV T kb nb) (hr.mono (by decide)) (aB (aA 0) (aB aC aG)) al2)))
theorem aUo:SS (fK (CX1 P w) P w K mg base fS "law" (aH (top 52)) f cdv A outer s H E) (wOf K E) (stL 4) sy5 :=
 (aU 8 dI.nd (aQ (cO (aA 7) aC)))
theorem aU1:SS (fK (CX1 P w) P w K mg base fS "law" (aH (top 52)) f cdv A outer s H E) (wOf K E) (stL 5) sy6 :=
 (bR (vF (aA 8) aC) (@aK _ _ _ _ (@aU _ _ _ _ 4 _ _ _ dI.nd (@aQ _ _ _ _ (@aI _ _ _ _ _ _ (@cE _ _ _ _ (@aB _ _ _ _ _ (@bY _ _ _ _ _ (@aB _ _ _ _ _ aC (@aB _ _ _ _ _ aC aG (by rfl)) (by rfl))) (@aB _ _ _ _ _ (@bY _ _ _ _ _ (@aB _ _ _ _ _ aC (@aB _ _ _ _ _ aC aG (by rfl)) (by rfl))) (@aB _ _ _ _ _ (@bY _ _ _ _ _ (@aB _ _ _ _ _ aC (@aB _ _ _ _ _ aC aG (by rfl)) (by rfl))) (@aB _ _ _ _ _ (@bY _ _ _ _ _ (@aB _ _ _ _ _ (pH aC) (@aB _ _ _ _ _ aC aG (by rfl)) (by rfl))) (@aB _ _ _ _ _ (@bY _ _ _ _ _ (@aB _ _ _ _ _ aC (@aB _ _ _ _ _ aC aG (by rfl)) (by rfl))) aG (by rfl)) (by rfl)) (by rfl)) (by rfl)) (by rfl))) (cO (eK (aA 7) aC) aC) (by intro _ _;rfl))) (by rfl) (by first | exact Or.inl rfl | exact Or.inr rfl) (by rfl) (by first | exact .inl rfl | exact .inr rfl))) bF)
theorem aVh:SS (fK (CX1 P w) P w K mg base fS "law" (aH (top 52)) f cdv A outer s H E) (wOf K E) (stL 6) sy7 :=
 (bR (pV hr (aA 8) aC) (aF (aU 9 dI.nd (aQ (cO (eK (aA 7) aC) (bO (cR T.n_len (aA 5)) aC)))) (aK (aU 5 dI.nd (aQ (bO (bO (qI (aA 5) iN (lL (aA 9))) (cE (aB (aI (cE (aB (pH aC) (aB aC (aB (cR T.n_len (aI (aA 1) aC)) (aB aC aG))))) (cO (eK (aA 7) aC) aC)) aG))) (qI (aA 5) (lL (aA 9)) iN)))))) bF)
theorem aTh:SS (fK (CX1 P w) P w K mg base fS "law" (aH (top 52)) f cdv A outer s H E) (wOf K E) (stL 7) sy8 :=
 (bR (aOv hr (aA 8) (@bY _ _ _ _ _ (@aB _ _ _ _ _ aC (@aB _ _ _ _ _ aC aG (by rfl)) (by rfl)))) (@aK _ _ _ _ (@aU _ _ _ _ 5 _ _ _ dI.nd (@aQ _ _ _ _ (@aI _ _ _ _ _ _ (@cE _ _ _ _ (@aB _ _ _ _ _ (bO (qI (aA 5) (lL aC) iN) (qI (aA 5) iN (lL aC))) (@aB _ _ _ _ _ (bO (aA 5) (aA 5)) (@aB _ _ _ _ _ (qI (aA 5) (lL aC) iN) (@aB _ _ _ _ _ (@cE _ _ _ _ aG) (@aB _ _ _ _ _ (bO (aA 5) (aA 5)) aG (by rfl)) (by rfl)) (by rfl)) (by rfl)) (by rfl))) (cO (eK (aA 7) aC) aC) (by intro _ _;rfl))) (by rfl) (by first | exact Or.inl rfl | exact Or.inr rfl) (by rfl) (by first | exact .inl rfl | exact .inr rfl))) bF)
theorem aVf:SS (fK (CX1 P w) P w K mg base fS "law" (aH (top 52)) f cdv A outer s H E) (wOf K E) (stL 8) sy9 :=
 (bR (pV hr (aA 8) aC) (aF (@aU _ _ _ _ 9 _ _ _ dI.nd (@aQ _ _ _ _ (cO (eK (aA 7) aC) (@aI _ _ _ _ _ _ (aA 1) aC (by intro _ _;rfl)))) (by rfl) (by first | exact Or.inl rfl | exact Or.inr rfl) (by rfl) (by first | exact .inl rfl | exact .inr rfl)) (@aK _ _ _ _ (@aU _ _ _ _ 6 _ _ _ dI.nd (@aQ _ _ _ _ (bO (bO (qI (aA 6) iN (lL (aA 9))) (@cE _ _ _ _ (@aB _ _ _ _ _ (@aI _ _ _ _ _ _ (@cE _ _ _ _ (@aB _ _ _ _ _ (@bY _ _ _ _ _ (@aB _ _ _ _ _ aC (@aB _ _ _ _ _ aC aG (by rfl)) (by rfl))) (@aB _ _ _ _ _ (@bY _ _ _ _ _ (@aB _ _ _ _ _ aC (@aB _ _ _ _ _ aC aG (by rfl)) (by rfl))) (@aB _ _ _ _ _ (@bY _ _ _ _ _ (@aB _ _ _ _ _ (pH aC) (@aB _ _ _ _ _ aC aG (by rfl)) (by rfl))) (@aB _ _ _ _ _ (@bY _ _ _ _ _ (@aB _ _ _ _ _ aC (@aB _ _ _ _ _ aC aG (by rfl)) (by rfl))) aG (by rfl)) (by rfl)) (by rfl)) (by rfl))) (cO (eK (aA 7) aC) aC) (by intro _ _;rfl)) aG (by rfl)))) (qI (aA 6) (lL (bO (aA 9) aC)) iN))) (by rfl) (by first | exact Or.inl rfl | exact Or.inr rfl) (by rfl) (by first | exact .inl rfl | exact .inr rfl)))) bF)
theorem aVi:SS (fK (CX1 P w) P w K mg base fS "law" (aH (top 52)) f cdv A outer s H E) (wOf K E) (stL 9) aGq :=
 (bR (pV hr (aA 8) aC) (aK (aU 6 dI.nd (aQ (aI (cE (aB (bO (aA 6) (cE (aB (bY (aB aC (aB aC aG))) aG))) (aB (qI (aA 6) iN (lL (pH aC))) aG))) (cO (eK (aA 7) aC) aC))))) bF)
theorem aPf:SS (fK (CX1 P w) P w K mg base fS "law" (aH (top 52)) f cdv A outer s H E) (wOf K E) (stL 10) aG0 :=
 (bR (pV hr (aA 8) aC) (aK (dA 6 dI.nd (aH (top 52)) fS ["_law_one"] 1 [] rfl rfl rfl (fR (aA 6)) bI (by decide +kernel) fun _ _ _ _=>⟨(cT 0 (show List.Nodup (["_law_one"]:List Str) from (by decide +kernel))),oN,(bY (aB (bO (aI (aA 0) aC) (aI (aA 0) aC)) (aB (aI (aA 0) aC) aG)))⟩)) bF)
theorem aQ4:SS (fK (CX1 P w) P w K mg base fS "law" (aH (top 52)) f cdv A outer s H E) (wOf K E) (stL 11) aH4 :=
 (kN [5,6] (aU 10 dI.nd (jR dE (nB T kb nb) (hr.mono (by decide)) (aB (aA 1) (aB (aA 4) (aB (aFj T.n_list (aA 5)) (aB (aFj T.n_list (aA 6)) aG)))) al4)))
theorem aSw:SS (fK (CX1 P w) P w K mg base fS "law" (aH (top 52)) f cdv A outer s H E) (wOf K E) (stL 12) aJi :=
 (bR (mJ (jZ (eG (cF (pG (T' := "bool") (by decide) (aA 10) T.n_isinstance T.n_bool (by decide +kernel)))) (gM (oV hr (aA 10) (aW (aJz T kb nb) (hr.mono (by decide)) (aB (aA 1) (aB (aA 4) (aB (aA 5) (aB (aA 6) aG)))) al4))))) (aK (bG (aQ eY))) bF)
theorem aP1:SS (fK (CX1 P w) P w K mg base fS "law" (aH (top 52)) f cdv A outer s H E) (wOf K E) (stL 13) aJw :=
 (@aU _ _ _ _ 11 _ _ _ dI.nd (@aQ _ _ _ _ (@aI _ _ _ _ _ _ (@cE _ _ _ _ (@aB _ _ _ _ _ (@bY _ _ _ _ _ (@aB _ _ _ _ _ aC (@aB _ _ _ _ _ aC (@aB _ _ _ _ _ (@cE _ _ _ _ aG) aG (by rfl)) (by rfl)) (by rfl))) (@aB _ _ _ _ _ (@bY _ _ _ _ _ (@aB _ _ _ _ _ aC (@aB _ _ _ _ _ aC (@aB _ _ _ _ _ (@cE _ _ _ _ aG) aG (by rfl)) (by rfl)) (by rfl))) (@aB _ _ _ _ _ (@bY _ _ _ _ _ (@aB _ _ _ _ _ aC (@aB _ _ _ _ _ aC (@aB _ _ _ _ _ (@cE _ _ _ _ (@aB _ _ _ _ _ (@bY _ _ _ _ _ (@aB _ _ _ _ _ aC (@aB _ _ _ _ _ aC (@aB _ _ _ _ _ aC (@aB _ _ _ _ _ aC aG (by rfl)) (by rfl)) (by rfl)) (by rfl))) aG (by rfl))) aG (by rfl)) (by rfl)) (by rfl))) (@aB _ _ _ _ _ (@bY _ _ _ _ _ (@aB _ _ _ _ _ aC (@aB _ _ _ _ _ aC (@aB _ _ _ _ _ (bU (@cE _ _ _ _ (@aB _ _ _ _ _ (@bY _ _ _ _ _ (@aB _ _ _ _ _ aC (@aB _ _ _ _ _ aC (@aB _ _ _ _ _ aC (@aB _ _ _ _ _ aC aG (by rfl)) (by rfl)) (by rfl)) (by rfl))) aG (by rfl))) aC) aG (by rfl)) (by rfl)) (by rfl))) aG (by rfl)) (by rfl)) (by rfl)) (by rfl))) (cO (eK (aA 7) aC) aC) (by intro _ _;rfl))) (by rfl) (by first | exact Or.inl rfl | exact Or.inr rfl) (by rfl) (by first | exact .inl rfl | exact .inr rfl))
theorem aQm:SS (fK (CX1 P w) P w K mg base fS "law" (aH (top 52)) f cdv A outer s H E) (wOf K E) (stL 14) aMi :=
 (bG (aQ (uJ hr (hG (aH (top 52)) fS ["_law_way", "_law_bad"] 1 [11] rfl rfl rfl (cS T.n_range (aB aC aG)) bI (by decide +kernel) fun _ _ _ _=>⟨(cT 0 (show List.Nodup (["_law_way", "_law_bad"]:List Str) from (by decide +kernel))),oN,(aW (zR T kb nb) (hr.mono (by decide)) (aB (aA 0) (aB (aA 1) aG)) al2)⟩) (bU (cE (aB eY aG)) aC))))
end
theorem aR7 (T:Txt K mg) (base:Heap) (kb:K.In base) (nb:base.Ns mainGlobals mg) (f:Addr) (cdv:Value) (A:Around) (outer:List PySem.Env) (s:Shared) (H:Hp) (E:XK) (hr:Room 10 (A.deeper (envOfC "law" (aH (top 52)) s.heap.objs.size f cdv))):SSs (fK (CX1 P w) P w K mg base fS "law" (aH (top 52)) f cdv A outer s H E) (wOf K E) (fJ (top 52)) b_law :=
 (@aF _ _ _ _ _ _ (@aVq _ _ _ _ T base kb nb f cdv A outer s H E hr) (@aF _ _ _ _ _ _ (@aVk _ _ _ _ T base kb nb f cdv A outer s H E hr) (@aF _ _ _ _ _ _ (@aVo _ _ _ _ T base kb nb f cdv A outer s H E hr) (@aF _ _ _ _ _ _ (@aVs _ _ _ _ T base kb nb f cdv A outer s H E hr) (@aF _ _ _ _ _ _ (@aUo _ _ _ _ T base kb nb f cdv A outer s H E hr) (@aF _ _ _ _ _ _ (@aU1 _ _ _ _ T base kb nb f cdv A outer s H E hr) (@aF _ _ _ _ _ _ (@aVh _ _ _ _ T base kb nb f cdv A outer s H E hr) (@aF _ _ _ _ _ _ (@aTh _ _ _ _ T base kb nb f cdv A outer s H E hr) (@aF _ _ _ _ _ _ (@aVf _ _ _ _ T base kb nb f cdv A outer s H E hr) (@aF _ _ _ _ _ _ (@aVi _ _ _ _ T base kb nb f cdv A outer s H E hr) (@aF _ _ _ _ _ _ (@aPf _ _ _ _ T base kb nb f cdv A outer s H E hr) (@aF _ _ _ _ _ _ (@aQ4 _ _ _ _ T base kb nb f cdv A outer s H E hr) (@aF _ _ _ _ _ _ (@aSw _ _ _ _ T base kb nb f cdv A outer s H E hr) (@aF _ _ _ _ _ _ (@aP1 _ _ _ _ T base kb nb f cdv A outer s H E hr) (@aK _ _ _ _ (@aQm _ _ _ _ T base kb nb f cdv A outer s H E hr))))))))))))))))
end
end K21
end VL
end
section
namespace VL
open PySem L2
def kH (r:R (D×Bool)) (k:D->Bool->Out):Out:=match r with | .ok (d,b)=>k d b | _=>.bad
def onT (r:R Bool) (a b:Out):Out:=match r with | .ok true=>a | .ok false=>b | _=>.bad
def onI (r:R (List D)) (k:List D->Out):Out:=match r with | .ok ds=>k ds | _=>.bad
def aA8 (fn:Fn) (ds:List D) (k:Bool):R (D×Bool):=(fn ds).bind fun y=>if k || isScal y.1 then .ok (y.1,true) else .bad
def Ret (fn:Fn) (ds:List D) (d:D):Prop:=∃os,fn ds=.ok (d,os)
theorem aB8 {fn:Fn} {ds:List D} {k:Bool} {d:D} (h:Ret fn ds d):aA8 fn ds k=if k || isScal d then .ok (d,true) else .bad:=by
 obtain ⟨os,h⟩:=h
 unfold aA8;rw [h];rfl
theorem aP {fn:Fn} {ds:List D} {d:D} (h:Ret fn ds d):aA8 fn ds true=.ok (d,true):=by rw [aB8 h];rfl
theorem tT {fn:Fn} {ds:List D} {k:Bool} {d:D} (h:Ret fn ds d) (hs:isScal d=true):aA8 fn ds k=.ok (d,true):=by rw [aB8 h,hs,Bool.or_true];rfl
theorem uR {n:Nat} {body:aX} {ds:List D} {d:D} (h:∃ρ,body (entry n ds)=.ret d ρ):Ret (fnOf n body) ds d:=by
 obtain ⟨ρ,h⟩:=h
 exact ⟨_,by unfold fnOf;rw [h]⟩
theorem aR4 {n:Nat} {body:aX} {ds:List D} (h:∃ρ,body (entry n ds)=.next ρ):Ret (fnOf n body) ds .non:=by
 obtain ⟨ρ,h⟩:=h
 exact ⟨_,by unfold fnOf;rw [h]⟩
@[simp] theorem gX {d:D} {b:Bool} {k:D->Bool->Out}:kH (.ok (d,b)) k=k d b:=rfl
@[simp] theorem aEr {a b:Out}:onT (.ok true) a b=a:=rfl
@[simp] theorem aBm {a b:Out}:onT (.ok false) a b=b:=rfl
@[simp] theorem aW2 {ds:List D} {k:List D->Out}:onI (.ok ds) k=k ds:=rfl
@[simp] theorem bX {α β:Type} {a:α} {f:α->R β}:(R.ok a).bind f=f a:=rfl
@[simp] theorem aT2 {α β:Type} {f:α->R β}:(R.bad:R α).bind f=.bad:=rfl
@[simp] theorem bP {ρ:Env} {g:aX}:(Out.next ρ).andThen g=g ρ:=rfl
@[simp] theorem aBr {ρ:Env} {d:D} {g:aX}:(Out.ret d ρ).andThen g=.ret d ρ:=rfl
@[simp] theorem cB {f g:aX} {ρ:Env}:aR f g ρ=(f ρ).andThen g:=rfl
@[simp] theorem nC {ρ:Env}:bJ ρ=.next ρ:=rfl
@[simp] theorem aV8 {ρ:Env}:aXb ρ=.bad:=rfl
@[simp] theorem nN {d:D} {ρ:Env}:vC d ρ=.ok (d,true):=rfl
@[simp] theorem oT {k:D×Bool->D×Bool->R (D×Bool)} {f g:aS} {ρ:Env}:v2 k f g ρ=(f ρ).bind fun x=>(g ρ).bind fun y=>k x y:=rfl
@[simp] theorem aO8 {k:D×Bool->R (D×Bool)} {f:aS} {ρ:Env}:v1 k f ρ=(f ρ).bind k:=rfl
@[simp] theorem lO {ρ:Env}:aL ρ=.ok []:=rfl
@[simp] theorem jI {f:aS} {g:dO} {ρ:Env}:aE f g ρ=(f ρ).bind fun x=>(g ρ).bind fun xs=>.ok (x::xs):=rfl
@[simp] theorem aAo {k:List (D×Bool)->R (D×Bool)} {g:dO} {ρ:Env}:vCB k g ρ=(g ρ).bind k:=rfl
@[simp] theorem aE9 {f g:aS} {ρ:Env}:wY f g ρ=(f ρ).bind fun x=>match x.1 with | .bl true=>g ρ | .bl false=>.ok (.bl false,true) | _=>.bad:=rfl
@[simp] theorem aWw {b c:Bool}:aI4 (.bl b,c)=.ok (.bl (!b),true):=rfl
@[simp] theorem aTb {p q:Int->Int->Bool} {f g h:aS} {ρ:Env}:rX p q f g h ρ=(f ρ).bind fun x=>(g ρ).bind fun y=>match x.1,y.1 with
 | .int i,.int j=>if p i j then (h ρ).bind fun z=>(match z.1 with | .int k=>.ok (.bl (q j k),true) | _=>.bad) else .ok (.bl false,true)
 | _,_=>.bad:=rfl
@[simp] theorem aBl {fn:Fn} {g:dO} {ρ:Env}:bD fn g ρ=(g ρ).bind fun xs=>aA8 fn (D.frzs (xs.map (·.1))) (xs.all aV):=rfl
@[simp] theorem mQ {f:aS} {ρ:Env}:bA f ρ=(f ρ).bind fun x=>match x.1 with | .bl b=>.ok b | _=>.bad:=rfl
@[simp] theorem aAm {f:aS} {ρ:Env}:fL f ρ=(f ρ).bind fun x=>if cI x.1 then .ok (eV x.1) else .bad:=rfl
@[simp] theorem aWg {f g:cW} {ρ:Env}:lX f g ρ=(f ρ).bind fun c=>if c=true then g ρ else .ok false:=rfl
@[simp] theorem aW3 {f g:cW} {ρ:Env}:nE f g ρ=(f ρ).bind fun c=>if c=true then .ok true else g ρ:=rfl
@[simp] theorem aV6 {f:cW} {ρ:Env}:fC f ρ=(f ρ).bind fun c=>.ok (!c):=rfl
@[simp] theorem aTx {ρ:Env}:bV ρ=.ok true:=rfl
@[simp] theorem aPh {f:aS} {lo hi:aBg} {ρ:Env}:vSl f lo hi ρ=(f ρ).bind fun x=>(lo ρ).bind fun l=>(hi ρ).bind fun u=>kSl x l u:=rfl
@[simp] theorem aJ4 {ρ:Env}:kQ ρ=.ok none:=rfl
@[simp] theorem aMg {f:aS} {ρ:Env}:sF f ρ=(f ρ).bind fun x=>match x.1 with | .int i=>.ok (some i) | _=>.bad:=rfl
@[simp] theorem aWe {g:dO} {ρ:Env}:fW g ρ=(g ρ).bind fun xs=>if xs.all aV && decide (xs.length<=1000000) then .ok (.lst true (xs.map (·.1)),true) else .bad:=rfl
@[simp] theorem zU {g:dO} {ρ:Env}:eQ g ρ=(g ρ).bind fun xs=>if xs.all aV && decide (xs.length<=1000000) then .ok (.tup (D.frzs (xs.map (·.1))),true) else .bad:=rfl
@[simp] theorem aV3 {f:aS} {ρ:Env}:gK f ρ=(f ρ).bind aGp:=rfl
@[simp] theorem aV4 {f:aS} {ρ:Env}:wI f ρ=(f ρ).bind fun x=>(zO x).bind fun ds=>.ok (qJ ds):=rfl
@[simp] theorem aW6 {ds:List D} {b:Bool}:zO (.lst false ds,b)=if aV (.lst false ds,b) then .ok (D.frzs ds) else .bad:=rfl
@[simp] theorem aW4 {o:Bool} {ds:List D}:zO (.lst o ds,true)=.ok (D.frzs ds):=rfl
@[simp] theorem aXy {o:Bool} {ds:List D}:aGp (.lst o ds,true)=.ok (D.frzs ds):=rfl
@[simp] theorem aXs {b:Bool} {ds:List D}:aGp (.lst false ds,b)=if aV (.lst false ds,b) then .ok (D.frzs ds) else .bad:=rfl
@[simp] theorem aXt {b:Bool} {ds:List D}:aGp (.tup ds,b)=.ok ds:=rfl
@[irreducible] def aGb (j:Int):R (List D):=if cL j then .ok (gA 0 j.toNat) else .bad
def kR1:List (D×Bool)->R (List D)
 | [(.int j,_)]=>aGb j | _=>.bad
@[simp] theorem aWx {g:dO} {ρ:Env}:iR1 g ρ=(g ρ).bind kR1:=by
 unfold iR1 kR1 aGb;rfl
@[simp] theorem aXg {j:Int} {b:Bool}:kR1 [(.int j,b)]=aGb j:=rfl
@[simp] theorem iB {d:D} {ρ:Env}:aD 0 (.val d::ρ)=.ok (d,false):=rfl
@[simp] theorem aX2 {d:D} {ρ:Env}:aD 0 (.pin d::ρ)=.ok (d,false):=rfl
@[simp] theorem mE {i:Nat} {s:Slot} {ρ:Env}:aD (i+1) (s::ρ)=aD i ρ:=rfl
def np (s:Slot):Prop:=∀d,s ≠ .pin d
@[simp] theorem bQ:np .un:=fun _ h=>by cases h
@[simp] theorem aO {d:D}:np (.val d):=fun _ h=>by cases h
@[simp] theorem aXj {d:D}:¬ np (.pin d):=fun h=>h d rfl
@[simp] theorem fQ {s:Slot} {ρ:Env} (h:np s):free (s::ρ) 0=true:=by
 cases s<;>first | rfl | exact absurd rfl (h _)
@[simp] theorem iY {i:Nat} {s:Slot} {ρ:Env}:free (s::ρ) (i+1)=free ρ i:=by unfold free;simp
@[simp] theorem aEm {d:D} {ρ:Env}:getD (.val d::ρ) 0=some d:=rfl
@[simp] theorem aWc {d:D} {ρ:Env}:getD (.pin d::ρ) 0=some d:=rfl
@[simp] theorem aWl {ρ:Env}:getD (.un::ρ) 0=none:=rfl
@[simp] theorem aDs {i:Nat} {s:Slot} {ρ:Env}:getD (s::ρ) (i+1)=getD ρ i:=rfl
@[simp] theorem aFh {c d:D} {ρ:Env}:putD (.val c::ρ) 0 d=.val d::ρ:=rfl
@[simp] theorem aI2 {i:Nat} {d:D} {s:Slot} {ρ:Env}:putD (s::ρ) (i+1) d=s::putD ρ i d:=by
 unfold putD
 simp only [List.getElem?_cons_succ]
 cases ρ[i]? with
 | none=>rfl
 | some t=>cases t<;>rfl
@[simp] theorem jD {i:Nat} {d:D} {ρ:Env}:bH i d ρ=if free ρ i then some (ρ.set i (.val d)) else none:=rfl
@[simp] theorem aUy {is:T0} {ds:List D} {ρ:Env}:dR is (.tup ds) ρ=cY is ds ρ:=rfl
@[simp] theorem aQ6 {ρ:Env}:cY [] [] ρ=some ρ:=rfl
@[simp] theorem aN3 {i:Nat} {is:T0} {d:D} {ds:List D} {ρ:Env}:cY (i::is) (d::ds) ρ=if d.calm then (bH i d ρ).bind (cY is ds) else none:=rfl
@[simp] theorem aHw {g:Int->Int->D} {i j:Int} {b c:Bool}:kI g (.int i,b) (.int j,c)=.ok (g i j,true):=rfl
@[simp] theorem aXp {p:Int->Int->Bool} {g:Int->Int->D} {i j:Int} {b c:Bool}:kIc p g (.int i,b) (.int j,c)=if p i j=true then .ok (g i j,true) else .bad:=rfl
@[simp] theorem aO4 {g:Int->D} {i:Int} {b:Bool}:kU g (.int i,b)=.ok (g i,true):=rfl
@[simp] theorem aNr {i:Int} {b:Bool}:aIp [(.int i,b)]=.ok (.int (if i<0 then -i else i),true):=rfl
@[simp] theorem aUt {i j:Int} {b c:Bool}:bW (.int i,b) (.int j,c)=.ok (.int (i+j),true):=rfl
@[simp] theorem aV7 {o p:Bool} {ds es:List D} {b c:Bool}:bW (.lst o ds,b) (.lst p es,c)=if D.bK ds && D.bK es && decide (ds.length+es.length<=1000000) then .ok (.lst true (ds++es),true) else .bad:=rfl
@[simp] theorem aGa {i j:Int} {b c:Bool}:bT (.int i,b) (.int j,c)=if (fits i && fits j)=true then .ok (.int (i * j),true) else .bad:=rfl
@[simp] theorem aUk {o b c:Bool} {ds:List D} {i:Int}:kIx (.lst o ds,b) (.int i,c)=R.of ((atI ds i).map (·,b)):=rfl
@[simp] theorem aYa {b c:Bool} {ds:List D} {i:Int}:kIx (.tup ds,b) (.int i,c)=R.of ((atI ds i).map (·,b)):=rfl
@[simp] theorem aVx {α:Type} {a:α}:R.of (some a)=.ok a:=rfl
@[simp] theorem aKl {o b:Bool} {ds:List D}:eN [(.lst o ds,b)]=.ok (.int ds.length,true):=rfl
@[simp] theorem aXl {b:Bool} {ds:List D}:eN [(.tup ds,b)]=.ok (.int ds.length,true):=rfl
@[simp] theorem aWh {b:Bool} {ds:List D}:vT [(.tup ds,b)]=.ok (.lst true ds,true):=rfl
@[simp] theorem aU5 {o b:Bool} {ds:List D} {lo hi:Option Int}:kSl (.lst o ds,b) lo hi=if D.bK ds then .ok (.lst true (cutD ds lo hi),true) else .bad:=rfl
@[simp] theorem aWv {n:Bool} {d:D} {b c:Bool}:iS n (d,b) (.non,c)=.ok (.bl (if n then !dQ d else dQ d),true):=rfl
@[simp] theorem oZ {i:Nat} {f:aS} {ρ:Env}:aY i (xOf f) ρ=kH (f ρ) fun d b=>if (b || d.calm) && free ρ i then .next (ρ.set i (.val d)) else .bad:=by
 unfold aY xOf kH;cases f ρ<;>rfl
@[simp] theorem pF {f:aS} {ρ:Env}:cH (xOf f) ρ=kH (f ρ) fun d b=>if (b || d.calm) then .ret d ρ else .bad:=by
 unfold cH xOf kH;cases f ρ<;>rfl
@[simp] theorem aWu {f:aS} {ρ:Env}:mI (xOf f) ρ=kH (f ρ) fun _ _=>.next ρ:=by
 unfold mI xOf kH;cases f ρ<;>rfl
@[simp] theorem sI {c:cW} {f g:aX} {ρ:Env}:sIf c f g ρ=onT (c ρ) (f ρ) (g ρ):=by
 unfold sIf onT;cases c ρ with
 | ok a=>cases a<;>rfl
 | exc c=>rfl
 | bad=>rfl
@[simp] theorem aXu {f:kR} {set:D->Env->Option Env} {b:aX} {ρ:Env}:iF f set b ρ=onI (f ρ) fun ds=>forL set b ds ρ:=by
 unfold iF onI;cases f ρ<;>rfl
@[simp] theorem aH3 {i:Nat} {f:aS} {ρ:Env}:eW i f ρ=kH (f ρ) fun d b=>match (getD ρ i).bind fun e=>sX e (d,b) with | some e=>.next (putD ρ i e) | none=>.bad:=by
 unfold eW kH;cases f ρ<;>rfl
@[simp] theorem aFa {ds:List D} {x:D×Bool}:sX (.lst true ds) x=if aV x && decide (ds.length<1000000) then some (.lst true (ds ++ [x.1])) else none:=rfl
@[simp] theorem aFg {i:Nat} {ρ:Env}:jN i ρ=match ρ[i]? with | some (.val d)=>.ret d (ρ.set i .un) | some (.pin d)=>if d.calm then .ret d ρ else .bad | _=>.bad:=rfl
@[simp] theorem aR8 {is:T0} {g:aX} {ρ:Env}:rZ is g ρ=g (is.foldl frz1 ρ):=rfl
@[simp] theorem aM6 {d:D} {ρ:Env}:frz1 (.val d::ρ) 0=.val d.frz::ρ:=rfl
@[simp] theorem aV0 {ρ:Env}:frz1 (.un::ρ) 0=.un::ρ:=rfl
@[simp] theorem aP2 {i:Nat} {s:Slot} {ρ:Env}:frz1 (s::ρ) (i+1)=s::frz1 ρ i:=by
 unfold frz1
 rw [aDs]
 cases getD ρ i<;>simp
@[simp] theorem aIq {d:D}:aV (d,true)=true:=rfl
@[simp] theorem uX {d:D}:aV (d,false)=d.calm:=rfl
def I (xs:Y0):List D:=xs.map D.int
@[simp] theorem aYg:I []=[]:=rfl
@[simp] theorem aUs (xs:Y0):(I xs).length=xs.length:=by simp [I]
@[simp] theorem aXz (xs:Y0) (x:Int):I xs ++ [.int x]=I (xs ++ [x]):=by simp [I]
theorem aOw (xs ys:Y0):I xs++I ys=I (xs++ys):=by simp [I]
def gt (xs:Y0) (k:Nat):Int:=xs.getD k 0
theorem aU7 {xs:Y0} {k:Nat} (h:k<xs.length):xs[k]?=some (gt xs k):=by simp [gt,List.getElem?_eq_getElem h]
theorem aNx {xs:Y0} {k:Nat} (h:k<xs.length):(I xs)[k]?=some (.int (gt xs k)):=by simp [I,aU7 h]
@[simp] theorem aEw:∀xs:Y0,D.bK (I xs)=true
 | []=>rfl
 | _::xs=>by show (true && D.bK (I xs))=true;rw [aEw xs];rfl
@[simp] theorem aKp:∀xs:Y0,D.frzs (I xs)=I xs
 | []=>rfl
 | x::xs=>by show D.int x::D.frzs (I xs)=_;rw [aKp xs];rfl
@[simp] theorem zV:∀xs:Y0,eD (I xs)=some xs
 | []=>rfl
 | x::xs=>by show (eD (I xs)).map (x::·)=_;rw [zV xs];rfl
@[simp] theorem mZ {i:Int}:(D.int i).calm=true:=rfl
@[simp] theorem aUj {x:Str}:(D.str x).calm=true:=rfl
@[simp] theorem aTk:D.non.calm=true:=rfl
@[simp] theorem aWr {x:Bool}:(D.bl x).calm=true:=rfl
@[simp] theorem aUw {ds:List D}:(D.tup ds).calm=D.bK ds:=rfl
@[simp] theorem aB1 {o:Bool} {ds:List D}:(D.lst o ds).calm=(!o && D.bK ds):=rfl
@[simp] theorem aTc:D.bK []=true:=rfl
@[simp] theorem uD {d:D} {ds:List D}:D.bK (d::ds)=(d.calm && D.bK ds):=rfl
@[simp] theorem aEq {i:Int}:(D.int i).frz=.int i:=rfl
@[simp] theorem aWp {x:Str}:(D.str x).frz=.str x:=rfl
@[simp] theorem aV5:D.non.frz=.non:=rfl
@[simp] theorem aXm {x:Bool}:(D.bl x).frz=.bl x:=rfl
@[simp] theorem zH {ds:List D}:(D.tup ds).frz=.tup (D.frzs ds):=rfl
@[simp] theorem aFb {o:Bool} {ds:List D}:(D.lst o ds).frz=.lst false (D.frzs ds):=rfl
@[simp] theorem wD:D.frzs []=[]:=rfl
@[simp] theorem oG {d:D} {ds:List D}:D.frzs (d::ds)=d.frz::D.frzs ds:=rfl
mutual
theorem frz_calm:∀d:D,d.frz.calm=true
 | .non=>rfl | .bl _=>rfl | .int _=>rfl | .str _=>rfl
 | .tup ds=>frzs_calm ds
 | .lst _ ds=>by show (!false && D.bK (D.frzs ds))=true;rw [frzs_calm ds];rfl
 | .ext _ _=>rfl
theorem frzs_calm:∀ds:List D,D.bK (D.frzs ds)=true
 | []=>rfl
 | d::ds=>by show (d.frz.calm && D.bK (D.frzs ds))=true;rw [frz_calm d,frzs_calm ds];rfl
end
mutual
theorem nJ:∀d:D,d.calm=true->d.frz=d
 | .non,_=>rfl | .bl _,_=>rfl | .int _,_=>rfl | .str _,_=>rfl
 | .tup ds,h=>by rw [zH,lA ds h]
 | .lst o ds,h=>by
  rw [aB1,Bool.and_eq_true] at h
  rw [aFb,lA ds h.2]
  cases o
  ·rfl
  ·cases h.1
 | .ext o t,h=>by
  cases o
  ·rfl
  ·cases h
theorem lA:∀ds:List D,D.bK ds=true->D.frzs ds=ds
 | [],_=>rfl
 | d::ds,h=>by
  rw [uD,Bool.and_eq_true] at h
  rw [oG,nJ d h.1,lA ds h.2]
end
@[simp] theorem aWk (d:D):d.frz.frz=d.frz:=nJ _ (frz_calm d)
@[simp] theorem aTa (ds:List D):D.frzs (D.frzs ds)=D.frzs ds:=lA _ (frzs_calm ds)
@[simp] theorem eq_int {n:Bool} {i j:Int} {b c:Bool}:kEq n (.int i,b) (.int j,c)=.ok (.bl (if n then !decide (i=j) else decide (i=j)),true):=by
 unfold kEq
 have:uW (.int i) (.int j)=true:=rfl
 rw [if_pos this]
 show R.ok (D.bl (if n then !(i == j) else (i == j)),true)=_
 rw [show (i == j)=decide (i=j) from by by_cases h:i=j<;>simp [h]]
@[simp] theorem aS8 {lo:Int} {n:Nat}:(gA lo n).length=n:=by simp [gA]
theorem aNe {n:Nat}:gA 0 n=(List.range n).map fun i:Nat=>D.int (i:Int):=by simp [gA]
theorem yJ {n:Nat} (h:n<=1000000):cL (n:Int)=true:=by
 unfold cL;rw [Bool.and_eq_true,decide_eq_true_iff,decide_eq_true_iff];omega
theorem fE {n:Nat} (h:n<=1000000):aGb (n:Int)=.ok ((List.range n).map fun i:Nat=>D.int (i:Int)):=by
 unfold aGb
 rw [if_pos (yJ h),aNe,Int.toNat_natCast]
theorem dF {α:Type} {xs:List α} {k:Nat}:atI xs (k:Int)=xs[k]?:=by
 unfold atI ixN
 by_cases h:(k:Int)<xs.length
 ·rw [if_pos (by omega),if_pos h];simp
 ·rw [if_pos (by omega),if_neg h]
  have:xs.length<=k:=by omega
  simp [this]
theorem aA4 {α:Type} {xs:List α}:atI xs (-1)=xs.getLast?:=by
 unfold atI ixN
 rw [if_neg (by omega)]
 by_cases h:xs=[]
 ·subst h;rfl
 ·have:0<xs.length:=List.length_pos_iff.mpr h
  rw [if_pos (by omega)]
  show xs[(-1+(xs.length:Int)).toNat]?=_
  rw [List.getLast?_eq_getElem?]
  congr 1;omega
theorem aO2 {α:Type} {dX:Env} {e:aS} {φ ψ:α->D} {b:α->Bool}:∀(xs:List α) (t:Slot),np t->(∀x∈xs,e (.val (φ x)::dX)=.ok (ψ x,b x)/\aV (ψ x,b x)=true)->jW (bH 0) bV e (xs.map φ) (t::dX)=.ok (xs.map ψ)
 | [],_,_,_=>rfl
 | x::xs,t,ht,h=>by
  obtain ⟨h1,h2⟩:=h x List.mem_cons_self
  have ih:=aO2 xs (.val (φ x)) aO fun y hy=>h y (List.mem_cons_of_mem _ hy)
  show (match bH 0 (φ x) (t::dX) with | none=>R.bad | some ρ1=>_)=_
  rw [jD,if_pos (fQ ht)]
  show (R.ok true).bind _=_
  rw [bX,if_pos rfl]
  show (e (.val (φ x)::dX)).bind _=_
  rw [h1,bX,if_pos h2]
  show (jW (bH 0) bV e (xs.map φ) (.val (φ x)::dX)).bind _=_
  rw [ih];rfl
theorem aN9 {α:Type} {dX:Env} {e:aS} {φ χ ψ:α->D} {b:α->Bool}:∀(xs:List α) (t u:Slot),np t->np u->(∀x∈xs,(φ x).calm=true/\(χ x).calm=true/\e (.val (φ x)::.val (χ x)::dX)=.ok (ψ x,b x)/\aV (ψ x,b x)=true) ->
  jW (dR [0,1]) bV e (xs.map fun x=>.tup [φ x,χ x]) (t::u::dX)=.ok (xs.map ψ)
 | [],_,_,_,_,_=>rfl
 | x::xs,t,u,ht,hu,h=>by
  obtain ⟨c1,c2,h1,h2⟩:=h x List.mem_cons_self
  have ih:=aN9 xs (.val (φ x)) (.val (χ x)) aO aO fun y hy=>h y (List.mem_cons_of_mem _ hy)
  have hb:dR [0,1] (.tup [φ x,χ x]) (t::u::dX)=some (.val (φ x)::.val (χ x)::dX):=by
   simp [c1,c2,ht,hu]
  show (match dR [0,1] (.tup [φ x,χ x]) (t::u::dX) with | none=>R.bad | some ρ1=>_)=_
  rw [hb]
  show (R.ok true).bind _=_
  rw [bX,if_pos rfl]
  show (e (.val (φ x)::.val (χ x)::dX)).bind _=_
  rw [h1,bX,if_pos h2]
  show (jW (dR [0,1]) bV e (xs.map fun x=>.tup [φ x,χ x]) (.val (φ x)::.val (χ x)::dX)).bind _=_
  rw [ih];rfl
theorem gJ {α:Type} {it:kR} {js:T0} {e:aS} {ρ:Env} (dX:Env) (xs:List α) (φ ψ:α->D) (b:α->Bool) (hi:it ρ=.ok (xs.map φ)) (hl:xs.length<=1000000) (hc:js.map (jQ ρ)=dX)
  (he:∀x∈xs,e (.val (φ x)::dX)=.ok (ψ x,b x)/\aV (ψ x,b x)=true) (hk:js.all (lY ρ)=true\/∀x∈xs,isScal (ψ x)=true):bS it 1 js (bH 0) bV e ρ=.ok (.lst true (xs.map ψ),true):=by
 unfold bS
 rw [hi,bX,if_pos (by simpa using hl),hc]
 show (jW (bH 0) bV e (xs.map φ) (.un::dX)).bind _=_
 rw [aO2 xs .un bQ he,bX,if_pos]
 rcases hk with h | h
 ·rw [h];rfl
 ·rw [Bool.or_eq_true];right;rw [List.all_eq_true]
  intro d hd
  obtain ⟨x,hx,rfl⟩:=List.mem_map.mp hd
  exact h x hx
theorem aQa {α:Type} {it:kR} {js:T0} {e:aS} {ρ:Env} (dX:Env) (xs:List α) (φ χ ψ:α->D) (b:α->Bool) (hi:it ρ=.ok (xs.map fun x=>.tup [φ x,χ x])) (hl:xs.length<=1000000) (hc:js.map (jQ ρ)=dX)
  (he:∀x∈xs,(φ x).calm=true/\(χ x).calm=true/\e (.val (φ x)::.val (χ x)::dX)=.ok (ψ x,b x)/\aV (ψ x,b x)=true) (hk:js.all (lY ρ)=true\/∀x∈xs,isScal (ψ x)=true):bS it 2 js (dR [0,1]) bV e ρ=.ok (.lst true (xs.map ψ),true):=by
 unfold bS
 rw [hi,bX,if_pos (by simpa using hl),hc]
 show (jW (dR [0,1]) bV e (xs.map fun x=>.tup [φ x,χ x]) (.un::.un::dX)).bind _=_
 rw [aN9 xs .un .un bQ bQ he,bX,if_pos]
 rcases hk with h | h
 ·rw [h];rfl
 ·rw [Bool.or_eq_true];right;rw [List.all_eq_true]
  intro d hd
  obtain ⟨x,hx,rfl⟩:=List.mem_map.mp hd
  exact h x hx
theorem aCl {α:Type} {set:D->Env->Option Env} {b:aX} {φ:α->D} (J:List α->Env->Prop) (xs:List α):∀(post pre:List α) (ρ:Env),xs=pre++post ->
  (∀pre x post ρ,xs=pre++x::post->J pre ρ->∃ρ1 ρ2,set (φ x) ρ=some ρ1/\b ρ1=.next ρ2/\J (pre ++ [x]) ρ2)->J pre ρ->∃ρ',forL set b (post.map φ) ρ=.next ρ'/\J xs ρ'
 | [],pre,ρ,e,_,h0=>⟨ρ,rfl,by rw [e,List.append_nil];exact h0⟩
 | x::post,pre,ρ,e,h,h0=>by
  obtain ⟨ρ1,ρ2,h1,h2,h3⟩:=h pre x post ρ e h0
  obtain ⟨ρ',h4,h5⟩:=aCl J xs post (pre ++ [x]) ρ2 (by rw [e];simp) h h3
  refine ⟨ρ',?_,h5⟩
  show (match set (φ x) ρ with | none=>Out.bad | some ρ1=>iJ (b ρ1) (forL set b (post.map φ)))=_
  rw [h1];dsimp only;rw [h2];exact h4
theorem aCk {α:Type} {xs:List α} {φ:α->D}:qJ (xs.map φ)=(xs.zipIdx).map fun p=>.tup [.int (p.2:Nat),φ p.1]:=by
 unfold qJ
 rw [List.zipIdx_map,List.map_map]
 rfl
theorem aMq {c:cW} {b:aX} {n:Nat} {ρ ρ2:Env} (hc:c ρ=.ok true) (hb:b ρ=.next ρ2):bZ c b (n+1) ρ=bZ c b n ρ2:=by
 rw [bZ,hc];dsimp only;rw [hb];rfl
theorem aFq {c:cW} {b:aX} {n:Nat} {ρ:Env} (hc:c ρ=.ok false):bZ c b (n+1) ρ=.next ρ:=by
 rw [bZ,hc]
def out (o:Out) (P:Env->Prop) (Q:D->Prop):Prop:=match o with | .next ρ=>P ρ | .ret d _=>Q d | _=>False
def stp (o:Option Env) (b:aX):Out:=match o with | some ρ=>b ρ | none=>.bad
@[simp] theorem nZ {ρ:Env} {P:Env->Prop} {Q:D->Prop}:out (.next ρ) P Q=P ρ:=rfl
@[simp] theorem jS {ρ:Env} {d:D} {P:Env->Prop} {Q:D->Prop}:out (.ret d ρ) P Q=Q d:=rfl
@[simp] theorem jH {ρ:Env} {b:aX}:stp (some ρ) b=b ρ:=rfl
theorem bL {o:Out} {g:aX} {P P':Env->Prop} {Q:D->Prop} (h:out o P' Q) (h2:∀ρ,P' ρ->out (g ρ) P Q):out (o.andThen g) P Q:=by
 cases o<;>first | exact h2 _ h | exact h | exact h.elim
theorem qL {o:Out} {P P':Env->Prop} {Q Q':D->Prop} (h:out o P' Q') (h1:∀ρ,P' ρ->P ρ) (h2:∀d,Q' d->Q d):out o P Q:=by
 cases o<;>first | exact h1 _ h | exact h2 _ h | exact h.elim
def qU (fn:Fn) (ds:List D) (P:D->Prop):Prop:=∃d,Ret fn ds d/\P d
theorem eJ {n:Nat} {body:aX} {ds:List D} {P:D->Prop} (h:out (body (entry n ds)) (fun _=>P .non) P):qU (fnOf n body) ds P:=by
 cases e:body (entry n ds) with
 | next ρ=>rw [e] at h;exact ⟨_,aR4 ⟨ρ,e⟩,h⟩
 | ret d ρ=>rw [e] at h;exact ⟨_,uR ⟨ρ,e⟩,h⟩
 | brk ρ=>rw [e] at h;exact h.elim
 | cont ρ=>rw [e] at h;exact h.elim
 | exc c ρ=>rw [e] at h;exact h.elim
 | bad=>rw [e] at h;exact h.elim
theorem nL {n:Nat} {body:aX} {ds:List D} {d:D} (h:out (body (entry n ds)) (fun _=>D.non=d) (·=d)):Ret (fnOf n body) ds d:=by
 obtain ⟨_,h1,rfl⟩:=eJ (P:=(·=d)) h
 exact h1
theorem aD5 {α:Type} {set:D->Env->Option Env} {b:aX} {φ:α->D} {Q:D->Prop} (J:List α->Env->Prop) (xs:List α) (h:∀pre x post ρ,xs=pre++x::post->J pre ρ->out (stp (set (φ x) ρ) b) (J (pre ++ [x])) Q):∀(post pre:List α) (ρ:Env),xs=pre++post->J pre ρ->out (forL set b (post.map φ) ρ) (J xs) Q
 | [],pre,ρ,e,h0=>by show J xs ρ;rw [e,List.append_nil];exact h0
 | x::post,pre,ρ,e,h0=>by
  have h1:=h pre x post ρ e h0
  show out (match set (φ x) ρ with | none=>Out.bad | some ρ1=>iJ (b ρ1) (forL set b (post.map φ))) _ _
  cases es:set (φ x) ρ with
  | none=>rw [es] at h1;exact h1.elim
  | some ρ1 =>
   rw [es,jH] at h1
   dsimp only
   cases eb:b ρ1 with
   | next ρ2=>rw [eb] at h1;exact aD5 J xs h post (pre ++ [x]) ρ2 (by rw [e];simp) h1
   | ret d ρ2=>rw [eb] at h1;exact h1
   | brk ρ=>rw [eb] at h1;exact h1.elim
   | cont ρ=>rw [eb] at h1;exact h1.elim
   | exc c ρ=>rw [eb] at h1;exact h1.elim
   | bad=>rw [eb] at h1;exact h1.elim
theorem dH {α:Type} {set:D->Env->Option Env} {b:aX} {φ:α->D} {Q:D->Prop} {ρ:Env} (J:List α->Env->Prop) (xs:List α) (h0:J [] ρ) (h:∀pre x post ρ,xs=pre++x::post->J pre ρ->out (stp (set (φ x) ρ) b) (J (pre ++ [x])) Q):out (forL set b (xs.map φ) ρ) (J xs) Q:=aD5 J xs h xs [] ρ rfl h0
end VL
end
section
namespace VL.QQ
open VL
structure E where
 a:Nat
 k:Nat
 b:Nat
 c:Int
 deriving Inhabited
inductive Reach (es:List E):Nat->Prop
 | zero:Reach es 0
 | step {e:E}:e∈es->Reach es e.a->Reach es e.b
theorem nV:∀(n:Nat) (xs:T0),xs.Nodup->(∀x∈xs,x<n)->xs.length<=n
 | 0,[],_,_=>Nat.le_refl _
 | 0,x::xs,_,h=>absurd (h x List.mem_cons_self) (Nat.not_lt_zero x)
 | n+1,xs,nd,h=>by
  have h1:=nV n (xs.erase n) (nd.erase n) fun x hx=>by
   have:=h x (List.mem_of_mem_erase hx)
   have ne:x ≠ n:=fun z=>by subst z;exact absurd hx (List.Nodup.not_mem_erase nd)
   omega
  rw [List.length_erase] at h1
  split at h1<;>omega
def ed (es:List E) (d:Nat):E:=es.getD d default
def og (ow:Y4) (v:Nat):Option Nat:=ow.getD v none
def Rel (es:List E) (gs:Y0) (most:Y0) (d:Nat):Prop:=gt gs d+gt most (ed es d).b<=gt most (ed es d).a
structure BF (es:List E) (gs:Y0) (num:T0) (n r:Nat) (most:Y0) (ow:Y4) (L rk:Nat->Nat) (cnt:Nat):Prop where
 lm:most.length=n
 lo:ow.length=n
 on:∀v d,og ow v=some d->d∈num/\(ed es d).a=v/\gt most v<=gt gs d+gt most (ed es d).b/\(gt most v=gt gs d+gt most (ed es d).b->rk (ed es d).b<rk v)/\L v<=L (ed es d).b+1
 no:∀v,v<n->og ow v=none->L v=0
 rc:∀v,rk v<=cnt
 lr:∀v,L v<=r
theorem aC6 {xs:Y0} {a v:Nat} {x:Int} (ha:a<xs.length):gt (xs.set a x) v=if v=a then x else gt xs v:=by
 unfold gt
 rw [List.getD_eq_getElem?_getD,List.getD_eq_getElem?_getD]
 by_cases h:v=a
 ·subst h;rw [if_pos rfl,List.getElem?_set_self ha];rfl
 ·rw [if_neg h,List.getElem?_set_ne (Ne.symm h)]
theorem aDf {xs:Y4} {a v:Nat} {x:Option Nat} (ha:a<xs.length):og (xs.set a x) v=if v=a then x else og xs v:=by
 unfold og
 rw [List.getD_eq_getElem?_getD,List.getD_eq_getElem?_getD]
 by_cases h:v=a
 ·subst h;rw [if_pos rfl,List.getElem?_set_self ha];rfl
 ·rw [if_neg h,List.getElem?_set_ne (Ne.symm h)]
section
variable {es:List E} {gs:Y0} {num:T0} {n r:Nat} {most:Y0} {ow:Y4} {L rk:Nat->Nat} {cnt:Nat}
theorem BF.raise (h:BF es gs num n r most ow L rk cnt) {d:Nat} (hd:d∈num) (ha:(ed es d).a<n) (hv:gt most (ed es d).a<gt gs d+gt most (ed es d).b) (hl:r<=L (ed es d).b+1) :
  ∃L' rk',BF es gs num n r (most.set (ed es d).a (gt gs d+gt most (ed es d).b)) (ow.set (ed es d).a (some d)) L' rk' (cnt+1)/\L' (ed es d).a=r /\
   (Rel es gs (most.set (ed es d).a (gt gs d+gt most (ed es d).b)) d\/r<=L' (ed es d).b) /\
   ∀(d' m:Nat),m<=r->(Rel es gs most d'\/m<=L (ed es d').b)->(Rel es gs (most.set (ed es d).a (gt gs d+gt most (ed es d).b)) d'\/m<=L' (ed es d').b):=by
 generalize ea:(ed es d).a=A at *
 generalize eb:(ed es d).b=B at *
 have gm:∀v,gt (most.set A (gt gs d+gt most B)) v=if v=A then gt gs d+gt most B else gt most v:=fun v=>aC6 (by rw [h.lm];exact ha)
 have go:∀v,og (ow.set A (some d)) v=if v=A then some d else og ow v:=fun v=>aDf (by rw [h.lo];exact ha)
 refine ⟨fun v=>if v=A then r else L v,fun v=>if v=A then rk B+1 else rk v,⟨by rw [List.length_set];exact h.lm,by rw [List.length_set];exact h.lo,fun v d' e=>?_,fun v hv' e=>?_,fun v=>?_,fun v=>?_⟩,by simp,?_,fun d' m hm hr=>?_⟩
 ·rw [go] at e
  rw [gm,gm]
  by_cases hva:v=A
  ·rw [if_pos hva] at e;cases e
   subst hva
   rw [eb,ea]
   refine ⟨hd,rfl,?_,?_,?_⟩
   ·by_cases hB:B=v
    ·rw [if_pos rfl,if_pos hB];rw [hB] at hv ⊢;omega
    ·rw [if_pos rfl,if_neg hB];omega
   ·by_cases hB:B=v
    ·rw [if_pos rfl,if_pos hB];rw [hB] at hv ⊢;omega
    ·intro _;rw [if_neg hB,if_pos rfl];omega
   ·rw [if_pos rfl]
    by_cases hB:B=v
    ·rw [if_pos hB];omega
    ·rw [if_neg hB];exact hl
  ·rw [if_neg hva] at e
   obtain ⟨o1,o2,o3,o4,o5⟩:=h.on v d' e
   rw [if_neg hva,if_neg hva,if_neg hva]
   refine ⟨o1,o2,?_,?_,?_⟩
   ·by_cases hB:(ed es d').b=A
    ·rw [if_pos hB];rw [hB] at o3;omega
    ·rw [if_neg hB];exact o3
   ·by_cases hB:(ed es d').b=A
    ·rw [if_pos hB];rw [hB] at o3;omega
    ·rw [if_neg hB,if_neg hB];exact o4
   ·by_cases hB:(ed es d').b=A
    ·rw [if_pos hB];have:=h.lr v;omega
    ·rw [if_neg hB];exact o5
 ·rw [go] at e
  by_cases hva:v=A
  ·rw [if_pos hva] at e;cases e
  ·rw [if_neg hva] at e ⊢;exact h.no v hv' e
 ·have h1:=h.rc v
  have h2:=h.rc B
  show (if v=A then rk B+1 else rk v)<=_
  split<;>omega
 ·have h1:=h.lr v
  show (if v=A then r else L v)<=_
  split<;>omega
 ·unfold Rel
  rw [gm,gm,ea,eb,if_pos rfl]
  by_cases hB:B=A
  ·right;show r<=(if B=A then r else L B);rw [if_pos hB];exact Nat.le_refl _
  ·left;rw [if_neg hB];exact Int.le_refl _
 ·dsimp only
  by_cases hB:(ed es d').b=A
  ·right;rw [if_pos hB];exact hm
  ·rw [if_neg hB]
   rcases hr with hr | hr
   ·left
    unfold Rel at hr ⊢
    rw [gm,gm,if_neg hB]
    by_cases hA:(ed es d').a=A
    ·rw [if_pos hA];rw [hA] at hr;omega
    ·rw [if_neg hA];exact hr
   ·exact .inr hr
def nx (es:List E) (ow:Y4) (v:Nat):Nat:=match og ow v with | some d=>(ed es d).b | none=>v
def ch (es:List E) (ow:Y4) (v:Nat):Nat->Nat
 | 0=>v
 | i+1=>nx es ow (ch es ow v i)
def dl (es:List E) (ow:Y4) (v k:Nat):T0:=(List.range k).map fun i=>(og ow (ch es ow v i)).getD 0
theorem aAh {v k:Nat}:dl es ow v (k+1)=dl es ow v k ++ [(og ow (ch es ow v k)).getD 0]:=by
 unfold dl;rw [List.range_succ,List.map_append];rfl
theorem vK {v i:Nat}:∀j,ch es ow v (i+j)=ch es ow (ch es ow v i) j
 | 0=>rfl
 | j+1=>by show nx es ow (ch es ow v (i+j))=nx es ow (ch es ow (ch es ow v i) j);rw [vK j]
theorem aKb (hb:∀d∈num,(ed es d).b<n) (h:BF es gs num n r most ow L rk cnt) {v:Nat} (hv:v<n):∀i,ch es ow v i<n
 | 0=>hv
 | i+1=>by
  show nx es ow (ch es ow v i)<n
  unfold nx
  cases e:og ow (ch es ow v i) with
  | none=>exact aKb hb h hv i
  | some d=>exact hb d (h.on _ d e).1
theorem aI8 (h:BF es gs num n r most ow L rk cnt) {v:Nat}:∀k,(∀i,i<k->og ow (ch es ow v i) ≠ none) ->
  gt most v<=((dl es ow v k).map (gt gs)).sum+gt most (ch es ow v k)/\(gt most v=((dl es ow v k).map (gt gs)).sum+gt most (ch es ow v k)->k=0\/rk (ch es ow v k)<rk v)
 | 0,_=>by simp [dl,ch]
 | k+1,hn=>by
  obtain ⟨h1,h2⟩:=aI8 h k fun i hi=>hn i (Nat.lt_succ_of_lt hi)
  rw [aAh,List.map_append,List.sum_append]
  cases e:og ow (ch es ow v k) with
  | none=>exact absurd e (hn k (Nat.lt_succ_self k))
  | some d =>
   obtain ⟨_,_,o3,o4,_⟩:=h.on _ d e
   have ec:ch es ow v (k+1)=(ed es d).b:=by show nx es ow _=_;unfold nx;rw [e]
   rw [ec]
   have es1:(([(some d:Option Nat).getD 0]).map (gt gs)).sum=gt gs d:=by simp
   rw [es1]
   refine ⟨by omega,fun q=>.inr ?_⟩
   have q1:gt most (ch es ow v k)=gt gs d+gt most (ed es d).b:=by omega
   have q2:gt most v=((dl es ow v k).map (gt gs)).sum+gt most (ch es ow v k):=by omega
   have r1:=o4 q1
   rcases h2 q2 with z | z
   ·subst z;exact r1
   ·omega
theorem aM7 (hb:∀d∈num,(ed es d).b<n) (h:BF es gs num n n most ow L rk cnt) {v:Nat} (hv:v<n) (hL:L v=n) :
  (∀i,og ow (ch es ow v i) ≠ none)/\∃p,1<=p/\p<=n/\ch es ow v (n+p)=ch es ow v n:=by
 have lt:=aKb hb h hv
 have hLi:∀i,i<=n->n<=L (ch es ow v i)+i:=by
  intro i
  induction i with
  | zero=>intro _;show n<=L v+0;omega
  | succ i ih =>
   intro hi
   have h1:=ih (by omega)
   cases e:og ow (ch es ow v i) with
   | none=>have:=h.no _ (lt i) e;omega
   | some d =>
    have o5:=(h.on _ d e).2.2.2.2
    have ec:ch es ow v (i+1)=(ed es d).b:=by show nx es ow _=_;unfold nx;rw [e]
    rw [ec];omega
 have hne:∀i,i<n->og ow (ch es ow v i) ≠ none:=fun i hi z=>by
  have:=h.no _ (lt i) z
  have:=hLi i (by omega)
  omega
 obtain ⟨i,j,hij,hj,hch⟩:∃i j,i<j/\j<=n/\ch es ow v i=ch es ow v j:=by
  refine Classical.byContradiction fun hno=>?_
  have nd:((List.range (n+1)).map (ch es ow v)).Nodup:=by
   refine List.pairwise_map.mpr (List.Pairwise.imp_of_mem (R:=(· < ·)) (fun {a b} ha hb' hlt z=>hno ⟨a,b,hlt,?_,z⟩) List.pairwise_lt_range)
   have:=List.mem_range.mp hb';omega
  have:=nV n _ nd fun x hx=>by
   obtain ⟨i,_,rfl⟩:=List.mem_map.mp hx
   exact lt i
  simp at this
  omega
 have hper:∀t,ch es ow v (i+t)=ch es ow v (j+t):=fun t=>by rw [vK,vK,hch]
 refine ⟨fun k=>?_,j - i,by omega,by omega,?_⟩
 ·induction k using Nat.strongRecOn with
  | ind k ih =>
   rcases Nat.lt_or_ge k n with hk | hk
   ·exact hne k hk
   ·have e:=hper (k - j)
    rw [show j+(k - j)=k by omega] at e
    rw [<- e]
    exact ih _ (by omega)
 ·have e:=hper (n - i)
  rw [show i+(n - i)=n by omega] at e
  rw [show n+(j - i)=j+(n - i) by omega,<- e]
theorem aGw (h:BF es gs num n r most ow L rk cnt) {v k:Nat} (hk:1<=k) (hn:∀i,i<k->og ow (ch es ow v i) ≠ none) (hc:ch es ow v k=v):0<((dl es ow v k).map (gt gs)).sum:=by
 obtain ⟨h1,h2⟩:=aI8 h k hn
 rw [hc] at h1 h2
 rcases Decidable.em (0<((dl es ow v k).map (gt gs)).sum) with q | q
 ·exact q
 ·rcases h2 (by omega) with z | z
  ·omega
  ·exact absurd z (Nat.lt_irrefl _)
theorem aMu (h:BF es gs num n r most ow L rk cnt) (hr:∀d∈num,Rel es gs most d) {v d:Nat} (e:og ow v=some d):rk (ed es d).b<rk v:=by
 obtain ⟨o1,o2,o3,o4,_⟩:=h.on v d e
 have:=hr d o1
 unfold Rel at this
 rw [o2] at this
 exact o4 (by omega)
theorem aDl {v:Nat}:og (List.replicate n none) v=none:=by
 unfold og
 rw [List.getD_eq_getElem?_getD,List.getElem?_replicate]
 by_cases h:v<n
 ·rw [if_pos h];rfl
 ·rw [if_neg h];rfl
theorem BF.init {m:Nat}:BF es gs num n 0 (List.replicate n 0) (List.replicate n none) (fun _=>0) (fun _=>0) m :=
 ⟨by simp,by simp,fun v d e=>(by rw [aDl] at e;cases e),fun _ _ _=>rfl,fun _=>Nat.zero_le _,fun _=>Nat.le_refl _⟩
theorem BF.up {r':Nat} (h:BF es gs num n r most ow L rk cnt) (hr:r<=r'):BF es gs num n r' most ow L rk cnt:=⟨h.lm,h.lo,h.on,h.no,h.rc,fun v=>Nat.le_trans (h.lr v) hr⟩
end
end VL.QQ
end
section
namespace VL
open PySem L2
@[simp] theorem aOs {ρ:Env} {c:Str} {g:aX}:(Out.exc c ρ).andThen g=.exc c ρ:=rfl
def sN (fn:Fn) (ds:List D) (k:Bool) (ρ:Env) (f:D->Out):Out:=match fn ds with
 | .ok y=>if k || isScal y.1 then f y.1 else .bad
 | .exc c=>.exc c ρ | .bad=>.bad
theorem jV {fn:Fn} {ds:List D} {d:D} {ρ:Env} {f:D->Out} (h:Ret fn ds d):sN fn ds true ρ f=f d:=by
 obtain ⟨os,h⟩:=h
 unfold sN;rw [h];rfl
def onA (r:R (List (D×Bool))) (k:List (D×Bool)->Out):Out:=match r with | .ok xs=>k xs | _=>.bad
@[simp] theorem aX0 {xs:List (D×Bool)} {k:List (D×Bool)->Out}:onA (.ok xs) k=k xs:=rfl
@[simp] theorem aT3 {fn:Fn} {g:dO} {ρ:Env}:mI (gZ fn g) ρ=onA (g ρ) fun xs=>sN fn (D.frzs (xs.map (·.1))) (xs.all aV) ρ fun _=>.next ρ:=by
 unfold mI gZ onA sN
 cases g ρ with
 | ok xs =>
  dsimp only
  cases fn (D.frzs (xs.map (·.1))) with
  | ok y=>by_cases hk:(xs.all aV || isScal y.1)=true<;>simp [hk]
  | exc c=>rfl
  | bad=>rfl
 | exc _=>rfl
 | bad=>rfl
@[simp] theorem aWb {i:Nat} {fn:Fn} {g:dO} {ρ:Env}:aY i (gZ fn g) ρ=onA (g ρ) fun xs=>sN fn (D.frzs (xs.map (·.1))) (xs.all aV) ρ fun d=>if free ρ i then .next (ρ.set i (.val d)) else .bad:=by
 unfold aY gZ onA sN
 cases g ρ with
 | ok xs =>
  dsimp only
  cases fn (D.frzs (xs.map (·.1))) with
  | ok y=>by_cases hk:(xs.all aV || isScal y.1)=true<;>simp [hk]
  | exc c=>rfl
  | bad=>rfl
 | exc _=>rfl
 | bad=>rfl
@[simp] theorem aUc {c:Str} {f:pO} {ρ:Env}:lG c f ρ=match f ρ with | some _=>.exc c ρ | none=>.bad:=rfl
@[simp] theorem aV1 {f:pO} {ρ:Env}:zTop f ρ=(f ρ).bind fun n=>if n<=1000000 then some n else none:=rfl
@[simp] theorem aWs {f g:pO} {ρ:Env}:mK f g ρ=(f ρ).bind fun a=>(g ρ).map fun b=>a+b:=rfl
def zI (r:R (D×Bool)):Option Nat:=match r with | .ok (.int a,_)=>if a.natAbs<=100000 then some 100002 else none | _=>none
@[simp] theorem aWd {g:aS} {ρ:Env}:aBs g ρ=zI (g ρ):=rfl
@[simp] theorem aW9 {a:Int} {b:Bool}:zI (.ok (.int a,b))=if a.natAbs<=100000 then some 100002 else none:=rfl
end VL
end
section
namespace VL.QQ
open VL PySem L2 PY
abbrev nI (k:Nat):D:=.int (k:Int)
def E.l (e:E):Y0:=[(e.a:Int),(e.k:Int),(e.b:Int),e.c]
def E.d (e:E):D:=.tup [nI e.a,nI e.k,nI e.b,.int e.c]
def ME (es:List E):List D:=es.map E.d
def dM (n kd:Nat) (es:List E):D:=.tup [nI n,nI kd,.lst false (ME es)]
@[simp] theorem E.calm (e:E):e.d.calm=true:=rfl
@[simp] theorem E.frz (e:E):e.d.frz=e.d:=rfl
theorem eA {α:Type} {φ:α->D} (h:∀x,(φ x).calm=true):∀xs:List α,D.bK (xs.map φ)=true
 | []=>rfl
 | x::xs=>by rw [List.map_cons,uD,h x,eA h xs];rfl
theorem gN {α:Type} {φ:α->D} (h:∀x,(φ x).calm=true) (xs:List α):D.frzs (xs.map φ)=xs.map φ:=lA _ (eA h xs)
@[simp] theorem aTn (es:List E):D.bK (ME es)=true:=eA E.calm es
@[simp] theorem aWf (es:List E):D.frzs (ME es)=ME es:=gN E.calm es
@[simp] theorem aXc (es:List E):(ME es).length=es.length:=by simp [ME]
@[simp] theorem aNl {n kd:Nat} {es:List E}:(dM n kd es).calm=true:=by simp [dM,nI]
@[simp] theorem aW0 {n kd:Nat} {es:List E}:(dM n kd es).frz=dM n kd es:=nJ _ aNl
theorem tE {α:Type} {a:α} {xs:List α}:atI (a::xs) 0=some a:=by have:=dF (xs:=a::xs) (k:=0);simpa using this
theorem aJh {α:Type} {a b:α} {xs:List α}:atI (a::b::xs) 1=some b:=by have:=dF (xs:=a::b::xs) (k:=1);simpa using this
theorem aUx {α:Type} {a b c:α} {xs:List α}:atI (a::b::c::xs) 2=some c:=by have:=dF (xs:=a::b::c::xs) (k:=2);simpa using this
theorem aW8 {α:Type} {a b c d:α} {xs:List α}:atI (a::b::c::d::xs) 3=some d:=by have:=dF (xs:=a::b::c::d::xs) (k:=3);simpa using this
@[simp] theorem aYj {n kd:Nat} {es:List E} {b c:Bool}:kIx (dM n kd es,b) (.int 0,c)=.ok (nI n,b):=by simp [dM,tE]
@[simp] theorem aYi {n kd:Nat} {es:List E} {b c:Bool}:kIx (dM n kd es,b) (.int 1,c)=.ok (nI kd,b):=by simp [dM,aJh]
@[simp] theorem aHe {n kd:Nat} {es:List E} {b c:Bool}:kIx (dM n kd es,b) (.int 2,c)=.ok (.lst false (ME es),b):=by simp [dM,aUx]
@[simp] theorem E_0 {e:E} {b c:Bool}:kIx (e.d,b) (.int 0,c)=.ok (nI e.a,b):=by simp [E.d,tE]
@[simp] theorem E_1 {e:E} {b c:Bool}:kIx (e.d,b) (.int 1,c)=.ok (nI e.k,b):=by simp [E.d,aJh]
@[simp] theorem E_2 {e:E} {b c:Bool}:kIx (e.d,b) (.int 2,c)=.ok (nI e.b,b):=by simp [E.d,aUx]
@[simp] theorem E_3 {e:E} {b c:Bool}:kIx (e.d,b) (.int 3,c)=.ok (.int e.c,b):=by simp [E.d,aW8]
theorem lZ {es:List E} {k:Nat} (h:k<es.length):es[k]?=some (ed es k):=by simp [ed,List.getElem?_eq_getElem h]
theorem lU {es:List E} {k:Nat} (h:k<es.length):ed es k∈es:=List.mem_of_getElem? (lZ h)
theorem iA {es:List E} {k:Nat} {b c:Bool} (h:k<es.length):kIx (.lst false (ME es),b) (.int (k:Int),c)=.ok ((ed es k).d,b):=by
 simp [dF,ME,lZ h]
theorem aSq {o:Bool} {xs:Y0} {k:Nat} {b c:Bool} (h:k<xs.length):kIx (.lst o (I xs),b) (.int (k:Int),c)=.ok (.int (gt xs k),b):=by
 simp [dF,aNx h]
structure OkM (n kd:Nat) (es:List E):Prop where
 n1:1<=n
 n2:n<=20
 k1:1<=kd
 k2:kd<=8
 ls:es.length<=18
 a:∀e∈es,e.a<n
 k:∀e∈es,e.k<kd
 b:∀e∈es,e.b<n
 c:∀e∈es,0<=e.c/\e.c<=1000
 up:es.Pairwise fun x y=>ST.ltL x.l y.l=true
theorem oW (i:Int):Ret jJ [.int i] (.bl true):=by
 refine uR ⟨[.val (.int i)],?_⟩
 simp [wF,entry,oX,aAj,aNj]
theorem qB (i a b:Int):Ret cA [.int i,.int a,.int b] (.bl (decide (a<=i) && decide (i<=b))):=by
 refine uR ⟨[.val (.int i),.val (.int a),.val (.int b)],?_⟩
 simp [pY,entry,aP (oW i)]
 by_cases h:a<=i<;>simp [h]
theorem wC {x a b:Int} (h1:a<=x) (h2:x<=b):Ret cA [.int x,.int a,.int b] (.bl true):=by
 have:=qB x a b
 rwa [decide_eq_true h1,decide_eq_true h2] at this
theorem aTf {x a b:Int} (h:¬ (a<=x/\x<=b)):Ret cA [.int x,.int a,.int b] (.bl false):=by
 have:=qB x a b
 have e:(decide (a<=x) && decide (x<=b))=false:=by
  rw [<- Bool.not_eq_true,Bool.and_eq_true,decide_eq_true_eq,decide_eq_true_eq];exact h
 rwa [e] at this
@[simp] theorem aYc {e:E} {b:Bool}:oX "tuple" (e.d,b)=.ok (.bl true,true):=rfl
@[simp] theorem aYe {n kd:Nat} {es:List E} {b:Bool}:oX "tuple" (dM n kd es,b)=.ok (.bl true,true):=rfl
@[simp] theorem aX9 {o:Bool} {ds:List D} {b:Bool}:oX "list" (.lst o ds,b)=.ok (.bl true,true):=rfl
@[simp] theorem aYb {e:E} {b:Bool}:eN [(e.d,b)]=.ok (.int 4,true):=rfl
@[simp] theorem aYd {n kd:Nat} {es:List E} {b:Bool}:eN [(dM n kd es,b)]=.ok (.int 3,true):=rfl
theorem aHb {n kd:Nat} {es:List E} {e:E} (ha:e.a<n) (hk:e.k<kd) (hb:e.b<n) (hc:0<=e.c/\e.c<=1000):Ret sD [dM n kd es,e.d] (.bl true):=by
 refine nL ?_
 have e1:=aP (wC (x:=(e.a:Int)) (a:=0) (b:=(n:Int) - 1) (by omega) (by omega))
 have e2:=aP (wC (x:=(e.b:Int)) (a:=0) (b:=(n:Int) - 1) (by omega) (by omega))
 have e3:=aP (wC (x:=(e.k:Int)) (a:=0) (b:=(kd:Int) - 1) (by omega) (by omega))
 have e4:=aP (wC (x:=e.c) (a:=0) (b:=1000) hc.1 hc.2)
 simp [xW,entry,cI,eV,nI,e1,e2,e3,e4]
theorem aR2 {x y:E} (h:ST.ltL x.l y.l=true) {b c:Bool}:aLy (y.d,b) (x.d,c)=.ok (.bl false,true):=by
 show R.ok (D.bl (!ST.ltL x.l y.l),true)=_
 rw [h];rfl
def kR2:List (D×Bool)->R (List D)
 | [(.int i,_),(.int j,_)]=>if cL i && cL j then .ok (gA i (j - i).toNat) else .bad
 | _=>.bad
@[simp] theorem aX3 {g:dO} {ρ:Env}:iR2 g ρ=(g ρ).bind kR2:=by
 unfold iR2
 cases g ρ<;>rfl
theorem aW5 {n:Nat} {b c:Bool} (h:n<=1000000):kR2 [(.int 1,b),(.int (n:Int),c)]=.ok ((List.range (n - 1)).map fun i:Nat=>D.int (1+(i:Int))):=by
 show (if (cL 1 && cL (n:Int))=true then R.ok (gA 1 ((n:Int) - 1).toNat) else R.bad)=_
 rw [show (cL 1 && cL (n:Int))=true by rw [yJ h];decide,if_pos rfl,show ((n:Int) - 1).toNat=n - 1 by omega]
 rfl
theorem tP (es:List E):qJ (ME es)=es.zipIdx.map fun p=>.tup [.int (p.2:Nat),p.1.d]:=aCk
theorem aAr {n kd:Nat} {es:List E} (h:OkM n kd es):Ret lE [dM n kd es] .non:=by
 refine nL ?_
 have hl:¬ ((600:Int)<(es.length:Int)):=by have:=h.ls;omega
 simp -implicitDefEqProofs [qX,entry,cI,eV,nI,hl,tP]
 refine bL (dH (fun pre ρ=>∃t u,np t/\np u/\ρ=[.val (dM n kd es),.val (.lst false (ME es)),t,u]) es.zipIdx ⟨_,_,bQ,bQ,rfl⟩ ?_) ?_
 ·rintro pre ⟨x,k⟩ post ρ e ⟨t,u,ht,hu,rfl⟩
  have hx:x∈es:=by
   have:(x,k)∈es.zipIdx:=by rw [e];simp
   have:=List.mem_zipIdx this
   simp at this
   rw [this.2];exact List.getElem_mem _
  simp -implicitDefEqProofs [ht,hu,cI,eV,aP (aHb (es:=es) (h.a x hx) (h.k x hx) (h.b x hx) (h.c x hx))]
 ·rintro ρ ⟨t,u,ht,hu,rfl⟩
  simp -implicitDefEqProofs [aW5 (show es.length<=1000000 by have:=h.ls;omega)]
  refine qL (dH (fun pre ρ=>∃t,np t/\ρ=[.val (dM n kd es),.val (.lst false (ME es)),t,u]) (List.range (es.length - 1)) ⟨_,ht,rfl⟩ ?_) (fun ρ h=>trivial) (fun _ h=>h)
  rintro pre i post ρ e ⟨t,ht,rfl⟩
  have hi:i<es.length - 1:=List.mem_range.mp (by rw [e];simp)
  have e1:(1+(i:Int))=((i+1:Nat):Int):=by omega
  have e2:(((i+1:Nat):Int) - 1)=(i:Int):=by omega
  have q1:=iA (es:=es) (k:=i+1) (b:=false) (c:=false) (by omega)
  have q2:=iA (es:=es) (k:=i) (b:=false) (c:=true) (by omega)
  have up:ST.ltL (ed es i).l (ed es (i+1)).l=true:=by
   have:=List.pairwise_iff_getElem.mp h.up i (i+1) (by omega) (by omega) (by omega)
   have z1:=lZ (es:=es) (k:=i) (by omega)
   have z2:=lZ (es:=es) (k:=i+1) (by omega)
   rw [List.getElem?_eq_getElem (by omega)] at z1 z2
   rw [<- Option.some.inj z1,<- Option.some.inj z2];exact this
  rw [e1]
  simp only [jD,iY,fQ ht,if_true,jH,List.set,sI,mQ,oT,mE,iB,bX,q1,nN,aHw,e2,q2,aR2 up,aBm,nC,nZ]
  exact ⟨_,aO,rfl⟩
end VL.QQ
end
section
namespace VL.QQ
open VL PySem L2 PY
def NN (xs:T0):List D:=xs.map nI
@[simp] theorem aXv:NN []=[]:=rfl
@[simp] theorem uQ (xs:T0):(NN xs).length=xs.length:=by simp [NN]
@[simp] theorem aWj (xs:T0) (x:Nat):NN xs ++ [.int (x:Int)]=NN (xs ++ [x]):=by simp [NN]
@[simp] theorem aIk (xs:T0):D.bK (NN xs)=true:=eA (fun _=>rfl) xs
@[simp] theorem aV9 (xs:T0):D.frzs (NN xs)=NN xs:=gN (fun _=>rfl) xs
def nt (xs:T0) (k:Nat):Nat:=xs.getD k 0
theorem aFp {xs:T0} {k:Nat} (h:k<xs.length):xs[k]?=some (nt xs k):=by simp [nt,List.getElem?_eq_getElem h]
theorem vA {xs:T0} {k:Nat} (h:k<xs.length):nt xs k∈xs:=List.mem_of_getElem? (aFp h)
theorem aEd {o:Bool} {xs:T0} {k:Nat} {b c:Bool} (h:k<xs.length):kIx (.lst o (NN xs),b) (.int (k:Int),c)=.ok (nI (nt xs k),b):=by
 simp [dF,NN,aFp h]
theorem tK {o:Bool} {xs:T0} {x:Nat} {b c:Bool} (h:xs.getLast?=some x):kIx (.lst o (NN xs),b) (.int (-1),c)=.ok (nI x,b):=by
 simp [aA4,NN,h]
def oD:Option Nat->D
 | none=>.non
 | some k=>nI k
def OD (ow:Y4):List D:=ow.map oD
@[simp] theorem pX (x:Option Nat):(oD x).calm=true:=by cases x<;>rfl
@[simp] theorem aJm (xs:Y4):D.bK (OD xs)=true:=eA pX xs
@[simp] theorem aNa (xs:Y4):D.frzs (OD xs)=OD xs:=gN pX xs
@[simp] theorem aQg (xs:Y4):(OD xs).length=xs.length:=by simp [OD]
theorem aUz {o:Bool} {ow:Y4} {v:Nat} {b c:Bool} (h:v<ow.length):kIx (.lst o (OD ow),b) (.int (v:Int),c)=.ok (oD (og ow v),b):=by
 simp [dF,OD,og,List.getElem?_eq_getElem h]
theorem jA {n kd:Nat} {es:List E} (h:OkM n kd es):Ret gF [dM n kd es] .non:=by
 refine nL ?_
 have e1:=aP (wC (x:=(n:Int)) (a:=1) (b:=200) (by have:=h.n1;omega) (by have:=h.n2;omega))
 have e2:=aP (wC (x:=(kd:Int)) (a:=1) (b:=8) (by have:=h.k1;omega) (by have:=h.k2;omega))
 simp -implicitDefEqProofs [nA,entry,cI,eV,nI,e1,e2,jV (aAr h)]
@[simp] theorem l1:(Str.ofString "a machine has 1 to ").length=19:=by rfl
@[simp] theorem l2:(Str.ofString " places").length=7:=by rfl
@[simp] theorem l3:(Str.ofString "the price of kind ").length=18:=by rfl
@[simp] theorem l4:(Str.ofString " is not from 0 to ").length=18:=by rfl
@[simp] theorem l5:(Str.ofString "deed ").length=5:=by rfl
@[simp] theorem l6:(Str.ofString " does not begin where the row has come to").length=41:=by rfl
theorem aK7 {α:Type} {xs pre post:List α} {x:α} {k:Nat} {pr po:List (α×Nat)} (e:xs.zipIdx=pr++(x,k)::po):k=pr.length/\k<xs.length/\xs[k]?=some x:=by
 have h1:pr.length<xs.zipIdx.length:=by rw [e];simp
 have h2:xs.zipIdx[pr.length]?=some (x,k):=by rw [e];simp
 simp only [List.length_zipIdx] at h1
 rw [List.getElem?_zipIdx,List.getElem?_eq_getElem h1] at h2
 simp at h2
 obtain ⟨h2,h3⟩:=h2
 subst h3
 exact ⟨rfl,h1,by rw [List.getElem?_eq_getElem h1,h2]⟩
end VL.QQ
end
section
namespace VL.QQ
open VL PySem L2 PY
def ixP (pre:List (E×Nat)) (p:Nat):T0:=(pre.filter fun x=>x.1.a == p).map (·.2)
def LS (n:Nat) (f:Nat->T0):List D:=(List.range n).map fun p=>.lst true (NN (f p))
theorem aP3 {n a x:Nat} {f:Nat->T0}:(LS n f).set a (.lst true (NN (f a ++ [x])))=LS n fun p=>if p=a then f a ++ [x] else f p:=by
 unfold LS
 refine List.ext_getElem (by simp) fun i h1 h2=>?_
 rw [List.getElem_set]
 by_cases h:a=i
 ·simp [h]
 ·simp [h,Ne.symm h]
@[simp] theorem aTo {i:Nat} {h f:aS} {ρ:Env}:iO i h f ρ=kH (h ρ) fun d _=>match d with
  | .int k=>(match f ρ with
   | .ok x=>(match (getD ρ i).bind fun d=>aBk d k x with | some d=>.next (putD ρ i d) | none=>.bad)
   | .exc _=>.bad | .bad=>.bad)
  | _=>.bad:=by
 unfold iO kH
 cases h ρ with
 | ok x=>obtain ⟨d,b⟩:=x;cases d<;>rfl
 | exc _=>rfl
 | bad=>rfl
theorem aXh {n a x:Nat} {f:Nat->T0} {b:Bool} (ha:a<n) (hl:(f a).length<1000000):aBk (.lst true (LS n f)) (a:Int) (nI x,b)=some (.lst true (LS n fun p=>if p=a then f a ++ [x] else f p)):=by
 have e1:ixN (LS n f).length (a:Int)=some a:=by
  unfold ixN
  rw [if_pos (Int.natCast_nonneg a),if_pos (by simp [LS];omega)];simp
 have e2:(LS n f)[a]?=some (.lst true (NN (f a))):=by simp [LS,ha]
 show (ixN (LS n f).length (a:Int)).bind _=_
 rw [e1]
 show ((LS n f)[a]?).bind _=_
 rw [e2]
 show (sX (.lst true (NN (f a))) (nI x,b)).map _=_
 have e3:sX (.lst true (NN (f a))) (nI x,b)=some (.lst true (NN (f a ++ [x]))):=by
  cases b<;>simp [hl,nI]
 rw [e3]
 show some (D.lst true ((LS n f).set a (.lst true (NN (f a ++ [x])))))=_
 rw [aP3]
theorem aAl {n kd:Nat} {es:List E} (h:OkM n kd es):Ret lJ [dM n kd es] (.lst true (LS n (ixP es.zipIdx))):=by
 refine nL ?_
 have ec:bS (iR1 (aE (v2 kIx (aD 0) (vC (.int 0))) aL)) 1 [] (bH 0) bV (fW aL) [.val (dM n kd es),.un,.un,.un]=.ok (.lst true (LS n fun _=>[]),true):=by
  rw [gJ [] (List.range n) (fun i=>.int (i:Int)) (fun _=>D.lst true []) (fun _=>true) (by simp -implicitDefEqProofs [nI,fE (show n<=1000000 by have:=h.n2;omega)]) (by have:=h.n2;simp;omega) rfl ?_ (.inl rfl)]
  ·rfl
  ·intro x _;exact ⟨rfl,rfl⟩
 simp -implicitDefEqProofs [qV,entry,ec,tP]
 refine bL (dH (fun pre ρ=>∃t u,np t/\np u/\ρ=[.val (dM n kd es),.val (.lst true (LS n (ixP pre))),t,u]) es.zipIdx ⟨_,_,bQ,bQ,rfl⟩ ?_) ?_
 ·rintro pre ⟨x,k⟩ post ρ e ⟨t,u,ht,hu,rfl⟩
  obtain ⟨hk1,hk2,hk3⟩:=aK7 (pre:=[]) (post:=[]) e
  have hx:x∈es:=List.mem_of_getElem? hk3
  have hlen:(ixP pre x.a).length<1000000:=by
   have h1:(ixP pre x.a).length<=pre.length:=by unfold ixP;rw [List.length_map];exact List.length_filter_le _ _
   have:=h.ls;omega
  have ea:=aXh (n:=n) (a:=x.a) (x:=k) (f:=ixP pre) (b:=false) (h.a x hx) hlen
  simp -implicitDefEqProofs [ht,hu,nI,ea]
  have ef:(fun p=>if p=x.a then ixP pre x.a ++ [k] else ixP pre p)=ixP (pre ++ [(x,k)]):=by
   funext p
   by_cases hp:p=x.a
   ·subst hp
    simp [ixP]
   ·simp [ixP,hp,Ne.symm hp]
  rw [ef]
  exact ⟨_,aO,_,aO,rfl,rfl,rfl⟩
 ·rintro ρ ⟨t,u,ht,hu,rfl⟩
  simp
end VL.QQ
end
section
namespace VL.QQ
open VL PySem L2 PY
theorem lB {c:cW} {b:aX} {P:Env->Prop} {Q:D->Prop} (J:Nat->Env->Prop) (h:∀m ρ,J m ρ->(c ρ=.ok false/\P ρ)\/(c ρ=.ok true/\∃m',m=m'+1/\out (b ρ) (J m') Q)) :
  ∀(N m:Nat) (ρ:Env),J m ρ->m<N->out (bZ c b N ρ) P Q
 | 0,m,ρ,_,hm=>absurd hm (Nat.not_lt_zero m)
 | N+1,m,ρ,hj,hm=>by
  rcases h m ρ hj with ⟨h1,h2⟩ | ⟨h1,m',e,h2⟩
  ·rw [aFq h1];exact h2
  ·show out (match c ρ with | .ok true=>iJ (b ρ) (bZ c b N) | .ok false=>.next ρ | .exc _=>.bad | .bad=>.bad) P Q
   rw [h1]
   show out (iJ (b ρ) (bZ c b N)) P Q
   cases eb:b ρ with
   | next ρ2 =>
    rw [eb] at h2
    exact lB J h N m' ρ2 h2 (by omega)
   | ret d ρ2=>rw [eb] at h2;exact h2
   | exc _ _=>rw [eb] at h2;exact h2.elim
   | brk _=>rw [eb] at h2;exact h2.elim
   | cont _=>rw [eb] at h2;exact h2.elim
   | bad=>rw [eb] at h2;exact h2.elim
@[simp] theorem aRy {i:Nat} {h f:aS} {ρ:Env}:dJ i h f ρ=kH (f ρ) fun d b=>kH (h ρ) fun k _=>match k with
  | .int k=>(match (getD ρ i).bind fun e=>aA7 e k (d,b) with | some e=>.next (putD ρ i e) | none=>.bad) | _=>.bad:=by
 unfold dJ kH
 cases f ρ with
 | ok x =>
  cases h ρ with
  | ok y=>obtain ⟨y,c⟩:=y;cases y<;>rfl
  | exc _=>rfl
  | bad=>rfl
 | exc _=>rfl
 | bad=>rfl
@[simp] theorem aPl {i:Nat} {op:Int->Int->Int} {f:aS} {ρ:Env}:vB i op f ρ=match getD ρ i with
  | some (.int a)=>kH (f ρ) fun d _=>(match d with | .int b=>if free ρ i then .next (ρ.set i (.val (.int (op a b)))) else .bad | _=>.bad)
  | _=>.bad:=by
 unfold vB kH
 cases getD ρ i with
 | none=>rfl
 | some d =>
  cases d<;>try rfl
  cases f ρ with
  | ok x=>obtain ⟨x,b⟩:=x;cases x<;>rfl
  | exc _=>rfl
  | bad=>rfl
theorem aDc {m k:Nat} (h:k<m):ixN m (k:Int)=some k:=by
 unfold ixN;rw [if_pos (Int.natCast_nonneg k),if_pos (by omega)];simp
theorem aFf {ow:Y4} {v k:Nat} {b:Bool} (h:v<ow.length):aA7 (.lst true (OD ow)) (v:Int) (nI k,b)=some (.lst true (OD (ow.set v (some k)))):=by
 show (if aV (nI k,b)=true then (ixN (OD ow).length (v:Int)).map fun j=>D.lst true ((OD ow).set j (nI k)) else none)=_
 rw [if_pos (by cases b<;>rfl),aQg,aDc h]
 show some (D.lst true ((OD ow).set v (nI k)))=_
 rw [OD,OD,List.map_set];rfl
theorem aRf {xs:Y0} {v:Nat} {x:Int} {b:Bool} (h:v<xs.length):aA7 (.lst true (I xs)) (v:Int) (.int x,b)=some (.lst true (I (xs.set v x))):=by
 show (if aV (.int x,b)=true then (ixN (I xs).length (v:Int)).map fun j=>D.lst true ((I xs).set j (.int x)) else none)=_
 rw [if_pos (by cases b<;>rfl),aUs,aDc h]
 show some (D.lst true ((I xs).set v (.int x)))=_
 rw [I,I,List.map_set]
structure BS (n:Nat) (es:List E) (came:Y4) (pl:T0) (rk:Nat->Nat):Prop where
 len:came.length=n
 nd:pl.Nodup
 lt:∀p∈pl,p<n
 iff:∀p,p<n->(p∈pl ↔ (p=0\/og came p ≠ none))
 ok:∀p k,og came p=some k->k<es.length/\(ed es k).b=p/\p ≠ 0/\(ed es k).a∈pl/\rk (ed es k).a<rk p
 rl:∀p∈pl,rk p<pl.length
 rm:∀p,rk p<=pl.length
 so:∀p∈pl,Reach es p
theorem BS.le {n:Nat} {es:List E} {came:Y4} {pl:T0} {rk:Nat->Nat} (h:BS n es came pl rk):pl.length<=n:=nV n pl h.nd h.lt
theorem BS.add {n:Nat} {es:List E} {came:Y4} {pl:T0} {rk:Nat->Nat} (h:BS n es came pl rk) {k:Nat} (hk:k<es.length) (ha:(ed es k).a∈pl) (hb:(ed es k).b<n) (h0:(ed es k).b ≠ 0) (hn:og came (ed es k).b=none) :
  BS n es (came.set (ed es k).b (some k)) (pl ++ [(ed es k).b]) (fun p=>if p=(ed es k).b then pl.length else rk p):=by
 generalize eb:(ed es k).b=B at *
 have go:∀v,og (came.set B (some k)) v=if v=B then some k else og came v:=fun v=>aDf (by rw [h.len];exact hb)
 have hB:B ∉ pl:=fun z=>by
  rcases (h.iff B hb).mp z with q | q
  ·exact h0 q
  ·exact q hn
 have ne:∀p∈pl,p ≠ B:=fun p hp z=>hB (z ▸ hp)
 refine ⟨by rw [List.length_set];exact h.len,?_,fun p hp=>?_,fun p hp=>?_,fun p k' e=>?_,fun p hp=>?_,fun p=>?_,fun p hp=>?_⟩
 ·refine List.nodup_append.mpr ⟨h.nd,by simp,fun x hx y hy z=>?_⟩
  simp at hy;subst hy;exact ne x hx z
 ·rcases List.mem_append.mp hp with q | q
  ·exact h.lt p q
  ·simp at q;rw [q];exact hb
 ·rw [go,List.mem_append]
  by_cases q:p=B
  ·simp [q]
  ·rw [if_neg q,h.iff p hp];simp [q]
 ·rw [go] at e
  by_cases q:p=B
  ·rw [if_pos q] at e;cases e
   subst q
   refine ⟨hk,eb,h0,List.mem_append_left _ ha,?_⟩
   rw [if_pos rfl,if_neg (ne _ ha)]
   exact h.rl _ ha
  ·rw [if_neg q] at e
   obtain ⟨o1,o2,o3,o4,o5⟩:=h.ok p k' e
   refine ⟨o1,o2,o3,List.mem_append_left _ o4,?_⟩
   rw [if_neg (ne _ o4),if_neg q];exact o5
 ·rw [List.length_append]
  show (if p=B then pl.length else rk p)<pl.length+1
  by_cases q:p=B
  ·rw [if_pos q];omega
  ·rw [if_neg q]
   have:=h.rm p;omega
 ·rw [List.length_append]
  show (if p=B then pl.length else rk p)<=pl.length+1
  have:=h.rm p
  split<;>omega
 ·rcases List.mem_append.mp hp with q | q
  ·exact h.so p q
  ·simp at q
   rw [q,<- eb]
   exact .step (lU hk) (h.so _ ha)
theorem aUq {es:List E} {e:E} (he:e∈es):∃k,k∈ixP es.zipIdx e.a/\ed es k=e:=by
 obtain ⟨k,hk,hke⟩:=List.getElem_of_mem he
 refine ⟨k,?_,?_⟩
 ·unfold ixP
  refine List.mem_map.mpr ⟨(e,k),List.mem_filter.mpr ⟨?_,by simp⟩,rfl⟩
  rw [List.mem_zipIdx_iff_getElem?,List.getElem?_eq_getElem hk,hke]
 ·have:=lZ hk
  rw [List.getElem?_eq_getElem hk,hke] at this
  exact (Option.some.inj this).symm
theorem aRb {es:List E} {k p:Nat} (h:k∈ixP es.zipIdx p):k<es.length/\(ed es k).a=p:=by
 unfold ixP at h
 obtain ⟨⟨e,k'⟩,h1,h2⟩:=List.mem_map.mp h
 obtain ⟨h3,h4⟩:=List.mem_filter.mp h1
 have h2:k'=k:=h2
 subst h2
 rw [List.mem_zipIdx_iff_getElem?] at h3
 have h3:es[k']?=some e:=h3
 have hk:=(List.getElem?_eq_some_iff.mp h3).1
 refine ⟨hk,?_⟩
 have:=lZ hk
 rw [h3] at this
 rw [<- Option.some.inj this]
 simpa using h4
structure CameOk (n:Nat) (es:List E) (came:Y4):Prop where
 len:came.length=n
 ok:∀p k,og came p=some k->k<es.length/\(ed es k).b=p/\p ≠ 0
 rk:∃rk:Nat->Nat,(∀p,rk p<=n)/\∀p k,og came p=some k->rk (ed es k).a<rk p
 re:∀p,p<n->((p=0\/og came p ≠ none) ↔ Reach es p)
 sr:∀p k,og came p=some k->Reach es (ed es k).a
theorem aQj {n p:Nat} {f:Nat->T0} (h:p<n):(D.frzs (LS n f))[p]?=some (.lst false (NN (f p))):=by
 rw [D.aFs];simp [LS,h]
def pI:cW:=(bA (v2 kLt (aD 4) (vCB eN (aE (aD 3) aL))))
def vW:aX:=(aR (iF (gK (v2 kIx (aD 1) (v2 kIx (aD 3) (aD 4)))) (bH 5) (aR (aY 6 (xOf (v2 kIx (v2 kIx (v2 kIx (aD 0) (vC (.int 2))) (aD 5)) (vC (.int 2))))) (sIf (lX (bA (v2 (kEq true) (aD 6) (vC (.int 0)))) (bA (v2 (iS false) (v2 kIx (aD 2) (aD 6)) (vC .non)))) (aR (dJ 2 (aD 6) (aD 5)) (eW 3 (aD 6))) bJ))) (vB 4 (fun i j=>i+j) (vC (.int 1))))
theorem aFt {n kd:Nat} {es:List E} (h:OkM n kd es):qU oK [dM n kd es] (fun d=>∃came,d=.lst true (OD came)/\CameOk n es came):=by
 refine eJ ?_
 have ec:bS (iR1 (aE (v2 kIx (aD 0) (vC (.int 0))) aL)) 1 [] (bH 0) bV (vC .non) [.val (dM n kd es),.val (.lst true (LS n (ixP es.zipIdx))),.un,.un,.un,.un,.un]=.ok (.lst true (OD (List.replicate n none)),true):=by
  rw [gJ [] (List.range n) (fun i=>.int (i:Int)) (fun _=>D.non) (fun _=>true) (by simp -implicitDefEqProofs [nI,fE (show n<=1000000 by have:=h.n2;omega)]) (by have:=h.n2;simp;omega) rfl ?_ (.inl rfl)]
  ·rw [OD,List.map_replicate]
   congr 3
   exact List.eq_replicate_iff.mpr ⟨by simp,by simp [oD]⟩
  ·intro x _;exact ⟨rfl,rfl⟩
 have hn2:=h.n2
 simp -implicitDefEqProofs [yN,entry,aP (aAl h),ec]
 show out ((bZ pI vW fuel _).andThen _) _ _
 refine bL (P':=fun ρ=>∃came pl rk at' t u,np t/\np u/\BS n es came pl rk/\(∀e∈es,e.a∈pl->e.b∈pl)/\0∈pl/\ρ=[.val (dM n kd es),.val (.lst false (D.frzs (LS n (ixP es.zipIdx)))),.val (.lst true (OD came)),.val (.lst true (NN pl)),.val (.int at'),t,u]) (lB (fun m ρ=>∃came pl rk,∃a:Nat,∃t u,np t/\np u/\BS n es came pl rk/\(∀e∈es,e.a∈pl.take a->e.b∈pl)/\a<=pl.length/\0∈pl/\m=n - a/\ρ=[.val (dM n kd es),.val (.lst false (D.frzs (LS n (ixP es.zipIdx)))),.val (.lst true (OD came)),.val (.lst true (NN pl)),.val (nI a),t,u]) ?_ 1000 n _ ?_ (by omega)) ?_
 ·rintro m ρ ⟨came,pl,rk,a,t,u,ht,hu,B,cl,hal,h0,hm,rfl⟩
  by_cases hlt:a<pl.length
  ·refine .inr ⟨by simp [pI,nI,hlt],n - (a+1),by have:=B.le;omega,?_⟩
   have hp:=vA hlt
   have hpn:=B.lt _ hp
   have e1:atI (D.frzs (LS n (ixP es.zipIdx))) ((nt pl a:Nat):Int)=some (.lst false (NN (ixP es.zipIdx (nt pl a)))):=by rw [dF];exact aQj hpn
   simp -implicitDefEqProofs [vW,nI,aEd hlt,e1]
   refine bL (dH (fun pre ρ=>∃came pl' rk t u,np t/\np u/\BS n es came pl' rk/\(∀e∈es,e.a∈pl'.take a->e.b∈pl')/\a<pl'.length/\nt pl' a=nt pl a/\0∈pl'/\(∀x∈pre,(ed es x).b∈pl')/\ρ=[.val (dM n kd es),.val (.lst false (D.frzs (LS n (ixP es.zipIdx)))),.val (.lst true (OD came)),.val (.lst true (NN pl')),.val (nI a),t,u]) (ixP es.zipIdx (nt pl a)) ⟨came,pl,rk,t,u,ht,hu,B,cl,hlt,rfl,h0,by simp,rfl⟩ ?_) ?_
   ·rintro pre x post ρ e ⟨came,pl',rk,t,u,ht,hu,B,cl,hlt',hnt,h0,hpre,rfl⟩
    obtain ⟨hx,hxa⟩:=aRb (show x∈ixP es.zipIdx (nt pl a) by rw [e];simp)
    have hbn:=h.b _ (lU hx)
    have ha':(ed es x).a∈pl':=by rw [hxa,<- hnt];exact vA hlt'
    have hoA:=aUz (o:=true) (b:=false) (c:=false) (show (ed es x).b<came.length by rw [B.len];exact hbn)
    by_cases hb0:(ed es x).b=0
    ·simp -implicitDefEqProofs [ht,hu,nI,iA hx,hb0]
     refine ⟨came,pl',rk,_,aO,_,aO,B,cl,hlt',hnt,h0,fun y hy=>?_,rfl,rfl,rfl,rfl⟩
     rcases hy with hy | hy
     ·exact hpre y hy
     ·rw [hy,hb0];exact h0
    ·have hb0':¬ ((ed es x).b:Int)=0:=by omega
     cases ho:og came (ed es x).b with
     | some k =>
      rw [ho] at hoA
      simp -implicitDefEqProofs [ht,hu,nI,iA hx,hb0',hb0,hoA,oD,dQ]
      refine ⟨came,pl',rk,_,aO,_,aO,B,cl,hlt',hnt,h0,fun y hy=>?_,rfl,rfl,rfl,rfl⟩
      rcases hy with hy | hy
      ·exact hpre y hy
      ·rw [hy];exact (B.iff _ hbn).mpr (.inr (by rw [ho];simp))
     | none =>
      rw [ho] at hoA
      have hpl:pl'.length<1000000:=by have:=B.le;omega
      have B':=B.add hx ha' hbn hb0 ho
      simp -implicitDefEqProofs [ht,hu,nI,iA hx,hb0',hb0,hoA,oD,dQ,aFf (show (ed es x).b<came.length by rw [B.len];exact hbn),hpl]
      refine ⟨_,_,_,_,aO,_,aO,B',fun e he hea=>?_,?_,?_,?_,fun y hy=>?_,rfl,rfl,rfl,rfl⟩
      ·rw [List.take_append_of_le_length (by omega)] at hea
       exact List.mem_append_left _ (cl e he hea)
      ·simp;omega
      ·rw [<- hnt];unfold nt
       rw [List.getD_eq_getElem?_getD,List.getD_eq_getElem?_getD,List.getElem?_append_left hlt']
      ·exact List.mem_append_left _ h0
      ·rcases hy with hy | hy
       ·exact List.mem_append_left _ (hpre y hy)
       ·rw [hy];simp
   ·rintro ρ ⟨came,pl',rk,t,u,ht,hu,B,cl,hlt',hnt,h0,hpre,rfl⟩
    simp -implicitDefEqProofs [ht,hu,nI]
    refine ⟨came,pl',rk,a+1,t,ht,u,hu,B,fun e he hea=>?_,by omega,h0,rfl,rfl,rfl,by simp,rfl,rfl⟩
    rw [List.take_succ,List.mem_append] at hea
    rcases hea with hea | hea
    ·exact cl e he hea
    ·rw [aFp hlt'] at hea
     simp at hea
     obtain ⟨k,hk1,hk2⟩:=aUq he
     rw [hea,hnt] at hk1
     rw [<- hk2];exact hpre k hk1
  ·refine .inl ⟨by simp [pI,nI];omega,came,pl,rk,(a:Int),t,u,ht,hu,B,?_,h0,rfl⟩
   have:a=pl.length:=by omega
   subst this
   simpa using cl
 ·refine ⟨_,[0],fun _=>0,0,_,_,bQ,bQ,⟨by simp,by simp,by simp;exact h.n1,fun p hp=>by simp [aDl],fun p k e=>(by rw [aDl] at e;cases e),by simp,by simp,by simp;exact .zero⟩,by simp,by simp,by simp,by simp,rfl⟩
 ·rintro ρ ⟨came,pl,rk,a,t,u,ht,hu,B,cl,h0,rfl⟩
  simp
  refine ⟨came,rfl,B.len,fun p k e=>⟨(B.ok p k e).1,(B.ok p k e).2.1,(B.ok p k e).2.2.1⟩,⟨rk,fun p=>Nat.le_trans (B.rm p) B.le,fun p k e=>(B.ok p k e).2.2.2.2⟩,fun p hp=>?_,fun p k e=>B.so _ (B.ok p k e).2.2.2.1⟩
  rw [<- B.iff p hp]
  refine ⟨B.so p,fun hr=>?_⟩
  clear hp
  induction hr with
  | zero=>exact h0
  | step he _ ih=>exact cl _ he ih
end VL.QQ
end
section
namespace VL.QQ
open VL PySem L2 PY
def BB (n:Nat) (f:Nat->Bool):List D:=(List.range n).map fun p=>.bl (f p)
@[simp] theorem aTe (n:Nat) (f:Nat->Bool):D.bK (BB n f)=true:=eA (fun _=>rfl) _
@[simp] theorem aVw (n:Nat) (f:Nat->Bool):D.frzs (BB n f)=BB n f:=gN (fun _=>rfl) _
theorem aI7 {o:Bool} {n p:Nat} {f:Nat->Bool} {b c:Bool} (h:p<n):kIx (.lst o (BB n f),b) (.int (p:Int),c)=.ok (.bl (f p),b):=by
 simp [dF,BB,h]
theorem aL0 (xs:Y4):qJ (OD xs)=xs.zipIdx.map fun p=>.tup [.int (p.2:Nat),oD p.1]:=aCk
@[simp] theorem aXk {f g:aS} {ρ:Env}:vOr f g ρ=(f ρ).bind fun x=>match x.1 with | .bl false=>g ρ | .bl true=>.ok (.bl true,true) | _=>.bad:=rfl
theorem aIy (x:Option Nat):dQ (oD x)=x.isNone:=by cases x<;>rfl
theorem yI {n kd:Nat} {es:List E} (h:OkM n kd es):qU oH [dM n kd es] (fun d=>∃f,d=.lst true (BB n f)/\∀p,p<n->(f p=true ↔ Reach es p)):=by
 refine eJ ?_
 obtain ⟨d,hd,came,rfl,C⟩:=aFt h
 have ec:bS (wI (bD oK (aE (aD 0) aL))) 2 [] (dR [0,1]) bV (vOr (v2 (kEq false) (aD 0) (vC (.int 0))) (v2 (iS true) (aD 1) (vC .non))) [.val (dM n kd es)]=.ok (.lst true (BB n fun p=>decide (p=0) || (og came p).isSome),true):=by
  rw [aQa [] came.zipIdx (fun p=>.int (p.2:Nat)) (fun p=>oD p.1) (fun p=>D.bl (decide (p.2=0) || p.1.isSome)) (fun _=>true) (by simp [aP hd,aL0]) (by have:=C.len;have:=h.n2;simp;omega) rfl ?_ (.inl rfl)]
  ·congr 3
   unfold BB
   refine List.ext_getElem (by simp [C.len]) fun i h1 h2=>?_
   simp at h1 h2
   simp [og,List.getElem?_eq_getElem h1]
  ·rintro ⟨x,i⟩ hx
   refine ⟨rfl,pX x,?_,rfl⟩
   by_cases hi:i=0
   ·subst hi;simp
   ·have hi':¬ (i:Int)=0:=by omega
    simp [hi,hi',aIy]
 simp -implicitDefEqProofs [xN,entry,jV (jA h),ec]
 refine ⟨_,rfl,fun p hp=>?_⟩
 rw [<- C.re p hp]
 simp [Option.isSome_iff_ne_none]
@[simp] theorem aP0 {i:Nat} {ρ:Env}:aG6 i ρ=match (getD ρ i).bind aGi with | some d=>.next (putD ρ i d) | none=>.bad:=rfl
theorem aNt {xs:T0} (h:xs.length<1000000):aGi (.lst true (NN xs))=some (.lst true (NN xs.reverse)):=by
 show (if (D.bK (NN xs) && decide ((NN xs).length<1000000))=true then some (D.lst true (NN xs).reverse) else none)=_
 rw [if_pos (by simp [h])]
 simp [NN]
theorem aAn {es:List E} {ow:Y4} {v d:Nat} (h:og ow v=some d):nx es ow v=(ed es d).b:=by unfold nx;rw [h]
end VL.QQ
end
section
namespace VL.QQ
open VL PySem L2 PY
@[simp] theorem aWt {c d:D} {ρ:Env}:putD (.pin c::ρ) 0 d=.pin d::ρ:=rfl
end VL.QQ
end
section
namespace VL.QQ
open VL PySem L2 PY
theorem aHn {α:Type} {dX:Env} {c:cW} {e:aS} {φ χ ψ:α->D} {b g:α->Bool}:∀(xs:List α) (t u:Slot),np t->np u->(∀x∈xs,(φ x).calm=true/\(χ x).calm=true/\c (.val (φ x)::.val (χ x)::dX)=.ok (g x)/\e (.val (φ x)::.val (χ x)::dX)=.ok (ψ x,b x)/\aV (ψ x,b x)=true) ->
  jW (dR [0,1]) c e (xs.map fun x=>.tup [φ x,χ x]) (t::u::dX)=.ok ((xs.filter g).map ψ)
 | [],_,_,_,_,_=>rfl
 | x::xs,t,u,ht,hu,h=>by
  obtain ⟨c1,c2,h0,h1,h2⟩:=h x List.mem_cons_self
  have ih:=aHn xs (.val (φ x)) (.val (χ x)) aO aO fun y hy=>h y (List.mem_cons_of_mem _ hy)
  have hb:dR [0,1] (.tup [φ x,χ x]) (t::u::dX)=some (.val (φ x)::.val (χ x)::dX):=by
   simp [c1,c2,ht,hu]
  show (match dR [0,1] (.tup [φ x,χ x]) (t::u::dX) with | none=>R.bad | some ρ1=>_)=_
  rw [hb]
  show (c (.val (φ x)::.val (χ x)::dX)).bind _=_
  rw [h0,bX]
  by_cases hg:g x=true
  ·rw [if_pos hg]
   show (e (.val (φ x)::.val (χ x)::dX)).bind _=_
   rw [h1,bX,if_pos h2]
   show (jW (dR [0,1]) c e (xs.map fun x=>.tup [φ x,χ x]) (.val (φ x)::.val (χ x)::dX)).bind _=_
   rw [ih,List.filter_cons_of_pos hg];rfl
  ·rw [if_neg hg,List.filter_cons_of_neg hg];exact ih
theorem aMr {α:Type} {it:kR} {js:T0} {c:cW} {e:aS} {ρ:Env} (dX:Env) (xs:List α) (φ χ ψ:α->D) (b g:α->Bool) (hi:it ρ=.ok (xs.map fun x=>.tup [φ x,χ x])) (hl:xs.length<=1000000) (hc:js.map (jQ ρ)=dX)
  (he:∀x∈xs,(φ x).calm=true/\(χ x).calm=true/\c (.val (φ x)::.val (χ x)::dX)=.ok (g x)/\e (.val (φ x)::.val (χ x)::dX)=.ok (ψ x,b x)/\aV (ψ x,b x)=true) (hk:∀x,isScal (ψ x)=true):bS it 2 js (dR [0,1]) c e ρ=.ok (.lst true ((xs.filter g).map ψ),true):=by
 unfold bS
 rw [hi,bX,if_pos (by simpa using hl),hc]
 show (jW (dR [0,1]) c e (xs.map fun x=>.tup [φ x,χ x]) (.un::.un::dX)).bind _=_
 rw [aHn xs .un .un bQ bQ he,bX,if_pos]
 rw [Bool.or_eq_true];right;rw [List.all_eq_true]
 intro d hd
 obtain ⟨x,hx,rfl⟩:=List.mem_map.mp hd
 exact hk x
theorem rQ {n:Nat} {d:D}:((List.range n).map fun _=>d)=List.replicate n d:=List.eq_replicate_iff.mpr ⟨by simp,by simp⟩
def gT:cW:=(lX (bA (v2 (iS true) (aD 6) (vC .non))) (bA (v2 kLt (aD 7) (v2 kIx (aD 0) (vC (.int 0))))))
def kD:aX:=(aR (aY 6 (pQ gI [0,1,3,4,5])) (vB 7 (fun i j=>i+j) (vC (.int 1))))
end VL.QQ
end
section
namespace VL.QQ
open VL PySem L2 PY
def Sm (B:Int) (xs:Y0):Prop:=∀x∈xs,-B<=x/\x<=B
theorem aKh {B:Int} (hB:0<=B):∀xs:Y0,Sm B xs->-(B * xs.length)<=xs.sum/\xs.sum<=B * xs.length
 | [],_=>by simp
 | x::xs,h=>by
  have h1:=h x List.mem_cons_self
  have h2:=aKh hB xs fun y hy=>h y (List.mem_cons_of_mem _ hy)
  rw [List.sum_cons,List.length_cons]
  have:B * ((xs.length+1:Nat):Int)=B * xs.length+B:=by rw [show ((xs.length+1:Nat):Int)=(xs.length:Int)+1 by omega,Int.mul_add,Int.mul_one]
  rw [this];omega
theorem aTz {B:Int} {xs:Y0} (hB:0<=B) (h:Sm B xs) (k:Nat):-B<=gt xs k/\gt xs k<=B:=by
 unfold gt
 rw [List.getD_eq_getElem?_getD]
 cases e:xs[k]? with
 | none=>simp;omega
 | some x=>exact h x (List.mem_of_getElem? e)
theorem aNf {i:Int} (h1:-(2 ^ 100)<i) (h2:i<2 ^ 100):fits i=true:=by
 unfold fits
 rw [Bool.and_eq_true,decide_eq_true_iff,decide_eq_true_iff]
 have e:(2:Int) ^ 100<2 ^ 200:=by decide
 omega
theorem aXn {xs:T0} {x:Nat}:atI (NN (x::xs)) 0=some (nI x):=tE
end VL.QQ
end
section
namespace VL.QQ
open VL PySem L2 PY
open Classical in
noncomputable
def rB (es:List E) (p:Nat):Bool:=if Reach es p then true else false
theorem aHz {es:List E} {p:Nat}:rB es p=true ↔ Reach es p:=by
 unfold rB
 by_cases h:Reach es p
 ·rw [if_pos h];simp [h]
 ·rw [if_neg h];simp [h]
theorem aU4 {es:List E} {n p:Nat} {f:Nat->Bool} (hf:∀p,p<n->(f p=true ↔ Reach es p)) (hp:p<n):f p=rB es p:=by
 have h1:=hf p hp
 rw [<- aHz] at h1
 cases e1:f p<;>cases e2:rB es p<;>simp [e1,e2] at h1<;>rfl
end VL.QQ
end
section
namespace VL.QQ
open VL PySem L2 PY
structure BF2 (es:List E) (gs:Y0) (num:T0) (n r:Nat) (most:Y0) (ow:Y4) (L rk:Nat->Nat) (cnt:Nat):Prop extends BF es gs num n r most ow L rk cnt where
 nn:∀v,0<=gt most v
 zz:∀v,og ow v=none->gt most v=0
section
variable {es:List E} {gs:Y0} {num:T0} {n r:Nat} {most:Y0} {ow:Y4} {L rk:Nat->Nat} {cnt:Nat}
theorem BF2.raise (h:BF2 es gs num n r most ow L rk cnt) {d:Nat} (hd:d∈num) (ha:(ed es d).a<n) (hv:gt most (ed es d).a<gt gs d+gt most (ed es d).b) (hl:r<=L (ed es d).b+1) :
  ∃L' rk',BF2 es gs num n r (most.set (ed es d).a (gt gs d+gt most (ed es d).b)) (ow.set (ed es d).a (some d)) L' rk' (cnt+1)/\L' (ed es d).a=r /\
   (Rel es gs (most.set (ed es d).a (gt gs d+gt most (ed es d).b)) d\/r<=L' (ed es d).b) /\
   ∀(d' m:Nat),m<=r->(Rel es gs most d'\/m<=L (ed es d').b)->(Rel es gs (most.set (ed es d).a (gt gs d+gt most (ed es d).b)) d'\/m<=L' (ed es d').b):=by
 obtain ⟨L',rk',B,r1,r2,r3⟩:=h.toBF.raise hd ha hv hl
 have h1:=h.nn (ed es d).a
 refine ⟨L',rk',⟨B,fun v=>?_,fun v e=>?_⟩,r1,r2,r3⟩
 ·rw [aC6 (by rw [h.lm];exact ha)]
  have:=h.nn v
  split<;>omega
 ·rw [aDf (by rw [h.lo];exact ha)] at e
  rw [aC6 (by rw [h.lm];exact ha)]
  by_cases q:v=(ed es d).a
  ·rw [if_pos q] at e;cases e
  ·rw [if_neg q] at e ⊢;exact h.zz v e
theorem aI6 {v:Nat}:gt (List.replicate n 0) v=0:=by
 unfold gt
 rw [List.getD_eq_getElem?_getD,List.getElem?_replicate]
 by_cases h:v<n
 ·rw [if_pos h];rfl
 ·rw [if_neg h];rfl
theorem BF2.init {m:Nat}:BF2 es gs num n 0 (List.replicate n 0) (List.replicate n none) (fun _=>0) (fun _=>0) m :=
 ⟨BF.init,fun v=>by rw [aI6];exact Int.le_refl _,fun v _=>aI6⟩
theorem BF2.up {r':Nat} (h:BF2 es gs num n r most ow L rk cnt) (hr:r<=r'):BF2 es gs num n r' most ow L rk cnt:=⟨h.toBF.up hr,h.nn,h.zz⟩
end
def Lk (es:List E):Nat->T0->Nat->Prop
 | u,[],v=>u=v
 | u,d::ds,v=>d<es.length/\(ed es d).a=u/\Lk es (ed es d).b ds v
theorem Lk.app {es:List E}:∀ {r1:T0} {u v w:Nat} {r2:T0},Lk es u r1 v->Lk es v r2 w->Lk es u (r1++r2) w
 | [],u,v,w,r2,h1,h2=>by cases h1;exact h2
 | d::ds,u,v,w,r2,h1,h2=>⟨h1.1,h1.2.1,h1.2.2.app h2⟩
theorem Lk.snoc {es:List E} {u v d:Nat} {row:T0} (h:Lk es u row v) (hd:d<es.length) (ha:(ed es d).a=v):Lk es u (row ++ [d]) (ed es d).b:=h.app ⟨hd,ha,rfl⟩
theorem Lk.lt {es:List E}:∀ {row:T0} {u v:Nat},Lk es u row v->∀x∈row,x<es.length
 | [],_,_,_,x,hx=>by cases hx
 | d::ds,u,v,h,x,hx=>by
  rcases List.mem_cons.mp hx with rfl | hx
  ·exact h.1
  ·exact h.2.2.lt x hx
theorem Lk.reach {es:List E}:∀ {row:T0} {u v:Nat},Lk es u row v->Reach es u->Reach es v
 | [],_,_,h,r=>by cases h;exact r
 | d::ds,u,v,h,r=>h.2.2.reach (.step (lU h.1) (by rw [h.2.1];exact r))
section
variable {es:List E} {gs:Y0} {num:T0} {n r:Nat} {most:Y0} {ow:Y4} {L rk:Nat->Nat} {cnt:Nat}
theorem aOx (hn:∀d∈num,d<es.length) (h:BF es gs num n r most ow L rk cnt) {u:Nat}:∀k,(∀i,i<k->og ow (ch es ow u i) ≠ none)->Lk es u (dl es ow u k) (ch es ow u k)
 | 0,_=>rfl
 | k+1,hne=>by
  have ih:=aOx hn h (u:=u) k fun i hi=>hne i (Nat.lt_succ_of_lt hi)
  cases e:og ow (ch es ow u k) with
  | none=>exact absurd e (hne k (Nat.lt_succ_self k))
  | some d =>
   obtain ⟨o1,o2,_⟩:=h.on _ d e
   have:=ih.snoc (hn d o1) o2
   rw [aAh,e]
   show Lk es u (dl es ow u k ++ [d]) (nx es ow (ch es ow u k))
   rw [aAn e];exact this
theorem aD4 (h:BF2 es gs num n r most ow L rk cnt) (hr:∀d∈num,Rel es gs most d) {u:Nat}:∀k,(∀i,i<k->og ow (ch es ow u i) ≠ none)->gt most u=((dl es ow u k).map (gt gs)).sum+gt most (ch es ow u k)
 | 0,_=>by simp [dl,ch]
 | k+1,hne=>by
  have ih:=aD4 h hr (u:=u) k fun i hi=>hne i (Nat.lt_succ_of_lt hi)
  cases e:og ow (ch es ow u k) with
  | none=>exact absurd e (hne k (Nat.lt_succ_self k))
  | some d =>
   obtain ⟨o1,o2,o3,_⟩:=h.on _ d e
   have:=hr d o1
   unfold Rel at this
   rw [o2] at this
   have ec:ch es ow u (k+1)=(ed es d).b:=by show nx es ow _=_;rw [aAn e]
   rw [aAh,List.map_append,List.sum_append,e,ec]
   have e1:(([(some d:Option Nat).getD 0]).map (gt gs)).sum=gt gs d:=by simp
   rw [e1];omega
theorem aJx (hb:∀d∈num,(ed es d).b<n) (h:BF2 es gs num n r most ow L rk cnt) (hr:∀d∈num,Rel es gs most d) {u:Nat} (hu:u<n):∃k,k<n/\og ow (ch es ow u k)=none/\∀i,i<k->og ow (ch es ow u i) ≠ none:=by
 have lt:=aKb hb h.toBF hu
 have dec:∀i j,i<j->(∀m,m<j->og ow (ch es ow u m) ≠ none)->rk (ch es ow u j)<rk (ch es ow u i):=by
  intro i j
  induction j with
  | zero=>intro hij;omega
  | succ j ih =>
   intro hij hne
   have step:rk (ch es ow u (j+1))<rk (ch es ow u j):=by
    cases e:og ow (ch es ow u j) with
    | none=>exact absurd e (hne j (Nat.lt_succ_self j))
    | some d =>
     have:=aMu h.toBF hr e
     show rk (nx es ow (ch es ow u j))<_
     rw [aAn e];exact this
   rcases Nat.lt_or_ge i j with q | q
   ·have:=ih q fun m hm=>hne m (Nat.lt_succ_of_lt hm)
    omega
   ·have:i=j:=by omega
    subst this;exact step
 have ex:∃k,k<n/\og ow (ch es ow u k)=none:=by
  refine Classical.byContradiction fun hno=>?_
  have hne:∀m,m<n->og ow (ch es ow u m) ≠ none:=fun m hm z=>hno ⟨m,hm,z⟩
  have nd:((List.range (n+1)).map (ch es ow u)).Nodup:=by
   refine List.pairwise_map.mpr (List.Pairwise.imp_of_mem (R:=(· < ·)) (fun {a b} ha hb' hlt z=>?_) List.pairwise_lt_range)
   have hb'':b<n+1:=List.mem_range.mp hb'
   have:=dec a b hlt fun m hm=>hne m (by omega)
   rw [z] at this;omega
  have:=nV n _ nd fun x hx=>by
   obtain ⟨i,_,rfl⟩:=List.mem_map.mp hx
   exact lt i
  simp at this
  omega
 obtain ⟨k,hk,e⟩:=ex
 obtain ⟨k',h1,h2,h3⟩:=ST.exists_first (P:=fun k=>og ow (ch es ow u k)=none) k e
 exact ⟨k',by omega,h2,h3⟩
end
end VL.QQ
end
section
namespace VL.QQ
open VL PySem L2 PY
theorem wR {n kd r cnt:Nat} {es:List E} {gs:Y0} {num:T0} {most:Y0} {ow:Y4} {L rk:Nat->Nat} (h:OkM n kd es) (hg:gs.length=es.length) (hnum:∀d∈num,d<es.length)
  (B:BF2 es gs num n (r+1) most ow L rk cnt) (hr:∀d∈num,Rel es gs most d\/r<=L (ed es d).b) :
  ∃most' ow' L' rk' cnt' raised,gI [dM n kd es,.lst false (I gs),.lst false (NN num),.lst true (I most),.lst true (OD ow)]=.ok (oD raised,[dM n kd es,.lst false (I gs),.lst false (NN num),.lst true (I most'),.lst true (OD ow')]) /\
   BF2 es gs num n (r+1) most' ow' L' rk' cnt'/\cnt'<=cnt+num.length/\(∀d∈num,Rel es gs most' d\/r+1<=L' (ed es d).b)/\(raised=none->∀d∈num,Rel es gs most' d)/\(∀v,raised=some v->v<n/\L' v=r+1):=by
 let J:T0->Env->Prop:=fun pre ρ=>∃most' ow' L' rk' cnt' raised t6 t7 t8,np t6/\np t7/\np t8/\ρ=[.val (dM n kd es),.val (.lst false (I gs)),.val (.lst false (NN num)),.pin (.lst true (I most')),.pin (.lst true (OD ow')),.val (oD raised),t6,t7,t8] /\
  BF2 es gs num n (r+1) most' ow' L' rk' cnt'/\cnt'<=cnt+pre.length/\(∀d∈pre,Rel es gs most' d\/r+1<=L' (ed es d).b)/\(∀d∈num,Rel es gs most' d\/r<=L' (ed es d).b)/\(raised=none->∀d∈pre,Rel es gs most' d)/\(∀v,raised=some v->v<n/\L' v=r+1)
 let bd:aX:=(aR (aY 7 (xOf (v2 kIx (v2 kIx (aD 0) (vC (.int 2))) (aD 6)))) (aR (aY 8 (xOf (v2 bW (v2 kIx (aD 1) (aD 6)) (v2 kIx (aD 3) (v2 kIx (aD 7) (vC (.int 2))))))) (sIf (bA (v2 kGt (aD 8) (v2 kIx (aD 3) (v2 kIx (aD 7) (vC (.int 0)))))) (aR (dJ 3 (v2 kIx (aD 7) (vC (.int 0))) (aD 8)) (aR (dJ 4 (v2 kIx (aD 7) (vC (.int 0))) (aD 6)) (aY 5 (xOf (v2 kIx (aD 7) (vC (.int 0))))))) bJ)))
 have key:∃ρ',forL (bH 6) bd (num.map nI) [.val (dM n kd es),.val (.lst false (I gs)),.val (.lst false (NN num)),.pin (.lst true (I most)),.pin (.lst true (OD ow)),.val .non,.un,.un,.un]=.next ρ'/\J num ρ':=by
  refine aCl J num num [] _ rfl ?_ ⟨most,ow,L,rk,cnt,none,_,_,_,bQ,bQ,bQ,rfl,B,by simp,by simp,hr,by simp,by simp⟩
  rintro pre d post ρ e ⟨most',ow',L',rk',cnt',raised,t6,t7,t8,h6,h7,h8,rfl,B',hc,hp1,hp2,hn,hs⟩
  have hdn:d∈num:=by rw [e];simp
  have hd:=hnum d hdn
  have ha:=h.a _ (lU hd)
  have hb:=h.b _ (lU hd)
  have x1:=aSq (o:=false) (xs:=gs) (b:=false) (c:=false) (show d<gs.length by rw [hg];exact hd)
  have x2:=aSq (o:=true) (xs:=most') (b:=false) (c:=false) (show (ed es d).b<most'.length by rw [B'.lm];exact hb)
  have x3:=aSq (o:=true) (xs:=most') (b:=false) (c:=false) (show (ed es d).a<most'.length by rw [B'.lm];exact ha)
  by_cases hv:gt most' (ed es d).a<gt gs d+gt most' (ed es d).b
  ·obtain ⟨L2,rk2,B2,hL2,hd2,hk2⟩:=B'.raise hdn ha hv (by
    rcases hp2 d hdn with q | q
    ·unfold Rel at q;omega
    ·omega)
   refine ⟨[.val (dM n kd es),.val (.lst false (I gs)),.val (.lst false (NN num)),.pin (.lst true (I most')),.pin (.lst true (OD ow')),.val (oD raised),.val (nI d),t7,t8],[.val (dM n kd es),.val (.lst false (I gs)),.val (.lst false (NN num)),.pin (.lst true (I (most'.set (ed es d).a (gt gs d+gt most' (ed es d).b)))),.pin (.lst true (OD (ow'.set (ed es d).a (some d)))),.val (nI (ed es d).a),.val (nI d),.val (ed es d).d,.val (.int (gt gs d+gt most' (ed es d).b))],by simp [h6],?_,?_⟩
   ·simp -implicitDefEqProofs [bd,h7,h8,nI,iA hd,x1,x2,x3,hv,aRf (show (ed es d).a<most'.length by rw [B'.lm];exact ha),aFf (show (ed es d).a<ow'.length by rw [B'.lo];exact ha)]
   ·refine ⟨_,_,L2,rk2,cnt'+1,some (ed es d).a,_,_,_,aO,aO,aO,rfl,B2,by simp;omega,fun d' hd'=>?_,fun d' hd'=>?_,(fun z=>by cases z),fun v z=>by cases z;exact ⟨ha,hL2⟩⟩
    ·rcases List.mem_append.mp hd' with q | q
     ·exact hk2 d' (r+1) (Nat.le_refl _) (hp1 d' q)
     ·simp at q;subst q;exact hd2
    ·exact hk2 d' r (by omega) (hp2 d' hd')
  ·refine ⟨[.val (dM n kd es),.val (.lst false (I gs)),.val (.lst false (NN num)),.pin (.lst true (I most')),.pin (.lst true (OD ow')),.val (oD raised),.val (nI d),t7,t8],[.val (dM n kd es),.val (.lst false (I gs)),.val (.lst false (NN num)),.pin (.lst true (I most')),.pin (.lst true (OD ow')),.val (oD raised),.val (nI d),.val (ed es d).d,.val (.int (gt gs d+gt most' (ed es d).b))],by simp [h6],?_,?_⟩
   ·simp -implicitDefEqProofs [bd,h7,h8,nI,iA hd,x1,x2,x3,hv]
   ·have hrel:Rel es gs most' d:=by unfold Rel;omega
    refine ⟨_,_,L',rk',cnt',raised,_,_,_,aO,aO,aO,rfl,B',by simp;omega,fun d' hd'=>?_,hp2,fun z d' hd'=>?_,hs⟩
    ·rcases List.mem_append.mp hd' with q | q
     ·exact hp1 d' q
     ·simp at q;subst q;exact .inl hrel
    ·rcases List.mem_append.mp hd' with q | q
     ·exact hn z d' q
     ·simp at q;subst q;exact hrel
 obtain ⟨ρ',hf,most',ow',L',rk',cnt',raised,t6,t7,t8,h6,h7,h8,rfl,B',hc,hp1,hp2,hn,hs⟩:=key
 refine ⟨most',ow',L',rk',cnt',raised,?_,B',hc,hp1,hn,hs⟩
 have hb:iG (entry 9 [dM n kd es,.lst false (I gs),.lst false (NN num),.lst true (I most),.lst true (OD ow)])=.ret (oD raised) [.val (dM n kd es),.val (.lst false (I gs)),.val (.lst false (NN num)),.pin (.lst true (I most')),.pin (.lst true (OD ow')),.un,t6,t7,t8]:=by
  simp -implicitDefEqProofs [iG,entry]
  have hf:forL (bH 6) bd (NN num) _=_:=hf
  rw [hf]
  simp
 show (match iG (entry 9 [dM n kd es,.lst false (I gs),.lst false (NN num),.lst true (I most),.lst true (OD ow)]) with | .ret d ρ'=>R.ok (d,outs _ ρ') | .next ρ'=>.ok (.non,outs _ ρ') | .exc c _=>.exc c | _=>.bad)=_
 rw [hb]
 simp [outs]
structure MG2 (n:Nat) (es:List E) (gs:Y0) (most:Y0) (ow:Y4) (raised:Option Nat) (num:T0) (L rk:Nat->Nat) (cnt r:Nat):Prop where
 nm:∀k,k∈num ↔ k<es.length/\Reach es (ed es k).a
 bf:BF2 es gs num n r most ow L rk cnt
 ct:cnt<=20 * 18
 no:raised=none->∀d∈num,Rel es gs most d
 so:∀v,raised=some v->v<n/\r=n/\L v=n
theorem wH {n kd:Nat} {es:List E} {gs:Y0} (h:OkM n kd es) (hg:gs.length=es.length) :
  qU iK [dM n kd es,.lst false (I gs)] (fun d=>∃most ow raised num L rk cnt r,d=.tup [.lst false (I most),.lst false (OD ow),oD raised]/\MG2 n es gs most ow raised num L rk cnt r):=by
 refine eJ ?_
 obtain ⟨d,hd,f,rfl,hf⟩:=yI h
 have hn1:=h.n1
 have hn2:=h.n2
 have hls:=h.ls
 let num:T0:=(es.zipIdx.filter fun p=>f p.1.a).map (·.2)
 have hnum:∀k,k∈num ↔ k<es.length/\Reach es (ed es k).a:=fun k=>by
  constructor
  ·intro hk
   obtain ⟨⟨e,k'⟩,h1,h2⟩:=List.mem_map.mp hk
   have h2:k'=k:=h2
   subst h2
   obtain ⟨h3,h4⟩:=List.mem_filter.mp h1
   rw [List.mem_zipIdx_iff_getElem?] at h3
   have h3:es[k']?=some e:=h3
   have hk':=(List.getElem?_eq_some_iff.mp h3).1
   have h5:=lZ hk'
   rw [h3] at h5
   rw [<- Option.some.inj h5]
   exact ⟨hk',(hf _ (h.a e (List.mem_of_getElem? h3))).mp h4⟩
  ·rintro ⟨hk,hr⟩
   refine List.mem_map.mpr ⟨(ed es k,k),List.mem_filter.mpr ⟨?_,(hf _ (h.a _ (lU hk))).mpr hr⟩,rfl⟩
   rw [List.mem_zipIdx_iff_getElem?];exact lZ hk
 have hnl:num.length<=18:=by
  have:num.length<=es.zipIdx.length:=by
   show ((es.zipIdx.filter fun p=>f p.1.a).map (·.2)).length<=_
   rw [List.length_map];exact List.length_filter_le _ _
  rw [List.length_zipIdx] at this;omega
 have e1:bS (wI (v2 kIx (aD 0) (vC (.int 2)))) 2 [2] (dR [0,1]) (fL (v2 kIx (aD 2) (v2 kIx (aD 1) (vC (.int 0))))) (aD 0) [.val (dM n kd es),.val (.lst false (I gs)),.val (.lst true (BB n f)),.un,.un,.un,.un,.un]=.ok (.lst true (NN num),true):=by
  rw [aMr [.val (.lst false (BB n f))] es.zipIdx (fun p=>nI p.2) (fun p=>p.1.d) (fun p=>nI p.2) (fun _=>false) (fun p=>f p.1.a) (by simp [tP]) (by simp;omega) (by simp [jQ]) ?_ (fun _=>rfl)]
  ·show _=R.ok (D.lst true (((es.zipIdx.filter fun p=>f p.1.a).map (·.2)).map nI),true)
   rw [List.map_map];rfl
  ·rintro ⟨e,k⟩ hx
   have he:e∈es:=by
    rw [List.mem_zipIdx_iff_getElem?] at hx
    exact List.mem_of_getElem? hx
   refine ⟨rfl,rfl,?_,rfl,rfl⟩
   simp [nI,aI7 (h.a e he),cI,eV]
 have e2:bS (iR1 (aE (v2 kIx (aD 0) (vC (.int 0))) aL)) 1 [] (bH 0) bV (vC (.int 0)) [.val (dM n kd es),.val (.lst false (I gs)),.val (.lst true (BB n f)),.val (.lst true (NN num)),.un,.un,.un,.un]=.ok (.lst true (I (List.replicate n 0)),true):=by
  rw [gJ [] (List.range n) (fun i=>.int (i:Int)) (fun _=>D.int 0) (fun _=>true) (by simp -implicitDefEqProofs [nI,fE (show n<=1000000 by omega)]) (by simp;omega) rfl (fun x _=>⟨rfl,rfl⟩) (.inl rfl)]
  rw [rQ,I,List.map_replicate]
 have e3:bS (iR1 (aE (v2 kIx (aD 0) (vC (.int 0))) aL)) 1 [] (bH 0) bV (vC .non) [.val (dM n kd es),.val (.lst false (I gs)),.val (.lst true (BB n f)),.val (.lst true (NN num)),.val (.lst true (I (List.replicate n 0))),.un,.un,.un]=.ok (.lst true (OD (List.replicate n none)),true):=by
  rw [gJ [] (List.range n) (fun i=>.int (i:Int)) (fun _=>D.non) (fun _=>true) (by simp -implicitDefEqProofs [nI,fE (show n<=1000000 by omega)]) (by simp;omega) rfl (fun x _=>⟨rfl,rfl⟩) (.inl rfl)]
  rw [rQ,OD,List.map_replicate];rfl
 simp -implicitDefEqProofs [qZ,entry,jV hd,e1,e2,e3]
 show out ((bZ gT kD fuel _).andThen _) _ _
 refine bL (P':=fun ρ=>∃k most ow L rk cnt raised,MG2 n es gs most ow raised num L rk cnt k/\ρ=[.val (dM n kd es),.val (.lst false (I gs)),.val (.lst true (BB n f)),.val (.lst false (NN num)),.val (.lst true (I most)),.val (.lst true (OD ow)),.val (oD raised),.val (nI k)])
  (lB (fun m ρ=>∃k most ow L rk cnt raised,m=n - k/\k<=n/\BF2 es gs num n k most ow L rk cnt/\cnt<=k * 18/\(∀d∈num,Rel es gs most d\/k<=L (ed es d).b)/\(raised=none->∀d∈num,Rel es gs most d)/\(∀v,raised=some v->v<n/\L v=k)/\ρ=[.val (dM n kd es),.val (.lst false (I gs)),.val (.lst true (BB n f)),.val (.lst false (NN num)),.val (.lst true (I most)),.val (.lst true (OD ow)),.val (oD raised),.val (nI k)]) ?_ 1000 n _
   ⟨0,_,_,_,_,0,some 0,by omega,by omega,BF2.init,by omega,(fun d _=>.inr (Nat.zero_le _)),(fun z=>by cases z),(fun v z=>by cases z;exact ⟨by omega,rfl⟩),rfl⟩ (by omega)) ?_
 ·rintro m ρ ⟨k,most,ow,L,rk,cnt,raised,hm,hkn,B,hc,hrel,hno,hso,rfl⟩
  cases raised with
  | none=>exact .inl ⟨by simp [gT,oD,dQ],k,most,ow,L,rk,cnt,none,⟨hnum,B,by omega,hno,fun v z=>by cases z⟩,rfl⟩
  | some v =>
   obtain ⟨hv,hLv⟩:=hso v rfl
   by_cases hkn':k<n
   ·refine .inr ⟨by simp [gT,oD,dQ,nI,hkn'],n - (k+1),by omega,?_⟩
    obtain ⟨most',ow',L',rk',cnt',raised',ef,B',hc',hr',hno',hso'⟩:=wR h hg (fun d hd=>((hnum d).mp hd).1) (B.up (Nat.le_succ k)) hrel
    have es6:aY 6 (pQ gI [0,1,3,4,5]) [.val (dM n kd es),.val (.lst false (I gs)),.val (.lst true (BB n f)),.val (.lst false (NN num)),.val (.lst true (I most)),.val (.lst true (OD ow)),.val (oD (some v)),.val (nI k)]=.next [.val (dM n kd es),.val (.lst false (I gs)),.val (.lst true (BB n f)),.val (.lst false (NN num)),.val (.lst true (I most')),.val (.lst true (OD ow')),.val (oD raised'),.val (nI k)]:=by
     have eg:iU [0,1,3,4,5] [.val (dM n kd es),.val (.lst false (I gs)),.val (.lst true (BB n f)),.val (.lst false (NN num)),.val (.lst true (I most)),.val (.lst true (OD ow)),.val (oD (some v)),.val (nI k)]=some [dM n kd es,.lst false (I gs),.lst false (NN num),.lst true (I most),.lst true (OD ow)]:=rfl
     unfold aY pQ
     rw [eg]
     dsimp only
     rw [if_pos (show kC [0,1,3,4,5]=true from rfl),ef]
     simp [cQ]
    have eb:kD [.val (dM n kd es),.val (.lst false (I gs)),.val (.lst true (BB n f)),.val (.lst false (NN num)),.val (.lst true (I most)),.val (.lst true (OD ow)),.val (oD (some v)),.val (nI k)]=.next [.val (dM n kd es),.val (.lst false (I gs)),.val (.lst true (BB n f)),.val (.lst false (NN num)),.val (.lst true (I most')),.val (.lst true (OD ow')),.val (oD raised'),.val (nI (k+1))]:=by
     unfold kD
     rw [cB,es6]
     simp -implicitDefEqProofs [nI]
    rw [eb]
    exact ⟨k+1,most',ow',L',rk',cnt',raised',rfl,by omega,B',by omega,hr',hno',hso',rfl⟩
   ·refine .inl ⟨by simp [gT,oD,dQ,nI];omega,k,most,ow,L,rk,cnt,some v,⟨hnum,B,by omega,hno,fun v' z=>?_⟩,rfl⟩
    cases z
    exact ⟨hv,by omega,by omega⟩
 ·rintro ρ ⟨k,most,ow,L,rk,cnt,raised,M,rfl⟩
  have ef:(oD raised).frz=oD raised:=nJ _ (pX raised)
  simp -implicitDefEqProofs only [aR8,List.foldl,aP2,aM6,aFb,aKp,aNa,pF,zU,jI,lO,mE,iB,bX,List.all,uX,aB1,aEw,aJm,pX,Bool.not_false,Bool.and_self,Bool.and_true,List.map,oG,wD,ef,gX,Bool.true_or,if_true,jS,List.length]
  exact ⟨most,ow,raised,rfl,num,L,rk,cnt,k,M⟩
end VL.QQ
end
section
namespace VL.QQ
open VL PySem L2 PY
end VL.QQ
end
section
namespace VL.QQ
open VL PySem L2 PY
section
variable {n kd:Nat} {es:List E} {ps:Y0} {most:Y0} {ow:Y4} {num:T0} {L rk:Nat->Nat} {cnt r:Nat}
end
end VL.QQ
end
section
namespace VL.QQ
open VL PySem L2 PY K10
def aFd (ns:Y0) (k:Nat):Int:=if ns=[] then 0 else gt ns (k % ns.length)
theorem aXa {xs:Y0}:(I xs).isEmpty=decide (xs=[]):=by cases xs<;>simp [I]
theorem aTg {xs:Y0} {k:Nat} (h:k<xs.length):atI (I xs) (k:Int)=some (.int (gt xs k)):=by
 rw [dF,aNx h]
theorem aQq {ns:Y0} {k:Nat}:Ret vI [.lst false (I ns),.int k] (.int (aFd ns k)):=by
 refine nL ?_
 by_cases h:ns=[]
 ·subst h
  simp -implicitDefEqProofs [tZ,entry,cI,eV,aFd]
 ·have hl:0<ns.length:=List.length_pos_iff.mpr h
  have e:((k:Int) % (ns.length:Nat))=((k % ns.length:Nat):Int):=by simp
  simp -implicitDefEqProofs [tZ,entry,cI,eV,aFd,aXa,h,hl,-Int.natCast_emod]
  rw [e,aTg (Nat.mod_lt _ hl)]
  simp -implicitDefEqProofs
def aDk (ns:Y0) (k:Nat):Int:=(aFd ns k+104729 * ((k:Int)+1)) % 4294967291
def aDa (ns:Y0) (k:Nat):Int:=aDk ns k * 48271 % 4294967279
def jP (ns:Y0) (k:Nat):Int:=(aDa ns k / 64 * 69621+aDa ns k) % 4294967231
theorem cN {x:Int} (h:-1000000000000<=x) (h2:x<=1000000000000):fits x=true:=aNf (by omega) (by omega)
theorem sG {ns:Y0} {k:Nat} (hk:k<=1000000):Ret cX [.lst false (I ns),.int k] (.int (jP ns k)):=by
 refine nL ?_
 have h1:0<=aDk ns k:=Int.emod_nonneg _ (by decide)
 have h1':aDk ns k<4294967291:=Int.emod_lt_of_pos _ (by decide)
 have h2:0<=aDa ns k:=Int.emod_nonneg _ (by decide)
 have h2':aDa ns k<4294967279:=Int.emod_lt_of_pos _ (by decide)
 have f0:fits 104729=true:=cN (by decide) (by decide)
 have f1:fits ((k:Int)+1)=true:=cN (by omega) (by omega)
 have f2:fits 48271=true:=cN (by decide) (by decide)
 have f3:fits 69621=true:=cN (by decide) (by decide)
 have f4:fits 64=true:=cN (by decide) (by decide)
 have f5:fits (aDk ns k)=true:=cN (by omega) (by omega)
 have f6:fits (aDa ns k / 64)=true:=cN (by omega) (by omega)
 unfold aDk at f5
 unfold aDa aDk at f6
 simp -implicitDefEqProofs [aEu,entry,aP (aQq (ns:=ns) (k:=k)),f0,f1,f2,f3,f4,f5,f6,jP,aDa,aDk]
theorem aPr (e:E):eD [nI e.a,nI e.k,nI e.b,.int e.c]=some e.l:=rfl
theorem aEc:∀es:List E,mT (ME es)=some (es.map E.l)
 | []=>rfl
 | e::es=>by
  show (match eD [nI e.a,nI e.k,nI e.b,.int e.c],mT (ME es) with | some k,some ks=>some (k::ks) | _,_=>none)=_
  rw [aPr,aEc es];rfl
def ofL:Y0->E
 | [a,k,b,c]=>⟨a.toNat,k.toNat,b.toNat,c⟩
 | _=>default
theorem aMx (e:E):ofL e.l=e:=by
 show (⟨(e.a:Int).toNat,(e.k:Int).toNat,(e.b:Int).toNat,e.c⟩:E)=e
 simp
theorem aB3 (k:Y0):∀xs:LI,(sZ k xs).length<=xs.length+1
 | []=>Nat.le_refl _
 | x::xs=>by
  unfold sZ
  by_cases h1:ST.ltL k x=true
  ·rw [if_pos h1];simp
  ·rw [if_neg h1]
   by_cases h2:k=x
   ·rw [if_pos h2];simp
   ·rw [if_neg h2];simp;exact aB3 k xs
theorem xV:∀ks:LI,(jO ks).length<=ks.length
 | []=>Nat.le_refl _
 | k::ks=>by
  have h1:=aB3 k (jO ks)
  have h2:=xV ks
  show (sZ k (jO ks)).length<=ks.length+1
  omega
theorem aT4 (es:List E):∃es':List E,(jO (es.map E.l)).map TI=ME es'/\(∀e∈es',e∈es)/\es'.length<=es.length/\es'.Pairwise fun x y=>ST.ltL x.l y.l=true:=by
 have hm:∀k∈jO (es.map E.l),∃e∈es,e.l=k:=fun k hk=>by
  obtain ⟨e,he,rfl⟩:=List.mem_map.mp (rY.mp hk)
  exact ⟨e,he,rfl⟩
 refine ⟨(jO (es.map E.l)).map ofL,?_,fun e he=>?_,?_,?_⟩
 ·unfold ME
  rw [List.map_map]
  refine List.map_congr_left fun k hk=>?_
  obtain ⟨e,_,rfl⟩:=hm k hk
  show TI e.l=(ofL e.l).d
  rw [aMx];rfl
 ·obtain ⟨k,hk,rfl⟩:=List.mem_map.mp he
  obtain ⟨e,he',rfl⟩:=hm k hk
  rw [aMx];exact he'
 ·rw [List.length_map];have:=xV (es.map E.l);simpa using this
 ·refine List.pairwise_map.mpr (List.Pairwise.imp_of_mem (fun {a b} ha hb h=>?_) (uE (es.map E.l)))
  obtain ⟨e,_,rfl⟩:=hm a ha
  obtain ⟨e',_,rfl⟩:=hm b hb
  rw [aMx,aMx];exact h
theorem aSr {es:List E} {o b:Bool} (h:es.length<=18):kSS [(.lst o (ME es),b)]=.ok (.lst true ((jO (es.map E.l)).map TI),true):=by
 show (match mT (ME es) with | some ks=>(if (decide (ks.length<=18) && ks.all (fun k=>!k.isEmpty))=true then R.ok (D.lst true ((jO ks).map TI),true) else .bad) | none=>.bad)=_
 rw [aEc]
 dsimp only
 rw [if_pos]
 simp [h]
 intro e _;simp [E.l]
theorem aU8 {v:Int}:∃x,atI [D.int 0,D.int 1,D.int 2,D.int 3,D.int 5,D.int 9,D.int 1,D.int 0] (v % 8)=some (.int x)/\0<=x/\x<=1000:=by
 obtain ⟨k,hk,e⟩:∃k:Nat,k<8/\v % 8=(k:Int):=⟨(v % 8).toNat,by omega,by omega⟩
 rw [e,dF]
 match k,hk with
 | 0,_=>exact ⟨_,rfl,by decide,by decide⟩
 | 1,_=>exact ⟨_,rfl,by decide,by decide⟩
 | 2,_=>exact ⟨_,rfl,by decide,by decide⟩
 | 3,_=>exact ⟨_,rfl,by decide,by decide⟩
 | 4,_=>exact ⟨_,rfl,by decide,by decide⟩
 | 5,_=>exact ⟨_,rfl,by decide,by decide⟩
 | 6,_=>exact ⟨_,rfl,by decide,by decide⟩
 | 7,_=>exact ⟨_,rfl,by decide,by decide⟩
theorem aKw {v:Int} {m:Nat} (hm:0<m):∃k:Nat,k<m/\v % (m:Int)=(k:Int):=by
 have h1:=Int.emod_nonneg v (show (m:Int) ≠ 0 by omega)
 have h2:=Int.emod_lt_of_pos v (show (0:Int)<(m:Int) by omega)
 exact ⟨(v % (m:Int)).toNat,by omega,by omega⟩
@[simp] theorem aWm (es:List E) (e:E):ME es ++ [e.d]=ME (es ++ [e]):=by simp [ME]
end VL.QQ
end
section
namespace VL.QQ
open VL PySem L2 PY K10
theorem yG:∀xs:T0,D.kP (NN xs)=true
 | []=>rfl
 | x::xs=>by show (true && D.kP (NN xs))=true;rw [yG xs];rfl
theorem aJj:∀xs:T0,PyData.canLayAll0 (D.pys (NN xs))=true
 | []=>rfl
 | x::xs=>by show (true && PyData.canLayAll0 (D.pys (NN xs)))=true;rw [aJj xs];rfl
theorem aHl (x:Nat):∀xs:T0,((D.pys (NN xs)).any fun y=>PyData.eqv y (.int (x:Int)))=decide (x∈xs)
 | []=>rfl
 | y::xs=>by
  show (((y:Int) == (x:Int)) || (D.pys (NN xs)).any fun y=>PyData.eqv y (.int (x:Int)))=_
  rw [aHl x xs]
  by_cases h:x=y
  ·subst h;simp
  ·have:¬ (y:Int)=(x:Int):=by omega
   simp [h,this]
theorem aE7 {neg o b c:Bool} {x:Nat} {xs:T0}:kIn neg (.int (x:Int),b) (.lst o (NN xs),c)=.ok (.bl (if neg then !decide (x∈xs) else decide (x∈xs)),true):=by
 have e1:qK (.int (x:Int)) (NN xs)=true:=by
  unfold qK
  rw [yG,aJj]
  have:(D.int (x:Int)).py.depth=0:=rfl
  rw [this,Nat.min_zero];rfl
 have e2:inD (.int (x:Int)) (NN xs)=decide (x∈xs):=aHl x xs
 show (if qK (.int (x:Int)) (NN xs)=true then R.ok (D.bl (if neg then !inD (.int (x:Int)) (NN xs) else inD (.int (x:Int)) (NN xs)),true) else .bad)=_
 rw [if_pos e1,e2]
@[simp] theorem aIf {is:T0} {e:E} {ρ:Env}:dR is e.d ρ=cY is [.int (e.a:Int),.int (e.k:Int),.int (e.b:Int),.int e.c] ρ:=rfl
structure LB (n:Nat) (es:List E) (pl:T0):Prop where
 nd:pl.Nodup
 lt:∀p∈pl,p<n
 z:0∈pl
 so:∀p∈pl,Reach es p
theorem LB.add {n:Nat} {es:List E} {pl:T0} (h:LB n es pl) {e:E} (he:e∈es) (ha:e.a∈pl) (hb:e.b<n) (hn:e.b ∉ pl):LB n es (pl ++ [e.b]):=by
 refine ⟨List.nodup_append.mpr ⟨h.nd,by simp,fun x hx y hy z=>?_⟩,fun p hp=>?_,List.mem_append_left _ h.z,fun p hp=>?_⟩
 ·simp at hy;subst hy;subst z;exact hn hx
 ·rcases List.mem_append.mp hp with q | q
  ·exact h.lt p q
  ·simp at q;rw [q];exact hb
 ·rcases List.mem_append.mp hp with q | q
  ·exact h.so p q
  ·simp at q;rw [q];exact .step he (h.so _ ha)
def lF:cW:=(bA (v2 kLt (aD 2) (vCB eN (aE (aD 1) aL))))
def rC:aX:=(aR (iF (gK (v2 kIx (aD 0) (vC (.int 2)))) (dR [3,4,5,6]) (sIf (lX (bA (v2 (kEq false) (aD 3) (v2 kIx (aD 1) (aD 2)))) (bA (v2 (kIn true) (aD 5) (aD 1)))) (eW 1 (aD 5)) bJ)) (aY 2 (xOf (v2 bW (aD 2) (vC (.int 1))))))
theorem aCb {n kd:Nat} {es:List E} (h:OkM n kd es):qU mX [dM n kd es] (fun d=>∃pl,d=.lst true (NN pl)/\∀p,(p∈pl ↔ Reach es p)):=by
 refine eJ ?_
 have hn1:=h.n1
 have hn2:=h.n2
 simp -implicitDefEqProofs [sT,entry]
 show out ((bZ lF rC fuel _).andThen _) _ _
 refine bL (P':=fun ρ=>∃pl a t3 t4 t5 t6,LB n es pl/\(∀e∈es,e.a∈pl->e.b∈pl)/\ρ=[.val (dM n kd es),.val (.lst true (NN pl)),a,t3,t4,t5,t6])
  (lB (fun m ρ=>∃pl,∃a:Nat,∃t3 t4 t5 t6,np t3/\np t4/\np t5/\np t6/\LB n es pl/\(∀e∈es,e.a∈pl.take a->e.b∈pl)/\a<=pl.length/\m=n - a/\ρ=[.val (dM n kd es),.val (.lst true (NN pl)),.val (nI a),t3,t4,t5,t6]) ?_ 1000 n _ ?_ (by omega)) ?_
 ·rintro m ρ ⟨pl,a,t3,t4,t5,t6,h3,h4,h5,h6,B,cl,hal,hm,rfl⟩
  have hle:=nV n pl B.nd B.lt
  by_cases hlt:a<pl.length
  ·refine .inr ⟨by simp [lF,nI,hlt],n - (a+1),by omega,?_⟩
   simp -implicitDefEqProofs [rC]
   refine bL (dH (fun pre ρ=>∃pl' t3 t4 t5 t6,np t3/\np t4/\np t5/\np t6/\LB n es pl'/\(∀e∈es,e.a∈pl'.take a->e.b∈pl')/\a<pl'.length/\nt pl' a=nt pl a/\(∀e∈pre,e.a=nt pl a->e.b∈pl')/\ρ=[.val (dM n kd es),.val (.lst true (NN pl')),.val (nI a),t3,t4,t5,t6]) es ⟨pl,t3,t4,t5,t6,h3,h4,h5,h6,B,cl,hlt,rfl,by simp,rfl⟩ ?_) ?_
   ·rintro pre e post ρ ee ⟨pl',t3,t4,t5,t6,h3,h4,h5,h6,B,cl,hlt',hnt,hpre,rfl⟩
    have he:e∈es:=by rw [ee];simp
    have y1:=aEd (o:=true) (xs:=pl') (b:=false) (c:=false) hlt'
    rw [hnt] at y1
    by_cases q1:e.a=nt pl a
    ·have q1':(e.a:Int)=((nt pl a:Nat):Int):=by omega
     by_cases q2:e.b∈pl'
     ·simp -implicitDefEqProofs [h3,h4,h5,h6,nI,y1,q1',aE7,q2]
      refine ⟨pl',_,aO,_,aO,_,aO,_,aO,B,cl,hlt',hnt,fun e' he' hea=>?_,rfl,rfl,rfl,rfl,rfl⟩
      rcases he' with q | q
      ·exact hpre e' q hea
      ·rw [q];exact q2
     ·have hpl:pl'.length<1000000:=by have:=nV n pl' B.nd B.lt;omega
      have B':=B.add he (by rw [q1,<- hnt];exact vA hlt') (h.b e he) q2
      simp -implicitDefEqProofs [h3,h4,h5,h6,nI,y1,q1',aE7,q2,hpl]
      refine ⟨pl' ++ [e.b],_,aO,_,aO,_,aO,_,aO,B',fun e' he' hea=>?_,by simp;omega,?_,fun e' he' hea=>?_,rfl,rfl,rfl,rfl,rfl⟩
      ·rw [List.take_append_of_le_length (by omega)] at hea
       exact List.mem_append_left _ (cl e' he' hea)
      ·rw [<- hnt];unfold nt
       rw [List.getD_eq_getElem?_getD,List.getD_eq_getElem?_getD,List.getElem?_append_left hlt']
      ·rcases he' with q | q
       ·exact List.mem_append_left _ (hpre e' q hea)
       ·rw [q];simp
    ·have q1':¬ (e.a:Int)=((nt pl a:Nat):Int):=by omega
     simp -implicitDefEqProofs [h3,h4,h5,h6,nI,y1,q1']
     refine ⟨pl',_,aO,_,aO,_,aO,_,aO,B,cl,hlt',hnt,fun e' he' hea=>?_,rfl,rfl,rfl,rfl,rfl⟩
     rcases he' with q | q
     ·exact hpre e' q hea
     ·rw [q] at hea;exact absurd hea q1
   ·rintro ρ ⟨pl',t3,t4,t5,t6,h3,h4,h5,h6,B,cl,hlt',hnt,hpre,rfl⟩
    simp -implicitDefEqProofs [nI]
    refine ⟨pl',a+1,t3,h3,t4,h4,t5,h5,t6,h6,B,fun e he hea=>?_,by omega,rfl,rfl,by simp,rfl,rfl,rfl,rfl⟩
    rw [List.take_succ,List.mem_append] at hea
    rcases hea with hea | hea
    ·exact cl e he hea
    ·rw [aFp hlt'] at hea
     simp at hea
     exact hpre e he (by rw [hea,hnt])
  ·refine .inl ⟨by simp [lF,nI];omega,pl,_,t3,t4,t5,t6,B,?_,rfl⟩
   have:a=pl.length:=by omega
   subst this
   simpa using cl
 ·exact ⟨[0],0,_,_,_,_,bQ,bQ,bQ,bQ,⟨by simp,by simp;omega,by simp,by simp;exact .zero⟩,by simp,by simp,rfl,rfl⟩
 ·rintro ρ ⟨pl,a,t3,t4,t5,t6,B,cl,rfl⟩
  simp
  refine ⟨pl,rfl,fun p=>⟨B.so p,fun hr=>?_⟩⟩
  induction hr with
  | zero=>exact B.z
  | step he _ ih=>exact cl _ he ih
end VL.QQ
end
section
namespace VL.QQ
open VL PySem L2 PY K10
end VL.QQ
end
section
namespace VL.QQ
open VL PySem L2 PY K10
section
variable {n kd:Nat} {es:List E} {ps:Y0} {most:Y0} {ow:Y4} {num:T0} {L rk:Nat->Nat} {cnt r:Nat}
end
end VL.QQ
end
section
namespace VL.QQ
open VL PySem L2 PY K10 K11
section
variable {n kd:Nat} {es:List E} {ps:Y0} {most:Y0} {ow:Y4} {num:T0} {L rk:Nat->Nat} {cnt r:Nat}
end
end VL.QQ
end
section
namespace VL.QQ
open VL PySem L2 PY K10
theorem mW {N:Nat} {pre post:T0} {k:Nat} (e:List.range N=pre++k::post):k=pre.length/\k<N:=by
 have h1:pre.length<(List.range N).length:=by rw [e];simp
 have h2:(List.range N)[pre.length]?=some k:=by rw [e];simp
 simp at h1
 rw [List.getElem?_range h1] at h2
 cases h2
 exact ⟨rfl,h1⟩
end VL.QQ
end
section
namespace VL.QQ
open VL PySem L2 PY K10
@[simp] theorem aUg {t:Tg}:(D.ext false t).calm=true:=rfl
@[simp] theorem aWq {t:Tg}:(D.ext false t).frz=.ext false t:=rfl
end VL.QQ
end
section
namespace VL.QQ
open VL PySem L2 PY K10
end VL.QQ
end
section
namespace VL.QQ
open VL PySem L2 PY K10
@[simp] theorem aVz {o b:Bool} {ds:List D}:vT [(.lst o ds,b)]=if D.bK ds then .ok (.lst true ds,true) else .bad:=rfl
end VL.QQ
end
section
namespace VL.QQ
open VL PySem L2 PY K10 K11
end VL.QQ
end
section
namespace VL.QQ
open VL PySem L2 PY K10 K11
@[simp] theorem aS9 {is:T0} {f:aS} {ρ:Env}:oJ is (xOf f) ρ=kH (f ρ) fun d _=>match d with | .tup ds=>(match cY is ds ρ with | some ρ2=>.next ρ2 | none=>.bad) | _=>.bad:=by
 unfold oJ xOf kH
 cases f ρ with
 | ok x=>obtain ⟨d,b⟩:=x;cases d<;>rfl
 | exc c=>rfl
 | bad=>rfl
@[simp] theorem aWn {fn:Fn} {g:dO} {ρ:Env}:cH (gZ fn g) ρ=onA (g ρ) fun xs=>sN fn (D.frzs (xs.map (·.1))) (xs.all aV) ρ fun d=>.ret d ρ:=by
 unfold cH gZ onA sN
 cases g ρ with
 | ok xs =>
  dsimp only
  cases fn (D.frzs (xs.map (·.1))) with
  | ok y=>by_cases hk:(xs.all aV || isScal y.1)=true<;>simp [hk]
  | exc c=>rfl
  | bad=>rfl
 | exc _=>rfl
 | bad=>rfl
theorem Lk.split {es:List E}:∀ {r1:T0} {u v:Nat} {r2:T0},Lk es u (r1++r2) v->∃w,Lk es u r1 w/\Lk es w r2 v
 | [],u,v,r2,h=>⟨u,rfl,h⟩
 | d::ds,u,v,r2,h=>by
  obtain ⟨w,h1,h2⟩:=Lk.split (r1:=ds) h.2.2
  exact ⟨w,⟨h.1,h.2.1,h1⟩,h2⟩
section
variable {ns:Y0} {n kd:Nat} {es:List E} {ps:Y0} {most:Y0} {ow:Y4} {num:T0} {L rk:Nat->Nat} {cnt r:Nat} {T:D}
end
end VL.QQ
end
section
namespace VL.QQ
open VL
def cs (es:List E) (row:T0):Int:=(row.map fun d=>(ed es d).c).sum
theorem aAk {es:List E} {d:Nat} {row:T0}:cs es (d::row)=(ed es d).c+cs es row:=by simp [cs]
theorem sE {es:List E} {r1 r2:T0}:cs es (r1++r2)=cs es r1+cs es r2:=by simp [cs]
theorem aCw {es:List E}:∀row:T0,cs es row.reverse=cs es row
 | []=>rfl
 | d::row=>by rw [List.reverse_cons,sE,aCw row,aAk];simp [cs,Int.add_comm]
abbrev PT:=Option (Int×Option Nat)
abbrev Rw:=List PT
def pt (R:Rw) (v:Nat):PT:=R.getD v none
def dr (Ds:List Rw) (k:Nat):Rw:=Ds.getD k []
structure NX (es:List E) (n:Nat) (R R':Rw):Prop where
 len:R'.length=n
 so:∀v c l,pt R' v=some (c,l)->∃d c' l',l=some d/\d<es.length/\(ed es d).b=v/\pt R (ed es d).a=some (c',l')/\c=c'+(ed es d).c
 up:∀d c' l',d<es.length->pt R (ed es d).a=some (c',l')->∃c l,pt R' (ed es d).b=some (c,l)/\c'+(ed es d).c<=c
structure DR (es:List E) (n:Nat) (Ds:List Rw):Prop where
 len:Ds.length=n+1
 l0:(dr Ds 0).length=n
 z:∀v c l,pt (dr Ds 0) v=some (c,l)->v=0/\c=0
 z0:pt (dr Ds 0) 0=some (0,none)
 nx:∀k,k<n->NX es n (dr Ds k) (dr Ds (k+1))
theorem aJc {R:Rw} {v:Nat} {x:Int×Option Nat} (h:pt R v=some x):v<R.length:=by
 rcases Nat.lt_or_ge v R.length with q | q
 ·exact q
 ·unfold pt at h;rw [List.getD_eq_getElem?_getD,List.getElem?_eq_none q] at h;cases h
section
variable {es:List E} {n:Nat} {Ds:List Rw}
theorem DR.ln (h:DR es n Ds) {k:Nat} (hk:k<=n):(dr Ds k).length=n:=by
 cases k with
 | zero=>exact h.l0
 | succ k=>exact (h.nx k hk).len
theorem DR.walk (h:DR es n Ds):∀ {k v:Nat} {c:Int} {l:Option Nat},k<=n->pt (dr Ds k) v=some (c,l)->∃row,Lk es 0 row v/\row.length=k/\cs es row=c
 | 0,v,c,l,_,e=>by
  obtain ⟨rfl,rfl⟩:=h.z v c l e
  exact ⟨[],rfl,rfl,rfl⟩
 | k+1,v,c,l,hk,e=>by
  obtain ⟨d,c',l',_,h1,h2,h3,h4⟩:=(h.nx k hk).so v c l e
  obtain ⟨row,r1,r2,r3⟩:=h.walk (k:=k) (by omega) h3
  refine ⟨row ++ [d],by rw [<- h2];exact r1.snoc h1 rfl,by simp [r2],?_⟩
  rw [sE,r3,h4];simp [cs]
theorem DR.top (h:DR es n Ds):∀(k:Nat) {row:T0} {v:Nat},row.length=k->k<=n->Lk es 0 row v->∃c l,pt (dr Ds k) v=some (c,l)/\cs es row<=c
 | 0,row,v,hl,_,hr=>by
  have:row=[]:=List.length_eq_zero_iff.mp hl
  subst this
  have:0=v:=hr
  subst this
  exact ⟨0,none,h.z0,Int.le_refl _⟩
 | k+1,row,v,hl,hk,hr=>by
  have hne:row ≠ []:=fun z=>by rw [z] at hl;cases hl
  have es1:=List.dropLast_concat_getLast hne
  rw [<- es1] at hr ⊢
  obtain ⟨w,w1,w2,w3,w4⟩:=hr.split
  have w4:(ed es (row.getLast hne)).b=v:=w4
  obtain ⟨c',l',e1,e2⟩:=h.top k (by rw [List.length_dropLast];omega) (by omega) w1
  rw [<- w3] at e1
  obtain ⟨c,l,e3,e4⟩:=(h.nx k hk).up _ c' l' w2 e1
  rw [w4] at e3
  refine ⟨c,l,e3,?_⟩
  rw [sE]
  have:cs es [row.getLast hne]=(ed es (row.getLast hne)).c:=by simp [cs]
  omega
def ld (Ds:List Rw) (s p:Nat):Nat:=((pt (dr Ds s) p).bind (·.2)).getD 0
def pb (es:List E) (Ds:List Rw) (n v:Nat):Nat->Nat
 | 0=>v
 | i+1=>(ed es (ld Ds (n - i) (pb es Ds n v i))).a
def bk (es:List E) (Ds:List Rw) (n v i:Nat):T0:=(List.range i).map fun j=>ld Ds (n - j) (pb es Ds n v j)
def cv (es:List E) (Ds:List Rw) (n v i:Nat):Int:=((pt (dr Ds (n - i)) (pb es Ds n v i)).map (·.1)).getD 0
theorem lN {v i:Nat}:(bk es Ds n v i).length=i:=by simp [bk]
theorem aAe {v i:Nat}:bk es Ds n v (i+1)=bk es Ds n v i ++ [ld Ds (n - i) (pb es Ds n v i)]:=by
 unfold bk;rw [List.range_succ,List.map_append];rfl
theorem DR.step (h:DR es n Ds) {v i:Nat} {c:Int} {l:Option Nat} (hi:i<n) (e:pt (dr Ds (n - i)) (pb es Ds n v i)=some (c,l)) :
  l=some (ld Ds (n - i) (pb es Ds n v i))/\ld Ds (n - i) (pb es Ds n v i)<es.length/\(ed es (ld Ds (n - i) (pb es Ds n v i))).b=pb es Ds n v i/\∃c' l',pt (dr Ds (n - (i+1))) (pb es Ds n v (i+1))=some (c',l')/\c=c'+(ed es (ld Ds (n - i) (pb es Ds n v i))).c:=by
 have ek:n - i=(n - (i+1))+1:=by omega
 obtain ⟨d,c',l',h1,h2,h3,h4,h5⟩:=(h.nx (n - (i+1)) (by omega)).so _ c l (by rw [<- ek];exact e)
 have el:ld Ds (n - i) (pb es Ds n v i)=d:=by unfold ld;rw [e,h1];rfl
 rw [el]
 refine ⟨h1,h2,h3,c',l',?_,h5⟩
 show pt _ (ed es (ld Ds (n - i) (pb es Ds n v i))).a=_
 rw [el];exact h4
theorem DR.back (h:DR es n Ds) {v:Nat} {x:Int×Option Nat} (hv:pt (dr Ds n) v=some x):∀i,i<=n->∃l,pt (dr Ds (n - i)) (pb es Ds n v i)=some (cv es Ds n v i,l)
 | 0,_=>⟨x.2,by unfold cv;show pt (dr Ds n) v=some (((pt (dr Ds n) v).map (·.1)).getD 0,x.2);rw [hv];rfl⟩
 | i+1,hi=>by
  obtain ⟨l,e⟩:=h.back hv i (by omega)
  obtain ⟨_,_,_,c',l',e',_⟩:=h.step (by omega) e
  exact ⟨l',by unfold cv;rw [e'];rfl⟩
theorem DR.seg (h:DR es n Ds) {v:Nat} {x:Int×Option Nat} (hv:pt (dr Ds n) v=some x) {j:Nat}:∀i,j<=i->i<=n->Lk es (pb es Ds n v i) ((bk es Ds n v i).drop j).reverse (pb es Ds n v j)/\cs es ((bk es Ds n v i).drop j)=cv es Ds n v j - cv es Ds n v i
 | 0,hj,_=>by
  have:j=0:=by omega
  subst this
  exact ⟨rfl,by simp [bk,cs]⟩
 | i+1,hj,hi=>by
  rcases Nat.lt_or_ge i j with q | q
  ·have:j=i+1:=by omega
   subst this
   rw [List.drop_of_length_le (by rw [lN];omega)]
   exact ⟨rfl,by simp [cs]⟩
  ·obtain ⟨r1,r2⟩:=h.seg hv i q (by omega)
   obtain ⟨l,e⟩:=h.back hv i (by omega)
   obtain ⟨_,s2,s3,c',l',s4,s5⟩:=h.step (by omega) e
   have ec:cv es Ds n v (i+1)=c':=by
    unfold cv;rw [s4];rfl
   rw [aAe,List.drop_append_of_le_length (by rw [lN];exact q),List.reverse_append]
   refine ⟨⟨s2,rfl,by rw [s3];exact r1⟩,?_⟩
   rw [sE,r2,ec]
   have:cs es [ld Ds (n - i) (pb es Ds n v i)]=(ed es (ld Ds (n - i) (pb es Ds n v i))).c:=by simp [cs]
   omega
theorem DR.aS6 (h:DR es n Ds) {v:Nat} {x:Int×Option Nat} (hv:pt (dr Ds n) v=some x) {i:Nat} (hi:i<=n):pb es Ds n v i<n:=by
 obtain ⟨l,e⟩:=h.back hv i hi
 have:=aJc e
 rwa [h.ln (by omega)] at this
theorem DR.cut (h:DR es n Ds) {v:Nat} {x:Int×Option Nat} (hv:pt (dr Ds n) v=some x) {i j:Nat} (hj:j<i) (hi:i<=n) (e:pb es Ds n v i=pb es Ds n v j) :
  ∃c l,pt (dr Ds (n - (i - j))) v=some (c,l)/\x.1 - cs es ((bk es Ds n v i).drop j)<=c:=by
 obtain ⟨l,ei⟩:=h.back hv i hi
 obtain ⟨w,w1,w2,w3⟩:=h.walk (by omega) ei
 obtain ⟨s1,s2⟩:=h.seg hv (j:=0) j (by omega) (by omega)
 obtain ⟨_,t2⟩:=h.seg hv (j:=j) i (by omega) hi
 rw [List.drop_zero] at s1 s2
 rw [e] at w1
 obtain ⟨c,l,q1,q2⟩:=h.top (n - (i - j)) (row:=w++(bk es Ds n v j).reverse) (by rw [List.length_append,w2,List.length_reverse,lN];omega) (by omega) (w1.app s1)
 refine ⟨c,l,q1,?_⟩
 rw [sE,aCw,w3,s2] at q2
 have e0:cv es Ds n v 0=x.1:=by unfold cv;show ((pt (dr Ds n) v).map (·.1)).getD 0=_;rw [hv];rfl
 omega
theorem DR.rep (h:DR es n Ds) {v:Nat} {x:Int×Option Nat} (hv:pt (dr Ds n) v=some x):∃i j,j<i/\i<=n/\pb es Ds n v i=pb es Ds n v j:=by
 refine Classical.byContradiction fun hno=>?_
 have nd:((List.range (n+1)).map (pb es Ds n v)).Nodup:=by
  refine List.pairwise_map.mpr (List.Pairwise.imp_of_mem (R:=(· < ·)) (fun {a b} ha hb' hlt z=>hno ⟨b,a,hlt,?_,z.symm⟩) List.pairwise_lt_range)
  have:=List.mem_range.mp hb';omega
 have:=nV n _ nd fun x hx=>by
  obtain ⟨i,hi,rfl⟩:=List.mem_map.mp hx
  exact h.aS6 hv (by have:=List.mem_range.mp hi;omega)
 simp at this
 omega
theorem aK8:∀ {u:Nat},Reach es u->∃way,Lk es 0 way u:=by
 intro u h
 induction h with
 | zero=>exact ⟨[],rfl⟩
 | @step e he _ ih =>
  obtain ⟨way,hw⟩:=ih
  obtain ⟨k,hk,ee⟩:=List.getElem_of_mem he
  have e1:ed es k=e:=by
   have:=lZ hk
   rw [List.getElem?_eq_getElem hk,ee] at this
   exact (Option.some.inj this).symm
  have:=hw.snoc hk (by rw [e1])
  rw [e1] at this
  exact ⟨_,this⟩
theorem xT (hc:∀e∈es,0<=e.c/\e.c<=1000):∀ {row:T0},(∀x∈row,x<es.length)->0<=cs es row/\cs es row<=1000 * row.length
 | [],_=>by simp [cs]
 | d::row,h=>by
  have h1:=xT hc (row:=row) fun x hx=>h x (List.mem_cons_of_mem _ hx)
  have h2:=hc _ (lU (h d List.mem_cons_self))
  rw [aAk,List.length_cons]
  omega
def ph (es:List E) (p q:Int) (row:T0):Int:=q * cs es row - p * row.length
theorem aAt {p q:Int} {r1 r2:T0}:ph es p q (r1++r2)=ph es p q r1+ph es p q r2:=by
 unfold ph
 rw [sE,List.length_append,Int.natCast_add,Int.mul_add,Int.mul_add];omega
def rp (ring:T0):Nat->T0
 | 0=>[]
 | t+1=>ring++rp ring t
theorem aOj {u:Nat} {ring:T0} (h:Lk es u ring u):∀t,Lk es u (rp ring t) u
 | 0=>rfl
 | t+1=>h.app (aOj h t)
theorem aOk {p q:Int} {ring:T0} (h:1<=ph es p q ring):∀t:Nat,(t:Int)<=ph es p q (rp ring t)
 | 0=>by simp [rp,ph,cs]
 | t+1=>by
  have:=aOk h t
  show _<=ph es p q (ring++rp ring t)
  rw [aAt];omega
theorem DR.short (h:DR es n Ds) {p q:Int} (hq:0<=q) (hn:1<=n) (H:∀w c l,pt (dr Ds n) w=some (c,l)->∃k c' l',k<n/\pt (dr Ds k) w=some (c',l')/\q * (c - c')<=p * ((n:Int) - k)) :
  ∀(N:Nat) {row:T0} {v:Nat},row.length<=N->Lk es 0 row v->∃row',Lk es 0 row' v/\row'.length<n/\ph es p q row<=ph es p q row'
 | 0,row,v,hl,hr=>⟨row,hr,by omega,Int.le_refl _⟩
 | N+1,row,v,hl,hr=>by
  rcases Nat.lt_or_ge row.length n with hlt | hge
  ·exact ⟨row,hr,hlt,Int.le_refl _⟩
  ·rw [<- List.take_append_drop n row] at hr
   obtain ⟨w,w1,w2⟩:=hr.split
   have tl:(row.take n).length=n:=by rw [List.length_take];omega
   obtain ⟨c,l,e1,e2⟩:=h.top n tl (Nat.le_refl _) w1
   obtain ⟨k,c',l',k1,k2,k3⟩:=H w c l e1
   obtain ⟨r2,r21,r22,r23⟩:=h.walk (by omega) k2
   obtain ⟨row',a1,a2,a3⟩:=h.short hq hn H N (row:=r2++row.drop n) (by rw [List.length_append,r22,List.length_drop];omega) (r21.app w2)
   refine ⟨row',a1,a2,Int.le_trans ?_ a3⟩
   have:=aAt (es:=es) (p:=p) (q:=q) (r1:=row.take n) (r2:=row.drop n)
   rw [List.take_append_drop] at this
   rw [this,aAt]
   have h1:ph es p q (row.take n)<=ph es p q r2:=by
    unfold ph
    rw [tl,r22,r23]
    have m1:q * cs es (row.take n)<=q * c:=Int.mul_le_mul_of_nonneg_left e2 hq
    rw [Int.mul_sub,Int.mul_sub] at k3
    omega
   omega
theorem DR.flat (h:DR es n Ds) {p q:Int} (hq:0<=q) (hn:1<=n) (hc:∀e∈es,0<=e.c/\e.c<=1000) (H:∀w c l,pt (dr Ds n) w=some (c,l)->∃k c' l',k<n/\pt (dr Ds k) w=some (c',l')/\q * (c - c')<=p * ((n:Int) - k))
  {u:Nat} {ring:T0} (hu:Reach es u) (hr:Lk es u ring u):q * cs es ring<=p * ring.length:=by
 refine Classical.byContradiction fun hno=>?_
 have h1:1<=ph es p q ring:=by unfold ph;omega
 obtain ⟨way,hw⟩:=aK8 hu
 have bd:∀row' v,Lk es 0 row' v->row'.length<n->ph es p q row'<=q * (1000 * n)+p.natAbs * n:=by
  intro row' v h2 h3
  have h4:=(xT hc h2.lt).2
  unfold ph
  have m1:q * cs es row'<=q * (1000 * n):=Int.mul_le_mul_of_nonneg_left (by omega) hq
  have m2:-(p * row'.length)<=p.natAbs * n:=by
   have:-(p * row'.length)<=(p.natAbs:Int) * row'.length:=by
    rw [<- Int.neg_mul]
    exact Int.mul_le_mul_of_nonneg_right (by omega) (by omega)
   have:(p.natAbs:Int) * row'.length<=(p.natAbs:Int) * n:=Int.mul_le_mul_of_nonneg_left (by omega) (by omega)
   omega
  omega
 generalize hB:q * (1000 * (n:Int))+p.natAbs * n=B at bd
 obtain ⟨t,ht⟩:∃t:Nat,B - ph es p q way+1<=(t:Int):=⟨(B - ph es p q way+1).toNat,Int.self_le_toNat _⟩
 obtain ⟨row',a1,a2,a3⟩:=h.short hq hn H _ (row:=way++rp ring t) (Nat.le_refl _) (hw.app (aOj hr t))
 have b1:=bd row' u a1 a2
 have b2:=aOk h1 t
 rw [aAt] at a3
 omega
end
end VL.QQ
end
section
namespace VL.QQ
open VL PySem L2 PY K10 K11 K20
def cdC:cW:=bA (v2 (kEq true) (aD 1) (vC (.int 0)))
def cdB:aX:=aR (aY 2 (xOf (v2 gG (aD 0) (aD 1)))) (aR (aY 0 (xOf (aD 1))) (aY 1 (xOf (aD 2))))
theorem aFc {n a b:Nat} {t:Slot} (ht:np t) (hb:0<b):bZ cdC cdB (n+1) [.val (.int a),.val (.int b),t]=bZ cdC cdB n [.val (.int b),.val (.int (a % b:Nat)),.val (.int (a % b:Nat))]:=by
 refine aMq (by simp [cdC,Nat.ne_of_gt hb]) ?_
 simp [cdB,ht,hb]
theorem aCx {n a:Nat} {t:Slot}:bZ cdC cdB (n+1) [.val (.int a),.val (.int (0:Nat)),t]=.next [.val (.int a),.val (.int (0:Nat)),t]:=by
 exact aFq (by simp [cdC])
theorem aFo:∀(k n a b:Nat) (t:Slot),np t->b<2 ^ k->2 * k+1<=n->∃t',bZ cdC cdB n [.val (.int a),.val (.int b),t]=.next [.val (.int (Nat.gcd a b:Nat)),.val (.int (0:Nat)),t']
 | 0,n+1,a,b,t,ht,hb,hn=>by
  have:b=0:=by simp at hb;exact hb
  subst this
  exact ⟨t,by rw [aCx,Nat.gcd_zero_right]⟩
 | k+1,n+3,a,b,t,ht,hb,hn=>by
  by_cases h0:b=0
  ·subst h0;exact ⟨t,by rw [aCx,Nat.gcd_zero_right]⟩
  ·rw [aFc ht (by omega)]
   by_cases h1:a % b=0
   ·rw [h1];exact ⟨_,by rw [aCx,Nat.gcd_comm a b,Nat.gcd_rec,h1,Nat.gcd_zero_left]⟩
   ·rw [aFc aO (by omega)]
    have hlt:b % (a % b)<2 ^ k:=by
     have e1:a % b<b:=Nat.mod_lt _ (by omega)
     have e2:b % (a % b)<a % b:=Nat.mod_lt _ (by omega)
     have e3:b % (a % b)+(a % b)<=b:=by
      have:=Nat.div_add_mod b (a % b)
      have q:1<=b / (a % b):=Nat.div_pos (Nat.le_of_lt e1) (by omega)
      have:(a % b) * 1<=(a % b) * (b / (a % b)):=Nat.mul_le_mul_left _ q
      omega
     rw [Nat.pow_succ] at hb
     omega
    obtain ⟨t',e⟩:=aFo k (n+1) (a % b) (b % (a % b)) _ aO hlt (by omega)
    refine ⟨t',?_⟩
    rw [e]
    have g1:Nat.gcd a b=Nat.gcd (a % b) b:=by rw [Nat.gcd_comm a b,Nat.gcd_rec]
    have g2:Nat.gcd (a % b) (b % (a % b))=Nat.gcd (a % b) b:=by rw [Nat.gcd_comm,<- Nat.gcd_rec]
    rw [g2,<- g1]
 | 0,0,_,_,_,_,_,hn=>by omega
 | k+1,0,_,_,_,_,_,hn=>by omega
 | k+1,1,_,_,_,_,_,hn=>by omega
 | k+1,2,_,_,_,_,_,hn=>by omega
theorem aL9 (i:Int):(if i<0 then -i else i)=(i.natAbs:Int):=by split<;>omega
theorem kY {a b:Int} (hb:b.natAbs<2 ^ 400):Ret eU [.int a,.int b] (.int (Int.gcd a b:Nat)):=by
 obtain ⟨t,e⟩:=aFo 400 1000 a.natAbs b.natAbs .un bQ hb (by omega)
 have e:bZ (bA (v2 (kEq true) (aD 1) (vC (.int 0)))) (aR (aY 2 (xOf (v2 gG (aD 0) (aD 1)))) (aR (aY 0 (xOf (aD 1))) (aY 1 (xOf (aD 2))))) fuel [.val (.int a.natAbs),.val (.int b.natAbs),.un]=_:=e
 refine uR ⟨[.un,.val (.int (0:Nat)),t],?_⟩
 simp only [kX,entry,mZ,List.map,if_true,List.length,List.replicate,List.append,List.cons_append,List.nil_append,cB,oZ,aAo,jI,lO,bX,iB,mE,aNr,gX,aL9,Bool.true_or,Bool.true_and,fQ,iY,aO,bP,List.set,e,aFg]
 rfl
theorem fits_of {i:Int} (h:i.natAbs<2 ^ 200):fits i=true:=by
 unfold fits;rw [Bool.and_eq_true,decide_eq_true_iff,decide_eq_true_iff];omega
theorem aDv {a b:Int} (hb:b.natAbs<2 ^ 200) (h0:b ≠ 0):Ret eO [.int a,.int b] (.tup [.int (a / (Int.gcd a b:Nat)),.int (b / (Int.gcd a b:Nat))]):=by
 have hg:0<Int.gcd a b:=Int.gcd_pos_of_ne_zero_right _ h0
 have hle:Int.gcd a b<=b.natAbs:=Nat.le_of_dvd (by omega) (Int.gcd_dvd_natAbs_right a b)
 have hf:fits (Int.gcd a b:Nat)=true:=fits_of (by omega)
 have hg':(0:Int)<(Int.gcd a b:Nat):=by omega
 refine uR ⟨[.val (.int a),.val (.int b),.val (.int (Int.gcd a b:Nat))],?_⟩
 have hb4:b.natAbs<2 ^ 400:=Nat.lt_trans hb (by decide)
 simp [wG,entry,aP (kY (a:=a) hb4),hf,hg]
abbrev Fr:=Int×Int
def fD (x:Fr):D:=.tup [.int x.1,.int x.2]
def fr (a b:Int):Fr:=(a / (Int.gcd a b:Nat),b / (Int.gcd a b:Nat))
structure Gd (x:Fr):Prop where
 p:0<x.2
 g:Int.gcd x.1 x.2=1
@[simp] theorem tJ (x:Fr):(fD x).calm=true:=rfl
@[simp] theorem aKe (x:Fr):(fD x).frz=fD x:=rfl
@[simp] theorem aXf {x:Fr} {b c:Bool}:kIx (fD x,b) (.int 0,c)=.ok (.int x.1,b):=by simp [fD,tE]
@[simp] theorem aXx {x:Fr} {b c:Bool}:kIx (fD x,b) (.int 1,c)=.ok (.int x.2,b):=by simp [fD,aJh]
theorem zA {a b:Int} (hb:b.natAbs<2 ^ 200) (h0:b ≠ 0):Ret eO [.int a,.int b] (fD (fr a b)):=aDv hb h0
theorem aHu {a b:Int} (h0:0<b):(fr a b).1 * b=a * (fr a b).2:=by
 have hg:0<Int.gcd a b:=Int.gcd_pos_of_ne_zero_right _ (by omega)
 obtain ⟨x,hx⟩:=Int.gcd_dvd_left a b
 obtain ⟨y,hy⟩:=Int.gcd_dvd_right a b
 show a / ((Int.gcd a b:Nat):Int) * b=a * (b / ((Int.gcd a b:Nat):Int))
 generalize ((Int.gcd a b:Nat):Int)=g at *
 have hg0:g ≠ 0:=by rintro rfl;simp at hy;omega
 rw [hx,hy,Int.mul_ediv_cancel_left _ hg0,Int.mul_ediv_cancel_left _ hg0]
 rw [Int.mul_comm g y,<- Int.mul_assoc,Int.mul_comm x y,Int.mul_comm (y * x) g,Int.mul_comm y x,Int.mul_assoc]
theorem tW {a b:Int} (h0:0<b):Gd (fr a b):=by
 have hg:0<Int.gcd a b:=Int.gcd_pos_of_ne_zero_right _ (by omega)
 refine ⟨?_,?_⟩
 ·exact Int.ediv_pos_of_pos_of_dvd h0 (by omega) (Int.gcd_dvd_right a b)
 ·exact Int.gcd_ediv_gcd_ediv_gcd hg
theorem aEk {a b:Int} (h0:0<b):(fr a b).2<=b:=Int.ediv_le_self _ (by omega)
theorem aFi {a b:Int}:(fr a b).1.natAbs<=a.natAbs:=by
 show (a / _).natAbs<=_
 exact Int.natAbs_ediv_le_natAbs _ _
theorem aJq {a b:Int} (h:0<=a):0<=(fr a b).1:=Int.ediv_nonneg h (by omega)
theorem aT7 {x y:Fr} (hx:Gd x) (hy:Gd y) (e:x.1 * y.2=y.1 * x.2):x=y:=by
 have d1:x.2 ∣ y.2:=by
  have:x.2 ∣ x.1 * y.2:=by rw [e];exact Int.dvd_mul_left _ _
  have:=Int.dvd_gcd_mul_iff_dvd_mul.mpr this
  rw [Int.gcd_comm,hx.g] at this
  simpa using this
 have d2:y.2 ∣ x.2:=by
  have:y.2 ∣ y.1 * x.2:=by rw [<- e];exact Int.dvd_mul_left _ _
  have:=Int.dvd_gcd_mul_iff_dvd_mul.mpr this
  rw [Int.gcd_comm,hy.g] at this
  simpa using this
 have e2:x.2=y.2:=by
  have:=Int.le_of_dvd hy.p d1
  have:=Int.le_of_dvd hx.p d2
  omega
 rw [e2] at e
 have e1:=Int.eq_of_mul_eq_mul_right (by have:=hy.p;omega) e
 exact Prod.ext e1 e2
theorem aUp {a b:Int} {x:Fr} (hx:Gd x) (h0:0<b):x=fr a b ↔ x.1 * b=a * x.2:=by
 constructor
 ·rintro rfl;exact aHu h0
 ·intro e
  refine aT7 hx (tW h0) ?_
  have e2:=aHu (a:=a) h0
  have hb:b ≠ 0:=by omega
  refine Int.eq_of_mul_eq_mul_right hb ?_
  calc x.1 * (fr a b).2 * b=(x.1 * b) * (fr a b).2:=by rw [Int.mul_assoc,Int.mul_comm _ b,<- Int.mul_assoc]
   _=(a * (fr a b).2) * x.2:=by rw [e,Int.mul_assoc,Int.mul_comm x.2,<- Int.mul_assoc]
   _=(fr a b).1 * x.2 * b:=by rw [<- e2,Int.mul_assoc,Int.mul_comm b,<- Int.mul_assoc]
theorem kJ {x y:Int} {A B:Nat} (hx:x.natAbs<=A) (hy:y.natAbs<=B):(x * y).natAbs<=A * B:=by
 rw [Int.natAbs_mul];exact Nat.mul_le_mul hx hy
theorem aAd {x y:Int} {A B:Nat} (hx:x.natAbs<=A) (hy:y.natAbs<=B):(x+y).natAbs<=A+B:=by omega
theorem fit {x:Int} {A:Nat} (hx:x.natAbs<=A) (h:A<2 ^ 200:=by decide):fits x=true:=fits_of (Nat.lt_of_le_of_lt hx h)
structure Bd (x:Fr) (A B:Nat):Prop where
 t:x.1.natAbs<=A
 b:x.2.natAbs<=B
theorem rT {x y:Fr} {A B:Nat} (hx:Bd x A B) (hy:Bd y A B) (hA:A<2 ^ 200) (hB:B<2 ^ 200):Ret iP [fD x,fD y] (.bl (decide (x.1 * y.2<y.1 * x.2))):=by
 refine nL ?_
 simp [yC,entry,fit hx.t hA,fit hx.b hB,fit hy.t hA,fit hy.b hB]
theorem aJg {x y:Fr} {A B:Nat} (hx:Bd x A B) (hy:Bd y A B) (hA:A<2 ^ 200) (hB:B * B<2 ^ 200) (px:0<x.2) (py:0<y.2):Ret vX [fD x,fD y] (fD (fr (x.1 * y.2+y.1 * x.2) (x.2 * y.2))):=by
 refine nL ?_
 have hB':B<2 ^ 200:=by
  cases B with
  | zero=>decide
  | succ B=>exact Nat.lt_of_le_of_lt (Nat.le_mul_of_pos_right _ (Nat.succ_pos _)) hB
 have h0:0<x.2 * y.2:=Int.mul_pos px py
 have e:=aP (zA (a:=x.1 * y.2+y.1 * x.2) (b:=x.2 * y.2) (Nat.lt_of_le_of_lt (kJ hx.b hy.b) hB) (by omega))
 simp [aHs,entry,fit hx.t hA,fit hx.b hB',fit hy.t hA,fit hy.b hB',e]
theorem oQ {x:Fr} (hx:Gd x) (hb:x.2.natAbs<2 ^ 200):Ret kK [fD x] (.bl true):=by
 refine nL ?_
 have h4:x.2.natAbs<2 ^ 400:=Nat.lt_trans hb (by decide)
 have hp:=hx.p
 have i1:∀b,oX "tuple" (fD x,b)=.ok (.bl true,true):=fun _=>rfl
 have i2:∀b,eN [(fD x,b)]=.ok (.int 2,true):=fun _=>rfl
 simp [oP,entry,cI,eV,i1,i2,aP (oW x.1),aP (oW x.2),aP (kY (a:=x.1) h4),hx.g,hp]
def FF (xs:List Fr):List D:=xs.map fD
@[simp] theorem aTu (xs:List Fr):D.bK (FF xs)=true:=eA tJ xs
@[simp] theorem aWi (xs:List Fr):D.frzs (FF xs)=FF xs:=gN tJ xs
@[simp] theorem aWz (xs:List Fr):(FF xs).length=xs.length:=by simp [FF]
theorem qA {xs:List Fr} (hg:∀x∈xs,Gd x/\x.2.natAbs<2 ^ 200):Ret fY [.lst false (FF xs)] (.bl (xs.all fun x=>decide (0<=x.1))):=by
 refine nL ?_
 simp -implicitDefEqProofs [jX,entry]
 refine bL (dH (fun pre ρ=>(pre.all fun x=>decide (0<=x.1))=true/\∃t,np t/\ρ=[.val (.lst false (FF xs)),t]) xs ⟨rfl,_,bQ,rfl⟩ ?_) ?_
 ·rintro pre x post ρ e ⟨ha,t,ht,rfl⟩
  have hx:=hg x (by rw [e];simp)
  by_cases h0:0<=x.1
  ·have h0':¬ x.1<0:=by omega
   simp -implicitDefEqProofs [ht,cI,eV,aP (oQ hx.1 hx.2),h0']
   exact ⟨by simpa using ha,h0⟩
  ·have h0':x.1<0:=by omega
   simp -implicitDefEqProofs [ht,cI,eV,aP (oQ hx.1 hx.2),h0']
   exact ⟨x.1,⟨x.2,by rw [e];simp⟩,h0'⟩
 ·rintro ρ ⟨ha,t,ht,rfl⟩
  simp -implicitDefEqProofs
  simpa using ha
end VL.QQ
end
section
namespace VL.QQ
open VL PySem L2 PY K10 K11 K20
def pD:PT->D
 | none=>.non
 | some x=>.tup [.int x.1,oD x.2]
def RR (R:Rw):List D:=R.map pD
def QD (Ds:List Rw):List D:=Ds.map fun R=>.lst false (RR R)
@[simp] theorem aEz (x:PT):(pD x).calm=true:=by cases x<;>simp [pD]
@[simp] theorem aT6 (R:Rw):D.bK (RR R)=true:=eA aEz R
@[simp] theorem aWo (R:Rw):D.frzs (RR R)=RR R:=gN aEz R
@[simp] theorem aRx (R:Rw):(RR R).length=R.length:=by simp [RR]
@[simp] theorem aTt (Ds:List Rw):D.bK (QD Ds)=true:=eA (fun R=>by simp) Ds
@[simp] theorem aV2 (Ds:List Rw):D.frzs (QD Ds)=QD Ds:=gN (fun R=>by simp) Ds
@[simp] theorem aXr (Ds:List Rw):(QD Ds).length=Ds.length:=by simp [QD]
theorem aBb {o:Bool} {R:Rw} {v:Nat} {b c:Bool} (h:v<R.length):kIx (.lst o (RR R),b) (.int (v:Int),c)=.ok (pD (pt R v),b):=by
 simp [dF,RR,pt,List.getElem?_eq_getElem h]
theorem aD6 {o:Bool} {Ds:List Rw} {k:Nat} {b c:Bool} (h:k<Ds.length):kIx (.lst o (QD Ds),b) (.int (k:Int),c)=.ok (.lst false (RR (dr Ds k)),b):=by
 simp [dF,QD,dr,List.getElem?_eq_getElem h]
theorem aKg {R:Rw} {a v:Nat} {x:PT} (ha:a<R.length):pt (R.set a x) v=if v=a then x else pt R v:=by
 unfold pt
 rw [List.getD_eq_getElem?_getD,List.getD_eq_getElem?_getD]
 by_cases h:v=a
 ·subst h;rw [if_pos rfl,List.getElem?_set_self ha];rfl
 ·rw [if_neg h,List.getElem?_set_ne (Ne.symm h)]
theorem aEs {R:Rw} {v:Nat} {x:PT} {b:Bool} (h:v<R.length):aA7 (.lst true (RR R)) (v:Int) (pD x,b)=some (.lst true (RR (R.set v x))):=by
 show (if aV (pD x,b)=true then (ixN (RR R).length (v:Int)).map fun j=>D.lst true ((RR R).set j (pD x)) else none)=_
 rw [if_pos (by cases b<;>simp),aRx,aDc h]
 show some (D.lst true ((RR R).set v (pD x)))=_
 rw [RR,RR,List.map_set]
theorem aIu {n v:Nat}:pt (List.replicate n none) v=none:=by
 unfold pt
 rw [List.getD_eq_getElem?_getD,List.getElem?_replicate]
 by_cases h:v<n
 ·rw [if_pos h];rfl
 ·rw [if_neg h];rfl
theorem aO6 {n kd:Nat} {es:List E} (h:OkM n kd es) (ρ:Env):bS (iR1 (aE (v2 kIx (aD 0) (vC (.int 0))) aL)) 1 [] (bH 0) bV (vC .non) (.val (dM n kd es)::ρ)=.ok (.lst true (RR (List.replicate n none)),true):=by
 have:=h.n2
 rw [gJ [] (List.range n) (fun i=>.int (i:Int)) (fun _=>D.non) (fun _=>true) (by simp -implicitDefEqProofs [nI,fE (show n<=1000000 by omega)]) (by simp;omega) rfl (fun x _=>⟨rfl,rfl⟩) (.inl rfl)]
 rw [rQ,RR,List.map_replicate];rfl
structure Nz (es:List E) (n m:Nat) (R R':Rw):Prop where
 len:R'.length=n
 so:∀v c l,pt R' v=some (c,l)->∃d c' l',l=some d/\d<es.length/\(ed es d).b=v/\pt R (ed es d).a=some (c',l')/\c=c'+(ed es d).c
 up:∀d c' l',d<m->pt R (ed es d).a=some (c',l')->∃c l,pt R' (ed es d).b=some (c,l)/\c'+(ed es d).c<=c
theorem Nz.keep {es:List E} {n m:Nat} {R R':Rw} (h:Nz es n m R R') (u:∀c' l',pt R (ed es m).a=some (c',l')->∃c l,pt R' (ed es m).b=some (c,l)/\c'+(ed es m).c<=c):Nz es n (m+1) R R' :=
 ⟨h.len,h.so,fun d c' l' hd ep=>by
  rcases Nat.lt_or_ge d m with q | q
  ·exact h.up d c' l' q ep
  ·have:d=m:=by omega
   subst this;exact u c' l' ep⟩
theorem Nz.put {es:List E} {n m:Nat} {R R':Rw} (h:Nz es n m R R') (hm:m<es.length) (hb:(ed es m).b<n) {c1:Int} {l1:Option Nat} (e1:pt R (ed es m).a=some (c1,l1)) (hlt:∀c2 l2,pt R' (ed es m).b=some (c2,l2)->c2<c1+(ed es m).c) :
  Nz es n (m+1) R (R'.set (ed es m).b (some (c1+(ed es m).c,some m))):=by
 have ps:∀v,pt (R'.set (ed es m).b (some (c1+(ed es m).c,some m))) v=if v=(ed es m).b then some (c1+(ed es m).c,some m) else pt R' v:=fun v=>aKg (by rw [h.len];exact hb)
 refine Nz.keep ⟨by rw [List.length_set];exact h.len,fun v c l ep=>?_,fun d c' l' hd ep=>?_⟩ fun c' l' z=>?_
 ·rw [ps] at ep
  by_cases hv:v=(ed es m).b
  ·rw [if_pos hv] at ep;cases ep
   exact ⟨m,c1,l1,rfl,hm,hv.symm,e1,rfl⟩
  ·rw [if_neg hv] at ep;exact h.so v c l ep
 ·obtain ⟨c,l,q1,q2⟩:=h.up d c' l' hd ep
  rw [ps]
  by_cases hv:(ed es d).b=(ed es m).b
  ·rw [if_pos hv]
   rw [hv] at q1
   have:=hlt c l q1
   exact ⟨_,_,rfl,by omega⟩
  ·rw [if_neg hv];exact ⟨c,l,q1,q2⟩
 ·rw [e1] at z;cases z
  rw [ps,if_pos rfl]
  exact ⟨_,_,rfl,Int.le_refl _⟩
theorem aBu {n kd:Nat} {es:List E} {R:Rw} (h:OkM n kd es) (hl:R.length=n):qU nY [dM n kd es,.lst false (RR R)] (fun d=>∃R',d=.lst true (RR R')/\NX es n R R'):=by
 refine eJ ?_
 have hls:=h.ls
 simp -implicitDefEqProofs [sR,entry,aO6 h,tP]
 refine bL (dH (fun pre ρ=>∃R' t3 t4 t5 t6,np t3/\np t4/\np t5/\np t6/\ρ=[.val (dM n kd es),.val (.lst false (RR R)),.val (.lst true (RR R')),t3,t4,t5,t6]/\Nz es n pre.length R R') es.zipIdx
  ⟨_,_,_,_,_,bQ,bQ,bQ,bQ,rfl,by simp,fun v c l e=>(by rw [aIu] at e;cases e),fun d c' l' hd=>(by simp at hd)⟩ ?_) ?_
 ·rintro pre ⟨x,k⟩ post ρ e ⟨R',t3,t4,t5,t6,h3,h4,h5,h6,rfl,Z⟩
  obtain ⟨hk1,hk2,hk3⟩:=aK7 (pre:=[]) (post:=[]) e
  have hx:x∈es:=List.mem_of_getElem? hk3
  have hxe:ed es k=x:=by have:=lZ hk2;rw [hk3] at this;exact (Option.some.inj this).symm
  rw [<- hk1] at Z
  have ha:=h.a x hx
  have hb:=h.b x hx
  have hl':=Z.len
  have kl:(pre ++ [(x,k)]).length=k+1:=by simp [hk1]
  have a1:=aBb (o:=false) (R:=R) (b:=false) (c:=false) (show x.a<R.length by omega)
  have a2:=aBb (o:=true) (R:=R') (b:=false) (c:=false) (show x.b<R'.length by omega)
  show out _ (fun ρ=>∃R' t3 t4 t5 t6,np t3/\np t4/\np t5/\np t6/\ρ=[.val (dM n kd es),.val (.lst false (RR R)),.val (.lst true (RR R')),t3,t4,t5,t6]/\Nz es n (pre ++ [(x,k)]).length R R') _
  rw [kl]
  cases e1:pt R x.a with
  | none =>
   rw [e1] at a1
   simp -implicitDefEqProofs [h3,h4,h5,h6,nI,a1,pD,dQ]
   exact ⟨R',_,aO,_,aO,_,aO,_,h6,⟨rfl,rfl,rfl,rfl,rfl⟩,Z.keep fun c' l' z=>by rw [hxe,e1] at z;cases z⟩
  | some y =>
   obtain ⟨c1,l1⟩:=y
   rw [e1] at a1
   have kset:aA7 (.lst true (RR R')) (x.b:Int) (.tup [.int (c1+x.c),.int (k:Int)],true)=some (.lst true (RR (R'.set x.b (some (c1+x.c,some k))))):=aEs (R:=R') (v:=x.b) (x:=some (c1+x.c,some k)) (b:=true) (by omega)
   have put:(∀c2 l2,pt R' x.b=some (c2,l2)->c2<c1+x.c)->Nz es n (k+1) R (R'.set x.b (some (c1+x.c,some k))):=fun hlt=>by
    have:=Z.put hk2 (by rw [hxe];exact hb) (by rw [hxe];exact e1) (by rw [hxe];exact hlt)
    rwa [hxe] at this
   cases e2:pt R' x.b with
   | none =>
    rw [e2] at a2
    have Z2:=put fun c2 l2 z=>by rw [e2] at z;cases z
    simp -implicitDefEqProofs [h3,h4,h5,h6,nI,a1,a2,pD,dQ,tE,kset]
    exact ⟨_,_,aO,_,aO,_,aO,_,aO,⟨rfl,rfl,rfl,rfl,rfl⟩,Z2⟩
   | some z =>
    obtain ⟨c2,l2⟩:=z
    rw [e2] at a2
    by_cases hc:c2<c1+x.c
    ·have Z2:=put fun c3 l3 z=>by rw [e2] at z;cases z;exact hc
     simp -implicitDefEqProofs [h3,h4,h5,h6,nI,a1,a2,pD,dQ,tE,kset,hc]
     exact ⟨_,_,aO,_,aO,_,aO,_,aO,⟨rfl,rfl,rfl,rfl,rfl⟩,Z2⟩
    ·simp -implicitDefEqProofs [h3,h4,h5,h6,nI,a1,a2,pD,dQ,tE,hc]
     exact ⟨R',_,aO,_,aO,_,aO,_,aO,⟨rfl,rfl,rfl,rfl,rfl⟩,Z.keep fun c' l' z=>by rw [hxe,e1] at z;cases z;rw [hxe];exact ⟨c2,l2,e2,by omega⟩⟩
 ·rintro ρ ⟨R',t3,t4,t5,t6,h3,h4,h5,h6,rfl,Z⟩
  simp
  exact ⟨R',rfl,Z.len,Z.so,fun d c' l' hd=>Z.up d c' l' (by simpa using hd)⟩
@[simp] theorem aWa {f:aS} {ρ:Env}:aMv f ρ=(f ρ).bind fun x=>if x.2 then .ok (x.1.frz,true) else .bad:=rfl
theorem vS {n kd:Nat} {es:List E} (h:OkM n kd es):qU jC [dM n kd es] (fun d=>∃Ds,d=.lst true (QD Ds)/\DR es n Ds):=by
 refine eJ ?_
 have hn1:=h.n1
 have hn2:=h.n2
 have k0:=aEs (R:=List.replicate n none) (v:=0) (x:=some (0,none)) (b:=true) (by simp;omega)
 simp -implicitDefEqProofs [pD,oD] at k0
 simp -implicitDefEqProofs [nU,entry,aO6 h,k0,nI,fE (show n<=1000000 by omega)]
 generalize eR:(List.replicate n (none:PT)).set 0 (some (0,none))=R0
 have r0:∀v,pt R0 v=if v=0 then some (0,none) else none:=fun v=>by rw [<- eR,aKg (by simp;omega),aIu]
 have rl:R0.length=n:=by rw [<- eR];simp
 refine bL (dH (fun pre ρ=>∃Ds t,np t/\ρ=[.val (dM n kd es),.val (.lst false (RR R0)),.val (.lst true (QD Ds)),t]/\Ds.length=pre.length+1/\dr Ds 0=R0/\∀k,k<pre.length->NX es n (dr Ds k) (dr Ds (k+1))) (List.range n)
  ⟨[R0],_,bQ,rfl,rfl,rfl,fun k hk=>(by simp at hk)⟩ ?_) ?_
 ·rintro pre i post ρ e ⟨Ds,t,ht,rfl,dl,d0,dn⟩
  have hp:pre.length<n:=by have:=congrArg List.length e;simp at this;omega
  have hlen:(dr Ds pre.length).length=n:=by
   cases q:pre.length with
   | zero=>rw [d0];exact rl
   | succ k=>exact (dn k (by omega)).len
  obtain ⟨d,hd,R',rfl,hR⟩:=aBu h hlen
  have hlast:atI (QD Ds) (-1)=some (.lst false (RR (dr Ds pre.length))):=by
   rw [aA4,QD,List.getLast?_map,List.getLast?_eq_getElem?,dl]
   simp [dr,List.getElem?_eq_getElem (show pre.length<Ds.length by omega)]
  have hsz:Ds.length<1000000:=by omega
  have eq:QD Ds ++ [.lst false (RR R')]=QD (Ds ++ [R']):=by simp [QD]
  have g1:∀k,k<Ds.length->dr (Ds ++ [R']) k=dr Ds k:=fun k hk=>by unfold dr;rw [List.getD_eq_getElem?_getD,List.getD_eq_getElem?_getD,List.getElem?_append_left hk]
  have g2:dr (Ds ++ [R']) (pre.length+1)=R':=by unfold dr;rw [List.getD_eq_getElem?_getD,<- dl];simp
  simp -implicitDefEqProofs [ht,hlast,aP hd,hsz,eq]
  refine ⟨Ds ++ [R'],_,aO,⟨rfl,rfl⟩,by simp [dl],by rw [g1 0 (by omega)];exact d0,fun k hk=>?_⟩
  rcases Nat.lt_or_ge k pre.length with q | q
  ·rw [g1 k (by omega),g1 (k+1) (by omega)];exact dn k q
  ·have:k=pre.length:=by first | omega | (simp at hk;omega)
   subst this
   rw [g1 _ (by omega),g2];exact hR
 ·rintro ρ ⟨Ds,t,ht,rfl,dl,d0,dn⟩
  simp
  refine ⟨Ds,rfl,by simpa using dl,by rw [d0];exact rl,fun v c l z=>?_,by rw [d0,r0];rfl,fun k hk=>dn k (by simpa using hk)⟩
  rw [d0,r0] at z
  by_cases hv:v=0
  ·rw [if_pos hv] at z;cases z;exact ⟨hv,rfl⟩
  ·rw [if_neg hv] at z;cases z
end VL.QQ
end
section
namespace VL.QQ
open VL PySem L2 PY K10 K11 K20
theorem ftr {a b c d e f:Int} (h1:a * d<=c * b) (h2:c * f<=e * d) (hd:0<d) (hb:0<=b) (hf:0<=f):a * f<=e * b:=by
 have m1:=Int.mul_le_mul_of_nonneg_right h1 hf
 have m2:=Int.mul_le_mul_of_nonneg_right h2 hb
 refine Int.le_of_mul_le_mul_right (a:=d) ?_ hd
 have e1:a * f * d=a * d * f:=by rw [Int.mul_assoc,Int.mul_comm f d,<- Int.mul_assoc]
 have e2:e * b * d=e * d * b:=by rw [Int.mul_assoc,Int.mul_comm b d,<- Int.mul_assoc]
 have e3:c * b * f=c * f * b:=by rw [Int.mul_assoc,Int.mul_comm b f,<- Int.mul_assoc]
 omega
def oF:Option Fr->D
 | none=>.non
 | some x=>fD x
@[simp] theorem aVy (x:Option Fr):(oF x).calm=true:=by cases x<;>rfl
@[simp] theorem aXe (x:Option Fr):(oF x).frz=oF x:=by cases x<;>rfl
@[simp] theorem aXi (x:Option Nat):(oD x).frz=oD x:=by cases x<;>rfl
section
variable {es:List E} {n kd:Nat} {Ds:List Rw}
theorem DR.bd (h:DR es n Ds) (hc:∀e∈es,0<=e.c/\e.c<=1000) {k v:Nat} {c:Int} {l:Option Nat} (hk:k<=n) (e:pt (dr Ds k) v=some (c,l)):0<=c/\c<=1000 * n:=by
 obtain ⟨row,r1,r2,r3⟩:=h.walk hk e
 have:=xT hc r1.lt
 omega
structure Mn (Ds:List Rw) (n v:Nat) (c:Int) (m:Nat) (o:Option Fr):Prop where
 at_:∀r,o=some r->∃k c' l',k<n/\pt (dr Ds k) v=some (c',l')/\r=(c - c',(n:Int) - k)
 all:∀k c' l',k<m->pt (dr Ds k) v=some (c',l')->∃r,o=some r/\r.1 * ((n:Int) - k)<=(c - c') * r.2
theorem Mn.skip {v m:Nat} {c:Int} {o:Option Fr} (M:Mn Ds n v c m o) (h:∀c' l',pt (dr Ds m) v=some (c',l')->∃r,o=some r/\r.1 * ((n:Int) - m)<=(c - c') * r.2):Mn Ds n v c (m+1) o :=
 ⟨M.at_,fun k c' l' hk e=>by
  rcases Nat.lt_or_ge k m with q | q
  ·exact M.all k c' l' q e
  ·have:k=m:=by omega
   subst this;exact h c' l' e⟩
theorem Mn.put {v m:Nat} {c c1:Int} {l1:Option Nat} {o:Option Fr} (M:Mn Ds n v c m o) (hm:m<n) (e1:pt (dr Ds m) v=some (c1,l1)) (hlt:∀r,o=some r->(c - c1) * r.2<=r.1 * ((n:Int) - m)):Mn Ds n v c (m+1) (some (c - c1,(n:Int) - m)):=by
 refine ⟨fun r e=>(by cases e;exact ⟨m,c1,l1,hm,e1,rfl⟩),fun k c' l' hk e=>⟨_,rfl,?_⟩⟩
 rcases Nat.lt_or_ge k m with q | q
 ·obtain ⟨r,hr,hr2⟩:=M.all k c' l' q e
  obtain ⟨k2,c2,l2,q1,q2,q3⟩:=M.at_ r hr
  have:=hlt r hr
  exact ftr this hr2 (by rw [q3];show 0<(n:Int) - k2;omega) (by show 0<=(n:Int) - m;omega) (by omega)
 ·have:k=m:=by omega
  subst this
  rw [e1] at e;cases e
  exact Int.le_refl _
structure LR (Ds:List Rw) (n v:Nat) (r:Fr):Prop where
 c:∃c l,pt (dr Ds n) v=some (c,l)/\Mn Ds n v c n (some r)
def LRo (Ds:List Rw) (n v:Nat):Option Fr->Prop
 | none=>pt (dr Ds n) v=none
 | some r=>LR Ds n v r
theorem zE (h:OkM n kd es) (d:DR es n Ds) {v:Nat} (hv:v<n):qU lK [.lst false (QD Ds),.int (v:Int)] (fun x=>∃o,x=oF o/\LRo Ds n v o):=by
 have hn1:=h.n1
 have hn2:=h.n2
 refine eJ ?_
 have el:((Ds.length:Int) - 1)=(n:Int):=by rw [d.len];omega
 have q1:=aD6 (o:=false) (Ds:=Ds) (k:=n) (b:=false) (c:=false) (by rw [d.len];omega)
 have q2:=aBb (o:=false) (R:=dr Ds n) (v:=v) (b:=false) (c:=false) (by rw [d.ln (Nat.le_refl _)];exact hv)
 cases ev:pt (dr Ds n) v with
 | none =>
  rw [ev] at q2
  simp -implicitDefEqProofs [lR,entry,el,q1,q2,pD,dQ]
  exact ⟨none,rfl,ev⟩
 | some x =>
  obtain ⟨c,l⟩:=x
  have ev0:=ev
  rw [ev] at q2
  simp -implicitDefEqProofs [lR,entry,el,q1,q2,pD,dQ,fE (show n<=1000000 by omega)]
  have b0:=d.bd h.c (Nat.le_refl _) ev
  refine bL (dH (fun pre ρ=>∃o t4 t5,np t4/\np t5/\ρ=[.val (.lst false (QD Ds)),.val (.int (v:Int)),.val (.int (n:Int)),.val (oF o),t4,t5]/\Mn Ds n v c pre.length o) (List.range n)
   ⟨none,_,_,bQ,bQ,rfl,fun r z=>(by cases z),fun k c' l' hk=>(by simp at hk)⟩ ?_) ?_
  ·rintro pre k post ρ e ⟨o,t4,t5,h4,h5,rfl,M⟩
   obtain ⟨hk,hkn⟩:=mW e
   have kl:(pre ++ [k]).length=k+1:=by simp [hk]
   rw [<- hk] at M
   show out _ (fun ρ=>∃o t4 t5,np t4/\np t5/\ρ=[.val (.lst false (QD Ds)),.val (.int (v:Int)),.val (.int (n:Int)),.val (oF o),t4,t5]/\Mn Ds n v c (pre ++ [k]).length o) _
   rw [kl]
   have p1:=aD6 (o:=false) (Ds:=Ds) (k:=k) (b:=false) (c:=false) (by rw [d.len];omega)
   have p2:=aBb (o:=false) (R:=dr Ds k) (v:=v) (b:=false) (c:=false) (by rw [d.ln (by omega)];exact hv)
   cases e1:pt (dr Ds k) v with
   | none =>
    rw [e1] at p2
    simp -implicitDefEqProofs [h4,h5,p1,p2,pD,dQ]
    exact ⟨o,_,aO,_,h5,⟨rfl,rfl,rfl⟩,M.skip fun c' l' z=>by rw [e1] at z;cases z⟩
   | some y =>
    obtain ⟨c1,l1⟩:=y
    rw [e1] at p2
    have b1:=d.bd h.c (show k<=n by omega) e1
    cases o with
    | none =>
     simp -implicitDefEqProofs [h4,h5,p1,p2,q1,q2,pD,dQ,tE,oF]
     exact ⟨some (c - c1,(n:Int) - k),_,aO,_,aO,⟨rfl,rfl,rfl⟩,M.put hkn e1 fun r z=>by cases z⟩
    | some r =>
     have hi:∀b,iS false (fD r,b) (.non,true)=.ok (.bl false,true):=fun _=>rfl
     obtain ⟨k2,c2,l2,z1,z2,z3⟩:=M.at_ r rfl
     have b2:=d.bd h.c (show k2<=n by omega) z2
     have rl:=rT (x:=(c - c1,(n:Int) - k)) (y:=r) (A:=1000000) (B:=1000) ⟨by show (c - c1).natAbs<=_;omega,by show ((n:Int) - k).natAbs<=_;omega⟩ ⟨by rw [z3];show (c - c2).natAbs<=_;omega,by rw [z3];show ((n:Int) - k2).natAbs<=_;omega⟩ (by decide) (by decide)
     have rl:Ret iP [.tup [.int (c - c1),.int ((n:Int) - k)],fD r] (.bl (decide ((c - c1) * r.2<r.1 * ((n:Int) - k)))):=rl
     by_cases hc:(c - c1) * r.2<r.1 * ((n:Int) - k)
     ·simp -implicitDefEqProofs [h4,h5,p1,p2,q1,q2,pD,dQ,tE,oF,hi,aP rl,hc,cI,eV]
      exact ⟨some (c - c1,(n:Int) - k),_,aO,_,aO,⟨rfl,rfl,rfl⟩,M.put hkn e1 fun r' z=>by cases z;omega⟩
     ·simp -implicitDefEqProofs [h4,h5,p1,p2,q1,q2,pD,dQ,tE,oF,hi,aP rl,hc,cI,eV]
      exact ⟨some r,_,aO,_,aO,⟨rfl,rfl,rfl⟩,M.skip fun c' l' z=>by rw [e1] at z;cases z;exact ⟨r,rfl,by omega⟩⟩
  ·rintro ρ ⟨o,t4,t5,h4,h5,rfl,M⟩
   simp
   rw [List.length_range] at M
   refine ⟨o,rfl,?_⟩
   cases o with
   | some r=>exact ⟨⟨c,l,ev0,M⟩⟩
   | none =>
    obtain ⟨i,j,r1,r2,r3⟩:=d.rep ev0
    obtain ⟨c',l',r4,_⟩:=d.cut ev0 r1 r2 r3
    obtain ⟨r,hr,_⟩:=M.all _ c' l' (by omega) r4
    cases hr
structure PB (Ds:List Rw) (n m:Nat) (o:Option Nat) (r:Option Fr):Prop where
 no:o=none->r=none
 so:∀b,o=some b->b<n/\∃x,r=some x/\LR Ds n b x
 all:∀v,v<m->pt (dr Ds n) v ≠ none->∃y x,LR Ds n v y/\r=some x/\y.1 * x.2<=x.1 * y.2
theorem LR.pos {v:Nat} {r:Fr} (h:LR Ds n v r):0<r.2:=by
 obtain ⟨c,l,e,M⟩:=h.c
 obtain ⟨k,c',l',h1,h2,h3⟩:=M.at_ r rfl
 rw [h3];show 0<(n:Int) - k;omega
theorem LR.bd {v:Nat} {r:Fr} (H:OkM n kd es) (d:DR es n Ds) (h:LR Ds n v r):Bd r 1000000 1000:=by
 obtain ⟨c,l,e,M⟩:=h.c
 obtain ⟨k,c',l',h1,h2,h3⟩:=M.at_ r rfl
 have hn2:=H.n2
 have b1:=d.bd H.c (Nat.le_refl _) e
 have b2:=d.bd H.c (show k<=n by omega) h2
 rw [h3]
 exact ⟨by show (c - c').natAbs<=_;omega,by show ((n:Int) - k).natAbs<=_;omega⟩
theorem tD (h:OkM n kd es) (d:DR es n Ds):qU iD [.lst false (QD Ds)] (fun x=>∃o r,x=oD o/\PB Ds n n o r):=by
 have hn1:=h.n1
 have hn2:=h.n2
 refine eJ ?_
 have q0:kIx (.lst false (QD Ds),false) (.int 0,true)=.ok (.lst false (RR (dr Ds 0)),false):=aD6 (k:=0) (by rw [d.len];omega)
 have ll:((dr Ds 0).length:Int)=(n:Int):=by rw [d.l0]
 simp -implicitDefEqProofs [mB,entry,q0,ll,fE (show n<=1000000 by omega)]
 refine bL (dH (fun pre ρ=>∃o r t3 t4,np t3/\np t4/\ρ=[.val (.lst false (QD Ds)),.val (oD o),.val (oF r),t3,t4]/\PB Ds n pre.length o r) (List.range n)
  ⟨none,none,_,_,bQ,bQ,rfl,fun _=>rfl,(fun b z=>by cases z),fun v hv=>(by simp at hv)⟩ ?_) ?_
 ·rintro pre k post ρ e ⟨o,r,t3,t4,h3,h4,rfl,B⟩
  obtain ⟨hk,hkn⟩:=mW e
  have kl:(pre ++ [k]).length=k+1:=by simp [hk]
  rw [<- hk] at B
  show out _ (fun ρ=>∃o r t3 t4,np t3/\np t4/\ρ=[.val (.lst false (QD Ds)),.val (oD o),.val (oF r),t3,t4]/\PB Ds n (pre ++ [k]).length o r) _
  rw [kl]
  obtain ⟨x,hx,y,rfl,hy⟩:=zE h d hkn
  cases y with
  | none =>
   have hy:pt (dr Ds n) k=none:=hy
   simp -implicitDefEqProofs [h3,h4,aP hx,oF,dQ]
   refine ⟨o,r,_,aO,_,aO,⟨rfl,rfl,rfl,rfl⟩,B.no,B.so,fun v hv hne=>?_⟩
   rcases Nat.lt_or_ge v k with q | q
   ·exact B.all v q hne
   ·have:v=k:=by omega
    subst this;exact absurd hy hne
  | some y =>
   have hy:LR Ds n k y:=hy
   have hi:∀b,iS true (fD y,b) (.non,true)=.ok (.bl true,true):=fun _=>rfl
   have put:(∀x,r=some x->x.1 * y.2<=y.1 * x.2)->PB Ds n (k+1) (some k) (some y):=fun hr=>by
    refine ⟨(fun z=>by cases z),(fun b z=>by cases z;exact ⟨hkn,y,rfl,hy⟩),fun v hv hne=>?_⟩
    rcases Nat.lt_or_ge v k with q | q
    ·obtain ⟨w,x,w1,w2,w3⟩:=B.all v q hne
     refine ⟨w,y,w1,rfl,?_⟩
     have hxp:0<x.2:=by
      cases o with
      | none=>rw [B.no rfl] at w2;cases w2
      | some b =>
       obtain ⟨_,x',hx',hL⟩:=B.so b rfl
       rw [w2] at hx';cases hx'
       exact hL.pos
     exact ftr w3 (hr x w2) hxp (by have:=w1.pos;omega) (by have:=hy.pos;omega)
    ·have:v=k:=by omega
     subst this
     exact ⟨y,y,hy,rfl,Int.le_refl _⟩
   cases r with
   | none =>
    have P:=put fun x z=>by cases z
    simp -implicitDefEqProofs [h3,h4,aP hx,oF,dQ,hi]
    exact ⟨some k,some y,_,aO,_,aO,⟨rfl,rfl,rfl,rfl⟩,P⟩
   | some x =>
    have hxx:LR Ds n (o.getD 0) x:=by
     cases o with
     | none=>have:=B.no rfl;cases this
     | some b =>
      obtain ⟨_,x',hx',hL⟩:=B.so b rfl
      cases hx';exact hL
    have hi2:∀b,iS false (fD x,b) (.non,true)=.ok (.bl false,true):=fun _=>rfl
    have rl:=rT (hxx.bd h d) (hy.bd h d) (by decide) (by decide)
    by_cases hc:x.1 * y.2<y.1 * x.2
    ·have P:=put fun x' z=>by cases z;omega
     simp -implicitDefEqProofs [h3,h4,aP hx,oF,dQ,hi,hi2,aP rl,hc,cI,eV]
     exact ⟨some k,some y,_,aO,_,aO,⟨rfl,rfl,rfl,rfl⟩,P⟩
    ·simp -implicitDefEqProofs [h3,h4,aP hx,oF,dQ,hi,hi2,aP rl,hc,cI,eV]
     refine ⟨o,some x,_,aO,_,aO,⟨rfl,rfl,rfl,rfl⟩,B.no,B.so,fun v hv hne=>?_⟩
     rcases Nat.lt_or_ge v k with q | q
     ·exact B.all v q hne
     ·have:v=k:=by omega
      subst this
      exact ⟨y,x,hy,rfl,by omega⟩
 ·rintro ρ ⟨o,r,t3,t4,h3,h4,rfl,B⟩
  simp
  rw [List.length_range] at B
  exact ⟨o,rfl,r,B⟩
end
end VL.QQ
end
section
namespace VL.QQ
open VL PySem L2 PY K10 K11 K20
@[simp] theorem aEb {k:Int} {o b c:Bool} {kvs:List (Key×Int)}:aJt (.int k,b) (.ext o (.dK kvs),c)=.ok (.bl (pA kvs (.inl k)).isSome,true):=rfl
@[simp] theorem aMe {k:Int} {o b c:Bool} {kvs:List (Key×Int)}:aIr (.ext o (.dK kvs),b) (.int k,c)=match pA kvs (.inl k) with | some v=>.ok (.int v,true) | none=>.bad:=rfl
@[simp] theorem aS7 {f g:aS} {ρ:Env}:vU f g ρ=(f ρ).bind fun x=>(g ρ).bind fun y=>match x.1,y.1 with
 | .int k,.int v=>.ok (.ext true (.dK [(.inl k,v)]),true)
 | _,_=>.bad:=rfl
@[simp] theorem aLe {i:Nat} {g f:aS} {ρ:Env}:uI i g f ρ=kH (f ρ) fun d _=>match d with
 | .int v=>(kH (g ρ) fun k _=>match k with
  | .int k=>(match getD ρ i with | some (.ext true (.dK kvs))=>if kvs.length<1000000 then .next (putD ρ i (.ext true (.dK (aBi kvs (.inl k) v)))) else .bad | _=>.bad)
  | _=>.bad)
 | _=>.bad:=by
 unfold uI kH
 cases f ρ with
 | ok x =>
  obtain ⟨x,b⟩:=x
  cases x<;>try rfl
  cases g ρ with
  | ok y=>obtain ⟨y,c⟩:=y;cases y<;>rfl
  | exc _=>rfl
  | bad=>rfl
 | exc _=>rfl
 | bad=>rfl
def kv (f:Nat->Nat) (m:Nat):List (Key×Int):=(List.range m).map fun j=>(.inl (f j:Int),(j:Int))
theorem rG {f:Nat->Nat} {m:Nat}:kv f (m+1)=kv f m ++ [(.inl (f m:Int),(m:Int))]:=by unfold kv;rw [List.range_succ,List.map_append];rfl
theorem aKj {f:Nat->Nat} {p:Nat}:∀m,(∃j,j<m/\f j=p/\pA (kv f m) (.inl (p:Int))=some (j:Int))\/((∀j,j<m->f j ≠ p)/\pA (kv f m) (.inl (p:Int))=none/\((kv f m).any fun kv=>decide (kv.1=.inl (p:Int)))=false)
 | 0=>.inr ⟨fun j hj=>by omega,rfl,rfl⟩
 | m+1=>by
  have hk:∀q:Nat,((Sum.inl (q:Int):Key)=.inl (p:Int)) ↔ q=p:=fun q=>⟨fun z=>by cases z;omega,fun z=>by rw [z]⟩
  rcases aKj (f:=f) (p:=p) m with ⟨j,h1,h2,h3⟩ | ⟨h1,h2,h3⟩
  ·refine .inl ⟨j,by omega,h2,?_⟩
   rw [rG]
   unfold pA at h3 ⊢
   rw [List.find?_append]
   cases q:List.find? (fun kv=>decide (kv.1=.inl (p:Int))) (kv f m) with
   | none=>rw [q] at h3;cases h3
   | some x=>rw [q] at h3;exact h3
  ·have e0:List.find? (fun kv=>decide (kv.1=.inl (p:Int))) (kv f m)=none:=by
    unfold pA at h2
    cases q:List.find? (fun kv=>decide (kv.1=.inl (p:Int))) (kv f m) with
    | none=>rfl
    | some x=>rw [q] at h2;cases h2
   by_cases hp:f m=p
   ·refine .inl ⟨m,by omega,hp,?_⟩
    rw [rG]
    unfold pA
    rw [List.find?_append,e0]
    simp [hp]
   ·refine .inr ⟨fun j hj=>?_,?_,?_⟩
    ·rcases Nat.lt_or_ge j m with q | q
     ·exact h1 j q
     ·have:j=m:=by omega
      subst this;exact hp
    ·rw [rG]
     unfold pA
     rw [List.find?_append,e0]
     have:¬ ((Sum.inl ((f m:Nat):Int):Key)=.inl (p:Int)):=fun z=>hp ((hk _).mp z)
     simp [this]
    ·rw [rG,List.any_append,h3]
     have:¬ ((Sum.inl ((f m:Nat):Int):Key)=.inl (p:Int)):=fun z=>hp ((hk _).mp z)
     simp [this]
theorem aSd {xs:T0} {j:Nat} (h:j<=xs.length):cutD (NN xs) (some (j:Int)) none=NN (xs.drop j):=by
 unfold cutD
 rw [uQ,HT.sIx_nat,HT.sIx_none,Nat.min_eq_left h,NN,NN,<- List.map_drop,List.take_of_length_le (by simp)]
section
variable {es:List E} {n kd:Nat} {Ds:List Rw}
def lH:aX:=(aR (eW 4 (v2 kIx (v2 kIx (v2 kIx (aD 1) (aD 5)) (aD 2)) (vC (.int 1)))) (aR (aY 2 (xOf (v2 kIx (v2 kIx (v2 kIx (aD 0) (vC (.int 2))) (v2 kIx (aD 4) (v1 (kU fun i=>.int (-i)) (vC (.int 1))))) (vC (.int 0))))) (aR (sIf (bA (v2 aJt (aD 2) (aD 3))) (aR (aY 6 (xOf (vSl (aD 4) (sF (v2 aIr (aD 3) (aD 2))) kQ))) (aR (aG6 6) (jN 6))) bJ) (aR (uI 3 (aD 2) (vCB eN (aE (aD 4) aL))) (vB 5 (fun i j=>i - j) (vC (.int 1)))))))
theorem aB7 (h:OkM n kd es) (d:DR es n Ds) {v:Nat} {x:Int×Option Nat} (hv:pt (dr Ds n) v=some x):qU nX [dM n kd es,.lst false (QD Ds),.int (v:Int)]
  (fun z=>∃i j,j<i/\i<=n/\pb es Ds n v i=pb es Ds n v j/\z=.lst true (NN ((bk es Ds n v i).drop j).reverse)):=by
 have hn1:=h.n1
 have hn2:=h.n2
 refine eJ ?_
 have el:((Ds.length:Int) - 1)=(n:Int):=by rw [d.len];omega
 simp -implicitDefEqProofs [sQ,entry,el]
 show out (bZ (fL (vC (.bl true))) lH fuel _) _ _
 refine qL (P':=fun _=>False) (lB (fun m ρ=>∃i t,m+i=n/\np t/\(∀a b,a<b->b<=i->pb es Ds n v b ≠ pb es Ds n v a) /\
   ρ=[.val (dM n kd es),.val (.lst false (QD Ds)),.val (.int (pb es Ds n v i:Int)),.val (.ext true (.dK (kv (pb es Ds n v) (i+1)))),.val (.lst true (NN (bk es Ds n v i))),.val (.int ((n - i:Nat):Int)),t]) ?_ 1000 n _
   ⟨0,_,by omega,bQ,(fun a b h1 h2=>by omega),rfl⟩ (by omega)) (fun _ z=>z.elim) (fun _ z=>z)
 rintro m ρ ⟨i,t,hm,ht,hd,rfl⟩
 have hi:i<n:=by
  have nd:((List.range (i+1)).map (pb es Ds n v)).Nodup:=by
   refine List.pairwise_map.mpr (List.Pairwise.imp_of_mem (R:=(· < ·)) (fun {a b} ha hb' hlt z=>hd a b hlt ?_ z.symm) List.pairwise_lt_range)
   have:=List.mem_range.mp hb';omega
  have:=nV n _ nd fun x hx=>by
   obtain ⟨k,hk,rfl⟩:=List.mem_map.mp hx
   exact d.aS6 hv (by have:=List.mem_range.mp hk;omega)
  simp at this
  omega
 refine .inr ⟨by simp [cI,eV],m - 1,by omega,?_⟩
 obtain ⟨l,e⟩:=d.back hv i (by omega)
 obtain ⟨s1,s2,s3,c',l',s4,s5⟩:=d.step hi e
 have p1:=aD6 (o:=false) (Ds:=Ds) (k:=n - i) (b:=false) (c:=false) (by rw [d.len];omega)
 have p2:=aBb (o:=false) (R:=dr Ds (n - i)) (v:=pb es Ds n v i) (b:=false) (c:=false) (by rw [d.ln (by omega)];exact d.aS6 hv (by omega))
 rw [e,s1] at p2
 have p3:∀b c,kIx (pD (some (cv es Ds n v i,some (ld Ds (n - i) (pb es Ds n v i)))),b) (.int 1,c)=.ok (.int (ld Ds (n - i) (pb es Ds n v i):Int),b):=fun b c=>by simp [pD,oD,aJh]
 have bl:(bk es Ds n v i).length<1000000:=by rw [lN];omega
 have eb:NN (bk es Ds n v i) ++ [.int (ld Ds (n - i) (pb es Ds n v i):Int)]=NN (bk es Ds n v (i+1)):=by rw [aAe];simp [NN]
 have lb:∀b c,kIx (.lst true (NN (bk es Ds n v (i+1))),b) (.int (-1),c)=.ok (nI (ld Ds (n - i) (pb es Ds n v i)),b):=fun b c=>tK (by rw [aAe];simp)
 have m1:=iA (es:=es) (b:=false) (c:=false) s2
 have ea:(ed es (ld Ds (n - i) (pb es Ds n v i))).a=pb es Ds n v (i+1):=rfl
 rcases aKj (f:=pb es Ds n v) (p:=pb es Ds n v (i+1)) (i+1) with ⟨j,h1,h2,h3⟩ | ⟨h1,h2,h3⟩
 ·simp -implicitDefEqProofs only [lH,cB,aH3,oT,mE,iB,bX,p1,p2,p3,nN,gX,aDs,aEm,Option.bind,aFa,uX,mZ,bl,decide_true,Bool.and_self,if_true,eb,uQ,aI2,aFh,bP,oZ,aHe,aO4,aO8,lb,nI,m1,E_0,ea,Bool.or_true,iY,fQ aO,List.set,sI,mQ,aEb,h3,Option.isSome,aEr,
   aPh,aMg,aMe,aJ4,aU5,aIk,aSd (show j<=(bk es Ds n v (i+1)).length by rw [lN];omega),Bool.true_or,fQ ht,Bool.and_true,aP0,aNt (show ((bk es Ds n v (i+1)).drop j).length<1000000 by rw [List.length_drop,lN];omega),aFg,aBr,jS]
  simp -implicitDefEqProofs
  exact ⟨i+1,j,by omega,by omega,h2.symm,rfl⟩
 ·have kl:(kv (pb es Ds n v) (i+1)).length<1000000:=by simp [kv];omega
  have kp:aBi (kv (pb es Ds n v) (i+1)) (.inl (pb es Ds n v (i+1):Int)) ((i+1:Nat):Int)=kv (pb es Ds n v) (i+1+1):=by
   unfold aBi
   rw [h3,if_neg (by simp),<- rG]
  have lb':((NN (bk es Ds n v (i+1))).length:Int)=((i+1:Nat):Int):=by rw [uQ,lN]
  have es':((n - i:Nat):Int) - 1=((n - (i+1):Nat):Int):=by omega
  simp -implicitDefEqProofs only [lH,cB,aH3,oT,mE,iB,bX,p1,p2,p3,nN,gX,aDs,aEm,Option.bind,aFa,uX,mZ,bl,decide_true,Bool.and_self,if_true,eb,uQ,aI2,aFh,bP,oZ,aHe,aO4,aO8,lb,nI,m1,E_0,ea,Bool.or_true,iY,fQ aO,List.set,sI,mQ,aEb,h2,Option.isSome,aBm,
   nC,aLe,aAo,jI,lO,aKl,lN,(show i<1000000 by omega),kl,kp,aPl,es',nZ]
  refine ⟨i+1,t,by omega,ht,fun a b hab hb=>?_,rfl⟩
  rcases Nat.lt_or_ge b (i+1) with q | q
  ·exact hd a b hab (by omega)
  ·have:b=i+1:=by omega
   subst this
   exact fun z=>h1 a (by omega) z.symm
theorem mG (h:OkM n kd es) {ring:T0} (hr:∀x∈ring,x<es.length) (hl:ring.length<=1000000):Ret fF [dM n kd es,.lst false (NN ring)] (.int (cs es ring)):=by
 refine nL ?_
 have ec:bS (gK (aD 1)) 1 [0] (bH 0) bV (v2 kIx (v2 kIx (v2 kIx (aD 1) (vC (.int 2))) (aD 0)) (vC (.int 3))) [.val (dM n kd es),.val (.lst false (NN ring))]=.ok (.lst true (I (ring.map fun x=>(ed es x).c)),true):=by
  rw [gJ [.val (dM n kd es)] ring nI (fun x=>D.int (ed es x).c) (fun _=>false) (by simp;rfl) hl (by simp [jQ]) ?_ (.inr fun _ _=>rfl)]
  ·simp [I]
  ·intro x hx
   refine ⟨?_,rfl⟩
   simp -implicitDefEqProofs [nI,iA (hr x hx)]
 have es:aG1 [(.lst true (I (ring.map fun x=>(ed es x).c)),true)]=.ok (.int (cs es ring),true):=by
  show (match eD (I _) with | some ns=>R.ok (D.int ns.sum,true) | none=>.bad)=_
  rw [zV];rfl
 simp -implicitDefEqProofs [mH,entry,ec,es]
structure RG (es:List E) (n:Nat) (ring:T0) (p q:Int):Prop where
 nil:ring=[]->p=0/\q=1
 so:ring ≠ []->p=cs es ring/\q=ring.length/\∃u,Reach es u/\Lk es u ring u
 len:ring.length<=n
 kp:∀u r,Reach es u->Lk es u r u->q * cs es r<=p * r.length
theorem vE (h:OkM n kd es):qU jL [dM n kd es] (fun z=>∃ring p q,z=.lst true (NN ring)/\RG es n ring p q):=by
 have hn1:=h.n1
 have hn2:=h.n2
 refine eJ ?_
 obtain ⟨z1,hz1,Ds,rfl,d⟩:=vS h
 obtain ⟨z2,hz2,o,r,rfl,B⟩:=tD h d
 cases o with
 | none =>
  simp -implicitDefEqProofs [iX,entry,aP hz1,aP hz2,oD,dQ]
  refine ⟨[],rfl,0,1,fun _=>⟨rfl,rfl⟩,fun z=>absurd rfl z,by simp,fun u r' hu hr=>?_⟩
  refine d.flat (by decide) hn1 h.c (fun w c l e=>?_) hu hr
  obtain ⟨y,x,_,hx,_⟩:=B.all w (by have:=aJc e;rwa [d.ln (Nat.le_refl _)] at this) (by rw [e];simp)
  rw [B.no rfl] at hx;cases hx
 | some b =>
  obtain ⟨hb,x,hr,L⟩:=B.so b rfl
  obtain ⟨c0,l0,e0,M0⟩:=L.c
  obtain ⟨z3,hz3,i,j,i1,i2,i3,rfl⟩:=aB7 h d e0
  obtain ⟨c1,l1,k1,k2⟩:=d.cut e0 i1 i2 i3
  obtain ⟨g1,g2⟩:=d.seg e0 (j:=j) i (by omega) i2
  rw [i3] at g1
  have hlen:((bk es Ds n b i).drop j).reverse.length=i - j:=by rw [List.length_reverse,List.length_drop,lN]
  have hre:Reach es (pb es Ds n b j):=by
   obtain ⟨l,e⟩:=d.back e0 j (by omega)
   obtain ⟨row,r1,_⟩:=d.walk (by omega) e
   exact r1.reach .zero
  obtain ⟨x',hx',h4⟩:=M0.all (n - (i - j)) c1 l1 (by omega) k1
  cases hx'
  generalize eC:cs es ((bk es Ds n b i).drop j)=C at *
  have h5:x.1 * ((i - j:Nat):Int)<=C * x.2:=by
   have e1:(n:Int) - ((n - (i - j):Nat):Int)=((i - j:Nat):Int):=by omega
   rw [e1] at h4
   have k2:c0 - C<=c1:=k2
   have:(c0 - c1) * x.2<=C * x.2:=Int.mul_le_mul_of_nonneg_right (by omega) (by have:=L.pos;omega)
   omega
  simp -implicitDefEqProofs [iX,entry,aP hz1,aP hz2,oD,dQ,aP hz3]
  refine ⟨_,rfl,C,((i - j:Nat):Int),⟨fun z=>?_,fun _=>⟨by rw [aCw,eC],by rw [hlen],_,hre,g1⟩,by rw [hlen];omega,fun u r' hu hr'=>?_⟩⟩
  ·rw [z] at hlen;simp at hlen;omega
  ·refine d.flat (by omega) hn1 h.c (fun w c l e=>?_) hu hr'
   obtain ⟨y,x2,w1,w2,w3⟩:=B.all w (by have:=aJc e;rwa [d.ln (Nat.le_refl _)] at this) (by rw [e];simp)
   rw [hr] at w2;cases w2
   obtain ⟨c2,l2,v1,V⟩:=w1.c
   rw [e] at v1;cases v1
   obtain ⟨k,c',l',q1,q2,q3⟩:=V.at_ y rfl
   refine ⟨k,c',l',q1,q2,?_⟩
   rw [q3] at w3
   have:=ftr (a:=c - c') (b:=(n:Int) - k) (c:=x.1) (d:=x.2) (e:=C) (f:=((i - j:Nat):Int)) w3 h5 L.pos (by omega) (by omega)
   rw [Int.mul_comm];exact this
end
end VL.QQ
end
section
namespace VL.QQ
open VL PySem L2 PY K10 K11 K20
section
variable {es:List E} {n kd:Nat}
structure PU (es:List E) (n:Nat) (p q:Int) (M:Y0):Prop where
 len:M.length=n
 nn:∀v,0<=gt M v
 zz:∀v,¬ Reach es v->gt M v=0
 rel:∀e∈es,Reach es e.a->q * e.c - p+gt M e.b<=gt M e.a
 bd:∀v,gt M v<=1000000
def gz (es:List E) (p q:Int):Y0:=es.map fun e=>e.c * q - p
theorem aOm {p q:Int} {k:Nat} (h:k<es.length):gt (gz es p q) k=(ed es k).c * q - p:=by
 unfold gt gz
 rw [List.getD_eq_getElem?_getD,List.getElem?_map,lZ h];rfl
theorem aIn {p q:Int}:∀ {row:T0},(∀x∈row,x<es.length)->(row.map (gt (gz es p q))).sum=ph es p q row
 | [],_=>by simp [ph,cs]
 | d::row,h=>by
  have:=aIn (p:=p) (q:=q) (row:=row) fun x hx=>h x (List.mem_cons_of_mem _ hx)
  rw [List.map_cons,List.sum_cons,this,aOm (h d List.mem_cons_self)]
  unfold ph
  rw [aAk,List.length_cons,Int.mul_add,Int.natCast_add,Int.mul_add,Int.mul_comm (ed es d).c q]
  simp;omega
theorem aVe (h:OkM n kd es) {p q:Int} (hq:0<q) (hq2:q<=20) (hp:0<=p) (hp2:p<=20000) (kp:∀u r,Reach es u->Lk es u r u->q * cs es r<=p * r.length)
  {most:Y0} {ow:Y4} {raised:Option Nat} {num:T0} {L rk:Nat->Nat} {cnt r:Nat} (M:MG2 n es (gz es p q) most ow raised num L rk cnt r):PU es n p q most:=by
 have B:=M.bf
 have hnl:∀d∈num,d<es.length:=fun d hd=>((M.nm d).mp hd).1
 have hbn:∀d∈num,(ed es d).b<n:=fun d hd=>h.b _ (lU (hnl d hd))
 have hra:raised=none:=by
  cases raised with
  | none=>rfl
  | some v =>
   exfalso
   obtain ⟨hv,hrn,hL⟩:=M.so v rfl
   have B':BF es (gz es p q) num n n most ow L rk cnt:=hrn ▸ B.toBF
   obtain ⟨hne,k,hk1,hk2,hk3⟩:=aM7 hbn B' hv hL
   have hne':∀i,og ow (ch es ow (ch es ow v n) i) ≠ none:=fun i=>by rw [<- vK];exact hne _
   have hcl:ch es ow (ch es ow v n) k=ch es ow v n:=by rw [<- vK];exact hk3
   have hgain:=aGw B.toBF hk1 (fun i _=>hne' i) hcl
   have hlk:=aOx hnl B.toBF k fun i _=>hne' i
   rw [hcl] at hlk
   have hur:Reach es (ch es ow v n):=by
    cases e:og ow (ch es ow v n) with
    | none=>exact absurd e (hne n)
    | some d =>
     obtain ⟨o1,o2,_⟩:=B.on _ d e
     have:=((M.nm d).mp o1).2
     rw [o2] at this;exact this
   rw [aIn hlk.lt] at hgain
   have:=kp _ _ hur hlk
   unfold ph at hgain
   omega
 have hrel:=M.no hra
 have hc:∀e∈es,0<=e.c * q/\e.c * q<=20000:=fun e he=>by
  have h1:=h.c e he
  have h2:e.c * q<=1000 * q:=Int.mul_le_mul_of_nonneg_right h1.2 (by omega)
  exact ⟨Int.mul_nonneg h1.1 (by omega),by omega⟩
 have sm:Sm 40000 (gz es p q):=fun x hx=>by
  obtain ⟨e,he,rfl⟩:=List.mem_map.mp hx
  have:=hc e he
  omega
 refine ⟨B.lm,B.nn,fun v hv=>B.zz v ?_,fun e he hr=>?_,fun v=>?_⟩
 ·cases e:og ow v with
  | none=>rfl
  | some d =>
   obtain ⟨o1,o2,_⟩:=B.on _ d e
   have:=((M.nm d).mp o1).2
   rw [o2] at this;exact absurd this hv
 ·obtain ⟨k,hk,hke⟩:=List.getElem_of_mem he
  have ee:ed es k=e:=by
   have:=lZ hk
   rw [List.getElem?_eq_getElem hk,hke] at this
   exact (Option.some.inj this).symm
  have:=hrel k ((M.nm k).mpr ⟨hk,by rw [ee];exact hr⟩)
  unfold Rel at this
  rw [aOm hk,ee,Int.mul_comm] at this
  exact this
 ·rcases Nat.lt_or_ge v n with hv | hv
  ·obtain ⟨k,hk,he,hne⟩:=aJx hbn B hrel hv
   have:=aD4 B hrel k hne
   rw [this,B.zz _ he]
   have hs:Sm 40000 ((dl es ow v k).map (gt (gz es p q))):=fun x hx=>by
    obtain ⟨d,_,rfl⟩:=List.mem_map.mp hx
    exact aTz (by decide) sm d
   have:=(aKh (by decide) _ hs).2
   rw [List.length_map] at this
   have hl:(dl es ow v k).length=k:=by simp [dl]
   rw [hl] at this
   have:=h.n2
   omega
  ·have:gt most v=0:=by unfold gt;rw [List.getD_eq_getElem?_getD,List.getElem?_eq_none (by rw [B.lm];exact hv)];rfl
   omega
def pf (q:Int) (M:Y0):List Fr:=M.map fun m=>fr m q
theorem sL (h:OkM n kd es) {p q:Int} (hq:0<q) (hq2:q<=20) (hp:0<=p) (hp2:p<=20000) (kp:∀u r,Reach es u->Lk es u r u->q * cs es r<=p * r.length) :
  qU kB [dM n kd es,fD (p,q)] (fun d=>∃M,d=.lst true (FF (pf q M))/\PU es n p q M):=by
 have hn2:=h.n2
 have hls:=h.ls
 refine eJ ?_
 have hgl:(gz es p q).length=es.length:=by simp [gz]
 obtain ⟨z,hz,most,ow,raised,num,L,rk,cnt,r,rfl,M⟩:=wH (gs:=gz es p q) h hgl
 have P:=aVe h hq hq2 hp hp2 kp M
 have f1:fits q=true:=fit (A:=20) (by omega)
 have e1:bS (gK (v2 kIx (aD 0) (vC (.int 2)))) 1 [1] (bH 0) bV (v2 sW (v2 bT (v2 kIx (aD 0) (vC (.int 3))) (v2 kIx (aD 1) (vC (.int 1)))) (v2 kIx (aD 1) (vC (.int 0)))) [.val (dM n kd es),.val (fD (p,q)),.un]=.ok (.lst true (I (gz es p q)),true):=by
  rw [gJ [.val (fD (p,q))] es E.d (fun e=>D.int (e.c * q - p)) (fun _=>true) (by simp;rfl) (by omega) (by simp [jQ]) ?_ (.inr fun _ _=>rfl)]
  ·simp [I,gz]
  ·intro e he
   have h1:=h.c e he
   refine ⟨?_,rfl⟩
   simp -implicitDefEqProofs [f1,fit (x:=e.c) (A:=1000) (by omega)]
 have e2:bS (gK (v2 kIx (bD iK (aE (aD 0) (aE (aD 2) aL))) (vC (.int 0)))) 1 [1] (bH 0) bV (bD eO (aE (aD 0) (aE (v2 kIx (aD 1) (vC (.int 1))) aL))) [.val (dM n kd es),.val (fD (p,q)),.val (.lst false (I (gz es p q)))]=.ok (.lst true (FF (pf q most)),true):=by
  rw [gJ [.val (fD (p,q))] most D.int (fun m=>fD (fr m q)) (fun _=>true) (by simp [aP hz,tE];rfl) (by rw [P.len];omega) (by simp [jQ]) ?_ (.inl (by simp [lY]))]
  ·simp [FF,pf]
  ·intro m hm
   refine ⟨?_,rfl⟩
   simp -implicitDefEqProofs [aP (zA (a:=m) (b:=q) (by omega) (by omega))]
 simp -implicitDefEqProofs [sO,entry,e1,e2]
 exact ⟨most,rfl,P⟩
structure LP (es:List E) (n:Nat) (pr:Fr) (ring:T0) (M:Y0):Prop where
 gd:Gd pr
 p0:0<=pr.1
 pb:pr.1<=20000
 qb:pr.2<=20
 nil:ring=[]->pr=(0,1)
 so:ring ≠ []->pr=fr (cs es ring) ring.length/\∃u,Reach es u/\Lk es u ring u
 len:ring.length<=n
 pu:PU es n pr.1 pr.2 M
theorem wK (h:OkM n kd es):qU gQ [dM n kd es] (fun d=>∃pr ring M,d=.tup [fD pr,.lst false (NN ring),.lst false (FF (pf pr.2 M))]/\LP es n pr ring M):=by
 have hn1:=h.n1
 have hn2:=h.n2
 refine eJ ?_
 obtain ⟨z,hz,ring,p,q,rfl,G⟩:=vE h
 have hlen:=G.len
 by_cases hr:ring=[]
 ·obtain ⟨rfl,rfl⟩:=G.nil hr
  obtain ⟨y,hy,M,rfl,P⟩:=sL h (p:=0) (q:=1) (by decide) (by decide) (by decide) (by decide) G.kp
  have hr0:ring.length=0:=by rw [hr];rfl
  have hy':Ret kB [dM n kd es,.tup [.int 0,.int 1]] (.lst true (FF (pf 1 M))):=hy
  simp -implicitDefEqProofs [kE,entry,jV (jA h),aP hz,hr0,aP hy']
  exact ⟨0,1,ring,M,⟨rfl,rfl,rfl⟩,⟨by decide,by decide⟩,by decide,by decide,by decide,fun _=>rfl,fun z=>absurd hr z,hlen,P⟩
 ·obtain ⟨hp,hq,u,hu,hl⟩:=G.so hr
  subst hp;subst hq
  have hpos:0<ring.length:=List.length_pos_iff.mpr hr
  have hpi:(0:Int)<(ring.length:Int):=by omega
  have hc:=xT h.c hl.lt
  have hx:=aHu (a:=cs es ring) hpi
  have g:=tW (a:=cs es ring) hpi
  have hle:=aEk (a:=cs es ring) hpi
  have hna:=aFi (a:=cs es ring) (b:=ring.length)
  have hnn:=aJq (b:=ring.length) hc.1
  have gp:=g.p
  have rf:=zA (a:=cs es ring) (b:=ring.length) (by omega) (by omega)
  generalize efr:fr (cs es ring) ring.length=pr at *
  obtain ⟨p,q⟩:=pr
  dsimp only at *
  obtain ⟨y,hy,M,rfl,P⟩:=sL h (p:=p) (q:=q) gp (by omega) hnn (by omega) (fun u r hu hr=>by
   have:=ftr (a:=cs es r) (b:=r.length) (c:=cs es ring) (d:=ring.length) (e:=p) (f:=q) (by rw [Int.mul_comm];exact G.kp u r hu hr) (by omega) hpi (by omega) (by omega)
   rw [Int.mul_comm];exact this)
  simp -implicitDefEqProofs [kE,entry,jV (jA h),aP hz,hpos,aP (mG h hl.lt (by omega)),aP rf,aP hy]
  exact ⟨p,q,ring,M,⟨rfl,rfl,rfl⟩,g,hnn,by show p<=_;omega,by show q<=_;omega,fun z=>absurd z hr,fun _=>⟨efr.symm,u,hu,hl⟩,hlen,P⟩
end
end VL.QQ
end
section
namespace VL.QQ
open VL PySem L2 PY K10 K11 K20
@[simp] theorem aTs {n:Bool} {x y:Fr} {b c:Bool}:kEq n (fD x,b) (fD y,c)=.ok (.bl (if n then !decide (x=y) else decide (x=y)),true):=by
 unfold kEq
 have:uW (fD x) (fD y)=true:=rfl
 rw [if_pos this]
 have e:eqD (fD x) (fD y)=decide (x=y):=by
  show ((x.1 == y.1) && ((x.2 == y.2) && true))=_
  rw [Bool.eq_iff_iff]
  simp [Prod.ext_iff]
 show R.ok (D.bl (if n then !eqD (fD x) (fD y) else eqD (fD x) (fD y)),true)=_
 rw [e]
def ft (xs:List Fr) (v:Nat):Fr:=xs.getD v (0,1)
theorem aFm {o:Bool} {xs:List Fr} {v:Nat} {b c:Bool} (h:v<xs.length):kIx (.lst o (FF xs),b) (.int (v:Int),c)=.ok (fD (ft xs v),b):=by
 simp [dF,FF,ft,List.getElem?_eq_getElem h]
theorem aDm {xs:List Fr} {v:Nat} (h:v<xs.length):ft xs v∈xs:=by
 unfold ft;rw [List.getD_eq_getElem?_getD,List.getElem?_eq_getElem h];exact List.getElem_mem _
theorem aSt {a b c d:Int} (hb:0<b) (hd:0<d):(fr a b).1 * (fr c d).2<=(fr c d).1 * (fr a b).2 ↔ a * d<=c * b:=by
 have x1:=aHu (a:=a) hb
 have x2:=aHu (a:=c) hd
 have g1:=(tW (a:=a) hb).p
 have g2:=(tW (a:=c) hd).p
 generalize fr a b=s at *
 generalize fr c d=t at *
 constructor
 ·intro h
  have h1:=ftr (a:=a) (b:=b) (c:=s.1) (d:=s.2) (e:=t.1) (f:=t.2) (by omega) h g1 (by omega) (by omega)
  exact ftr (a:=a) (b:=b) (c:=t.1) (d:=t.2) (e:=c) (f:=d) h1 (by omega) g2 (by omega) (by omega)
 ·intro h
  have h1:=ftr (a:=s.1) (b:=s.2) (c:=a) (d:=b) (e:=c) (f:=d) (by omega) h hb (by omega) (by omega)
  exact ftr (a:=s.1) (b:=s.2) (c:=c) (d:=d) (e:=t.1) (f:=t.2) h1 (by omega) hd (by omega) (by omega)
theorem aSf {a b c d:Int} (hb:0<b) (hd:0<d):decide ((fr a b).1 * (fr c d).2<(fr c d).1 * (fr a b).2)=decide (a * d<c * b):=by
 have:=aSt (a:=c) (b:=d) (c:=a) (d:=b) hd hb
 rw [decide_eq_decide]
 constructor
 ·intro h
  refine Classical.byContradiction fun q=>?_
  have:=this.mpr (by omega)
  omega
 ·intro h
  refine Classical.byContradiction fun q=>?_
  have:=this.mp (by omega)
  omega
def paid (pr xa xb:Fr) (c:Int):Bool:=!decide ((xa.1 * pr.2+pr.1 * xa.2) * xb.2<(c * xb.2+xb.1) * pr.2 * xa.2)
noncomputable
def ipB (es:List E) (n:Nat) (pr:Fr) (xs:List Fr):Bool:=decide (xs.length=n) && ((xs.all fun x=>decide (0<=x.1)) && es.all fun e=>!(rB es e.a) || paid pr (ft xs e.a) (ft xs e.b) e.c)
structure Ok1 (x:Fr) (A:Nat):Prop where
 g:Gd x
 t:x.1.natAbs<=A
 b:x.2<=20
section
variable {es:List E} {n kd:Nat}
theorem aGz (h:OkM n kd es) {f:Nat->Bool} (hf:∀p,p<n->f p=rB es p) {pr:Fr} (hp:Ok1 pr 20000) {xs:List Fr} (hx:∀x∈xs,Ok1 x 2000000) :
  Ret rR [dM n kd es,.lst false (BB n f),fD pr,.lst false (FF xs)] (.bl (ipB es n pr xs)):=by
 refine nL ?_
 have hq:=hp.g.p
 have hqb:=hp.b
 have hpt:=hp.t
 have ra:=qA (xs:=xs) fun x q=>⟨(hx x q).g,by have:=(hx x q).b;have:=(hx x q).g.p;omega⟩
 by_cases hl:xs.length=n
 ·have hl':(xs.length:Int)=(n:Int):=by omega
  by_cases ha:(xs.all fun x=>decide (0<=x.1))=true
  ·rw [ha] at ra
   have eip:ipB es n pr xs=es.all fun e=>!(rB es e.a) || paid pr (ft xs e.a) (ft xs e.b) e.c:=by unfold ipB;rw [ha,decide_eq_true hl];rfl
   rw [eip]
   simp -implicitDefEqProofs [oM,entry,nI,hl',aP ra,cI,eV]
   refine bL (dH (fun pre ρ=>(pre.all fun e=>!(rB es e.a) || paid pr (ft xs e.a) (ft xs e.b) e.c)=true/\∃t4 t5,np t4/\np t5/\ρ=[.val (dM n kd es),.val (.lst false (BB n f)),.val (fD pr),.val (.lst false (FF xs)),t4,t5]) es ⟨rfl,_,_,bQ,bQ,rfl⟩ ?_) ?_
   ·rintro pre e post ρ ee ⟨hpre,t4,t5,h4,h5,rfl⟩
    have he:e∈es:=by rw [ee];simp
    have a1:=aI7 (o:=false) (n:=n) (f:=f) (b:=false) (c:=false) (h.a e he)
    rw [hf _ (h.a e he)] at a1
    have fin:∀t4 t5,np t4->np t5->(!(rB es e.a) || paid pr (ft xs e.a) (ft xs e.b) e.c)=true->(((pre ++ [e]).all fun e=>!(rB es e.a) || paid pr (ft xs e.a) (ft xs e.b) e.c)=true/\∃s4 s5,np s4/\np s5/\[Slot.val (dM n kd es),.val (.lst false (BB n f)),.val (fD pr),.val (.lst false (FF xs)),t4,t5]=[.val (dM n kd es),.val (.lst false (BB n f)),.val (fD pr),.val (.lst false (FF xs)),s4,s5]):=by
     intro t4 t5 n4 n5 hh
     exact ⟨by rw [List.all_append,hpre];simpa using hh,t4,t5,n4,n5,rfl⟩
    cases hr:rB es e.a with
    | false =>
     rw [hr] at a1
     have:=fin (.val e.d) t5 aO h5 (by rw [hr];rfl)
     simp -implicitDefEqProofs only [jD,iY,fQ h4,if_true,jH,List.set,sI,aAm,oT,mE,iB,bX,nN,E_0,a1,cI,eV,aBm,nC,nZ]
     exact this
    | true =>
     rw [hr] at a1
     have la:e.a<xs.length:=by rw [hl];exact h.a e he
     have lb:e.b<xs.length:=by rw [hl];exact h.b e he
     have x1:=aFm (o:=false) (xs:=xs) (b:=false) (c:=false) la
     have x2:=aFm (o:=false) (xs:=xs) (b:=false) (c:=false) lb
     have oa:=hx _ (aDm la)
     have ob:=hx _ (aDm lb)
     have hc:=h.c e he
     have pa:=oa.g.p
     have pb:=ob.g.p
     have oat:=oa.t
     have obt:=ob.t
     have oab:=oa.b
     have obb:=ob.b
     have paideq:paid pr (ft xs e.a) (ft xs e.b) e.c = !decide ((fr ((ft xs e.a).1 * pr.2+pr.1 * (ft xs e.a).2) ((ft xs e.a).2 * pr.2)).1 * (fr ((ft xs e.b).1 * 1+e.c * (ft xs e.b).2) ((ft xs e.b).2 * 1)).2<(fr ((ft xs e.b).1 * 1+e.c * (ft xs e.b).2) ((ft xs e.b).2 * 1)).1 * (fr ((ft xs e.a).1 * pr.2+pr.1 * (ft xs e.a).2) ((ft xs e.a).2 * pr.2)).2):=by
      rw [aSf (Int.mul_pos pa hq) (by omega)]
      unfold paid
      have e1:((ft xs e.b).1 * 1+e.c * (ft xs e.b).2) * ((ft xs e.a).2 * pr.2)=(e.c * (ft xs e.b).2+(ft xs e.b).1) * pr.2 * (ft xs e.a).2:=by
       rw [Int.mul_one,Int.add_comm,Int.mul_comm (ft xs e.a).2 pr.2,Int.mul_assoc]
      rw [e1,Int.mul_one]
     rw [paideq,hr] at fin
     have p1:=aJg (x:=ft xs e.b) (y:=(e.c,1)) (A:=2000000) (B:=20) ⟨obt,by omega⟩ ⟨by show e.c.natAbs<=_;omega,by show (1:Int).natAbs<=20;decide⟩ (by decide) (by decide) pb (by show (0:Int)<1;decide)
     have p2:=aJg (x:=ft xs e.a) (y:=pr) (A:=2000000) (B:=20) ⟨oat,by omega⟩ ⟨by omega,by omega⟩ (by decide) (by decide) pa hq
     have p1:Ret vX [fD (ft xs e.b),.tup [.int e.c,.int 1]] (fD (fr ((ft xs e.b).1 * 1+e.c * (ft xs e.b).2) ((ft xs e.b).2 * 1))):=p1
     have bd1:Bd (fr ((ft xs e.b).1 * 1+e.c * (ft xs e.b).2) ((ft xs e.b).2 * 1)) 100000000 1000:=by
      refine ⟨Nat.le_trans aFi ?_,?_⟩
      ·have:=aAd (kJ obt (show (1:Int).natAbs<=1 by decide)) (kJ (show e.c.natAbs<=1000 by omega) (show (ft xs e.b).2.natAbs<=20 by omega))
       omega
      ·have g:=(tW (a:=(ft xs e.b).1 * 1+e.c * (ft xs e.b).2) (b:=(ft xs e.b).2 * 1) (by omega)).p
       have:=aEk (a:=(ft xs e.b).1 * 1+e.c * (ft xs e.b).2) (b:=(ft xs e.b).2 * 1) (by omega)
       omega
     have bd2:Bd (fr ((ft xs e.a).1 * pr.2+pr.1 * (ft xs e.a).2) ((ft xs e.a).2 * pr.2)) 100000000 1000:=by
      have hpos:=Int.mul_pos pa hq
      refine ⟨Nat.le_trans aFi ?_,?_⟩
      ·have:=aAd (kJ oat (show pr.2.natAbs<=20 by omega)) (kJ hpt (show (ft xs e.a).2.natAbs<=20 by omega))
       omega
      ·have g:=(tW (a:=(ft xs e.a).1 * pr.2+pr.1 * (ft xs e.a).2) hpos).p
       have:=aEk (a:=(ft xs e.a).1 * pr.2+pr.1 * (ft xs e.a).2) hpos
       have:=kJ (show (ft xs e.a).2.natAbs<=20 by omega) (show pr.2.natAbs<=20 by omega)
       omega
     have rl:=rT bd2 bd1 (by decide) (by decide)
     generalize fr ((ft xs e.b).1 * 1+e.c * (ft xs e.b).2) ((ft xs e.b).2 * 1)=T at *
     generalize fr ((ft xs e.a).1 * pr.2+pr.1 * (ft xs e.a).2) ((ft xs e.a).2 * pr.2)=S at *
     by_cases hlt:S.1 * T.2<T.1 * S.2
     ·rw [decide_eq_true hlt] at rl
      have bad:(es.all fun e=>!(rB es e.a) || paid pr (ft xs e.a) (ft xs e.b) e.c)=false:=by
       rw [<- Bool.not_eq_true,List.all_eq_true]
       intro z
       have:=z e he
       rw [hr,paideq,decide_eq_true hlt] at this
       cases this
      simp -implicitDefEqProofs only [jD,iY,fQ h4,fQ h5,if_true,jH,List.set,sI,aAm,oT,mE,iB,bX,nN,E_0,E_2,E_3,a1,cI,eV,aEr,cB,oZ,aBl,jI,lO,zU,x1,x2,List.all,uX,aIq,mZ,tJ,Bool.and_self,Bool.and_true,List.length,List.map,oG,wD,aEq,zH,aKe,aP p1,aP p2,gX,Bool.true_or,bP,aP rl,pF,jS,bad,decide_true,Nat.reduceAdd,Nat.reduceLeDiff]
     ·rw [decide_eq_false hlt] at rl fin
      have:=fin (.val e.d) (.val (fD T)) aO aO (by rfl)
      simp -implicitDefEqProofs only [jD,iY,fQ h4,fQ h5,if_true,jH,List.set,sI,aAm,oT,mE,iB,bX,nN,E_0,E_2,E_3,a1,cI,eV,aEr,aBm,nC,nZ,cB,oZ,aBl,jI,lO,zU,x1,x2,List.all,uX,aIq,mZ,tJ,Bool.and_self,Bool.and_true,List.length,List.map,oG,wD,aEq,zH,aKe,aP p1,aP p2,gX,Bool.true_or,bP,aP rl,pF,jS,decide_true,Nat.reduceAdd,Nat.reduceLeDiff]
      exact this
   ·rintro ρ ⟨hpre,t4,t5,h4,h5,rfl⟩
    simp -implicitDefEqProofs only [pF,nN,gX,Bool.true_or,if_true,jS,hpre]
  ·have ha':(xs.all fun x=>decide (0<=x.1))=false:=by simpa using ha
   rw [ha'] at ra
   have eip:ipB es n pr xs=false:=by unfold ipB;rw [ha'];simp
   rw [eip]
   simp -implicitDefEqProofs [oM,entry,nI,hl',aP ra,cI,eV]
 ·have hl':¬ (xs.length:Int)=(n:Int):=by omega
  have eip:ipB es n pr xs=false:=by unfold ipB;rw [decide_eq_false hl];rfl
  rw [eip]
  simp -implicitDefEqProofs [oM,entry,nI,hl',cI,eV]
end
end VL.QQ
end
section
namespace VL.QQ
open VL PySem L2 PY K10 K11 K20
def inB (es:List E) (zs:Y0):Bool:=zs.all fun z=>decide (0<=z) && decide (z<=(es.length:Int) - 1)
def rgN (zs:Y0):T0:=zs.map Int.toNat
def chB (es:List E):Nat->T0->Bool
 | _,[]=>true
 | u,x::r=>decide ((ed es x).a=u) && chB es (ed es x).b r
def lst (ring:T0):Nat:=ring.getLastD 0
noncomputable
def ldB (es:List E) (zs:Y0):Bool:=inB es zs && (rB es (ed es (lst (rgN zs))).b && chB es (ed es (lst (rgN zs))).b (rgN zs))
noncomputable
def rsB (es:List E) (pr:Fr) (zs:Y0):Bool:=if zs=[] then decide (pr=(0,1)) else ldB es zs && decide (pr=fr (cs es (rgN zs)) zs.length)
section
variable {es:List E} {n kd:Nat}
theorem aIv:∀ {zs:Y0},inB es zs=true->I zs=NN (rgN zs)/\∀x∈rgN zs,x<es.length
 | [],_=>⟨rfl,by simp [rgN]⟩
 | z::zs,h=>by
  unfold inB at h
  rw [List.all_cons,Bool.and_eq_true,Bool.and_eq_true,decide_eq_true_eq,decide_eq_true_eq] at h
  obtain ⟨h1,h2⟩:=aIv (zs:=zs) h.2
  refine ⟨?_,fun x hx=>?_⟩
  ·show D.int z::I zs=nI z.toNat::NN (rgN zs)
   rw [h1]
   have:((z.toNat:Nat):Int)=z:=by omega
   rw [nI,this]
  ·rcases List.mem_cons.mp hx with rfl | hx
   ·omega
   ·exact h2 x hx
theorem aL6 {zs:Y0} (h:zs ≠ []):(rgN zs).getLast?=some (lst (rgN zs)):=by
 cases e:(rgN zs).getLast? with
 | none=>rw [List.getLast?_eq_none_iff] at e;unfold rgN at e;rw [List.map_eq_nil_iff] at e;exact absurd e h
 | some y=>unfold lst;rw [List.getLastD_eq_getLast?,e];rfl
theorem xH (h:OkM n kd es) {f:Nat->Bool} (hf:∀p,p<n->f p=rB es p) {zs:Y0} (hne:zs ≠ []) :
  Ret kL [dM n kd es,.lst false (BB n f),.lst false (I zs)] (.bl (ldB es zs)):=by
 refine nL ?_
 simp -implicitDefEqProofs [oO,entry]
 refine bL (dH (φ:=D.int) (fun pre ρ=>inB es pre=true/\∃t,np t/\ρ=[.val (dM n kd es),.val (.lst false (BB n f)),.val (.lst false (I zs)),.val (.lst false (ME es)),t,.un]) zs ⟨rfl,_,bQ,rfl⟩ ?_) ?_
 ·rintro pre z post ρ e ⟨hi,t,ht,rfl⟩
  by_cases hz:0<=z/\z<=(es.length:Int) - 1
  ·simp -implicitDefEqProofs [ht,aP (wC hz.1 hz.2),cI,eV]
   unfold inB at hi ⊢
   rw [List.all_append,hi,List.all_cons,decide_eq_true hz.1,decide_eq_true hz.2];rfl
  ·simp -implicitDefEqProofs [ht,aP (aTf hz),cI,eV]
   have:inB es zs=false:=by
    rw [<- Bool.not_eq_true]
    intro q
    unfold inB at q
    rw [List.all_eq_true] at q
    have:=q z (by rw [e];simp)
    rw [Bool.and_eq_true,decide_eq_true_eq,decide_eq_true_eq] at this
    exact hz this
   unfold ldB;rw [this];rfl
 ·rintro ρ ⟨hi,t,ht,rfl⟩
  obtain ⟨e1,e2⟩:=aIv hi
  have hl:=aL6 hne
  have hld:ldB es zs=(rB es (ed es (lst (rgN zs))).b && chB es (ed es (lst (rgN zs))).b (rgN zs)):=by unfold ldB;rw [hi];rfl
  rw [hld,e1]
  generalize rgN zs=ring at *
  generalize lst ring=z at *
  have hz:z<es.length:=e2 z (List.mem_of_getLast? hl)
  have hb:=h.b _ (lU hz)
  have a1:=aI7 (o:=false) (n:=n) (f:=f) (b:=false) (c:=false) hb
  rw [hf _ hb] at a1
  cases hr:rB es (ed es z).b with
  | false =>
   rw [hr] at a1
   simp -implicitDefEqProofs [tK hl,nI,iA hz,a1,cI,eV]
  | true =>
   rw [hr] at a1
   simp -implicitDefEqProofs [tK hl,nI,iA hz,a1,cI,eV]
   refine bL (dH (φ:=nI) (fun pre ρ=>∃u t,np t/\(∀post,ring=pre++post->chB es (ed es z).b ring=chB es u post)/\ρ=[.val (dM n kd es),.val (.lst false (BB n f)),.val (.lst false (NN ring)),.val (.lst false (ME es)),t,.val (nI u)]) ring ⟨_,_,ht,fun post q=>by rw [List.nil_append] at q;rw [<- q],rfl⟩ ?_) ?_
   ·rintro pre x post ρ e ⟨u,t,ht,hc,rfl⟩
    have hx:x<es.length:=e2 x (by rw [e];simp)
    have hcx:=hc (x::post) e
    by_cases hu:(ed es x).a=u
    ·have hu':((ed es x).a:Int)=(u:Int):=by omega
     simp -implicitDefEqProofs [ht,nI,iA hx,hu']
     refine ⟨(ed es x).b,_,aO,fun post' q=>?_,rfl,rfl⟩
     have:post'=post:=by
      rw [e] at q
      have:=List.append_inj_right q.symm rfl
      simpa using this
     rw [this,hcx]
     show (decide ((ed es x).a=u) && _)=_
     rw [decide_eq_true hu];rfl
    ·have hu':¬ ((ed es x).a:Int)=(u:Int):=by omega
     simp -implicitDefEqProofs [ht,nI,iA hx,hu']
     rw [hcx]
     show (decide ((ed es x).a=u) && _)=false
     rw [decide_eq_false hu];rfl
   ·rintro ρ ⟨u,t,ht,hc,rfl⟩
    simp -implicitDefEqProofs
    rw [hc [] (by simp)];rfl
theorem zM (h:OkM n kd es) {f:Nat->Bool} (hf:∀p,p<n->f p=rB es p) {pr:Fr} {zs:Y0} (hl:zs.length<=1000) :
  Ret lQ [dM n kd es,.lst false (BB n f),fD pr,.lst false (I zs)] (.bl (rsB es pr zs)):=by
 refine nL ?_
 by_cases hz:zs=[]
 ·have h0:zs.length=0:=by rw [hz];rfl
  have e01:∀b c,kEq false (fD pr,b) (.tup [.int 0,.int 1],c)=.ok (.bl (decide (pr=(0,1))),true):=fun b c=>aTs (n:=false) (x:=pr) (y:=(0,1))
  simp -implicitDefEqProofs [iI,entry,h0,e01]
  unfold rsB;rw [if_pos hz]
 ·have h0:¬ zs.length=0:=fun q=>hz (List.length_eq_zero_iff.mp q)
  have rl:=xH h hf hz
  have er:rsB es pr zs=(ldB es zs && decide (pr=fr (cs es (rgN zs)) zs.length)):=by unfold rsB;rw [if_neg hz]
  rw [er]
  cases hd:ldB es zs with
  | false =>
   rw [hd] at rl
   simp -implicitDefEqProofs [iI,entry,h0,aP rl,cI,eV]
  | true =>
   rw [hd] at rl
   have hi:inB es zs=true:=by unfold ldB at hd;rw [Bool.and_eq_true] at hd;exact hd.1
   obtain ⟨e1,e2⟩:=aIv hi
   have rc:=mG h e2 (by unfold rgN;rw [List.length_map];omega)
   rw [<- e1] at rc
   have rf:=zA (a:=cs es (rgN zs)) (b:=zs.length) (by omega) (by omega)
   simp -implicitDefEqProofs [iI,entry,h0,aP rl,cI,eV,aP rc,aP rf]
theorem wV (h:OkM n kd es) {pr:Fr} (hp:Ok1 pr 20000) {zs:Y0} (hl:zs.length<=1000) {xs:List Fr} (hx:∀x∈xs,Ok1 x 2000000) :
  Ret gR [dM n kd es,fD pr,.lst false (I zs),.lst false (FF xs)] (.bl (rsB es pr zs && ipB es n pr xs)):=by
 refine nL ?_
 obtain ⟨d,hd,f,rfl,hf⟩:=yI h
 have hf':∀p,p<n->f p=rB es p:=fun p hp=>aU4 hf hp
 have r1:=zM h hf' (pr:=pr) hl
 have r2:=aGz h hf' hp hx
 cases hr:rsB es pr zs with
 | false =>
  rw [hr] at r1
  simp -implicitDefEqProofs [kO,entry,jV hd,tT r1 rfl,tT r2 rfl]
 | true =>
  rw [hr] at r1
  simp -implicitDefEqProofs [kO,entry,jV hd,tT r1 rfl,tT r2 rfl]
end
end VL.QQ
end
section
namespace VL
open PySem L2
@[simp] theorem aXw {x b:Bool}:aW1 [(.bl x,b)]=.ok (.int (if x then 1 else 0),true):=rfl
theorem rP {α:Type} {f:α->Bool}:∀xs:List α,eX (xs.map fun x=>D.bl (f x))=some (xs.map f)
 | []=>rfl
 | x::xs=>by
  show (eX (xs.map fun x=>D.bl (f x))).map (f x::·)=_
  rw [rP xs];rfl
theorem aHk {α:Type} {f:α->Bool} {xs:List α} {o b:Bool}:aEa [(.lst o (xs.map fun x=>D.bl (f x)),b)]=.ok (.bl (xs.any f),true):=by
 show (match eX (xs.map fun x=>D.bl (f x)) with | some ns=>R.ok (D.bl (ns.any id),true) | none=>R.bad)=_
 rw [rP]
 simp [List.any_map]
theorem aGn {α:Type} {f:α->Bool} {xs:List α} {o b:Bool}:aMp [(.lst o (xs.map fun x=>D.bl (f x)),b)]=.ok (.bl (xs.all f),true):=by
 show (match eX (xs.map fun x=>D.bl (f x)) with | some ns=>R.ok (D.bl (ns.all id),true) | none=>R.bad)=_
 rw [rP]
 simp [List.all_map]
end VL
end
section
namespace VL.QQ
open VL PySem L2 PY K10 K11 K20
theorem aDn {ns:Y0}:qU mV [.lst false (I ns),.int 0,.int 6] (fun d=>∃n kd es,d=dM n kd es/\OkM n kd es/\kd<=3):=by
 refine eJ ?_
 have m0:Ret cX [.lst false (I ns),.int 0] (.int (jP ns 0)):=sG (k:=0) (by omega)
 have m1:Ret cX [.lst false (I ns),.int 1] (.int (jP ns 1)):=sG (k:=1) (by omega)
 have m2:Ret cX [.lst false (I ns),.int 2] (.int (jP ns 2)):=sG (k:=2) (by omega)
 obtain ⟨n,hn1,hn6,hn'⟩:∃n:Nat,1<=n/\n<=6/\1+jP ns 0 % 6=(n:Int):=⟨(1+jP ns 0 % 6).toNat,by omega,by omega,by omega⟩
 obtain ⟨kd,hk1,hk3,hk'⟩:∃n:Nat,1<=n/\n<=3/\1+jP ns 1 % 3=(n:Int):=⟨(1+jP ns 1 % 3).toNat,by omega,by omega,by omega⟩
 obtain ⟨c,hc13,hc⟩:=aKw (v:=jP ns 2) (m:=13) (by omega)
 have hc':jP ns 2 % 13=((c:Nat):Int):=hc
 have f1:fits 2=true:=cN (by decide) (by decide)
 have f2:fits 6=true:=cN (by decide) (by decide)
 simp -implicitDefEqProofs [sH,entry,aP m0,aP m1,aP m2,hn',hk',hc',f1,f2,fE (show c<=1000000 by omega)]
 refine bL (dH (fun pre ρ=>∃es t u w,np t/\np u/\np w/\es.length=pre.length/\(∀e∈es,e.a<n/\e.k<kd/\e.b<n/\0<=e.c/\e.c<=1000)/\ρ=[.val (.lst false (I ns)),.val (.int 0),.val (.int 6),.val (nI n),.val (nI kd),.val (.lst true (ME es)),t,u,w]) (List.range c) ⟨[],_,_,_,bQ,bQ,bQ,rfl,by simp,rfl⟩ ?_) ?_
 ·rintro pre j post ρ e ⟨es,t,u,w,ht,hu,hw,hlen,hes,rfl⟩
  have hj:j<c:=List.mem_range.mp (by rw [e];simp)
  have hpl:pre.length<=c:=by have:=congrArg List.length e;simp at this;omega
  have mj:Ret cX [.lst false (I ns),.int (3+(j:Int))] (.int (jP ns (3+j))):=by
   have:=sG (ns:=ns) (k:=3+j) (by omega)
   rwa [show ((3+j:Nat):Int)=3+(j:Int) by omega] at this
  generalize jP ns (3+j)=v at mj
  obtain ⟨x,hx,hx1,hx2⟩:=aU8 (v:=v / 4096)
  obtain ⟨a,ha1,ha2⟩:=aKw (v:=v) (m:=n) (by omega)
  obtain ⟨k,hk1,hk2⟩:=aKw (v:=v / 16) (m:=kd) (by omega)
  obtain ⟨b,hb1,hb2⟩:=aKw (v:=v / 64) (m:=n) (by omega)
  have f3:fits 4096=true:=cN (by decide) (by decide)
  have f4:fits 16=true:=cN (by decide) (by decide)
  have f5:fits 64=true:=cN (by decide) (by decide)
  have hn0:0<n:=by omega
  have hk0:0<kd:=by omega
  have hl':es.length<1000000:=by omega
  simp -implicitDefEqProofs [ht,hu,hw,nI,aP mj,hx,f3,f4,f5,hn0,hk0,ha2,hk2,hb2,hl']
  refine ⟨es ++ [⟨a,k,b,x⟩],_,aO,_,aO,_,aO,by simp [hlen],fun e he=>?_,?_,rfl,rfl,rfl⟩
  ·rcases List.mem_append.mp he with q | q
   ·exact hes e q
   ·simp at q;rw [q];exact ⟨ha1,hk1,hb1,hx1,hx2⟩
  ·simp [ME,E.d]
 ·rintro ρ ⟨es,t,u,w,ht,hu,hw,hlen,hes,rfl⟩
  obtain ⟨es',q1,q2,q3,q4⟩:=aT4 es
  have hl:es.length<=18:=by rw [hlen];simp;omega
  simp -implicitDefEqProofs [aSr hl,q1]
  exact ⟨n,kd,es',rfl,⟨hn1,by omega,hk1,by omega,by omega,fun e he=>(hes e (q2 e he)).1,fun e he=>(hes e (q2 e he)).2.1,fun e he=>(hes e (q2 e he)).2.2.1,fun e he=>(hes e (q2 e he)).2.2.2,q4⟩,hk3⟩
section
variable {es:List E} {n kd:Nat}
theorem aIw:∀ {ring:T0} {u:Nat},chB es u ring=true ↔ ∀k,k<ring.length->(ed es (nt ring k)).a=if k=0 then u else (ed es (nt ring (k - 1))).b
 | [],u=>by simp [chB]
 | x::r,u=>by
  have ih:=aIw (ring:=r) (u:=(ed es x).b)
  show (decide ((ed es x).a=u) && chB es (ed es x).b r)=true ↔ _
  rw [Bool.and_eq_true,decide_eq_true_eq,ih]
  constructor
  ·rintro ⟨h1,h2⟩ k hk
   cases k with
   | zero=>simpa [nt] using h1
   | succ k =>
    have:=h2 k (by simpa using hk)
    cases k with
    | zero=>simpa [nt] using this
    | succ k=>simpa [nt] using this
  ·intro h
   refine ⟨by simpa [nt] using h 0 (by simp),fun k hk=>?_⟩
   have:=h (k+1) (by simpa using hk)
   cases k with
   | zero=>simpa [nt] using this
   | succ k=>simpa [nt] using this
theorem aIa {ring:T0} (h:ring ≠ []):ring.getLast?=some (lst ring):=by
 cases e:ring.getLast? with
 | none=>rw [List.getLast?_eq_none_iff] at e;exact absurd e h
 | some y=>unfold lst;rw [List.getLastD_eq_getLast?,e];rfl
theorem aLl {ring:T0} {k:Nat} {b c:Bool} (hk:k<ring.length):kIx (.lst false (NN ring),b) (.int ((k:Int) - 1),c)=.ok (nI (if k=0 then lst ring else nt ring (k - 1)),b):=by
 cases k with
 | zero =>
  rw [if_pos rfl,show ((0:Nat):Int) - 1 = -1 from rfl]
  exact tK (aIa fun z=>by rw [z] at hk;simp at hk)
 | succ k =>
  rw [if_neg (by omega),show ((k+1:Nat):Int) - 1=(k:Int) by omega]
  exact aEd (by omega)
theorem aVb {pr:Fr} {ring:T0} {M:Y0} (P:LP es n pr ring M):∀x∈pf pr.2 M,Ok1 x 1000000/\0<=x.1:=by
 intro x hx
 obtain ⟨m,hm,rfl⟩:=List.mem_map.mp hx
 obtain ⟨v,hv,e⟩:=List.getElem_of_mem hm
 have e2:gt M v=m:=by unfold gt;simp [List.getD_eq_getElem?_getD,List.getElem?_eq_getElem hv,e]
 have h1:=P.pu.nn v
 have h2:=P.pu.bd v
 rw [e2] at h1 h2
 have h3:=aFi (a:=m) (b:=pr.2)
 have h4:=aEk (a:=m) P.gd.p
 have:=P.qb
 exact ⟨⟨tW P.gd.p,by omega,by omega⟩,aJq h1⟩
end
end VL.QQ
end
section
namespace VL.QQ
open VL PySem L2 PY K10 K11 K20 K21
section
variable {es:List E} {n kd:Nat}
theorem aQc (h:OkM n kd es) {pr:Fr} {zs:Y0} (hp:pr.1<0):rsB es pr zs=false:=by
 unfold rsB
 by_cases hz:zs=[]
 ·rw [if_pos hz,decide_eq_false (by rintro rfl;exact absurd hp (by decide))]
 ·rw [if_neg hz]
  cases hl:ldB es zs with
  | false=>rfl
  | true =>
   rw [Bool.true_and]
   refine decide_eq_false fun e=>?_
   have hi:inB es zs=true:=by unfold ldB at hl;rw [Bool.and_eq_true] at hl;exact hl.1
   have:=aJq (b:=zs.length) (xT h.c (aIv hi).2).1
   rw [<- e] at this
   omega
theorem aPa {o p b c:Bool} {zs:Y0}:kEq false (.lst o (I zs),b) (.lst p [],c)=.ok (.bl (decide (zs=[])),true):=by
 have hpl:∀zs:Y0,D.kP (I zs)=true:=by
  intro zs
  induction zs with
  | nil=>rfl
  | cons z zs ih=>show (true && D.kP (I zs))=true;rw [ih];rfl
 have hly:∀zs:Y0,PyData.canLayAll0 (D.pys (I zs))=true:=by
  intro zs
  induction zs with
  | nil=>rfl
  | cons z zs ih=>show (true && PyData.canLayAll0 (D.pys (I zs)))=true;rw [ih];rfl
 have e1:uW (.lst o (I zs)) (.lst p [])=true:=by
  unfold uW
  have h1:(D.lst o (I zs)).plain=true:=hpl zs
  have h2:(D.lst o (I zs)).py.canLay0=true:=hly zs
  rw [h1,h2]
  have h3:(D.lst p []).py.depth=1:=rfl
  rw [h3]
  have h4:min (D.lst o (I zs)).py.depth 1<=100:=by omega
  rw [decide_eq_true h4];rfl
 unfold kEq
 rw [if_pos e1]
 cases zs<;>rfl
theorem aOb {ring:T0} (hr:ring ≠ []):chB es (ed es (lst ring)).b ring=(List.range ring.length).all fun k=>decide ((ed es (if k=0 then lst ring else nt ring (k - 1))).b=(ed es (nt ring k)).a):=by
 rw [Bool.eq_iff_iff,aIw,List.all_eq_true]
 constructor
 ·intro h k hk
  have:=h k (List.mem_range.mp hk)
  refine decide_eq_true ?_
  by_cases hk0:k=0
  ·rw [if_pos hk0] at this ⊢;exact this.symm
  ·rw [if_neg hk0] at this ⊢;exact this.symm
 ·intro h k hk
  have:=of_decide_eq_true (h k (List.mem_range.mpr hk))
  by_cases hk0:k=0
  ·rw [if_pos hk0] at this ⊢;exact this.symm
  ·rw [if_neg hk0] at this ⊢;exact this.symm
theorem aQi {pr:Fr} (g:Gd pr):decide (pr=(0,1))=decide (pr.1=0):=by
 rw [decide_eq_decide]
 constructor
 ·rintro rfl;rfl
 ·intro h
  obtain ⟨p,q⟩:=pr
  have h:p=0:=h
  subst h
  have:=g.g
  have hp:=g.p
  rw [Int.gcd_zero_left] at this
  have hp:0<q:=hp
  have this:q.natAbs=1:=this
  rw [show q=1 by omega]
def zJ:aX:=(aR (aY 9 (xOf (v2 bW (v2 bT (v2 kIx (v2 kIx (aD 3) (aD 5)) (vC (.int 0))) (v2 kIx (aD 1) (vC (.int 1)))) (v2 bT (v2 kIx (aD 1) (vC (.int 0))) (v2 kIx (v2 kIx (aD 3) (aD 5)) (vC (.int 1))))))) (aR (aY 10 (xOf (v2 bT (v2 bW (v2 bT (aD 8) (v2 kIx (v2 kIx (aD 3) (aD 7)) (vC (.int 1)))) (v2 kIx (v2 kIx (aD 3) (aD 7)) (vC (.int 0)))) (v2 kIx (aD 1) (vC (.int 1)))))) (sIf (lX (bA (v2 (kIn false) (aD 5) (aD 4))) (bA (v2 kLt (v2 bT (aD 9) (v2 kIx (v2 kIx (aD 3) (aD 7)) (vC (.int 1)))) (v2 bT (aD 10) (v2 kIx (v2 kIx (aD 3) (aD 5)) (vC (.int 1))))))) (cH (xOf (vC (.bl false)))) bJ)))
theorem aLh (h:OkM n kd es) {pr:Fr} (hp:Ok1 pr 20000) {zs:Y0} (hl:zs.length<=1000) {xs:List Fr} (hx:∀x∈xs,Ok1 x 2000000) (hxl:xs.length<=1000) :
  Ret aAb [dM n kd es,fD pr,.lst false (I zs),.lst false (FF xs)] (.bl (rsB es pr zs && ipB es n pr xs)):=by
 refine nL ?_
 have hn2:=h.n2
 have hq:=hp.g.p
 have hqb:=hp.b
 have hpt:=hp.t
 obtain ⟨d,hd,pl,rfl,hpl⟩:=aCb h
 have hmem:∀p,decide (p∈pl)=rB es p:=fun p=>by
  rw [Bool.eq_iff_iff,decide_eq_true_eq,hpl,aHz]
 have c1:bS (gK (aD 3)) 1 [] (bH 0) bV (v2 kLt (v2 kIx (aD 0) (vC (.int 0))) (vC (.int 0))) [.val (dM n kd es),.val (fD pr),.val (.lst false (I zs)),.val (.lst false (FF xs)),.val (.lst true (NN pl)),.un,.un,.un,.un,.un,.un,.un]=.ok (.lst true (xs.map fun x=>D.bl (decide (x.1<0))),true):=by
  rw [gJ [] xs fD (fun x=>D.bl (decide (x.1<0))) (fun _=>true) (by simp;rfl) (by omega) rfl ?_ (.inl rfl)]
  intro x hx
  refine ⟨?_,rfl⟩
  simp -implicitDefEqProofs
 have k1:=aHk (f:=fun x:Fr=>decide (x.1<0)) (xs:=xs) (o:=true) (b:=true)
 generalize (xs.map fun x=>D.bl (decide (x.1<0)))=bl at c1 k1
 by_cases hlen:xs.length=n
 ·have hlen':(xs.length:Int)=(n:Int):=by omega
  by_cases hneg:pr.1<0
  ·rw [aQc h hneg]
   simp -implicitDefEqProofs [pZ,entry,aP hd,nI,hlen',hneg]
  ·cases hany:xs.any fun x=>decide (x.1<0) with
   | true =>
    rw [hany] at k1
    have hf:ipB es n pr xs=false:=by
     unfold ipB
     have:(xs.all fun x=>decide (0<=x.1))=false:=by
      rw [<- Bool.not_eq_true,List.all_eq_true]
      intro z
      rw [List.any_eq_true] at hany
      obtain ⟨x,hx,hx2⟩:=hany
      have:=of_decide_eq_true (z x hx)
      have:=of_decide_eq_true hx2
      omega
     rw [this];simp
    rw [hf,Bool.and_false]
    simp -implicitDefEqProofs [pZ,entry,aP hd,nI,hlen',hneg,c1,k1,cI,eV]
   | false =>
    rw [hany] at k1
    have hall:(xs.all fun x=>decide (0<=x.1))=true:=by
     rw [List.all_eq_true]
     intro x hx
     rw [<- Bool.not_eq_true,List.any_eq_true] at hany
     refine decide_eq_true ?_
     refine Classical.byContradiction fun q=>hany ⟨x,hx,decide_eq_true (by omega)⟩
    have eip:ipB es n pr xs=es.all fun e=>!(rB es e.a) || paid pr (ft xs e.a) (ft xs e.b) e.c:=by unfold ipB;rw [hall,decide_eq_true hlen];rfl
    rw [eip]
    have hfo:∀v,v<n->Ok1 (ft xs v) 2000000:=fun v hv=>hx _ (aDm (by omega))
    have f2:fits pr.2=true:=fit (A:=20) (by omega)
    have f3:fits pr.1=true:=fit (A:=20000) (by omega)
    have fb:∀v,v<n->fits (ft xs v).1=true/\fits (ft xs v).2=true:=fun v hv=>⟨fit (hfo v hv).t,fit (A:=20) (by have:=(hfo v hv).b;have:=(hfo v hv).g.p;omega)⟩
    have bdH:∀v,v<n->((ft xs v).1 * pr.2+pr.1 * (ft xs v).2).natAbs<=2000000 * 20+20000 * 20:=fun v hv=>aAd (kJ (hfo v hv).t (by omega)) (kJ (by omega) (by have:=(hfo v hv).b;have:=(hfo v hv).g.p;omega))
    have bdN:∀v (c:Int),v<n->c.natAbs<=1000->((c * (ft xs v).2+(ft xs v).1) * pr.2).natAbs<=(1000 * 20+2000000) * 20/\(c * (ft xs v).2+(ft xs v).1).natAbs<=1000 * 20+2000000:=fun v c hv hc=>by
     have h1:=aAd (kJ hc (show (ft xs v).2.natAbs<=20 by have:=(hfo v hv).b;have:=(hfo v hv).g.p;omega)) (hfo v hv).t
     exact ⟨kJ h1 (by omega),h1⟩
    simp -implicitDefEqProofs [pZ,entry,aP hd,nI,hlen',hneg,c1,k1,cI,eV]
    show out ((forL (dR [5,6,7,8]) zJ (es.map E.d) _).andThen _) _ _
    refine bL (dH (fun pre ρ=>(pre.all fun e=>!(rB es e.a) || paid pr (ft xs e.a) (ft xs e.b) e.c)=true/\∃t5 t6 t7 t8 t9 t10,np t5/\np t6/\np t7/\np t8/\np t9/\np t10/\ρ=[.val (dM n kd es),.val (fD pr),.val (.lst false (I zs)),.val (.lst false (FF xs)),.val (.lst true (NN pl)),t5,t6,t7,t8,t9,t10,.un]) es ⟨rfl,_,_,_,_,_,_,bQ,bQ,bQ,bQ,bQ,bQ,rfl⟩ ?_) ?_
    ·rintro pre e post ρ ee ⟨hpre,t5,t6,t7,t8,t9,t10,h5,h6,h7,h8,h9,h10,rfl⟩
     have he:e∈es:=by rw [ee];simp
     have ha:=h.a e he
     have hbb:=h.b e he
     have hc:=h.c e he
     have x1:=aFm (o:=false) (xs:=xs) (b:=false) (c:=false) (show e.a<xs.length by omega)
     have x2:=aFm (o:=false) (xs:=xs) (b:=false) (c:=false) (show e.b<xs.length by omega)
     have g1:=fb e.a ha
     have g2:=fb e.b hbb
     have fc:fits e.c=true:=fit (A:=1000) (by omega)
     have fH:=fit (bdH e.a ha)
     have fN:=fit (bdN e.b e.c hbb (by omega)).1
     have fN2:=fit (bdN e.b e.c hbb (by omega)).2
     have ein:∀b c,kIn false (.int (e.a:Int),b) (.lst true (NN pl),c)=.ok (.bl (rB es e.a),true):=fun b c=>by rw [aE7,<- hmem];rfl
     have fin:(!(rB es e.a) || paid pr (ft xs e.a) (ft xs e.b) e.c)=true->((pre ++ [e]).all fun e=>!(rB es e.a) || paid pr (ft xs e.a) (ft xs e.b) e.c)=true:=fun hh=>by rw [List.all_append,hpre];simpa using hh
     cases hr:rB es e.a with
     | false =>
      rw [hr] at ein fin
      have:=fin rfl
      simp -implicitDefEqProofs [zJ,aIf,h5,h6,h7,h8,h9,h10,x1,x2,g1.1,g1.2,g2.1,g2.2,f2,f3,fc,fH,fN,fN2,ein,-List.all_append,-List.all_eq_true,this]
      exact ⟨_,aO,_,aO,_,aO,_,aO,_,aO,_,aO,rfl,rfl,rfl,rfl,rfl,rfl⟩
     | true =>
      rw [hr] at ein fin
      by_cases hlt:((ft xs e.a).1 * pr.2+pr.1 * (ft xs e.a).2) * (ft xs e.b).2<(e.c * (ft xs e.b).2+(ft xs e.b).1) * pr.2 * (ft xs e.a).2
      ·have bad:(es.all fun e=>!(rB es e.a) || paid pr (ft xs e.a) (ft xs e.b) e.c)=false:=by
        rw [<- Bool.not_eq_true,List.all_eq_true]
        intro z
        have:=z e he
        unfold paid at this
        rw [hr,decide_eq_true hlt] at this
        cases this
       rw [bad,Bool.and_false]
       simp -implicitDefEqProofs [zJ,aIf,h5,h6,h7,h8,h9,h10,x1,x2,g1.1,g1.2,g2.1,g2.2,f2,f3,fc,fH,fN,fN2,ein,hlt]
      ·have:=fin (by unfold paid;rw [decide_eq_false hlt];rfl)
       simp -implicitDefEqProofs [zJ,aIf,h5,h6,h7,h8,h9,h10,x1,x2,g1.1,g1.2,g2.1,g2.2,f2,f3,fc,fH,fN,fN2,ein,hlt,-List.all_append,-List.all_eq_true,this]
       exact ⟨_,aO,_,aO,_,aO,_,aO,_,aO,_,aO,rfl,rfl,rfl,rfl,rfl,rfl⟩
    ·rintro ρ ⟨hpre,t5,t6,t7,t8,t9,t10,h5,h6,h7,h8,h9,h10,rfl⟩
     rw [hpre,Bool.and_true]
     clear c1 k1
     by_cases hz:zs=[]
     ·have e1:∀b c,kEq false (.lst false (I zs),b) (.lst true [],c)=.ok (.bl true,true):=fun b c=>by rw [aPa,decide_eq_true hz]
      have e2:rsB es pr zs=decide (pr.1=0):=by unfold rsB;rw [if_pos hz,aQi hp.g]
      rw [e2]
      simp -implicitDefEqProofs [e1]
     ·have e1:∀b c,kEq false (.lst false (I zs),b) (.lst true [],c)=.ok (.bl false,true):=fun b c=>by rw [aPa,decide_eq_false hz]
      have e2:rsB es pr zs=(ldB es zs && decide (pr=fr (cs es (rgN zs)) zs.length)):=by unfold rsB;rw [if_neg hz]
      rw [e2]
      have c2:bS (gK (aD 2)) 1 [0] (bH 0) bV (rX (fun i j=>decide (i<=j)) (fun i j=>decide (i<j)) (vC (.int 0)) (aD 0) (vCB eN (aE (v2 kIx (aD 1) (vC (.int 2))) aL))) [.val (dM n kd es),.val (fD pr),.val (.lst false (I zs)),.val (.lst false (FF xs)),.val (.lst true (NN pl)),t5,t6,t7,t8,t9,t10,.un]=.ok (.lst true (zs.map fun z=>D.bl (decide (0<=z) && decide (z<=(es.length:Int) - 1))),true):=by
       rw [gJ [.val (dM n kd es)] zs D.int (fun z=>D.bl (decide (0<=z) && decide (z<=(es.length:Int) - 1))) (fun _=>true) (by simp;rfl) (by omega) (by simp [jQ]) ?_ (.inr fun _ _=>rfl)]
       intro z _
       refine ⟨?_,rfl⟩
       by_cases h0:0<=z
       ·have:decide (z<(es.length:Int))=decide (z<=(es.length:Int) - 1):=by rw [decide_eq_decide];omega
        simp -implicitDefEqProofs [h0,<- this]
       ·simp -implicitDefEqProofs [h0]
      have k2:=aGn (f:=fun z:Int=>decide (0<=z) && decide (z<=(es.length:Int) - 1)) (xs:=zs) (o:=true) (b:=true)
      generalize (zs.map fun z=>D.bl (decide (0<=z) && decide (z<=(es.length:Int) - 1)))=bl2 at c2 k2
      cases hi:inB es zs with
      | false =>
       have hi':=hi
       unfold inB at hi'
       rw [hi'] at k2
       have e3:ldB es zs=false:=by unfold ldB;rw [hi];rfl
       rw [e3]
       simp -implicitDefEqProofs [e1,c2,k2,cI,eV]
      | true =>
       have hi':=hi
       unfold inB at hi'
       rw [hi'] at k2
       obtain ⟨e4,e5⟩:=aIv hi
       have hlr:(rgN zs).length=zs.length:=by simp [rgN]
       have hne:rgN zs ≠ []:=fun z=>hz (by unfold rgN at z;simpa using z)
       have e3:ldB es zs=(rB es (ed es (lst (rgN zs))).b && chB es (ed es (lst (rgN zs))).b (rgN zs)):=by unfold ldB;rw [hi];rfl
       rw [e3,aOb hne]
       have hlst:=aIa hne
       have hll:=e5 _ (List.mem_of_getLast? hlst)
       simp -implicitDefEqProofs [e1,c2,k2,cI,eV,fE (show zs.length<=1000000 by omega)]
       rw [e4,<- hlr]
       generalize rgN zs=ring at *
       clear c2 k2 e1
       refine bL (dH (φ:=fun i:Nat=>D.int (i:Int)) (fun pre ρ=>(pre.all fun k=>decide ((ed es (if k=0 then lst ring else nt ring (k - 1))).b=(ed es (nt ring k)).a))=true/\∃t11,np t11/\ρ=[.val (dM n kd es),.val (fD pr),.val (.lst false (NN ring)),.val (.lst false (FF xs)),.val (.lst true (NN pl)),t5,t6,t7,t8,t9,t10,t11]) (List.range ring.length) ⟨rfl,_,bQ,rfl⟩ ?_) ?_
       ·rintro pre k post ρ ee ⟨hpre,t11,h11,rfl⟩
        obtain ⟨_,hk⟩:=mW ee
        have p1:=aLl (ring:=ring) (b:=false) (c:=true) hk
        have p2:=aEd (o:=false) (xs:=ring) (b:=false) (c:=false) hk
        have lp:(if k=0 then lst ring else nt ring (k - 1))<es.length:=by
         split
         ·exact hll
         ·exact e5 _ (vA (by omega))
        have m1:=iA (es:=es) (b:=false) (c:=false) lp
        have m2:=iA (es:=es) (b:=false) (c:=false) (e5 _ (vA hk))
        have bad:¬ (ed es (if k=0 then lst ring else nt ring (k - 1))).b=(ed es (nt ring k)).a->((List.range ring.length).all fun k=>decide ((ed es (if k=0 then lst ring else nt ring (k - 1))).b=(ed es (nt ring k)).a))=false:=fun hne=>by
         rw [<- Bool.not_eq_true,List.all_eq_true]
         intro z
         exact hne (of_decide_eq_true (z k (List.mem_range.mpr hk)))
        have good:(ed es (if k=0 then lst ring else nt ring (k - 1))).b=(ed es (nt ring k)).a->((pre ++ [k]).all fun k=>decide ((ed es (if k=0 then lst ring else nt ring (k - 1))).b=(ed es (nt ring k)).a))=true:=fun he=>by
         rw [List.all_append,hpre,List.all_cons,decide_eq_true he];rfl
        generalize (if k=0 then lst ring else nt ring (k - 1))=z at p1 m1 bad good
        by_cases heq:(ed es z).b=(ed es (nt ring k)).a
        ·have:=good heq
         have heq':(((ed es z).b:Nat):Int)=((ed es (nt ring k)).a:Int):=by omega
         simp -implicitDefEqProofs only [jD,iY,fQ h11,if_true,jH,List.set,sI,mQ,oT,mE,iB,bX,nN,aHe,aHw,p1,p2,nI,m1,m2,E_2,E_0,eq_int,heq',decide_true,Bool.not_true,aBm,nC,nZ]
         exact ⟨this,_,aO,rfl⟩
        ·have heq':¬ (((ed es z).b:Nat):Int)=((ed es (nt ring k)).a:Int):=by omega
         rw [bad heq,Bool.and_false,Bool.false_and]
         simp -implicitDefEqProofs only [jD,iY,fQ h11,if_true,jH,List.set,sI,mQ,oT,mE,iB,bX,nN,aHe,aHw,p1,p2,nI,m1,m2,E_2,E_0,eq_int,heq',decide_false,Bool.not_false,aEr,pF,gX,Bool.true_or,jS]
       ·rintro ρ ⟨hpre,t11,h11,rfl⟩
        rw [hpre,Bool.and_true]
        rw [<- aOb hne] at hpre
        obtain ⟨x,r,rfl⟩:∃x r,ring=x::r:=by
         cases ring with
         | nil=>exact absurd rfl hne
         | cons x r=>exact ⟨x,r,rfl⟩
        have hx0:x<es.length:=e5 x (by simp)
        have hfa:(ed es x).a=(ed es (lst (x::r))).b:=by
         have:=aIw.mp hpre 0 (by simp)
         simpa [nt] using this
        rw [<- hfa]
        have hcs:=xT h.c e5
        have hli:(0:Int)<((x::r).length:Int):=by rw [List.length_cons];omega
        have eqd:decide (pr=fr (cs es (x::r)) ((x::r).length:Int))=decide (cs es (x::r) * pr.2=pr.1 * ((x::r).length:Int)):=by
         rw [decide_eq_decide,aUp hp.g hli]
         omega
        rw [eqd]
        have ec:bS (gK (aD 2)) 1 [0] (bH 0) bV (v2 kIx (v2 kIx (v2 kIx (aD 1) (vC (.int 2))) (aD 0)) (vC (.int 3))) [.val (dM n kd es),.val (fD pr),.val (.lst false (NN (x::r))),.val (.lst false (FF xs)),.val (.lst true (NN pl)),t5,t6,t7,t8,t9,t10,t11]=.ok (.lst true (I ((x::r).map fun x=>(ed es x).c)),true):=by
         rw [gJ [.val (dM n kd es)] (x::r) nI (fun x=>D.int (ed es x).c) (fun _=>false) (by simp;rfl) (by omega) (by simp [jQ]) ?_ (.inr fun _ _=>rfl)]
         ·simp [I]
         ·intro y hy
          refine ⟨?_,rfl⟩
          simp -implicitDefEqProofs [nI,iA (e5 y hy)]
        have esum:aG1 [(.lst true (I ((x::r).map fun x=>(ed es x).c)),true)]=.ok (.int (cs es (x::r)),true):=by
         show (match eD (I _) with | some ns=>R.ok (D.int ns.sum,true) | none=>.bad)=_
         rw [zV];rfl
        generalize I ((x::r).map fun x=>(ed es x).c)=IL at ec esum
        have g1:fits (cs es (x::r))=true:=fit (A:=1000000) (by omega)
        have g4:fits ((x::r).length:Int)=true:=fit (A:=1000) (by omega)
        have ein:∀b c,kIn false (.int ((ed es x).a:Int),b) (.lst true (NN pl),c)=.ok (.bl (rB es (ed es x).a),true):=fun b c=>by rw [aE7,<- hmem];rfl
        have m1:=iA (es:=es) (b:=false) (c:=false) hx0
        have n0:∀b c,kIx (.lst false (NN (x::r)),b) (.int 0,c)=.ok (nI x,b):=fun b c=>by rw [aUk,aXn];rfl
        generalize hln:(x::r).length=ln at *
        cases hr:rB es (ed es x).a with
        | false =>
         rw [hr] at ein
         simp -implicitDefEqProofs only [cB,oZ,aAo,jI,lO,ec,bX,esum,gX,Bool.true_or,iY,fQ h8,Bool.and_self,if_true,List.set,bP,pF,aE9,oT,mE,iB,aHe,nN,n0,nI,m1,E_0,ein,jS,Bool.false_and]
        | true =>
         rw [hr] at ein
         simp -implicitDefEqProofs only [cB,oZ,aAo,jI,lO,ec,bX,esum,gX,Bool.true_or,iY,fQ h8,Bool.and_self,if_true,List.set,bP,pF,aE9,oT,mE,iB,aHe,nN,n0,nI,m1,E_0,ein,aGa,aXx,aXf,g1,f2,f3,g4,aKl,uQ,hln,eq_int,jS,Bool.true_and]
         rfl
 ·have hlen':¬ (xs.length:Int)=(n:Int):=by omega
  have hf:ipB es n pr xs=false:=by unfold ipB;rw [decide_eq_false hlen];rfl
  rw [hf,Bool.and_false]
  simp -implicitDefEqProofs [pZ,entry,aP hd,nI,hlen']
end
end VL.QQ
end
section
namespace VL.QQ
open VL PySem L2 PY K10 K11 K20 K21
def bm1:D:=.tup [.int 0,.int 1,.lst false []]
def bm2:D:=.tup [.int 1,.int 9,.lst false []]
def bm3:D:=.tup [.int 2,.int 1,.lst false [.tup [.int 0,.int 0,.int 2,.int 1]]]
def bm4:D:=.tup [.int 2,.int 1,.lst false [.tup [.int 0,.int 0,.int 1,.int 1],.tup [.int 0,.int 0,.int 1,.int 1]]]
def isBad (d:D):Prop:=d=bm1\/d=bm2\/d=bm3\/d=bm4
theorem aF1 {d:D} (h:isBad d):Ret hX [.int 0,d] (.bl true)/\Ret hX [.int 1,d] (.bl true):=by
 rcases h with rfl | rfl | rfl | rfl<;>exact ⟨⟨_,rfl⟩,⟨_,rfl⟩⟩
def rgE (m:Nat) (c:Int):List E:=(List.range m).map fun p=>⟨p,0,(p+1) % m,c⟩
theorem aTp {m:Nat} {c:Int} (h1:1<=m) (h2:m<=4) (hc:0<=c/\c<=3):OkM m 1 (rgE m c):=by
 have hm:∀e∈rgE m c,∃p,p<m/\e=⟨p,0,(p+1) % m,c⟩:=fun e he=>by
  obtain ⟨p,hp,rfl⟩:=List.mem_map.mp he
  exact ⟨p,List.mem_range.mp hp,rfl⟩
 refine ⟨h1,by omega,by decide,by decide,by simp [rgE];omega,fun e he=>?_,fun e he=>?_,fun e he=>?_,fun e he=>?_,?_⟩
 ·obtain ⟨p,hp,rfl⟩:=hm e he;exact hp
 ·obtain ⟨p,hp,rfl⟩:=hm e he;exact Nat.zero_lt_one
 ·obtain ⟨p,hp,rfl⟩:=hm e he;exact Nat.mod_lt _ (by omega)
 ·obtain ⟨p,hp,rfl⟩:=hm e he;exact ⟨hc.1,by show c<=1000;omega⟩
 ·unfold rgE
  refine List.pairwise_map.mpr (List.pairwise_lt_range.imp fun {a b} hab=>?_)
  show ST.ltL [(a:Int),_,_,_] [(b:Int),_,_,_]=true
  unfold ST.ltL
  rw [if_neg (by omega),decide_eq_true (by omega)]
end VL.QQ
end
section
namespace VL.QQ
open VL PySem L2 PY K10 K11 K20 K21
theorem aG9:K21.b_law=(aR sy1 (aR sy2 (aR sy3 (aR sy4 (aR sy5 (aR sy6 (aR sy7 (aR sy8 (aR sy9 (aR aGq (aR aG0 (aR aH4 (aR aJi (aR aJw aMi)))))))))))))):=rfl
def gC {α:Type} (xs:List α) (lo hi:Option Int):List α:=(xs.drop (HT.sIx xs.length 0 lo)).take (HT.sIx xs.length xs.length hi - HT.sIx xs.length 0 lo)
theorem aEe {α:Type} {φ:α->D} {xs:List α} {lo hi:Option Int}:cutD (xs.map φ) lo hi=(gC xs lo hi).map φ:=by
 unfold cutD gC;rw [List.length_map,<- List.map_drop,<- List.map_take]
@[simp] theorem aYh {zs:Y0} {lo hi:Option Int}:cutD (I zs) lo hi=I (gC zs lo hi):=aEe
@[simp] theorem aYf {xs:List Fr} {lo hi:Option Int}:cutD (FF xs) lo hi=FF (gC xs lo hi):=aEe
theorem lI {α:Type} {xs:List α} {lo hi:Option Int}:(gC xs lo hi).length<=xs.length:=by
 unfold gC;rw [List.length_take,List.length_drop];omega
theorem zZ {α:Type} {xs:List α} {lo hi:Option Int} {x:α} (h:x∈gC xs lo hi):x∈xs:=List.mem_of_mem_drop (List.mem_of_mem_take h)
theorem aVj (xs ys:List Fr):FF xs++FF ys=FF (xs++ys):=by simp [FF]
theorem xZ {α:Type} {φ:α->D} {xs:List α} {m:Nat} (w:Int) (hl:xs.length=m) (hm:0<m):∃x,x∈xs/\atI (xs.map φ) (w % (m:Int))=some (φ x):=by
 obtain ⟨k,hk,e⟩:=aKw (v:=w) hm
 rw [e,dF,List.getElem?_map,List.getElem?_eq_getElem (by omega)]
 exact ⟨_,List.getElem_mem _,rfl⟩
structure IV (v:Int) (L B:Nat) (pr:Fr) (zs:Y0) (xs:List Fr) (o6:Bool):Prop where
 p:Ok1 pr 20000
 z:zs.length<=L
 xl:xs.length<=B
 x:∀x∈xs,Ok1 x 1000100
 o:o6=true->v % 8=4\/v % 8=5
abbrev EV (ns:Y0) (n kd:Nat) (es:List E) (v:Int) (pr:Fr) (zs:Y0) (xs:List Fr) (o5 o6:Bool) (t2 t3 t9:Slot):Env:=[.val (.lst false (I ns)),.val (dM n kd es),t2,t3,.val (fD pr),.val (.lst o5 (I zs)),.val (.lst o6 (FF xs)),.val (.int v),.val (.int (v % 8)),t9,.un,.un]
def Nx (ns:Y0) (n kd:Nat) (es:List E) (v:Int) (L B:Nat) (t2 t3:Slot) (ρ:Env):Prop:=∃pr zs xs o5 o6 t9,IV v L B pr zs xs o6/\np t9/\ρ=EV ns n kd es v pr zs xs o5 o6 t2 t3 t9
def Ny (ns:Y0) (n kd:Nat) (es:List E) (v:Int) (pr:Fr) (zs:Y0) (o5:Bool) (t2 t3 t9:Slot) (ρ:Env):Prop:=∃xs o6,xs.length<=101/\(∀x∈xs,Ok1 x 2000000)/\ρ=EV ns n kd es v pr zs xs o5 o6 t2 t3 t9
section
variable {ns:Y0} {n kd:Nat} {es:List E} {v:Int} {L B:Nat} {pr:Fr} {zs:Y0} {xs:List Fr} {o5 o6:Bool} {t2 t3 t9:Slot}
theorem aD7 {x:Fr} {A:Nat} (h1:0<x.2) (h2:Int.gcd x.1 x.2=1) (h3:x.1.natAbs<=A) (h4:x.2<=20):Ok1 x A:=⟨⟨h1,h2⟩,h3,h4⟩
theorem aGe:fits 8=true:=fit (A:=8) (by decide)
theorem aOf:fits 64=true:=fit (A:=64) (by decide)
theorem s6 (h:IV v L B pr zs xs o6) (h9:np t9):out (sy6 (EV ns n kd es v pr zs xs o5 o6 t2 t3 t9)) (Nx ns n kd es v L B t2 t3) (fun _=>False):=by
 by_cases hc:v % 8<2
 ·obtain ⟨x,hx,hp⟩:=xZ (φ:=fD) (xs:=[(0,1),(1,1),(3,2),(-1,1),(9,1)]) (m:=5) (v / 8) rfl (by decide)
  have hp:atI (α:=D) [.tup [.int 0,.int 1],.tup [.int 1,.int 1],.tup [.int 3,.int 2],.tup [.int (-1),.int 1],.tup [.int 9,.int 1]] (v / 8 % 5)=some (fD x):=hp
  have ok:Ok1 x 20000:=by
   simp at hx
   rcases hx with rfl | rfl | rfl | rfl | rfl<;>exact aD7 (by decide) (by decide) (by decide) (by decide)
  simp -implicitDefEqProofs [sy6,EV,hc,aGe,hp]
  exact ⟨x,zs,xs,o5,o6,t9,⟨ok,h.z,h.xl,h.x,h.o⟩,h9,rfl⟩
 ·simp -implicitDefEqProofs [sy6,EV,hc]
  exact ⟨pr,zs,xs,o5,o6,t9,h,h9,rfl⟩
theorem s7 (h:IV v L B pr zs xs o6) (hL:L<=1000) (h9:np t9):out (sy7 (EV ns n kd es v pr zs xs o5 o6 t2 t3 t9)) (Nx ns n kd es v (2 * L+1) B t2 t3) (fun _=>False):=by
 have hz:=h.z
 by_cases hc:v % 8=2
 ·have h0:(0:Int)<(zs.length:Int)+1:=by omega
  obtain ⟨x,hx,hp⟩:=xZ (φ:=D.int) (xs:=[-1,0,(es.length:Int),1]) (m:=4) (v / 64) rfl (by decide)
  have hp:atI (α:=D) [.int (-1),.int 0,.int (es.length:Int),.int 1] (v / 64 % 4)=some (.int x):=hp
  generalize ew:v / 8 % ((zs.length:Int)+1)=w
  have l1:=lI (xs:=zs) (lo:=none) (hi:=some w)
  have l2:=lI (xs:=zs) (lo:=some w) (hi:=none)
  have b1:(gC zs none (some w)).length+1<=1000000:=by omega
  have b2:(gC zs none (some w)).length+1+(gC zs (some w) none).length<=1000000:=by omega
  simp -implicitDefEqProofs [sy7,EV,hc,aGe,aOf,hp,h0,h9,ew,b1,b2,aOw]
  exact ⟨pr,gC zs none (some w)++x::gC zs (some w) none,xs,true,o6,.val (.int w),⟨h.p,by rw [List.length_append,List.length_cons];omega,h.xl,h.x,h.o⟩,aO,by simp only [EV,hc]⟩
 ·simp -implicitDefEqProofs [sy7,EV,hc]
  exact ⟨pr,zs,xs,o5,o6,t9,⟨h.p,by omega,h.xl,h.x,h.o⟩,h9,rfl⟩
theorem s8 (h:IV v L B pr zs xs o6) (hL:L<=1000) (h9:np t9):out (sy8 (EV ns n kd es v pr zs xs o5 o6 t2 t3 t9)) (Nx ns n kd es v (2 * L+1) B t2 t3) (fun _=>False):=by
 have hz:=h.z
 obtain ⟨bb,hb⟩:∃bb,∀b c,kIn false (.int (v % 8),b) (.tup [.int 3,.int 7],c)=.ok (.bl bb,true):=⟨inD (.int (v % 8)) [.int 3,.int 7],fun b c=>by
  show (if qK (.int (v % 8)) [.int 3,.int 7]=true then R.ok (D.bl (if false=true then !inD (.int (v % 8)) [.int 3,.int 7] else inD (.int (v % 8)) [.int 3,.int 7]),true) else R.bad)=_
  rw [if_pos (show qK (.int (v % 8)) [.int 3,.int 7]=true from rfl)];rfl⟩
 cases bb with
 | true =>
  have l1:=lI (xs:=zs) (lo:=some 1) (hi:=none)
  have l2:=lI (xs:=zs) (lo:=none) (hi:=some 1)
  obtain ⟨x,hx,hp⟩:=xZ (φ:=fun z=>D.lst true (I z)) (xs:=[gC zs (some 1) none++gC zs none (some 1),zs++zs,gC zs (some 1) none,[],zs++zs]) (m:=5) (v / 8) rfl (by decide)
  have hp:atI (α:=D) [.lst true (I (gC zs (some 1) none++gC zs none (some 1))),.lst true (I (zs++zs)),.lst true (I (gC zs (some 1) none)),.lst true [],.lst true (I (zs++zs))] (v / 8 % 5)=some (.lst true (I x)):=hp
  have xl:x.length<=2 * L+1:=by
   simp at hx
   rcases hx with rfl | rfl | rfl | rfl | rfl<;>(try simp)<;>omega
  have b1:(gC zs (some 1) none).length+(gC zs none (some 1)).length<=1000000:=by omega
  have b2:zs.length+zs.length<=1000000:=by omega
  simp -implicitDefEqProofs [sy8,EV,hb,aGe,b1,b2,aOw,hp]
  exact ⟨pr,x,xs,true,o6,t9,⟨h.p,xl,h.xl,h.x,h.o⟩,h9,rfl⟩
 | false =>
  simp -implicitDefEqProofs [sy8,EV,hb]
  exact ⟨pr,zs,xs,o5,o6,t9,⟨h.p,by omega,h.xl,h.x,h.o⟩,h9,rfl⟩
theorem s9 (hn:1<=n) (h:IV v L B pr zs xs o6) (hB:B<=20) (h9:np t9):out (sy9 (EV ns n kd es v pr zs xs o5 o6 t2 t3 t9)) (Nx ns n kd es v L 100 t2 t3) (fun _=>False):=by
 have hxl:=h.xl
 by_cases hc:v % 8=4
 ·have h0:0<n:=hn
  obtain ⟨x,hx,hp⟩:=xZ (φ:=fD) (xs:=[(0,1),(5,2),(-1,3),(40,1)]) (m:=4) (v / 64) rfl (by decide)
  have hp:atI (α:=D) [.tup [.int 0,.int 1],.tup [.int 5,.int 2],.tup [.int (-1),.int 3],.tup [.int 40,.int 1]] (v / 64 % 4)=some (fD x):=hp
  have ok:Ok1 x 1000100:=by
   simp at hx
   rcases hx with rfl | rfl | rfl | rfl<;>exact aD7 (by decide) (by decide) (by decide) (by decide)
  generalize ew:v / 8 % (n:Int)=w
  have l1:=lI (xs:=xs) (lo:=none) (hi:=some w)
  have l2:=lI (xs:=xs) (lo:=some (w+1)) (hi:=none)
  have b1:(gC xs none (some w)).length+1<=1000000:=by omega
  have b2:(gC xs none (some w)).length+1+(gC xs (some (w+1)) none).length<=1000000:=by omega
  have e1:FF (gC xs none (some w)) ++ [fD x]=FF (gC xs none (some w) ++ [x]):=by simp [FF]
  simp -implicitDefEqProofs [sy9,EV,hc,aGe,aOf,hp,h0,h9,nI,ew,b1,b2,e1,aVj]
  refine ⟨pr,zs,gC xs none (some w)++x::gC xs (some (w+1)) none,o5,true,.val (.int w),⟨h.p,h.z,by rw [List.length_append,List.length_cons];omega,fun y hy=>?_,fun _=>.inl hc⟩,aO,by simp only [EV,hc]⟩
  rcases List.mem_append.mp hy with q | q
  ·exact h.x y (zZ q)
  ·rcases List.mem_cons.mp q with rfl | q
   ·exact ok
   ·exact h.x y (zZ q)
 ·simp -implicitDefEqProofs [sy9,EV,hc]
  exact ⟨pr,zs,xs,o5,o6,t9,⟨h.p,h.z,by omega,h.x,h.o⟩,h9,rfl⟩
theorem s10 (h:IV v L 100 pr zs xs o6) (h9:np t9):out (aGq (EV ns n kd es v pr zs xs o5 o6 t2 t3 t9)) (Nx ns n kd es v L 101 t2 t3) (fun _=>False):=by
 have hxl:=h.xl
 by_cases hc:v % 8=5
 ·have l1:=lI (xs:=xs) (lo:=none) (hi:=some (-1))
  obtain ⟨x,hx,hp⟩:=xZ (φ:=fun z=>D.lst true (FF z)) (xs:=[xs ++ [(0,1)],gC xs none (some (-1))]) (m:=2) (v / 8) rfl (by decide)
  have hp:atI (α:=D) [.lst true (FF (xs ++ [(0,1)])),.lst true (FF (gC xs none (some (-1))))] (v / 8 % 2)=some (.lst true (FF x)):=hp
  have e1:FF xs ++ [.tup [.int 0,.int 1]]=FF (xs ++ [(0,1)]):=by simp [FF,fD]
  have b1:xs.length+1<=1000000:=by omega
  simp -implicitDefEqProofs [aGq,EV,hc,aGe,b1,e1,hp]
  refine ⟨pr,zs,x,o5,true,t9,⟨h.p,h.z,?_,?_,fun _=>.inr hc⟩,h9,by simp only [EV,hc]⟩
  ·simp at hx
   rcases hx with rfl | rfl
   ·simp;omega
   ·omega
  ·intro y hy
   simp at hx
   rcases hx with rfl | rfl
   ·rcases List.mem_append.mp hy with q | q
    ·exact h.x y q
    ·simp at q;subst q;exact aD7 (by decide) (by decide) (by decide) (by decide)
   ·exact h.x y (zZ hy)
 ·simp -implicitDefEqProofs [aGq,EV,hc]
  exact ⟨pr,zs,xs,o5,o6,t9,⟨h.p,h.z,by omega,h.x,h.o⟩,h9,rfl⟩
theorem s11 (h:IV v L 101 pr zs xs o6):out (aG0 (EV ns n kd es v pr zs xs o5 o6 t2 t3 t9)) (Ny ns n kd es v pr zs o5 t2 t3 t9) (fun _=>False):=by
 have hxl:=h.xl
 have ho:=h.o
 have hx:=h.x
 by_cases hc:v % 8=6
 ·have hof:o6=false:=by
   cases o6 with
   | false=>rfl
   | true=>rcases ho rfl with q | q<;>omega
  subst hof
  have ec:∀t8,bS (gK (aD 6)) 1 [] (bH 0) bV (eQ (aE (v2 bW (v2 kIx (aD 0) (vC (.int 0))) (v2 kIx (aD 0) (vC (.int 1)))) (aE (v2 kIx (aD 0) (vC (.int 1))) aL))) [.val (.lst false (I ns)),.val (dM n kd es),t2,t3,.val (fD pr),.val (.lst o5 (I zs)),.val (.lst false (FF xs)),.val (.int v),t8,t9,.un,.un]=.ok (.lst true (FF (xs.map fun x=>(x.1+x.2,x.2))),true):=fun t8=>by
   rw [gJ [] xs fD (fun x=>fD (x.1+x.2,x.2)) (fun _=>true) (by simp;rfl) (by omega) rfl ?_ (.inl rfl)]
   ·simp [FF]
   ·intro x hx
    refine ⟨?_,rfl⟩
    simp -implicitDefEqProofs [fD,tE,aJh]
  simp -implicitDefEqProofs [aG0,EV,hc,ec]
  refine ⟨xs.map fun x=>(x.1+x.2,x.2),true,by simpa using hxl,fun y hy=>?_,by simp only [EV,hc]⟩
  obtain ⟨x,hx',rfl⟩:=List.mem_map.mp hy
  have o:=hx x hx'
  have:=o.t
  have:=o.b
  have:=o.g.p
  refine aD7 o.g.p ?_ (by show (x.1+x.2).natAbs<=_;omega) o.b
  show Int.gcd (x.1+x.2) x.2=1
  rw [<- o.g.g,Int.gcd_comm,Int.gcd_comm x.1]
  simp
 ·simp -implicitDefEqProofs [aG0,EV,hc]
  exact ⟨xs,o6,hxl,fun x q=>⟨(hx x q).g,Nat.le_trans (hx x q).t (by decide),(hx x q).b⟩,rfl⟩
end
end VL.QQ
end
section
namespace VL.QQ
open VL PySem L2 PY K10 K11 K20 K21
def N2 (ns:Y0) (ρ:Env):Prop:=∃n kd es t2 t3,OkM n kd es/\np t2/\np t3/\ρ=[.val (.lst false (I ns)),.val (dM n kd es),t2,t3,.un,.un,.un,.un,.un,.un,.un,.un]
theorem s2 {ns:Y0} {n0 kd0:Nat} {es0:List E} (h0:OkM n0 kd0 es0):out (sy2 [.val (.lst false (I ns)),.val (dM n0 kd0 es0),.un,.un,.un,.un,.un,.un,.un,.un,.un,.un])
  (N2 ns) (fun _=>False):=by
 have m4:Ret cX [.lst false (I ns),.int 44] (.int (jP ns 44)):=sG (k:=44) (by omega)
 have m5:Ret cX [.lst false (I ns),.int 45] (.int (jP ns 45)):=sG (k:=45) (by omega)
 have m6:Ret cX [.lst false (I ns),.int 46] (.int (jP ns 46)):=sG (k:=46) (by omega)
 by_cases hc:jP ns 44 % 5=0
 ·obtain ⟨m,hm1,hm2,hm⟩:∃m:Nat,1<=m/\m<=4/\2+jP ns 45 % 3=(m:Int):=⟨(2+jP ns 45 % 3).toNat,by omega,by omega,by omega⟩
  obtain ⟨c,hc1,hc2⟩:∃c:Int,(0<=c/\c<=3)/\jP ns 46 % 4=c:=⟨jP ns 46 % 4,by omega,rfl⟩
  have hm0:0<m:=hm1
  have ec:bS (iR1 (aE (aD 2) aL)) 1 [3,2] (bH 0) bV (eQ (aE (aD 0) (aE (vC (.int 0)) (aE (v2 gG (v2 bW (aD 0) (vC (.int 1))) (aD 2)) (aE (aD 1) aL))))) [.val (.lst false (I ns)),.val (dM n0 kd0 es0),.val (.int (m:Int)),.val (.int c),.un,.un,.un,.un,.un,.un,.un,.un]=.ok (.lst true (ME (rgE m c)),true):=by
   rw [gJ [.val (.int c),.val (.int (m:Int))] (List.range m) (fun i=>.int (i:Int)) (fun p=>E.d ⟨p,0,(p+1) % m,c⟩) (fun _=>true) (by simp -implicitDefEqProofs [fE (show m<=1000000 by omega)]) (by simp;omega) (by simp [jQ]) ?_ (.inl (by simp [lY]))]
   ·simp [ME,rgE]
   ·intro p _
    refine ⟨?_,rfl⟩
    simp -implicitDefEqProofs [hm0,E.d]
  have hok:=aTp hm1 hm2 hc1
  simp -implicitDefEqProofs [sy2,aP m4,aP m5,aP m6,hc,hm,hc2,ec]
  exact ⟨m,1,rgE m c,_,_,hok,aO,aO,rfl⟩
 ·simp -implicitDefEqProofs [sy2,aP m4,hc]
  exact ⟨n0,kd0,es0,_,_,h0,bQ,bQ,rfl⟩
theorem aXq {i j b c:Bool} {n:Bool}:kEq n (.bl i,b) (.bl j,c)=.ok (.bl (if n then !(i == j) else (i == j)),true):=by
 unfold kEq
 rw [if_pos (show uW (.bl i) (.bl j)=true from rfl)];rfl
theorem law_ok21 {ns:Y0}:Ret K21.f_law [.lst false (I ns)] (.bl true):=by
 refine nL ?_
 obtain ⟨dm,hm,n0,kd0,es0,rfl,h0,_⟩:=aDn (ns:=ns)
 rw [aG9]
 have e0:entry 12 [.lst false (I ns)]=[.val (.lst false (I ns)),.un,.un,.un,.un,.un,.un,.un,.un,.un,.un,.un]:=by simp [entry]
 rw [e0]
 have a1:sy1 [.val (.lst false (I ns)),.un,.un,.un,.un,.un,.un,.un,.un,.un,.un,.un]=.next [.val (.lst false (I ns)),.val (dM n0 kd0 es0),.un,.un,.un,.un,.un,.un,.un,.un,.un,.un]:=by
  simp -implicitDefEqProofs [sy1,aP hm]
 rw [cB,a1,bP,cB]
 refine bL (qL (s2 h0) (fun _ z=>z) fun _ z=>z.elim) ?_
 rintro ρ ⟨n,kd,es,t2,t3,h,h2,h3,rfl⟩
 have hn1:=h.n1
 have hn2:=h.n2
 obtain ⟨T,hT,pr,ring,M,rfl,P⟩:=wK h
 have hok:=aVb P
 have hlen:=P.len
 have ml:=P.pu.len
 have p0:=P.p0
 have pb:=P.pb
 have m40:Ret cX [.lst false (I ns),.int 40] (.int (jP ns 40)):=sG (k:=40) (by omega)
 have eNI:NN ring=I (ring.map fun k:Nat=>(k:Int)):=by simp [I,NN]
 generalize jP ns 40=v at *
 have iv:IV v 20 20 pr (ring.map fun k:Nat=>(k:Int)) (pf pr.2 M) false:=⟨⟨P.gd,by omega,P.qb⟩,by simp;omega,by simp [pf];omega,fun x hx=>⟨(hok x hx).1.g,Nat.le_trans (hok x hx).1.t (by decide),(hok x hx).1.b⟩,fun z=>by cases z⟩
 have hbm:=h
 rw [cB]
 have a3:sy3 [.val (.lst false (I ns)),.val (dM n kd es),t2,t3,.un,.un,.un,.un,.un,.un,.un,.un]=.next [.val (.lst false (I ns)),.val (dM n kd es),t2,t3,.val (fD pr),.val (.lst false (NN ring)),.val (.lst false (FF (pf pr.2 M))),.un,.un,.un,.un,.un]:=by
  simp -implicitDefEqProofs [sy3,aP hT]
 rw [a3,bP,cB]
 have a4:sy4 [.val (.lst false (I ns)),.val (dM n kd es),t2,t3,.val (fD pr),.val (.lst false (NN ring)),.val (.lst false (FF (pf pr.2 M))),.un,.un,.un,.un,.un]=.next [.val (.lst false (I ns)),.val (dM n kd es),t2,t3,.val (fD pr),.val (.lst false (NN ring)),.val (.lst false (FF (pf pr.2 M))),.val (.int v),.un,.un,.un,.un]:=by
  simp -implicitDefEqProofs [sy4,aP m40]
 rw [a4,bP,cB]
 have a5:sy5 [.val (.lst false (I ns)),.val (dM n kd es),t2,t3,.val (fD pr),.val (.lst false (NN ring)),.val (.lst false (FF (pf pr.2 M))),.val (.int v),.un,.un,.un,.un]=.next (EV ns n kd es v pr (ring.map fun k:Nat=>(k:Int)) (pf pr.2 M) false false t2 t3 .un):=by
  rw [eNI]
  simp -implicitDefEqProofs [sy5,EV]
 rw [a5,bP,cB]
 have up:∀ {o:Out} {P:Env->Prop},out o P (fun _=>False)->out o P (fun d=>d=D.bl true):=fun h=>qL h (fun _ z=>z) fun _ z=>z.elim
 clear a1 a3 a4 a5 hT hok m40 eNI
 refine bL (up (s6 iv bQ)) ?_
 rintro ρ ⟨pr,zs,xs,o5,o6,t9,iv,h9,rfl⟩
 rw [cB]
 refine bL (up (s7 iv (by decide) h9)) ?_
 rintro ρ ⟨pr,zs,xs,o5,o6,t9,iv,h9,rfl⟩
 rw [cB]
 refine bL (up (s8 iv (by decide) h9)) ?_
 rintro ρ ⟨pr,zs,xs,o5,o6,t9,iv,h9,rfl⟩
 rw [cB]
 refine bL (up (s9 hn1 iv (by decide) h9)) ?_
 rintro ρ ⟨pr,zs,xs,o5,o6,t9,iv,h9,rfl⟩
 rw [cB]
 refine bL (up (s10 iv h9)) ?_
 rintro ρ ⟨pr,zs,xs,o5,o6,t9,iv,h9,rfl⟩
 rw [cB]
 refine bL (up (s11 iv)) ?_
 rintro ρ ⟨xs,o6,hxl,hx,rfl⟩
 have hz:zs.length<=1000:=Nat.le_trans iv.z (by decide)
 have rsp:=wV h iv.p hz hx
 have rd:=aLh h iv.p hz hx (by omega)
 generalize (rsB es pr zs && ipB es n pr xs)=bb at rsp rd
 have kl:∀ds b,D.bK ds=true->vT [(.lst false ds,b)]=.ok (.lst true ds,true):=fun ds b hd=>by
  show (if D.bK ds then R.ok (D.lst true ds,true) else .bad)=_
  rw [if_pos hd]
 have a12:aH4 (EV ns n kd es v pr zs xs o5 o6 t2 t3 t9)=.next [.val (.lst false (I ns)),.val (dM n kd es),t2,t3,.val (fD pr),.val (.lst false (I zs)),.val (.lst false (FF xs)),.val (.int v),.val (.int (v % 8)),t9,.val (.bl bb),.un]:=by
  simp -implicitDefEqProofs [aH4,EV,kl,jV rsp]
 rw [cB,a12,bP]
 have i1:∀b,oX "bool" (.bl bb,b)=.ok (.bl true,true):=fun _=>rfl
 have a13:aJi [.val (.lst false (I ns)),.val (dM n kd es),t2,t3,.val (fD pr),.val (.lst false (I zs)),.val (.lst false (FF xs)),.val (.int v),.val (.int (v % 8)),t9,.val (.bl bb),.un]=.next [.val (.lst false (I ns)),.val (dM n kd es),t2,t3,.val (fD pr),.val (.lst false (I zs)),.val (.lst false (FF xs)),.val (.int v),.val (.int (v % 8)),t9,.val (.bl bb),.un]:=by
  simp -implicitDefEqProofs [aJi,i1,cI,eV,aP rd,aXq]
 rw [cB,a13,bP,cB]
 obtain ⟨d,hd,hp⟩:=xZ (φ:=id) (xs:=[bm1,bm2,bm3,bm4]) (m:=4) (v / 8) rfl (by decide)
 have hbad:isBad d:=by simpa [isBad] using hd
 have hp:atI (α:=D) [.tup [.int 0,.int 1,.lst false []],.tup [.int 1,.int 9,.lst false []],.tup [.int 2,.int 1,.lst false [.tup [.int 0,.int 0,.int 2,.int 1]]],.tup [.int 2,.int 1,.lst false [.tup [.int 0,.int 0,.int 1,.int 1],.tup [.int 0,.int 0,.int 1,.int 1]]]] (v / 8 % 4)=some d:=hp
 have dc:d.calm=true:=by rcases hbad with rfl | rfl | rfl | rfl<;>rfl
 have kt:∀b c,bT (.lst true [.tup [.int 0,.int 0,.int 1,.int 1]],b) (.int 2,c)=.ok (.lst true [.tup [.int 0,.int 0,.int 1,.int 1],.tup [.int 0,.int 0,.int 1,.int 1]],true):=fun _ _=>rfl
 have a14:aJw [.val (.lst false (I ns)),.val (dM n kd es),t2,t3,.val (fD pr),.val (.lst false (I zs)),.val (.lst false (FF xs)),.val (.int v),.val (.int (v % 8)),t9,.val (.bl bb),.un]=.next [.val (.lst false (I ns)),.val (dM n kd es),t2,t3,.val (fD pr),.val (.lst false (I zs)),.val (.lst false (FF xs)),.val (.int v),.val (.int (v % 8)),t9,.val (.bl bb),.val d]:=by
  simp -implicitDefEqProofs [aJw,kt,aGe,hp]
 rw [a14,bP]
 obtain ⟨f0,f1⟩:=aF1 hbad
 have df:d.frz=d:=nJ _ dc
 have c15:bS (iR1 (aE (vC (.int 2)) aL)) 1 [11] (bH 0) bV (bD hX (aE (aD 0) (aE (aD 1) aL))) [.val (.lst false (I ns)),.val (dM n kd es),t2,t3,.val (fD pr),.val (.lst false (I zs)),.val (.lst false (FF xs)),.val (.int v),.val (.int (v % 8)),t9,.val (.bl bb),.val d]=.ok (.lst true [.bl true,.bl true],true):=by
  rw [gJ [.val d] [0,1] (fun i:Int=>D.int i) (fun _=>D.bl true) (fun _=>true) (by simp -implicitDefEqProofs [show aGb 2=.ok ((List.range 2).map fun i:Nat=>D.int (i:Int)) from fE (n:=2) (by decide)];rfl) (by decide) (by simp [jQ,df]) ?_ (.inr fun _ _=>rfl)]
  ·rfl
  ·intro i hi
   refine ⟨?_,rfl⟩
   simp at hi
   rcases hi with rfl | rfl
   ·simp -implicitDefEqProofs [dc,df,aP f0]
   ·simp -implicitDefEqProofs [dc,df,aP f1]
 have k15:∀b c,bT (.lst true [.bl true],b) (.int 2,c)=.ok (.lst true [.bl true,.bl true],true):=fun _ _=>rfl
 have q15:∀b c,kEq false (.lst true [.bl true,.bl true],b) (.lst true [.bl true,.bl true],c)=.ok (.bl true,true):=fun b c=>by
  unfold kEq
  rw [if_pos (show uW (.lst true [.bl true,.bl true]) (.lst true [.bl true,.bl true])=true from rfl)];rfl
 simp -implicitDefEqProofs [aMi,c15,k15,q15]
end VL.QQ
namespace VL.K21
open VL
theorem aU3 {ns:Y0}:∃os,f_law [.lst false (ns.map D.int)]=.ok (.bl true,os):=QQ.law_ok21
end VL.K21
end
section
namespace VL.K21
open VL PySem PySem.Spec PyProof.Rows L2 PY K10 K11 K20
abbrev FO (n:Str) (t:Stmt) (kV dc pm:Value) (an:Option Addr) (cd ct:Value):=W.fnOf n n (jT t) (fJ t) (aH t) .none kV dc pm an cd ct
theorem all_mk {P:Program} {w:World} {K:W.Frag} {h:Heap} {mg:Y6} {fa:Addr} (X:K.In h) (G:h.Ns mainGlobals mg) (hfa:mg "law" = some (.ref fa))
  {t0 t1 t2 t3:Tok} {pT:Addr} {odT:Option Addr} {itT:Array Value} {nT:Nat} {slT:Array (Option Value)}
  (a0:W.nsIn K mainGlobals "is_whole" = some (some (.ref f0))) (l0:K.lookup f0=some ⟨oc0,od0,.func (FO "is_whole" (top 2) kV0 dc0 pm0 an0 cd0 ct0),sl0⟩) (c0:W.codeIn K cd0 "is_whole" = true) (k0:W.keepIn K (.ref f0)=true)
  (a1:W.nsIn K mainGlobals "is_between" = some (some (.ref f1))) (l1:K.lookup f1=some ⟨oc1,od1,.func (FO "is_between" (top 3) kV1 dc1 pm1 an1 cd1 ct1),sl1⟩) (c1:W.codeIn K cd1 "is_between" = true) (k1:W.keepIn K (.ref f1)=true)
  (a2:W.nsIn K mainGlobals "common_divisor" = some (some (.ref f2))) (l2:K.lookup f2=some ⟨oc2,od2,.func (FO "common_divisor" (top 4) kV2 dc2 pm2 an2 cd2 ct2),sl2⟩) (c2:W.codeIn K cd2 "common_divisor" = true) (k2:W.keepIn K (.ref f2)=true)
  (a3:W.nsIn K mainGlobals "fraction" = some (some (.ref f3))) (l3:K.lookup f3=some ⟨oc3,od3,.func (FO "fraction" (top 5) kV3 dc3 pm3 an3 cd3 ct3),sl3⟩) (c3:W.codeIn K cd3 "fraction" = true) (k3:W.keepIn K (.ref f3)=true)
  (a4:W.nsIn K mainGlobals "is_fraction" = some (some (.ref f4))) (l4:K.lookup f4=some ⟨oc4,od4,.func (FO "is_fraction" (top 6) kV4 dc4 pm4 an4 cd4 ct4),sl4⟩) (c4:W.codeIn K cd4 "is_fraction" = true) (k4:W.keepIn K (.ref f4)=true)
  (a5:W.nsIn K mainGlobals "are_from_nought" = some (some (.ref f5))) (l5:K.lookup f5=some ⟨oc5,od5,.func (FO "are_from_nought" (top 7) kV5 dc5 pm5 an5 cd5 ct5),sl5⟩) (c5:W.codeIn K cd5 "are_from_nought" = true) (k5:W.keepIn K (.ref f5)=true)
  (a6:W.nsIn K mainGlobals "is_less" = some (some (.ref f6))) (l6:K.lookup f6=some ⟨oc6,od6,.func (FO "is_less" (top 8) kV6 dc6 pm6 an6 cd6 ct6),sl6⟩) (c6:W.codeIn K cd6 "is_less" = true) (k6:W.keepIn K (.ref f6)=true)
  (a7:W.nsIn K mainGlobals "plus" = some (some (.ref f7))) (l7:K.lookup f7=some ⟨oc7,od7,.func (FO "plus" (top 9) kV7 dc7 pm7 an7 cd7 ct7),sl7⟩) (c7:W.codeIn K cd7 "plus" = true) (k7:W.keepIn K (.ref f7)=true)
  (a8:W.nsIn K mainGlobals "is_deed" = some (some (.ref f8))) (l8:K.lookup f8=some ⟨oc8,od8,.func (FO "is_deed" (top 22) kV8 dc8 pm8 an8 cd8 ct8),sl8⟩) (c8:W.codeIn K cd8 "is_deed" = true) (k8:W.keepIn K (.ref f8)=true)
  (a9:W.nsIn K mainGlobals "look_deeds" = some (some (.ref f9))) (l9:K.lookup f9=some ⟨oc9,od9,.func (FO "look_deeds" (top 23) kV9 dc9 pm9 an9 cd9 ct9),sl9⟩) (c9:W.codeIn K cd9 "look_deeds" = true) (k9:W.keepIn K (.ref f9)=true)
  (a10:W.nsIn K mainGlobals "look_machine" = some (some (.ref f10))) (l10:K.lookup f10=some ⟨oc10,od10,.func (FO "look_machine" (top 24) kV10 dc10 pm10 an10 cd10 ct10),sl10⟩) (c10:W.codeIn K cd10 "look_machine" = true) (k10:W.keepIn K (.ref f10)=true)
  (a11:W.nsIn K mainGlobals "deeds_from" = some (some (.ref f11))) (l11:K.lookup f11=some ⟨oc11,od11,.func (FO "deeds_from" (top 25) kV11 dc11 pm11 an11 cd11 ct11),sl11⟩) (c11:W.codeIn K cd11 "deeds_from" = true) (k11:W.keepIn K (.ref f11)=true)
  (a12:W.nsIn K mainGlobals "came_by" = some (some (.ref f12))) (l12:K.lookup f12=some ⟨oc12,od12,.func (FO "came_by" (top 26) kV12 dc12 pm12 an12 cd12 ct12),sl12⟩) (c12:W.codeIn K cd12 "came_by" = true) (k12:W.keepIn K (.ref f12)=true)
  (a13:W.nsIn K mainGlobals "reached" = some (some (.ref f13))) (l13:K.lookup f13=some ⟨oc13,od13,.func (FO "reached" (top 27) kV13 dc13 pm13 an13 cd13 ct13),sl13⟩) (c13:W.codeIn K cd13 "reached" = true) (k13:W.keepIn K (.ref f13)=true)
  (a14:W.nsIn K mainGlobals "raise_once" = some (some (.ref f14))) (l14:K.lookup f14=some ⟨oc14,od14,.func (FO "raise_once" (top 29) kV14 dc14 pm14 an14 cd14 ct14),sl14⟩) (c14:W.codeIn K cd14 "raise_once" = true) (k14:W.keepIn K (.ref f14)=true)
  (a15:W.nsIn K mainGlobals "most_gains" = some (some (.ref f15))) (l15:K.lookup f15=some ⟨oc15,od15,.func (FO "most_gains" (top 30) kV15 dc15 pm15 an15 cd15 ct15),sl15⟩) (c15:W.codeIn K cd15 "most_gains" = true) (k15:W.keepIn K (.ref f15)=true)
  (a16:W.nsIn K mainGlobals "next_rows" = some (some (.ref f16))) (l16:K.lookup f16=some ⟨oc16,od16,.func (FO "next_rows" (top 32) kV16 dc16 pm16 an16 cd16 ct16),sl16⟩) (c16:W.codeIn K cd16 "next_rows" = true) (k16:W.keepIn K (.ref f16)=true)
  (a17:W.nsIn K mainGlobals "dearest_rows" = some (some (.ref f17))) (l17:K.lookup f17=some ⟨oc17,od17,.func (FO "dearest_rows" (top 33) kV17 dc17 pm17 an17 cd17 ct17),sl17⟩) (c17:W.codeIn K cd17 "dearest_rows" = true) (k17:W.keepIn K (.ref f17)=true)
  (a18:W.nsIn K mainGlobals "least_rise" = some (some (.ref f18))) (l18:K.lookup f18=some ⟨oc18,od18,.func (FO "least_rise" (top 34) kV18 dc18 pm18 an18 cd18 ct18),sl18⟩) (c18:W.codeIn K cd18 "least_rise" = true) (k18:W.keepIn K (.ref f18)=true)
  (a19:W.nsIn K mainGlobals "place_of_most" = some (some (.ref f19))) (l19:K.lookup f19=some ⟨oc19,od19,.func (FO "place_of_most" (top 35) kV19 dc19 pm19 an19 cd19 ct19),sl19⟩) (c19:W.codeIn K cd19 "place_of_most" = true) (k19:W.keepIn K (.ref f19)=true)
  (a20:W.nsIn K mainGlobals "ring_back" = some (some (.ref f20))) (l20:K.lookup f20=some ⟨oc20,od20,.func (FO "ring_back" (top 36) kV20 dc20 pm20 an20 cd20 ct20),sl20⟩) (c20:W.codeIn K cd20 "ring_back" = true) (k20:W.keepIn K (.ref f20)=true)
  (a21:W.nsIn K mainGlobals "dearest_ring" = some (some (.ref f21))) (l21:K.lookup f21=some ⟨oc21,od21,.func (FO "dearest_ring" (top 37) kV21 dc21 pm21 an21 cd21 ct21),sl21⟩) (c21:W.codeIn K cd21 "dearest_ring" = true) (k21:W.keepIn K (.ref f21)=true)
  (a22:W.nsIn K mainGlobals "cost_together" = some (some (.ref f22))) (l22:K.lookup f22=some ⟨oc22,od22,.func (FO "cost_together" (top 38) kV22 dc22 pm22 an22 cd22 ct22),sl22⟩) (c22:W.codeIn K cd22 "cost_together" = true) (k22:W.keepIn K (.ref f22)=true)
  (a23:W.nsIn K mainGlobals "purse_for" = some (some (.ref f23))) (l23:K.lookup f23=some ⟨oc23,od23,.func (FO "purse_for" (top 39) kV23 dc23 pm23 an23 cd23 ct23),sl23⟩) (c23:W.codeIn K cd23 "purse_for" = true) (k23:W.keepIn K (.ref f23)=true)
  (a24:W.nsIn K mainGlobals "least_price" = some (some (.ref f24))) (l24:K.lookup f24=some ⟨oc24,od24,.func (FO "least_price" (top 40) kV24 dc24 pm24 an24 cd24 ct24),sl24⟩) (c24:W.codeIn K cd24 "least_price" = true) (k24:W.keepIn K (.ref f24)=true)
  (a25:W.nsIn K mainGlobals "is_paid" = some (some (.ref f25))) (l25:K.lookup f25=some ⟨oc25,od25,.func (FO "is_paid" (top 41) kV25 dc25 pm25 an25 cd25 ct25),sl25⟩) (c25:W.codeIn K cd25 "is_paid" = true) (k25:W.keepIn K (.ref f25)=true)
  (a26:W.nsIn K mainGlobals "leads_round" = some (some (.ref f26))) (l26:K.lookup f26=some ⟨oc26,od26,.func (FO "leads_round" (top 42) kV26 dc26 pm26 an26 cd26 ct26),sl26⟩) (c26:W.codeIn K cd26 "leads_round" = true) (k26:W.keepIn K (.ref f26)=true)
  (a27:W.nsIn K mainGlobals "ring_shows" = some (some (.ref f27))) (l27:K.lookup f27=some ⟨oc27,od27,.func (FO "ring_shows" (top 43) kV27 dc27 pm27 an27 cd27 ct27),sl27⟩) (c27:W.codeIn K cd27 "ring_shows" = true) (k27:W.keepIn K (.ref f27)=true)
  (a28:W.nsIn K mainGlobals "shows_price" = some (some (.ref f28))) (l28:K.lookup f28=some ⟨oc28,od28,.func (FO "shows_price" (top 44) kV28 dc28 pm28 an28 cd28 ct28),sl28⟩) (c28:W.codeIn K cd28 "shows_price" = true) (k28:W.keepIn K (.ref f28)=true)
  (a29:W.nsIn K mainGlobals "_law_cell" = some (some (.ref f29))) (l29:K.lookup f29=some ⟨oc29,od29,.func (FO "_law_cell" (top 46) kV29 dc29 pm29 an29 cd29 ct29),sl29⟩) (c29:W.codeIn K cd29 "_law_cell" = true) (k29:W.keepIn K (.ref f29)=true)
  (a30:W.nsIn K mainGlobals "_law_mix" = some (some (.ref f30))) (l30:K.lookup f30=some ⟨oc30,od30,.func (FO "_law_mix" (top 47) kV30 dc30 pm30 an30 cd30 ct30),sl30⟩) (c30:W.codeIn K cd30 "_law_mix" = true) (k30:W.keepIn K (.ref f30)=true)
  (a31:W.nsIn K mainGlobals "_law_machine" = some (some (.ref f31))) (l31:K.lookup f31=some ⟨oc31,od31,.func (FO "_law_machine" (top 48) kV31 dc31 pm31 an31 cd31 ct31),sl31⟩) (c31:W.codeIn K cd31 "_law_machine" = true) (k31:W.keepIn K (.ref f31)=true)
  (a32:W.nsIn K mainGlobals "_law_reached" = some (some (.ref f32))) (l32:K.lookup f32=some ⟨oc32,od32,.func (FO "_law_reached" (top 49) kV32 dc32 pm32 an32 cd32 ct32),sl32⟩) (c32:W.codeIn K cd32 "_law_reached" = true) (k32:W.keepIn K (.ref f32)=true)
  (a33:W.nsIn K mainGlobals "_law_due" = some (some (.ref f33))) (l33:K.lookup f33=some ⟨oc33,od33,.func (FO "_law_due" (top 50) kV33 dc33 pm33 an33 cd33 ct33),sl33⟩) (c33:W.codeIn K cd33 "_law_due" = true) (k33:W.keepIn K (.ref f33)=true)
  (a34:W.nsIn K mainGlobals "_law_refused" = some (some (.ref f34))) (l34:K.lookup f34=some ⟨oc34,od34,.func (FO "_law_refused" (top 51) kV34 dc34 pm34 an34 cd34 ct34),sl34⟩) (c34:W.codeIn K cd34 "_law_refused" = true) (k34:W.keepIn K (.ref f34)=true)
  (a35:W.nsIn K mainGlobals "law" = some (some (.ref f35))) (l35:K.lookup f35=some ⟨oc35,od35,.func (FO "law" (top 52) kV35 dc35 pm35 an35 cd35 ct35),sl35⟩) (c35:W.codeIn K cd35 "law" = true) (k35:W.keepIn K (.ref f35)=true)
  (i0:W.nsIn K mainGlobals "MOST_PLACES" = some (some (.int 200 t0)))
  (i1:W.nsIn K mainGlobals "MOST_KINDS" = some (some (.int 8 t1)))
  (i2:W.nsIn K mainGlobals "MOST_DEEDS" = some (some (.int 600 t2)))
  (i3:W.nsIn K mainGlobals "MOST_COST" = some (some (.int 1000 t3)))
  (z0:W.nsIn K mainGlobals "abs" = some none)
  (z1:W.nsIn K mainGlobals "all" = some none)
  (z2:W.nsIn K mainGlobals "any" = some none)
  (z3:W.nsIn K mainGlobals "bool" = some none)
  (z4:W.nsIn K mainGlobals "enumerate" = some none)
  (z5:W.nsIn K mainGlobals "int" = some none)
  (z6:W.nsIn K mainGlobals "isinstance" = some none)
  (z7:W.nsIn K mainGlobals "len" = some none)
  (z8:W.nsIn K mainGlobals "list" = some none)
  (z9:W.nsIn K mainGlobals "range" = some none)
  (z10:W.nsIn K mainGlobals "set" = some none)
  (z11:W.nsIn K mainGlobals "sorted" = some none)
  (z12:W.nsIn K mainGlobals "sum" = some none)
  (z13:W.nsIn K mainGlobals "tuple" = some none)
  (aT:W.nsIn K mainGlobals "NOUGHT" = some (some (.ref pT))) (lT:K.lookup pT=some ⟨.type "tuple",odT,.seq itT nT,slT⟩) (iT:IntsAre itT.toList [0,1])
  {qP qM qR qC qD qF:Addr} {cdM:ClassData}
  (xP:W.nsIn K mainGlobals "PurseError" = some (some (.ref qP)))
  (xM:W.nsIn K mainGlobals "BadMachine" = some (some (.ref qM)))
  (xR:W.nsIn K mainGlobals "BadRow" = some (some (.ref qR)))
  (xC:W.nsIn K mainGlobals "BadPrices" = some (some (.ref qC)))
  (xD:W.nsIn K mainGlobals "BadModel" = some (some (.ref qD)))
  (xF:W.nsIn K mainGlobals "BadForm" = some (some (.ref qF)))
  (yX:W.excIn K qM bmV "ValueError.__new__" = true) (yE:W.exmOne K (.ref qM) (.ref qP)=some true)
  (y1:W.clsIn K qM=some cdM) (y2:W.findIn K (.ref qM) "__getattribute__" = some (some (.builtin "BaseException.__getattribute__"))) (y7:W.findIn K (.ref qM) "__getattr__" = some none) (y3:W.findIn K (.ref qM) "__class__" = some (some (.builtin "object.__class__"))) (y4:W.specialIn K (.builtin "object.__class__") "__get__" = some (some (.builtin "getset_descriptor.__get__"))) (y5:W.takesIn K (.builtin "object.__class__")=some true) (y6:W.mroIn K qM (.type "object")=some true) (y8:W.mroIn K qM (.type "BaseException")=some true)
  (yM:W.kitOne K (.ref qM) (.ref qM)=some true) (yT:W.kitAny K (.ref qM) [.ref qF,.ref qD,.ref qC,.ref qR]=some false) :
  ∃fd:FuncData,(∀(s:Shared) (u:Value),BindsTo s fd ⟨[u],[]⟩ [("_law_script",u)])/\∀base:Heap,K.In base->base.Ns mainGlobals mg->FnOk P w K mg base (CX1 P w) 11 fa fd ["_law_script"] (spV K 1 f_law):=by
 have T:Txt K mg:=⟨W.mg_none_of X G z0,W.mg_none_of X G z1,W.mg_none_of X G z2,W.mg_none_of X G z3,W.mg_none_of X G z4,W.mg_none_of X G z5,W.mg_none_of X G z6,W.mg_none_of X G z7,W.mg_none_of X G z8,W.mg_none_of X G z9,W.mg_none_of X G z10,W.mg_none_of X G z11,W.mg_none_of X G z12,W.mg_none_of X G z13,
  ⟨t0,W.mg_of X G i0⟩,⟨t1,W.mg_of X G i1⟩,⟨t2,W.mg_of X G i2⟩,⟨t3,W.mg_of X G i3⟩,
  ⟨pT,_,itT,nT,W.mg_of X G aT,lT,rfl,rfl,iT⟩,
  bE a0 l0 c0 k0,bE a1 l1 c1 k1,bE a2 l2 c2 k2,bE a3 l3 c3 k3,bE a4 l4 c4 k4,bE a5 l5 c5 k5,bE a6 l6 c6 k6,bE a7 l7 c7 k7,bE a8 l8 c8 k8,bE a9 l9 c9 k9,bE a10 l10 c10 k10,bE a11 l11 c11 k11,bE a12 l12 c12 k12,bE a13 l13 c13 k13,bE a14 l14 c14 k14,bE a15 l15 c15 k15,bE a16 l16 c16 k16,bE a17 l17 c17 k17,bE a18 l18 c18 k18,bE a19 l19 c19 k19,bE a20 l20 c20 k20,bE a21 l21 c21 k21,bE a22 l22 c22 k22,bE a23 l23 c23 k23,bE a24 l24 c24 k24,bE a25 l25 c25 k25,bE a26 l26 c26 k26,bE a27 l27 c27 k27,bE a28 l28 c28 k28,bE a29 l29 c29 k29,bE a30 l30 c30 k30,bE a31 l31 c31 k31,bE a32 l32 c32 k32,bE a33 l33 c33 k33,bE a34 l34 c34 k34,bE a35 l35 c35 k35,⟨qP,qM,qR,qC,qD,qF,xP,W.mg_of X G xP,W.mg_of X G xM,W.mg_of X G xR,W.mg_of X G xC,W.mg_of X G xD,W.mg_of X G xF,xM,yX,yE,⟨by rw [y1];rfl,y2,y7,y3,y4,y5,y6,y8⟩,yM,yT⟩⟩
 obtain ⟨f,fd,e,hb,hF⟩:=aRh (P:=P) (w:=w) T.d_law X G dI rfl rfl (by decide) (fun _ _ _ _ _ _ us hl=>match us,hl with | [_],_=>rfl) (fun base kb nb=>aR7 T base kb nb)
 have e:=hfa.symm.trans e
 cases e
 exact ⟨fd,fun s u=>hb s [u] rfl,hF⟩
theorem walk {l:PySem.W.OpenLaw} {q:Program} {loose:List Str} {XP:(Str->Option Value)->Heap->Prop} {YP:World->Heap->Prop} {d:DefRec} {K:Params->FG} (hn:l.most=some 63) (hdf:d.params.defaults=[])
  (hY:∀(w:World) (h:Heap),YP w h->(K w.params).In h)
  (F:∀(w:World) (mg:Y6) (fa:Addr) (h:Heap),(K w.params).In h->h.Ns mainGlobals mg->mg d.name=some (.ref fa) ->
   ∃fd:FuncData,(∀(s:Shared) (u:Value),BindsTo s fd ⟨[u],[]⟩ [("_law_script",u)])/\∀base:Heap,(K w.params).In base->base.Ns mainGlobals mg->FnOk l.prog w (K w.params) mg base (CX1 l.prog w) 11 fa fd ["_law_script"] (spV (K w.params) 1 f_law))
  (hK:∀p:Params,qO (K p)=true):PySem.W.WalkO q loose XP YP l.row.toRowW d [] (fun f vs=>PySem.call f vs) :=
 L2.walk_of (n:=63) (k:=11) (x := "_law_script") (CX:=fun w=>CX1 l.prog w) (sp:=fun w=>spV (K w.params) 1 f_law) hn (by decide) hdf ⟨rfl,by decide,by decide⟩ hY F (fun w H a ns hl _ hS=>aM2 (hK w.params) aU3 hS) fun _ _ _ _ _ z=>aI9 z
end VL.K21
namespace PySem.W.Fast
def tw12972475523433502823:=()
def tw10172162389506281080:=()
def tw12475143243762413506:=()
def tw8995531581671556030:=()
def tw11265174458678569899:=()
def tw6254749722860133805:=()
def tw7987257391855736279:=()
def tw17539516551311730215:=()
def tw3237187995337553049:=()
def tw767619184626805962:=()
def tw7450284168434632196:=()
def tw9317307055967200275:=()
def tw7106472648838786678:=()
def tw11028395152777899323:=()
def tw12328736273490144273:=()
def tw12089634170155414915:=()
def tw2943224447103780066:=()
def tw17463243785166549165:=()
def tw10102291228790156260:=()
def tw9063127924162419979:=()
def tw18067693205904849958:=()
def tw6144532116146665029:=()
def tw15232765164246074331:=()
def tw14516634760652626100:=()
def tw11635549610059162224:=()
def tw11121777292776807563:=()
def tw17370501367379483664:=()
def tw15905210071972905897:=()
def tw4945312762720971664:=()
def tw17706867820451536312:=()
def tw4042495592021414701:=()
def tw2076491267303485677:=()
def tw2471102664458437989:=()
def tw16349326376757575261:=()
def tw1804715941123181274:=()
def tw712413777517756594:=()
def tw6190859755537189957:=()
def tw2220762141311250080:=()
def tw10680090894646550359:=()
def tw12788755666091802082:=()
def tw17867860743122850563:=()
def tw7170633646246936204:=()
def tw8874715701501054595:=()
def tw15798562954640915854:=()
def tw12833011222918406371:=()
def tw10308709160522985959:=()
def tw6868458924931912859:=()
def tw14521159740643000160:=()
def tw9356620990750528204:=()
def tw14206635988418391361:=()
def tw15608196444603197517:=()
def tw2680320382899174534:=()
def tw13685505639417111920:=()
def tw2820053231925762379:=()
def tw6791339703461388243:=()
def tw13536889306746552209:=()
def tw14855638412644743256:=()
def tw16307064193880146431:=()
def tw17001271647023525396:=()
def tw14232705494380530991:=()
def tw1360343459182261893:=()
def tw14133730313928579345:=()
def tw16826220088097620618:=()
def tw10406541181151747075:=()
def tw12511164134644513304:=()
def tw7453485065954417563:=()
def tw13758249425614101895:=()
def tw475085674523073718:=()
def tw1567578114402797521:=()
def tw9300048153832120288:=()
def tw228797684056037983:=()
def tw10708328368843811027:=()
def tw12868063513026748709:=()
def tw10831176148905696148:=()
def tw6565268911265376719:=()
def tw18438317272866310839:=()
def tw10168104309474718108:=()
def tw14659063244296510673:=()
def tw2187313196106558679:=()
def tw16479566743180876746:=()
def tw14086400085124930897:=()
def tw16237454885296228152:=()
def tw9032746001239754799:=()
def tw17441982323200849929:=()
def tw901962628272036038:=()
def tw15508176436947957192:=()
def tw16069740748852268493:=()
def tw12558305626259385514:=()
def tw16112777892547096305:=()
def tw5665517839365877657:=()
def tw4208436042141085138:=()
def tw13570442416481890359:=()
def tw3945305426850324795:=()
def tw15025846431423135985:=()
def tw16570403081268381722:=()
def tw643042993089171906:=()
def tw1104295831324455900:=()
def tw249667113091538992:=()
def tw7145273312744390774:=()
def tw13568371138092405681:=()
def tw18024187172587259218:=()
def tw11159487221460649138:=()
def tw16831931126967289344:=()
def tw3477465024973755729:=()
def tw2552412259166126061:=()
def tw11393113915127922635:=()
def tw12802802108054687244:=()
def tw18374446921487017426:=()
def tw7646846593207080316:=()
def tw1394124693497509585:=()
def tw5122136314774594832:=()
def tw5042751374426620730:=()
def tw13722601751457851623:=()
def tw12070590146084641414:=()
def tw18311995785474061670:=()
def tw16799493238274938254:=()
def tw16806397602621524400:=()
def tw814820490208076928:=()
def tw6980512008208897667:=()
def tw7031992538190036119:=()
end PySem.W.Fast
open PySem PySem.W PyProof.Rows
set_option maxRecDepth 100000 in
set_option maxHeartbeats 0 in
theorem PySem.Challenge.cw_pursehall_k21_price_shown_holds : PySem.Challenge.rw_pursehall_k21_price_shown.Holds := by
 w_on;o_law;k_head;(case hw=>w_witness2)
 k_fill
 refine VL.K21.walk (l:=PySem.Challenge.rw_pursehall_k21_price_shown) rfl rfl (fun w h Y=>PySem.W.kIn_of Y) ?F ?hNL
 case F =>
  intro w mg fa h KX G hmg
  refine' VL.K21.all_mk KX G hmg ?a0 ?l0 ?c0 ?k0 ?a1 ?l1 ?c1 ?k1 ?a2 ?l2 ?c2 ?k2 ?a3 ?l3 ?c3 ?k3 ?a4 ?l4 ?c4 ?k4 ?a5 ?l5 ?c5 ?k5 ?a6 ?l6 ?c6 ?k6 ?a7 ?l7 ?c7 ?k7 ?a8 ?l8 ?c8 ?k8 ?a9 ?l9 ?c9 ?k9 ?a10 ?l10 ?c10 ?k10 ?a11 ?l11 ?c11 ?k11 ?a12 ?l12 ?c12 ?k12 ?a13 ?l13 ?c13 ?k13 ?a14 ?l14 ?c14 ?k14 ?a15 ?l15 ?c15 ?k15 ?a16 ?l16 ?c16 ?k16 ?a17 ?l17 ?c17 ?k17 ?a18 ?l18 ?c18 ?k18 ?a19 ?l19 ?c19 ?k19 ?a20 ?l20 ?c20 ?k20 ?a21 ?l21 ?c21 ?k21 ?a22 ?l22 ?c22 ?k22 ?a23 ?l23 ?c23 ?k23 ?a24 ?l24 ?c24 ?k24 ?a25 ?l25 ?c25 ?k25 ?a26 ?l26 ?c26 ?k26 ?a27 ?l27 ?c27 ?k27 ?a28 ?l28 ?c28 ?k28 ?a29 ?l29 ?c29 ?k29 ?a30 ?l30 ?c30 ?k30 ?a31 ?l31 ?c31 ?k31 ?a32 ?l32 ?c32 ?k32 ?a33 ?l33 ?c33 ?k33 ?a34 ?l34 ?c34 ?k34 ?a35 ?l35 ?c35 ?k35 ?i0 ?i1 ?i2 ?i3 ?z0 ?z1 ?z2 ?z3 ?z4 ?z5 ?z6 ?z7 ?z8 ?z9 ?z10 ?z11 ?z12 ?z13 ?aT ?lT ?iT ?xP ?xM ?xR ?xC ?xD ?xF ?yX ?yE ?y1 ?y2 ?y7 ?y3 ?y4 ?y5 ?y6 ?y8 ?yM ?yT
  any_goals first | k_is | k_exc | kts_exm | kit_is
  (case iT=>repeat constructor)
 case hNL=>intro p;rfl
end
