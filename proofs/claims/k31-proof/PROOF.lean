import PyProof.Rows.All
import Wide.All
import OpenK.AllK
import Wide.FinOn
import PyProof.EqAt
import PyProof.EqKinds
import PyProof.TupleCall
import PyProof.TupleKey
import KE.KSortTup
import Lean
import PySem.Challenge.RW_pursehall_k31_whole_known_purses
set_option Elab.async false
set_option maxRecDepth 100000
set_option maxHeartbeats 8000000
set_option linter.all false
set_option exponentiation.threshold 500
abbrev FG:=PySem.W.Frag
abbrev LQ:=List (Int×Int)
abbrev LI:=List (List Int)
abbrev Y9:=PySem.Value->PySem.Shared->Prop
abbrev Y8:=List (PySem.Addr×PySem.Obj)
abbrev Y7:=List (List Int×PySem.Addr)
abbrev Y6:=PySem.Str->Option PySem.Value
abbrev Y5:=List (List PySem.Addr)
abbrev Y4:=List (Option Nat)
abbrev Y3:=Array (Int×PySem.Value)
abbrev Y2:=List PySem.Addr
abbrev Y1:=List PySem.Value
abbrev Y0:=List Int
abbrev T0:=List Nat
section
namespace L2
open PySem PySem.Spec PyProof.Rows
abbrev Key:=Sum Int Str
def vO:Key->Value->Bool
 | .inl k,v=>Value.isInt k v
 | .inr x,v=>Value.isStrOf x v
def aZu (w:World):Key->Int
 | .inl k=>hashInt k
 | .inr x=>hashStr w x
theorem dO:∀ {k:Key} {v:Value},vO k v=true->(∃i t,k=Sum.inl i/\v=Value.int i t)\/(∃x t,k=Sum.inr x/\v=Value.str x t)
 | .inl i,v,h=>by
  obtain ⟨t,e⟩:=Value.isInt_shape (k:=i) (v:=v) h
  exact .inl ⟨i,t,rfl,e⟩
 | .inr x,v,h=>by
  obtain ⟨t,e⟩:=Value.isStrOf_shape (x:=x) (v:=v) h
  exact .inr ⟨x,t,rfl,e⟩
theorem aEo (i:Int) (t:Tok):vO (.inl i) (.int i t)=true:=by simp [vO,Value.isInt]
theorem aE6 (x:Str) (t:Tok):vO (.inr x) (.str x t)=true:=by simp [vO,Value.isStrOf]
theorem aT0 (a b:Int):decide ((Sum.inl a:Key)=Sum.inl b)=(a == b):=by
 by_cases e:a=b
 ·subst e;simp
 ·have h:¬ (Sum.inl a:Key)=Sum.inl b:=fun q=>e (Sum.inl.inj q)
  rw [decide_eq_false h]
  exact (beq_eq_false_iff_ne.mpr e).symm
theorem aUz (a b:Str):decide ((Sum.inr a:Key)=Sum.inr b)=decide (a=b):=by
 by_cases e:a=b
 ·subst e;simp
 ·have h:¬ (Sum.inr a:Key)=Sum.inr b:=fun q=>e (Sum.inr.inj q)
  rw [decide_eq_false h,decide_eq_false e]
theorem aUi (a:Int) (b:Str):decide ((Sum.inl a:Key)=Sum.inr b)=false:=decide_eq_false (fun q=>nomatch q)
theorem aU3 (a:Str) (b:Int):decide ((Sum.inr a:Key)=Sum.inl b)=false:=decide_eq_false (fun q=>nomatch q)
def cU (prog:Program) (w:World):PySem.KeyKind prog w Key where
 is:=vO
 hash:=aZu w
 inj:=fun v a b ha hb=>by
  rcases dO ha with ⟨i,t,rfl,rfl⟩ | ⟨x,t,rfl,rfl⟩
  ·rcases dO hb with ⟨j,u,rfl,e⟩ | ⟨y,u,rfl,e⟩
   ·injection e with e1 _;rw [e1]
   ·exact nomatch e
  ·rcases dO hb with ⟨j,u,rfl,e⟩ | ⟨y,u,rfl,e⟩
   ·exact nomatch e
   ·injection e with e1 _;rw [e1]
 byValue:=fun k v h=>by
  rcases dO h with ⟨i,t,rfl,rfl⟩ | ⟨x,t,rfl,rfl⟩<;>rfl
 pyHash:=fun hv h=>by
  rcases dO hv with ⟨i,t,rfl,rfl⟩ | ⟨x,t,rfl,rfl⟩
  ·exact wpAny_pyHash_int h
  ·exact wpAny_pyHash_str h
 eqBool:=fun hu hv h=>by
  rcases dO hu with ⟨i,t,rfl,rfl⟩ | ⟨x,t,rfl,rfl⟩
  ·rcases dO hv with ⟨j,u,rfl,rfl⟩ | ⟨y,u,rfl,rfl⟩
   ·rw [aT0] at h;exact wpAny_eqBool_int h
   ·rw [aUi] at h;exact SeqAt.EqAt.int_str i t y u _ _ _ _ h
  ·rcases dO hv with ⟨j,u,rfl,rfl⟩ | ⟨y,u,rfl,rfl⟩
   ·rw [aU3] at h;exact SeqAt.EqAt.str_int x t j u _ _ _ _ h
   ·rw [aUz] at h;exact wpAny_eqBool_str h
 «strs» :=fun k x t v h=>by
  rcases dO h with ⟨i,u,rfl,e⟩ | ⟨y,u,rfl,e⟩
  ·exact nomatch e
  ·injection e with e1 _
   subst e1
   cases v<;>rfl
theorem yY (prog:Program) (w:World) (i:Int) (t:Tok):(cU prog w).is (.inl i) (.int i t)=true:=aEo i t
theorem zL (prog:Program) (w:World) (x:Str) (t:Tok):(cU prog w).is (.inr x) (.str x t)=true:=aE6 x t
end L2
namespace L2
open PySem PySem.Spec PyProof.Rows
inductive V where
 | non | bl (b:Bool) | int (i:Int) | str (x:Str) | byt (b:Array UInt8) | flt (b:UInt64) | ref (a:Addr) | ty (n:String)
 deriving DecidableEq
def RelV:V->Value->Prop
 | .non,u=>u=Value.none
 | .bl b,u=>u=Value.bool b
 | .int i,u=>∃t,u=Value.int i t
 | .str x,u=>∃t,u=Value.str x t
 | .byt b,u=>∃t,u=Value.bytes b t
 | .flt b,u=>∃t,u=Value.float b t
 | .ref a,u=>u=Value.ref a
 | .ty n,u=>u=Value.type n
abbrev Vals:List V->Y1->Prop:=Paired RelV
theorem Vals.length {xs:List V} {us:Y1} (r:Vals xs us):xs.length=us.length:=Paired.length r
theorem Vals.get:∀ {xs:List V} {us:Y1} {i:Nat} {x:V},Vals xs us->xs[i]?=some x->∃u,us[i]?=some u/\RelV x u
 | _,_,_,_,.nil,e=>by simp at e
 | _,_,0,_,.cons r _,e=>by simp at e;subst e;exact ⟨_,rfl,r⟩
 | _,_,i+1,x,.cons _ t,e=>by
  obtain ⟨u,h1,h2⟩:=Vals.get (i:=i) (x:=x) t (by simpa using e)
  exact ⟨u,by simpa using h1,h2⟩
theorem Vals.set {x:V} {u:Value} (r:RelV x u):∀ {xs:List V} {us:Y1} (i:Nat),Vals xs us->Vals (xs.set i x) (us.set i u)
 | _,_,_,.nil=>.nil
 | _,_,0,.cons _ t=>.cons r t
 | _,_,i+1,.cons q t=>.cons q (Vals.set r i t)
theorem Vals.append:∀ {xs ys:List V} {us ws:Y1},Vals xs us->Vals ys ws->Vals (xs++ys) (us++ws)
 | _,_,_,_,.nil,s=>s
 | _,_,_,_,.cons r t,s=>.cons r (Vals.append t s)
def tY:Option V->Option Value->Prop
 | some v,some u=>RelV v u
 | none,none=>True
 | _,_=>False
def KV {κ:Type}:List (κ×V)->List (κ×Value)->Prop:=Paired fun (p:κ×V) (q:κ×Value)=>p.1=q.1/\RelV p.2 q.2
def kV:Key->V
 | .inl i=>.int i
 | .inr x=>.str x
inductive HO where
 | lst (xs:List V)
 | tup (xs:List V)
 | dK (kvs:List (Key×V)) | dT (kvs:List (List Key×V))
 | set (S:Int->Bool) (n:Nat)
 | ins (C dx:Addr) (fs:List (Str×V))
 | own (x:Addr)
 | xd (fs:List (Str×V))
 | met (f x:Addr)
 | rng (lo hi:Int)
 | frz (o:Obj) (u:HO)
 | tbl (ps:Array Value)
 | ext (φ:Heap->Prop)
abbrev Hp:=Addr->Option HO
def upd (H:Hp) (a:Addr) (o:HO):Hp:=fun b=>if b=a then some o else H b
theorem bJ {H:Hp} {a:Addr} {o:HO}:upd H a o a=some o:=by unfold upd;rw [if_pos rfl]
theorem aU {H:Hp} {a b:Addr} {o:HO} (h:b ≠ a):upd H a o b=H b:=by unfold upd;rw [if_neg h]
theorem rQ {H:Hp} {a b:Addr} {o u:HO} (h:H a=some o) (h':H b=some u) (d:o ≠ u):a ≠ b:=by
 intro e;subst e;rw [h] at h';exact d (Option.some.inj h')
theorem bX {H:Hp} {a b:Addr} {o:HO} (h:H a=some o) (h':H b=none):a ≠ b:=by
 intro e;subst e;rw [h] at h';cases h'
section
variable (P:Program) (w:World)
def dR (H:Hp) (h:Heap) (a:Addr):HO->Prop
 | .lst xs=>xs.length<=sizeLine/\∃(its:Y1) (n:Nat),Vals xs its/\h.get? a=some { cls:=.type "list",data:=.seq its.toArray n }
 | .tup xs=>xs.length<=sizeLine/\∃its:Y1,Vals xs its/\IsTup h a its.toArray
 | .dK kvs=>kvs.length<=sizeLine/\(a == sysModules)=false/\∃vs,KV kvs vs/\h.DictOf (cU P w) a vs
 | .dT kvs=>kvs.length<=sizeLine/\(a == sysModules)=false/\∃xs:List (List Key×Addr×Value),
   Paired (fun (p:List Key×V) (q:List Key×Addr×Value)=>p.1=q.1/\H q.2.1=some (.tup (p.1.map kV))/\RelV p.2 q.2.2) kvs xs /\
   ∃o es ep,h.get? a=some o/\o.ExactDict/\o.data=.dict es ep/\es.toList=xs.map (entryOfKey (tupleKind (cU P w)))/\(xs.map (·.1)).Nodup
 | .set S n=>h.SetOf (intKind P w) a S n
 | .ins C dx fs=>H dx=some (.own a)/\fs.length<=1000/\dx ≠ a/\h.get? a=some (PySem.W.instObj C dx) /\
   ∃mA,h.Ns1 dx mA/\(∀f,tY (fs.lookup f) (mA f))/\PySem.Within mA (fs.map (·.1))
 | .own _=>∃o,h.get? a=some o
 | .xd fs=>∃mA,h.Ns1 a mA/\∀f,tY (fs.lookup f) (mA f)
 | .rng lo hi=>∃t u v,h.get? a=some { cls:=.type "range",data:=.fields #[.int lo t,.int hi u,.int 1 v] }
 | .frz o u=>h.get? a=some o/\dR H h a u
 | .tbl ps=>h.get? a=some { cls:=.none,data:=.fields ps }
 | .met f x=>h.get? a=some (PySem.W.methodObj (.ref f) (.ref x))
 | .ext φ=>φ h/\(∃o,h.get? a=some o)/\∀h1 h2:Heap,φ h1->(∀o,h1.get? a=some o->h2.get? a=some o)->φ h2
def HOk (H:Hp) (h:Heap):Prop:=∀a o,H a=some o->dR P w H h a o
end
section
variable {P:Program} {w:World} {H H':Hp} {h h':Heap} {a:Addr} {o:HO}
theorem dR.lt (x:dR P w H h a o):a<h.objs.size:=by
 cases o with
 | lst xs=>obtain ⟨_,_,_,_,e⟩:=x;exact Heap.lt_size e
 | tup xs=>obtain ⟨_,_,_,p⟩:=x;exact p.lt
 | dK kvs=>obtain ⟨_,_,_,_,o,_,_,e,_⟩:=x;exact Heap.lt_size e
 | dT kvs=>obtain ⟨_,_,_,_,o,_,_,e,_⟩:=x;exact Heap.lt_size e
 | set S n=>obtain ⟨o,_,_,_,e,_⟩:=x;exact Heap.lt_size e
 | ins C dx fs=>obtain ⟨_,_,_,e,_⟩:=x;exact Heap.lt_size e
 | own y=>obtain ⟨_,e⟩:=x;exact Heap.lt_size e
 | xd fs=>obtain ⟨_,⟨_,_,_,e,_⟩,_⟩:=x;exact Heap.lt_size e
 | rng lo hi=>obtain ⟨_,_,_,e⟩:=x;exact Heap.lt_size e
 | frz ob u=>obtain ⟨e,_⟩:=x;exact Heap.lt_size e
 | tbl ps=>exact Heap.lt_size (show h.get? a=some _ from x)
 | met f y=>exact Heap.lt_size (show h.get? a=some _ from x)
 | ext φ=>obtain ⟨_,⟨_,e⟩,_⟩:=x;exact Heap.lt_size e
theorem Paired.aU8 {α β:Type} {F G:α->β->Prop}:∀ {l₁:List α} {l₂:List β},Paired F l₁ l₂->(∀a b,F a b->G a b)->Paired G l₁ l₂
 | _,_,.nil,_=>.nil
 | _,_,.cons r t,f=>.cons (f _ _ r) (Paired.aU8 t f)
theorem dR.stay (x:dR P w H h a o) (k:∀b u,(b=a\/H b=some (.own a))->h.get? b=some u->h'.get? b=some u)
  (ho:∀b,H b=some (.own a)->H' b=some (.own a)) (ht:∀b xs,H b=some (.tup xs)->H' b=some (.tup xs)):dR P w H' h' a o:=by
 induction o with
 | lst xs=>obtain ⟨z,its,n,r,e⟩:=x;exact ⟨z,its,n,r,k _ _ (.inl rfl) e⟩
 | tup xs=>obtain ⟨z,its,r,ob,e,c⟩:=x;exact ⟨z,its,r,ob,k _ _ (.inl rfl) e,c⟩
 | dK kvs=>obtain ⟨z,y,vs,r,ob,es,ep,e,c⟩:=x;exact ⟨z,y,vs,r,ob,es,ep,k _ _ (.inl rfl) e,c⟩
 | dT kvs =>
  obtain ⟨z,y,xs,r,ob,es,ep,e,c⟩:=x
  exact ⟨z,y,xs,Paired.aU8 r fun p q z=>⟨z.1,ht _ _ z.2.1,z.2.2⟩,ob,es,ep,k _ _ (.inl rfl) e,c⟩
 | set S n=>obtain ⟨ob,es,ep,t,e,c⟩:=x;exact ⟨ob,es,ep,t,k _ _ (.inl rfl) e,c⟩
 | ins C dx fs =>
  obtain ⟨d,z,ne,e,mA,⟨od,es,ep,e2,c⟩,r⟩:=x
  exact ⟨ho _ d,z,ne,k _ _ (.inl rfl) e,mA,⟨od,es,ep,k _ _ (.inr d) e2,c⟩,r⟩
 | own y=>obtain ⟨ob,e⟩:=x;exact ⟨ob,k _ _ (.inl rfl) e⟩
 | xd fs=>obtain ⟨mA,⟨od,es,ep,e,c⟩,r⟩:=x;exact ⟨mA,⟨od,es,ep,k _ _ (.inl rfl) e,c⟩,r⟩
 | rng lo hi=>obtain ⟨t,u,v,e⟩:=x;exact ⟨t,u,v,k _ _ (.inl rfl) e⟩
 | frz ob u ih=>obtain ⟨e,q⟩:=x;exact ⟨k _ _ (.inl rfl) e,ih q⟩
 | tbl ps =>
  have e:h.get? a=some { cls:=.none,data:=.fields ps }:=x
  show h'.get? a=some { cls:=.none,data:=.fields ps }
  exact k a _ (.inl rfl) e
 | met f y =>
  have e:h.get? a=some (PySem.W.methodObj (.ref f) (.ref y)):=x
  show h'.get? a=some (PySem.W.methodObj (.ref f) (.ref y))
  exact k a _ (.inl rfl) e
 | ext φ=>obtain ⟨p,⟨o,e⟩,st⟩:=x;exact ⟨st _ _ p fun o q=>k _ _ (.inl rfl) q,⟨o,k _ _ (.inl rfl) e⟩,st⟩
theorem HOk.lt (x:HOk P w H h) (e:H a=some o):a<h.objs.size:=(x a o e).lt
theorem HOk.fresh (x:HOk P w H h) (e:h.objs.size<=a):H a=none:=by
 cases q:H a with
 | none=>rfl
 | some u=>exact absurd (Nat.lt_of_lt_of_le (x.lt q) e) (Nat.lt_irrefl _)
theorem HOk.kept (x:HOk P w H h) (k:∀b u,h.get? b=some u->h'.get? b=some u):HOk P w H h':=fun a o e =>
 (x a o e).stay (fun b u _ q=>k b u q) (fun _ q=>q) fun _ _ q=>q
theorem HOk.laid (x:HOk P w H h) (k:∀b u,h.get? b=some u->h'.get? b=some u) (hp:h.objs.size<=a) (new:dR P w (upd H a o) h' a o):HOk P w (upd H a o) h':=fun b u e=>by
 have hn:=x.fresh hp
 by_cases hb:b=a
 ·subst hb;rw [bJ] at e;cases e;exact new
 ·rw [aU hb] at e
  exact (x b u e).stay (fun c v _ q=>k c v q) (fun c q=>by rw [aU (bX q hn)];exact q) fun c xs q=>by rw [aU (bX q hn)];exact q
end
def Rd (H:Hp) (a:Addr) (u:HO):Prop:=H a=some u\/∃o,H a=some (.frz o u)
theorem Rd.ok {P:Program} {w:World} {H:Hp} {h:Heap} {a:Addr} {u:HO} (r:Rd H a u) (x:HOk P w H h):dR P w H h a u:=by
 rcases r with r | ⟨o,r⟩
 ·exact x a u r
 ·obtain ⟨_,q⟩:=x a _ r
  exact q
def Mut:Option HO->Prop
 | some (.lst _)=>True
 | some (.dK _)=>True
 | some (.dT _)=>True
 | some (.set _ _)=>True
 | some (.ins _ _ _)=>True
 | some (.ext _)=>True
 | _=>False
section
variable {P:Program} {w:World} {H:Hp} {h h':Heap} {x e:Addr} {o':HO}
theorem HOk.write (ok:HOk P w H h) (mu:Mut (H x)) (he:e=x\/H e=some (.own x)) (k:∀b u,b ≠ e->h.get? b=some u->h'.get? b=some u) (heo:∃u,h'.get? e=some u)
  (new:dR P w (upd H x o') h' x o'):HOk P w (upd H x o') h':=fun b u q=>by
 have nown:∀c y,H c=some (.own y)->c ≠ x:=fun c y r z=>by subst z;rw [r] at mu;exact mu
 have ntup:∀c xs,H c=some (.tup xs)->c ≠ x:=fun c xs r z=>by subst z;rw [r] at mu;exact mu
 by_cases hb:b=x
 ·subst hb;rw [bJ] at q;cases q;exact new
 ·rw [aU hb] at q
  by_cases hbe:b=e
  ·have q':H b=some (.own x):=by
    rcases he with z | z
    ·exact absurd (hbe.trans z) hb
    ·rw [hbe];exact z
   rw [q] at q';cases q'
   obtain ⟨v,hv⟩:=heo
   exact ⟨v,by rw [hbe];exact hv⟩
  ·refine (ok b u q).stay (fun c v hc r=>k c v ?_ r) (fun c r=>by rw [aU (nown c b r)];exact r) fun c xs r=>by rw [aU (ntup c xs r)];exact r
   rcases hc with rfl | hc
   ·exact hbe
   ·rintro rfl
    rcases he with z | z
    ·exact nown c b hc z
    ·rw [hc] at z;cases z;exact hb rfl
end
structure Un (fs ex:Y2) (H H':Hp) (h h':Heap):Prop where
 keep:∀b o,h.get? b=some o->H b=none->b ∉ fs->b ∉ ex->h'.get? b=some o
 slot:∀b o,h.get? b=some o->H b=none->b∈fs->b ∉ ex->∃sl,h'.get? b=some { o with slots:=sl }
 free:∀b o,h.get? b=some o->H b=none->b ∉ ex->H' b=none
 there:∀b o,h.get? b=some o->b ∉ ex->∃o',h'.get? b=some o'
 tups:∀b xs,H b=some (.tup xs)->H' b=some (.tup xs)
 frzs:∀b o u,H b=some (.frz o u)->H' b=some (.frz o u)
 tbls:∀b ps,H b=some (.tbl ps)->∃more,H' b=some (.tbl (ps++more))
section
variable {fs fs' ex ex':Y2} {H H1 H2:Hp} {h h1 h2 h':Heap} {a x e:Addr} {o:HO}
theorem Un.any (u:Un fs ex H H1 h h1) {b:Addr} {ob:Obj} (q:h.get? b=some ob) (n:H b=none) (hx:b ∉ ex):∃sl,h1.get? b=some { ob with slots:=sl }:=by
 by_cases hb:b∈fs
 ·exact u.slot b ob q n hb hx
 ·exact ⟨ob.slots,u.keep b ob q n hb hx⟩
theorem Un.trans (a:Un fs ex H H1 h h1) (b:Un fs ex H1 H2 h1 h2):Un fs ex H H2 h h2 where
 keep:=fun c ob q n hc hx=>b.keep c ob (a.keep c ob q n hc hx) (a.free c ob q n hx) hc hx
 slot:=fun c ob q n hc hx=>by
  obtain ⟨sl,e1⟩:=a.slot c ob q n hc hx
  obtain ⟨sl',e2⟩:=b.slot c _ e1 (a.free c ob q n hx) hc hx
  exact ⟨sl',e2⟩
 free:=fun c ob q n hx=>by
  obtain ⟨o',e1⟩:=a.there c ob q hx
  exact b.free c o' e1 (a.free c ob q n hx) hx
 there:=fun c ob q hx=>by
  obtain ⟨o',e1⟩:=a.there c ob q hx
  exact b.there c o' e1 hx
 tups:=fun c xs q=>b.tups c xs (a.tups c xs q)
 frzs:=fun c ob xs q=>b.frzs c ob xs (a.frzs c ob xs q)
 tbls:=fun c ps q=>by
  obtain ⟨m1,e1⟩:=a.tbls c ps q
  obtain ⟨m2,e2⟩:=b.tbls c _ e1
  exact ⟨m1++m2,by rw [e2,Array.append_assoc]⟩
theorem Un.kept (k:∀b u,h.get? b=some u->h'.get? b=some u):Un fs ex H H h h' :=
 ⟨fun b ob q _ _ _=>k b ob q,fun b ob q _ _ _=>⟨ob.slots,k b ob q⟩,fun _ _ _ n _=>n,fun b ob q _=>⟨ob,k b ob q⟩,fun _ _ q=>q,fun _ _ _ q=>q,fun _ ps q=>⟨#[],by rw [q];simp⟩⟩
theorem Un.refl:Un fs ex H H h h:=Un.kept fun _ _ q=>q
theorem Un.laid (k:∀b u,h.get? b=some u->h'.get? b=some u) (hp:h.objs.size<=a) (hn:H a=none):Un fs ex H (upd H a o) h h' where
 keep:=fun b u q _ _ _=>k b u q
 slot:=fun b u q _ _ _=>⟨u.slots,k b u q⟩
 free:=fun b u q n _=>by rw [aU (Nat.ne_of_lt (Nat.lt_of_lt_of_le (Heap.lt_size q) hp))];exact n
 there:=fun b u q _=>⟨u,k b u q⟩
 tups:=fun b xs q=>by rw [aU (bX q hn)];exact q
 frzs:=fun b u xs q=>by rw [aU (bX q hn)];exact q
 tbls:=fun b ps q=>⟨#[],by rw [aU (bX q hn),q];simp⟩
theorem Un.write (mu:Mut (H x)) (he:e=x\/H e=some (.own x)) (k:∀b u,b ≠ e->h.get? b=some u->h'.get? b=some u) (heo:∃u,h'.get? e=some u):Un fs ex H (upd H x o) h h':=by
 have hx:∀b,H b=none->b ≠ x:=fun b n z=>by subst z;rw [n] at mu;exact mu
 have hb:∀b,H b=none->b ≠ e:=fun b n z=>by
  subst z
  rcases he with r | r
  ·exact hx b n r
  ·rw [n] at r;cases r
 have hm:∀b u,H b=some u->¬ Mut (some u)->b ≠ x:=fun b u q nm z=>by subst z;rw [q] at mu;exact nm mu
 refine ⟨fun b u q n _ _=>k b u (hb b n) q,fun b u q n _ _=>⟨u.slots,k b u (hb b n) q⟩,fun b u q n _=>by rw [aU (hx b n)];exact n,fun b u q _=>?_,
  fun b xs q=>by rw [aU (hm b _ q fun z=>z)];exact q,fun b u xs q=>by rw [aU (hm b _ q fun z=>z)];exact q,fun b ps q=>⟨#[],by rw [aU (hm b _ q fun z=>z),q];simp⟩⟩
 by_cases hbe:b=e
 ·subst hbe;exact heo
 ·exact ⟨u,k b u hbe q⟩
end
def trk (h:Heap) (H:Hp):Y2:=(List.range h.objs.size).filter fun a=>(H a).isSome
def sA (h:Heap) (H:Hp):Heap:=PySem.W.hideAll h (trk h H)
theorem aDp (h:Heap) (H:Hp):(sA h H).objs.size=h.objs.size:=PySem.W.hideAll_size _ _
theorem aHk {h:Heap} {H:Hp} {b:Addr} {o:Obj} (e:h.get? b=some o) (n:H b=none):(sA h H).get? b=some o :=
 PySem.W.hideAll_get _ e fun hm=>by
  have q:(H b).isSome=true:=(List.mem_filter.mp hm).2
  rw [n] at q;simp at q
theorem aLw {h:Heap} {H:Hp} {b:Addr} {o:Obj} (e:(sA h H).get? b=some o):h.get? b=some o/\H b=none:=by
 have e':h.get? b=some o:=PySem.W.of_hideAll (trk h H) e
 refine ⟨e',?_⟩
 cases q:H b with
 | none=>rfl
 | some x =>
  have hm:b∈trk h H:=List.mem_filter.mpr ⟨List.mem_range.mpr (Heap.lt_size e'),by simp [q]⟩
  have z:(sA h H).get? b=none:=PySem.W.hideAll_none (trk h H) hm
  rw [z] at e;cases e
end L2
namespace L2
open PySem PySem.Spec PyProof.Rows
structure Mod (K:FG) (mg:Y6) (base:Heap):Prop where
 kin:K.In base
 glob:base.Ns mainGlobals mg
 blt:∃mb,base.Ns builtinsNs mb/\∀x:Str,x ≠ "__name__" ->mb x=bootBuiltins x
 nolimit:base.NoLimit
structure Cx where
 prog:Program
 w:World
 K:FG
 mg:Str->Option Value
 base:Heap
 A:Around
 N:List Str
 s₀:Shared
 H₀:Hp
 env:Env
 outer:List Env
 stack:List Env
 ex:Y2
 fn:Str->Bool
 calm:Bool
 pn:Y8
 xe:Value->Shared->Prop
def frs (l:List Env):Y2:=l.filterMap (·.frame)
abbrev Cx.fs (X:Cx):Y2:=frs X.outer
def Vis (sc:Scope) (x:Str):Prop:=sc.names.lookup x=some .local\/sc.names.lookup x=some .cell\/sc.names.lookup x=some .free
def Loc (sc:Scope) (x:Str):Prop:=sc.names.lookup x=some .local\/sc.names.lookup x=some .cell
def Look (env:Env) (h:Heap) (m:Y6) (x:Str) (u:Value):Prop :=
 (env.kindOf x=some .local/\m x=some u)\/((env.kindOf x=some .cell\/env.kindOf x=some .free)/\∃c,env.cells.lookup x=some c/\h.IsCell c (some u))
structure Cx.Ok (X:Cx):Prop where
 mod:Mod X.K X.mg X.base
 kind:X.env.scope.kind=.function
 glob:X.env.globals=mainGlobals
 blt:X.env.builtins=builtinsNs
 above:X.s₀.heap.objs.size<=X.env.locals
 inj:∀x y c,X.env.cells.lookup x=some c->X.env.cells.lookup y=some c->x=y
 has:∀x,(X.env.kindOf x=some .cell\/X.env.kindOf x=some .free)->∃c,X.env.cells.lookup x=some c
 cab:∀x c,X.fn x=true->X.env.cells.lookup x=some c->X.s₀.heap.objs.size<=c
 hd:X.calm=true->X.A.handled=none
 frames:X.A.frames=some X.stack
 stk:X.stack=X.outer\/(X.stack=X.env::X.outer/\X.env.frame=some X.env.locals)
 exf:∀b∈X.ex,b ≠ X.env.locals/\∀x c,X.env.cells.lookup x=some c->c ≠ b
 bs:∀b o,X.base.get? b=some o->X.s₀.heap.get? b=some o/\X.H₀ b=none
 bsz:X.base.objs.size<=X.s₀.heap.objs.size
 noex:∀b o,X.base.get? b=some o->b ∉ X.ex
 exfs:∀b∈X.ex,b ∉ X.fs
 funs:X.s₀.heap.FunFrames X.base X.outer
 frf:∀b∈X.fs,X.H₀ b=none
structure Inv (X:Cx) (pins:Y8) (σ:List (Option V)) (H:Hp) (s:Shared):Prop where
 ok:X.Ok
 os:s.os=X.s₀.os
 bare:AllBare s.gens
 base:Un X.fs X.ex X.H₀ H X.s₀.heap s.heap
 loc:∃m,s.heap.Ns X.env.locals m/\∀(i:Nat) (x:Str) (v:V),X.N[i]?=some x->σ[i]?=some (some v)->Vis X.env.scope x->∃u,RelV v u/\Look X.env s.heap m x u
 cell:∀x c,X.env.cells.lookup x=some c->∃v,s.heap.IsCell c v
 free:H X.env.locals=none
 freeC:∀x c,X.env.cells.lookup x=some c->H c=none
 pin:∀p∈X.pn++pins,s.heap.get? p.1=some p.2/\H p.1=none/\p.1 ≠ X.env.locals/\p.1 ∉ X.fs/\∀v,p.2.data ≠ .cell v
 hok:HOk X.prog X.w H s.heap
 len:σ.length=X.N.length
section
variable {X:Cx} {pins:Y8} {σ:List (Option V)} {H H':Hp} {s:Shared} {h':Heap}
theorem Cx.Ok.bBk (ok:X.Ok) {b:Addr} {o:Obj} (e:X.base.get? b=some o):b ∉ X.fs:=fun hb=>by
 have:=(ok.funs.mem hb).1
 rw [e] at this;cases this
theorem Inv.bs (I:Inv X pins σ H s):∀b o,X.base.get? b=some o->s.heap.get? b=some o/\H b=none:=fun b o e =>
 ⟨I.base.keep b o (I.ok.bs b o e).1 (I.ok.bs b o e).2 (I.ok.bBk e) (I.ok.noex b o e),I.base.free b o (I.ok.bs b o e).1 (I.ok.bs b o e).2 (I.ok.noex b o e)⟩
theorem Inv.bk (I:Inv X pins σ H s):∀b o,X.base.get? b=some o->s.heap.get? b=some o:=fun b o e=>(I.bs b o e).1
theorem Inv.mod (I:Inv X pins σ H s):Mod X.K X.mg X.base:=I.ok.mod
theorem Inv.kIn (I:Inv X pins σ H s):X.K.In s.heap:=I.ok.mod.kin.keeps I.bk
theorem Inv.lt (I:Inv X pins σ H s):X.env.locals<s.heap.objs.size:=let ⟨_,hn,_⟩:=I.loc;hn.lt
theorem Inv.sz (I:Inv X pins σ H s):X.s₀.heap.objs.size<=s.heap.objs.size:=Nat.le_trans I.ok.above (Nat.le_of_lt I.lt)
theorem Inv.aU9 (I:Inv X pins σ H s) {a:Addr} (h:s.heap.objs.size<=a):a ∉ X.fs:=fun hb=>by
 obtain ⟨_,o,ho,_⟩:=I.ok.funs.mem hb
 exact absurd (Nat.lt_of_lt_of_le (Heap.lt_size ho) (Nat.le_trans I.sz h)) (Nat.lt_irrefl _)
theorem Inv.cne (I:Inv X pins σ H s):∀x c,X.env.cells.lookup x=some c->c ≠ X.env.locals:=fun x c e z=>by
 obtain ⟨v,o,ho,hd⟩:=I.cell x c e
 obtain ⟨m,⟨o',es,ep,ho',hd',_⟩,_⟩:=I.loc
 rw [z,ho'] at ho;cases ho;rw [hd'] at hd;cases hd
theorem Inv.funs (I:Inv X pins σ H s):s.heap.FunFrames X.base X.outer:=by
 have all:∀(l:List Env),(∀b∈frs l,b∈X.fs)->X.s₀.heap.FunFrames X.base l->s.heap.FunFrames X.base l:=by
  intro l
  induction l with
  | nil=>intro _ _;trivial
  | cons env r ih =>
   intro hs hl
   obtain ⟨hk,⟨L,o,hf,hn,ho,hd⟩,hr⟩:=hl
   have hL:L∈X.fs:=hs L (by unfold frs;rw [List.filterMap_cons,hf];exact List.mem_cons_self)
   obtain ⟨sl,e⟩:=I.base.slot L o ho (I.ok.frf L hL) hL fun z=>I.ok.exfs L z hL
   exact ⟨hk,⟨L,_,hf,hn,e,hd⟩,ih (fun b hb=>hs b (by unfold frs;rw [List.filterMap_cons,hf];exact List.mem_cons_of_mem _ hb)) hr⟩
 exact all X.outer (fun _ hb=>hb) I.ok.funs
theorem Inv.stack (I:Inv X pins σ H s):s.heap.FunFrames X.base X.stack:=by
 rcases I.ok.stk with e | ⟨e,hf⟩
 ·rw [e];exact I.funs
 ·rw [e]
  obtain ⟨m,hn,_⟩:=I.loc
  refine .cons (by rw [I.ok.kind];decide) hf hn ?_ I.funs
  exact Heap.get?_none_of_le (Nat.le_trans I.ok.bsz I.ok.above)
theorem Inv.uH (I:Inv X pins σ H s):∀b∈frs X.stack,b∈X.env.locals::X.fs:=fun b hb=>by
 rcases I.ok.stk with e | ⟨e,hf⟩
 ·rw [e] at hb;exact List.mem_cons_of_mem _ hb
 ·rw [e] at hb
  unfold frs at hb
  rw [List.filterMap_cons,hf] at hb
  exact hb
theorem Inv.yR (I:Inv X pins σ H s):∀b∈frs X.stack,H b=none:=fun b hb=>by
 rcases List.mem_cons.mp (I.uH b hb) with e | hb
 ·rw [e];exact I.free
 ·obtain ⟨_,o,ho,_⟩:=I.ok.funs.mem hb
  exact I.base.free b o ho (I.ok.frf b hb) fun z=>I.ok.exfs b z hb
theorem Inv.step {g':Array GenState} {t':Nat} {d':Drawn} {ch:Y2} (I:Inv X pins σ H s)
  (hch:∀b∈ch,(b∈X.ex\/X.s₀.heap.objs.size<=b)/\b ≠ X.env.locals/\(∀x c,X.env.cells.lookup x=some c->c ≠ b)/\∀p∈X.pn++pins,p.1 ≠ b)
  (keep:∀b o,b ≠ X.env.locals->b ∉ X.fs->b ∉ ch->s.heap.get? b=some o->H b=none->h'.get? b=some o)
  (slot:∀b o,b ≠ X.env.locals->b∈X.fs->b ∉ ch->s.heap.get? b=some o->H b=none->∃sl,h'.get? b=some { o with slots:=sl }) (free:∀b o,b ∉ ch->s.heap.get? b=some o->H b=none->H' b=none)
  (there:∀b o,b ∉ ch->s.heap.get? b=some o->∃o',h'.get? b=some o')
  (tups:∀b xs,H b=some (.tup xs)->H' b=some (.tup xs)) (frzs:∀b o u,H b=some (.frz o u)->H' b=some (.frz o u)) (tbls:∀b ps,H b=some (.tbl ps)->∃more,H' b=some (.tbl (ps++more)))
  (ns:∀m,s.heap.Ns X.env.locals m->h'.Ns X.env.locals m) (hok:HOk X.prog X.w H' h') (hg:AllBare g') :
  Inv X pins σ H' { s with heap:=h',gens:=g',drawn:=d',toks:=t' }:=by
 have neL:∀b o,X.s₀.heap.get? b=some o->b ≠ X.env.locals:=fun b o e=>Nat.ne_of_lt (Nat.lt_of_lt_of_le (Heap.lt_size e) I.ok.above)
 have neC:∀b o,X.s₀.heap.get? b=some o->b ∉ X.ex->b ∉ ch:=fun b o e hx hb=>by
  rcases (hch b hb).1 with z | z
  ·exact hx z
  ·exact absurd (Nat.lt_of_lt_of_le (Heap.lt_size e) z) (Nat.lt_irrefl _)
 have cellK:∀x c,X.env.cells.lookup x=some c->∀v,s.heap.IsCell c v->h'.IsCell c v:=fun x c e v ⟨o,ho,hd⟩=>by
  have nch:c ∉ ch:=fun z=>(hch c z).2.2.1 x c e rfl
  by_cases hc:c∈X.fs
  ·obtain ⟨sl,q⟩:=slot c o (I.cne x c e) hc nch ho (I.freeC x c e)
   exact ⟨_,q,hd⟩
  ·exact ⟨o,keep c o (I.cne x c e) hc nch ho (I.freeC x c e),hd⟩
 refine ⟨I.ok,I.os,hg,⟨fun b o e n hb hx=>?_,fun b o e n hb hx=>?_,fun b o e n hx=>?_,fun b o e hx=>?_,fun b xs e=>tups b xs (I.base.tups b xs e),fun b o xs e=>frzs b o xs (I.base.frzs b o xs e),fun b ps e=>?_⟩,?_,fun x c e=>?_,?_,fun x c e=>?_,fun p hp=>?_,hok,I.len⟩
 ·exact keep b o (neL b o e) hb (neC b o e hx) (I.base.keep b o e n hb hx) (I.base.free b o e n hx)
 ·obtain ⟨sl,e1⟩:=I.base.slot b o e n hb hx
  obtain ⟨sl',e2⟩:=slot b _ (neL b o e) hb (neC b o e hx) e1 (I.base.free b o e n hx)
  exact ⟨sl',e2⟩
 ·obtain ⟨o',e1⟩:=I.base.there b o e hx
  exact free b o' (neC b o e hx) e1 (I.base.free b o e n hx)
 ·obtain ⟨o',e1⟩:=I.base.there b o e hx
  exact there b o' (neC b o e hx) e1
 ·obtain ⟨m1,e1⟩:=I.base.tbls b ps e
  obtain ⟨m2,e2⟩:=tbls b _ e1
  exact ⟨m1++m2,by rw [e2,Array.append_assoc]⟩
 ·obtain ⟨m,hn,hl⟩:=I.loc
  refine ⟨m,ns m hn,fun i x v e1 e2 e3=>?_⟩
  obtain ⟨u,r,l⟩:=hl i x v e1 e2 e3
  refine ⟨u,r,?_⟩
  rcases l with l | ⟨k,c,e,z⟩
  ·exact .inl l
  ·exact .inr ⟨k,c,e,cellK x c e _ z⟩
 ·obtain ⟨v,z⟩:=I.cell x c e
  exact ⟨v,cellK x c e v z⟩
 ·obtain ⟨m,⟨o,_,_,ho,_⟩,_⟩:=I.loc
  exact free _ o (fun z=>(hch _ z).2.1 rfl) ho I.free
 ·obtain ⟨v,o,ho,hd⟩:=I.cell x c e
  exact free c o (fun z=>(hch c z).2.2.1 x c e rfl) ho (I.freeC x c e)
 ·obtain ⟨e,n,ne,nf,d⟩:=I.pin p hp
  have nch:p.1 ∉ ch:=fun z=>(hch p.1 z).2.2.2 p hp rfl
  exact ⟨keep p.1 p.2 ne nf nch e n,free p.1 p.2 nch e n,ne,nf,d⟩
theorem Inv.un {t':Nat} (I:Inv X pins σ H s) (u:Un X.fs [] H H' s.heap h') (hok:HOk X.prog X.w H' h'):Inv X pins σ H' { s with heap:=h',toks:=t' }:=by
 obtain ⟨m,⟨o,es,ep,ho,r⟩,_⟩:=id I.loc
 obtain ⟨sl,hL⟩:=u.any ho I.free (by simp)
 exact I.step (g':=s.gens) (d':=s.drawn) (ch:=[]) (fun _ z=>nomatch z) (fun b o _ hb _ e n=>u.keep b o e n hb (by simp)) (fun b o _ hb _ e n=>u.slot b o e n hb (by simp)) (fun b o _ e n=>u.free b o e n (by simp)) (fun b o _ e=>u.there b o e (by simp)) u.tups u.frzs u.tbls (fun m' hm=>by
  obtain ⟨o',es',ep',ho',r'⟩:=hm
  rw [ho] at ho';cases ho'
  exact ⟨_,es',ep',hL,r'⟩) hok I.bare
theorem Inv.call {g':Array GenState} {t':Nat} {d':Drawn} {ch:Y2} (I:Inv X pins σ H s) (u:Un (frs X.stack) ch H H' s.heap h') (hok:HOk X.prog X.w H' h') (hg:AllBare g')
  (hch:∀b∈ch,(b∈X.ex\/X.s₀.heap.objs.size<=b)/\b ≠ X.env.locals/\(∀x c,X.env.cells.lookup x=some c->c ≠ b)/\∀p∈X.pn++pins,p.1 ≠ b) :
  Inv X pins σ H' { s with heap:=h',gens:=g',drawn:=d',toks:=t' }:=by
 obtain ⟨m,⟨o,es,ep,ho,r⟩,_⟩:=id I.loc
 obtain ⟨sl,hL⟩:=u.any ho I.free fun z=>(hch _ z).2.1 rfl
 exact I.step (ch:=ch) hch (fun b o hL hb hc e n=>u.keep b o e n (fun z=>(List.mem_cons.mp (I.uH b z)).elim hL hb) hc) (fun b o _ _ hc e n=>u.any e n hc) (fun b o hc e n=>u.free b o e n hc) (fun b o hc e=>u.there b o e hc) u.tups u.frzs u.tbls (fun m' hm=>by
  obtain ⟨o',es',ep',ho',r'⟩:=hm
  rw [ho] at ho';cases ho'
  exact ⟨_,es',ep',hL,r'⟩) hok hg
theorem Inv.turned {t':Nat} {it:Addr} (I:Inv X pins σ H s) (k:∀b o,b ≠ it->s.heap.get? b=some o->h'.get? b=some o) (hn:H it=none) (hL:it ≠ X.env.locals)
  (h1:it∈X.ex\/X.s₀.heap.objs.size<=it) (h2:∀x c,X.env.cells.lookup x=some c->c ≠ it) (h3:∀p∈X.pn++pins,p.1 ≠ it):Inv X pins σ H { s with heap:=h',toks:=t' }:=by
 have nit:∀b u,H b=some u->b ≠ it:=fun b u e z=>by rw [z,hn] at e;cases e
 refine I.step (g':=s.gens) (d':=s.drawn) (ch:=[it]) (fun b hb=>?_) (fun b o _ _ hc e _=>k b o (fun z=>hc (by simp [z])) e) (fun b o _ _ hc e _=>⟨o.slots,k b o (fun z=>hc (by simp [z])) e⟩) (fun _ _ _ _ n=>n)
  (fun b o hc e=>⟨o,k b o (fun z=>hc (by simp [z])) e⟩) (fun _ _ e=>e) (fun _ _ _ e=>e) (fun b ps e=>⟨#[],by rw [e];simp⟩) (fun m hm=>?_) (fun b u e=>?_) I.bare
 ·have e:b=it:=by simpa using hb
  subst e
  exact ⟨h1,hL,h2,h3⟩
 ·obtain ⟨o,es,ep,ho,r⟩:=hm
  exact ⟨o,es,ep,k _ o (Ne.symm hL) ho,r⟩
 ·refine (I.hok b u e).stay (fun c v hc q=>k c v ?_ q) (fun _ q=>q) fun _ _ q=>q
  rcases hc with z | z
  ·rw [z];exact nit b u e
  ·exact nit c _ z
theorem Inv.tok (I:Inv X pins σ H s) (t:Nat):Inv X pins σ H { s with toks:=t }:=I.un (h':=s.heap) (t':=t) Un.refl I.hok
theorem Inv.kept {t':Nat} (I:Inv X pins σ H s) (k:∀b u,s.heap.get? b=some u->h'.get? b=some u):Inv X pins σ H { s with heap:=h',toks:=t' }:=I.un (Un.kept k) (I.hok.kept k)
theorem Inv.laid {a:Addr} {o:HO} {t':Nat} (I:Inv X pins σ H s) (k:∀b u,s.heap.get? b=some u->h'.get? b=some u) (hp:s.heap.objs.size<=a) (new:dR X.prog X.w (upd H a o) h' a o) :
  Inv X pins σ (upd H a o) { s with heap:=h',toks:=t' }:=I.un (Un.laid k hp (I.hok.fresh hp)) (I.hok.laid k hp new)
theorem Inv.write {x e:Addr} {o:HO} {t':Nat} (I:Inv X pins σ H s) (mu:Mut (H x)) (he:e=x\/H e=some (.own x)) (k:∀b u,b ≠ e->s.heap.get? b=some u->h'.get? b=some u) (heo:∃u,h'.get? e=some u)
  (new:dR X.prog X.w (upd H x o) h' x o):Inv X pins σ (upd H x o) { s with heap:=h',toks:=t' }:=I.un (Un.write mu he k heo) (I.hok.write mu he k heo new)
theorem Inv.mP {pins':Y8} (I:Inv X pins σ H s) (h:∀p∈pins',s.heap.get? p.1=some p.2/\H p.1=none/\p.1 ≠ X.env.locals/\p.1 ∉ X.fs/\∀v,p.2.data ≠ .cell v):Inv X pins' σ H s :=
 ⟨I.ok,I.os,I.bare,I.base,I.loc,I.cell,I.free,I.freeC,fun p hp=>(List.mem_append.mp hp).elim (fun z=>I.pin p (List.mem_append_left _ z)) (h p),I.hok,I.len⟩
theorem zG {N:List Str} (hN:N.Nodup) {i j:Nat} {x:Str} (a:N[i]?=some x) (b:N[j]?=some x):i=j:=by
 obtain ⟨h1,e1⟩:=List.getElem?_eq_some_iff.mp a
 obtain ⟨h2,e2⟩:=List.getElem?_eq_some_iff.mp b
 exact (List.getElem_inj hN).mp (e1.trans e2.symm)
theorem wF {M:Model} {A:Around} {E:Y9} {i:Nat} {x:Str} {v:V} {u:Value} {Q:Unit->Shared->Prop} (I:Inv X pins σ H s) (hN:X.N.Nodup) (hi:X.N[i]?=some x) (hx:Loc X.env.scope x) (r:RelV v u)
  (h:∀s',Inv X pins (σ.set i (some v)) H s'->(∃a,Heap.SameBut a s.heap s'.heap/\(a=X.env.locals\/X.env.cells.lookup x=some a))->Q () s') (hf:X.fn x=true\/X.env.scope.names.lookup x=some .local:=by first | exact .inl rfl | exact .inr rfl | assumption):wpAny M A (storeName X.env x u) Q E s:=by
 obtain ⟨m,hn,hl⟩:=id I.loc
 have hcls:(X.env.scope.kind == .class || (X.env.scope.kind == .module && X.env.locals != X.env.globals))=false:=by rw [I.ok.kind];rfl
 have hiσ:i < σ.length:=by rw [I.len];exact (List.getElem?_eq_some_iff.mp hi).1
 have cne:=I.cne
 have tracked:∀ {a:Addr} {h':Heap},(∃o,s.heap.get? a=some o/\H a=none)->Heap.SameBut a s.heap h'->HOk X.prog X.w H h':=fun {a h'} ha hs b ob e=>by
  obtain ⟨_,_,hfree⟩:=ha
  refine (I.hok b ob e).stay (fun c w' hc q=>(hs.2 c ?_).trans q) (fun _ q=>q) fun _ _ q=>q
  rintro rfl
  rcases hc with rfl | hc
  ·rw [hfree] at e;cases e
  ·rw [hfree] at hc;cases hc
 rcases hx with hk | hk
 ·refine wpAny_storeName_local hk hn (fun h' hn' hs=>?_) hcls
  obtain ⟨oL,_,_,hoL,_⟩:=id hn
  refine h _ ⟨I.ok,I.os,I.bare,⟨fun b o e n hb hx=>?_,fun b o e n hb hx=>?_,I.base.free,fun b o e hx=>?_,I.base.tups,I.base.frzs,I.base.tbls⟩,⟨_,hn',fun j y v' e1 e2 e3=>?_⟩,fun y c e=>?_,I.free,I.freeC,fun p hp=>?_,tracked ⟨oL,hoL,I.free⟩ hs,by simpa using I.len⟩ ⟨_,hs,.inl rfl⟩
  ·exact (hs.2 b (Nat.ne_of_lt (Nat.lt_of_lt_of_le (Heap.lt_size e) I.ok.above))).trans (I.base.keep b o e n hb hx)
  ·obtain ⟨sl,e1⟩:=I.base.slot b o e n hb hx
   exact ⟨sl,(hs.2 b (Nat.ne_of_lt (Nat.lt_of_lt_of_le (Heap.lt_size e) I.ok.above))).trans e1⟩
  ·obtain ⟨o',e1⟩:=I.base.there b o e hx
   exact ⟨o',(hs.2 b (Nat.ne_of_lt (Nat.lt_of_lt_of_le (Heap.lt_size e) I.ok.above))).trans e1⟩
  ·by_cases hj:j=i
   ·subst hj
    rw [hi] at e1;cases e1
    rw [List.getElem?_set_self hiσ] at e2
    cases e2
    exact ⟨u,r,.inl ⟨hk,by simp⟩⟩
   ·rw [List.getElem?_set_ne (Ne.symm hj)] at e2
    obtain ⟨u',r',q⟩:=hl j y v' e1 e2 e3
    refine ⟨u',r',?_⟩
    rcases q with ⟨k,e⟩ | ⟨k,c,e,z⟩
    ·refine .inl ⟨k,?_⟩
     have:y ≠ x:=fun e=>hj (zG hN e1 (e ▸ hi))
     simp [this,e]
    ·exact .inr ⟨k,c,e,z.sameBut hs (cne y c e)⟩
  ·obtain ⟨w',z⟩:=I.cell y c e
   exact ⟨w',z.sameBut hs (cne y c e)⟩
  ·obtain ⟨e,n,ne,nf,d⟩:=I.pin p hp
   exact ⟨(hs.2 p.1 ne).trans e,n,ne,nf,d⟩
 ·have hfn:X.fn x=true:=by
   rcases hf with z | z
   ·exact z
   ·rw [z] at hk;cases hk
  obtain ⟨c,hc⟩:=I.ok.has x (.inl hk)
  obtain ⟨w',z⟩:=I.cell x c hc
  refine wpAny_storeName_cell I.ok.kind hk hc z (fun h' hc' hs=>?_)
  obtain ⟨oc,hoc,hocd⟩:=id z
  refine h { s with heap:=h' } ⟨I.ok,I.os,I.bare,⟨fun b o e n hb hx=>?_,fun b o e n hb hx=>?_,I.base.free,fun b o e hx=>?_,I.base.tups,I.base.frzs,I.base.tbls⟩,⟨m,hn.sameBut hs (Ne.symm (cne x c hc)),fun j y v' e1 e2 e3=>?_⟩,fun y c' e=>?_,I.free,I.freeC,fun p hp=>?_,tracked ⟨oc,hoc,I.freeC x c hc⟩ hs,by simpa using I.len⟩ ⟨c,hs,.inr hc⟩
  ·exact (hs.2 b (Nat.ne_of_lt (Nat.lt_of_lt_of_le (Heap.lt_size e) (I.ok.cab x c hfn hc)))).trans (I.base.keep b o e n hb hx)
  ·obtain ⟨sl,e1⟩:=I.base.slot b o e n hb hx
   exact ⟨sl,(hs.2 b (Nat.ne_of_lt (Nat.lt_of_lt_of_le (Heap.lt_size e) (I.ok.cab x c hfn hc)))).trans e1⟩
  ·obtain ⟨o',e1⟩:=I.base.there b o e hx
   exact ⟨o',(hs.2 b (Nat.ne_of_lt (Nat.lt_of_lt_of_le (Heap.lt_size e) (I.ok.cab x c hfn hc)))).trans e1⟩
  ·by_cases hj:j=i
   ·subst hj
    rw [hi] at e1;cases e1
    rw [List.getElem?_set_self hiσ] at e2
    cases e2
    exact ⟨u,r,.inr ⟨.inl hk,c,hc,hc'⟩⟩
   ·rw [List.getElem?_set_ne (Ne.symm hj)] at e2
    obtain ⟨u',r',q⟩:=hl j y v' e1 e2 e3
    refine ⟨u',r',?_⟩
    rcases q with q | ⟨k,c',e,z'⟩
    ·exact .inl q
    ·refine .inr ⟨k,c',e,z'.sameBut hs ?_⟩
     rintro rfl
     exact hj (zG hN e1 (I.ok.inj _ _ _ e hc ▸ hi))
  ·by_cases hcc:c'=c
   ·subst hcc;exact ⟨_,hc'⟩
   ·obtain ⟨w2,z2⟩:=I.cell y c' e
    exact ⟨w2,z2.sameBut hs hcc⟩
  ·obtain ⟨e,n,ne,nf,d⟩:=I.pin p hp
   refine ⟨(hs.2 p.1 ?_).trans e,n,ne,nf,d⟩
   intro q
   rw [q,hoc] at e
   have q':oc=p.2:=Option.some.inj e
   exact d w' (by rw [<- q'];exact hocd)
theorem lH {M:Model} {A:Around} {E:Y9} {i:Nat} {x:Str} {v:V} {u:Value} {Q:Unit->Shared->Prop} (I:Inv X pins σ H s) (hN:X.N.Nodup) (hi:X.N[i]?=some x) (hx:Loc X.env.scope x) (r:RelV v u)
  (h:∀s',Inv X pins (σ.set i (some v)) H s'->Q () s') (hf:X.fn x=true\/X.env.scope.names.lookup x=some .local:=by first | exact .inl rfl | exact .inr rfl | assumption):wpAny M A (storeName X.env x u) Q E s :=
 wF I hN hi hx r (fun s' I' _=>h s' I') hf
theorem Inv.aDl {s':Shared} {ch:Y2} (I:Inv X pins σ H s) (ho:s'.os=s.os) (u:Un (frs X.stack) ch H H' s.heap s'.heap) (hok:HOk X.prog X.w H' s'.heap) (hg:AllBare s'.gens)
  (hch:∀b∈ch,(b∈X.ex\/X.s₀.heap.objs.size<=b)/\b ≠ X.env.locals/\(∀x c,X.env.cells.lookup x=some c->c ≠ b)/\∀p∈X.pn++pins,p.1 ≠ b):Inv X pins σ H' s':=by
 obtain ⟨h',g',d',t',o'⟩:=s'
 have e:o'=s.os:=ho
 subst e
 exact I.call (g':=g') (t':=t') (d':=d') u hok hg hch
end
abbrev XK:=Value->Option Addr->Hp->Prop
abbrev St:=List (Option V)
abbrev VK:=V->Hp->Prop
abbrev TE:=St->Hp->VK->Prop
abbrev TT:=St->Hp->(Bool->Hp->Prop)->Prop
abbrev TA:=St->Hp->(List V->Hp->Prop)->Prop
structure Ends where
 nx:St->Hp->Prop
 rt:VK
 bk:St->Hp->Prop:=fun _ _=>False
 ct:St->Hp->Prop:=fun _ _=>False
abbrev TS:=Ends->St->Hp->Prop
def EP (X:Cx) (pins:Y8) (σ:St) (Q:VK) (u:Value) (s':Shared):Prop:=∃v H',Inv X pins σ H' s'/\RelV v u/\Q v H'
def TP (X:Cx) (pins:Y8) (σ:St) (Q:Bool->Hp->Prop) (b:Bool) (s':Shared):Prop:=∃H',Inv X pins σ H' s'/\Q b H'
def AP (X:Cx) (pins:Y8) (σ:St) (Q:List V->Hp->Prop) (us:Y1) (s':Shared):Prop:=∃vs H',Inv X pins σ H' s'/\Vals vs us/\Q vs H'
def SP (X:Cx) (pins:Y8) (D:Ends) (f:Flow) (s':Shared):Prop :=
 match f with
 | .next=>∃σ' H',Inv X pins σ' H' s'/\D.nx σ' H'
 | .brk=>∃σ' H',Inv X pins σ' H' s'/\D.bk σ' H'
 | .cont=>∃σ' H',Inv X pins σ' H' s'/\D.ct σ' H'
 | .ret u=>∃v σ' H',Inv X pins σ' H' s'/\RelV v u/\D.rt v H'
def PE (X:Cx) (e:Expr) (t:TE):Prop :=
 ∀(pins:Y8) (s:Shared) (σ:St) (H:Hp) (Q:VK),Inv X pins σ H s->t σ H Q->wpAny (model X.prog X.w) X.A (eval e X.env) (EP X pins σ Q) X.xe s
def PT (X:Cx) (e:Expr) (t:TT):Prop :=
 ∀(pins:Y8) (s:Shared) (σ:St) (H:Hp) (Q:Bool->Hp->Prop),Inv X pins σ H s->t σ H Q->wpAny (model X.prog X.w) X.A (isTrue e X.env (eval e X.env)) (TP X pins σ Q) X.xe s
def PW (X:Cx) (e:Expr) (t:TT):Prop :=
 ∀(whole:Sem Value) (pins:Y8) (s:Shared) (σ:St) (H:Hp) (Q:Bool->Hp->Prop),Inv X pins σ H s->t σ H Q->wpAny (model X.prog X.w) X.A (isTrue e X.env whole) (TP X pins σ Q) X.xe s
theorem PW.pt {X:Cx} {e:Expr} {t:TT} (h:PW X e t):PT X e t:=h _
def PA (X:Cx) (es:List Expr) (t:TA):Prop :=
 ∀(pos:Pos) (pins:Y8) (s:Shared) (σ:St) (H:Hp) (Q:List V->Hp->Prop),Inv X pins σ H s->t σ H Q->wpAny (model X.prog X.w) X.A (spliced (backTo pos (starEach es X.env))) (AP X pins σ Q) X.xe s
def PS (X:Cx) (st:Stmt) (t:TS):Prop :=
 ∀(pins:Y8) (s:Shared) (σ:St) (H:Hp) (D:Ends),Inv X pins σ H s->t D σ H->wpAny (model X.prog X.w) X.A (exec st X.env) (SP X pins D) X.xe s
def PSs (X:Cx) (st:List Stmt) (t:TS):Prop :=
 ∀(pins:Y8) (s:Shared) (σ:St) (H:Hp) (D:Ends),Inv X pins σ H s->t D σ H->wpAny (model X.prog X.w) X.A (execs st X.env) (SP X pins D) X.xe s
theorem thn {α:Type} {t:Sem α} {Q Q':α->Shared->Prop} {M:Model} {A:Around} {E:Y9} {s:Shared} (h:wpAny M A t Q E s) (hQ:∀a s,Q a s->Q' a s):wpAny M A t Q' E s:=wpAny_mono h hQ fun _ _ x=>x
end L2
namespace L2
open PySem PySem.Spec PyProof.Rows
section
variable {X:Cx}
def tU (i:Nat):TE:=fun σ H Q=>∃v,σ[i]?=some (some v)/\Q v H
def tC (v:V):TE:=fun _ H Q=>Q v H
theorem iX {i:Nat} {x:Str} {pos:Pos} (hN:X.N[i]?=some x) (hv:Vis X.env.scope x) (hd:(x == ("__debug__" : Str))=false:=by decide) (hcd:(x == ("__classdict__" : Str))=false:=by decide):PE X (.Name x pos) (tU i):=by
 intro pins s σ H Q I h
 obtain ⟨v,e,h⟩:=h
 obtain ⟨m,hn,hl⟩:=I.loc
 obtain ⟨u,r,l⟩:=hl i x v hN e hv
 have fin:EP X pins σ Q u s:=⟨v,H,I,r,h⟩
 rcases l with ⟨hk,hm⟩ | ⟨hk,c,hc,hcell⟩
 ·exact wpAny_Name (wpAny_loadName_local I.ok.kind hk hn hm fin) hd
 ·rcases hk with hk | hk
  ·exact wpAny_Name (wpAny_loadName_cell I.ok.kind hk hc hcell fin) hd
  ·exact wpAny_Name (wpAny_loadName_free I.ok.kind hk hc hcell fin hcd) hd
theorem aGg {i j pos}:PE X (.Constant (.int i) j pos) (tC (.int i)):=fun _ _ _ H _ I h=>wpAny_Constant_int ⟨.int i,H,I.tok _,⟨_,rfl⟩,h⟩
theorem aXl {b j pos}:PE X (.Constant (.bool b) j pos) (tC (.bl b)):=fun _ _ _ H _ I h=>Constant_bool ⟨.bl b,H,I,rfl,h⟩
theorem aQt {j pos}:PE X (.Constant .none j pos) (tC .non):=fun _ _ _ H _ I h=>Constant_none ⟨.non,H,I,rfl,h⟩
theorem aJh {x j pos}:PE X (.Constant (.str x) j pos) (tC (.str x)):=fun _ _ _ H _ I h=>Calls.Constant_str ⟨.str x,H,I.tok _,⟨_,rfl⟩,h⟩
def Gl (X:Cx) (x:Str):Prop:=X.env.kindOf x=some .globalImplicit
theorem kM {E:Y9} {pins:Y8} {s:Shared} {σ:St} {H:Hp} {x:Str} {u:Value} {pos:Pos} {Q:Y9} (I:Inv X pins σ H s) (hg:Gl X x) (hm:X.mg x=some u) (h:Q u s)
  (hd:(x == ("__debug__" : Str))=false:=by decide):wpAny (model X.prog X.w) X.A (eval (.Name x pos) X.env) Q E s :=
 Calls.Name_function_global I.ok.kind hg (Calls.loadGlobal_global (by rw [I.ok.glob];exact I.mod.glob.keeps I.bk) hm h) hd
theorem pO {E:Y9} {pins:Y8} {s:Shared} {σ:St} {H:Hp} {x:Str} {u:Value} {pos:Pos} {Q:Y9} (I:Inv X pins σ H s) (hg:Gl X x) (hm:X.mg x=none) (hv:bootBuiltins x=some u) (h:Q u s)
  (hn:x ≠ "__name__" :=by decide) (hd:(x == ("__debug__" : Str))=false:=by decide):wpAny (model X.prog X.w) X.A (eval (.Name x pos) X.env) Q E s:=by
 obtain ⟨mb,h1,h2⟩:=I.mod.blt
 exact Calls.Name_function_global I.ok.kind hg (Calls.loadGlobal_builtin (by rw [I.ok.glob];exact I.mod.glob.keeps I.bk) hm (by rw [I.ok.blt];exact h1.keeps I.bk) ((h2 x hn).trans hv) h) hd
theorem aNx {x:Str} {v:V} {u:Value} {pos:Pos} (hg:Gl X x) (hm:X.mg x=some u) (r:RelV v u) (hd:(x == ("__debug__" : Str))=false:=by decide):PE X (.Name x pos) (tC v) :=
 fun _ _ _ H _ I h=>kM I hg hm ⟨v,H,I,r,h⟩ hd
theorem aNj {x:Str} {v:V} {u:Value} {pos:Pos} (hg:Gl X x) (hm:X.mg x=none) (hv:bootBuiltins x=some u) (r:RelV v u) (hn:x ≠ "__name__" :=by decide) (hd:(x == ("__debug__" : Str))=false:=by decide):PE X (.Name x pos) (tC v) :=
 fun _ _ _ H _ I h=>pO I hg hm hv ⟨v,H,I,r,h⟩ hn hd
variable {a b:Expr} {ta tb:TE} {pos:Pos}
def PC (X:Cx) (op:CmpOp) (a b:Expr) (t:TE):Prop :=
 ∀(pins:Y8) (s:Shared) (σ:St) (H:Hp) (Q:VK),Inv X pins σ H s->t σ H Q ->
  wpAny (model X.prog X.w) X.A (eval a X.env) (fun v s₁=>wpAny (model X.prog X.w) X.A (eval b X.env) (fun u s₂=>wpAny (model X.prog X.w) X.A (compareOp op v u) (EP X pins σ Q) X.xe s₂) X.xe s₁) X.xe s
def tB (t:TE):TT:=fun σ H Q=>t σ H fun x H1=>∃c,x=.bl c/\Q c H1
theorem aRa {op:CmpOp} {t:TE} (h:PC X op a b t) (h1:behindInMarks op b=false:=by first | exact nobehind _ (by decide) (by decide) | rfl):PT X (.Compare a [op] [b] pos) (tB t):=by
 intro pins s σ H Q I hw
 refine wpAny_isTrue_Compare1 (thn (h pins s σ H _ I hw) fun v s1 h1=>thn h1 fun u s2 h2=>thn h2 fun c s3 ⟨x,H1,I1,r1,q1⟩=>?_) h1
 obtain ⟨d,rfl,q⟩:=q1
 cases r1
 exact wpAny_truthy_bool ⟨H1,I1,q⟩
variable {tA tB':TT} {rest:List Expr}
def aXt (t u:TT):TT:=fun σ H Q=>t σ H fun c H1=>if c=true then u σ H1 Q else Q false H1
def tOr (t u:TT):TT:=fun σ H Q=>t σ H fun c H1=>if c=true then Q true H1 else u σ H1 Q
def aVi (t:TT):TT:=fun σ H Q=>t σ H fun c H1=>Q (!c) H1
theorem aJ6 (ha:PT X a tA):PW X (.BoolOp .And [a] pos) tA:=by
 intro wh pins s σ H Q I h
 refine isTrue_and (thn (ha pins s σ H Q I h) fun c s1 e=>?_)
 cases c with
 | true=>exact isTrue_and_nil e
 | false=>exact e
theorem aR6 (ha:PT X a tA):PW X (.BoolOp .Or [a] pos) tA:=by
 intro wh pins s σ H Q I h
 refine isTrue_or (thn (ha pins s σ H Q I h) fun c s1 e=>?_)
 cases c with
 | false=>exact isTrue_or_nil e
 | true=>exact e
theorem aQz (ha:PT X a tA) (hb:PW X (.BoolOp .And (b::rest) pos) tB'):PW X (.BoolOp .And (a::b::rest) pos) (aXt tA tB'):=by
 intro wh pins s σ H Q I h
 refine isTrue_and (thn (ha pins s σ H _ I h) fun c s1 ⟨H1,I1,q1⟩=>?_)
 cases c with
 | true=>exact hb wh pins s1 σ H1 Q I1 q1
 | false=>exact ⟨H1,I1,q1⟩
theorem aYa (ha:PT X a tA) (hb:PW X (.BoolOp .Or (b::rest) pos) tB'):PW X (.BoolOp .Or (a::b::rest) pos) (tOr tA tB'):=by
 intro wh pins s σ H Q I h
 refine isTrue_or (thn (ha pins s σ H _ I h) fun c s1 ⟨H1,I1,q1⟩=>?_)
 cases c with
 | true=>exact ⟨H1,I1,q1⟩
 | false=>exact hb wh pins s1 σ H1 Q I1 q1
theorem aSn (ha:PT X a tA):PT X (.UnaryOp .Not a pos) (aVi tA):=by
 intro pins s σ H Q I h
 exact isTrue_not (ha pins s σ H (fun c H1=>Q (!c) H1) I h)
def aQf (ta tb:TE):TE:=fun σ H Q=>ta σ H fun x H1=>∃c,x=.bl c/\if c=true then tb σ H1 Q else Q (.bl false) H1
def aXk (ta tb:TE):TE:=fun σ H Q=>ta σ H fun x H1=>∃c,x=.bl c/\if c=true then Q (.bl true) H1 else tb σ H1 Q
def aPf (ta:TE):TE:=fun σ H Q=>ta σ H fun x H1=>∃c,x=.bl c/\Q (.bl (!c)) H1
theorem aTc {op} {t:TE} (h:PE X a t):PE X (.BoolOp op [a] pos) t:=fun pins s σ H Q I hw=>BoolOp_one (h pins s σ H Q I hw)
theorem aTh (ha:PE X a ta) (hb:PE X (.BoolOp .And (b::rest) pos) tb):PE X (.BoolOp .And (a::b::rest) pos) (aQf ta tb):=by
 intro pins s σ H Q I h
 refine BoolOp_and (thn (ha pins s σ H _ I h) fun v s1 ⟨x,H1,I1,r1,q1⟩=>?_)
 obtain ⟨c,rfl,q1⟩:=q1
 cases r1
 refine wpAny_truthy_bool ?_
 cases c with
 | true=>exact hb pins s1 σ H1 Q I1 q1
 | false=>exact ⟨.bl false,H1,I1,rfl,q1⟩
theorem aXq (ha:PE X a ta) (hb:PE X (.BoolOp .Or (b::rest) pos) tb):PE X (.BoolOp .Or (a::b::rest) pos) (aXk ta tb):=by
 intro pins s σ H Q I h
 refine BoolOp_or (thn (ha pins s σ H _ I h) fun v s1 ⟨x,H1,I1,r1,q1⟩=>?_)
 obtain ⟨c,rfl,q1⟩:=q1
 cases r1
 refine wpAny_truthy_bool ?_
 cases c with
 | false=>exact hb pins s1 σ H1 Q I1 q1
 | true=>exact ⟨.bl true,H1,I1,rfl,q1⟩
theorem aSm (ha:PE X a ta):PE X (.UnaryOp .Not a pos) (aPf ta):=by
 intro pins s σ H Q I h
 refine UnaryOp_ (thn (ha pins s σ H _ I h) fun v s1 ⟨x,H1,I1,r1,q1⟩=>?_)
 obtain ⟨c,rfl,q1⟩:=q1
 cases r1
 exact not_of (wpAny_truthy_bool ⟨.bl (!c),H1,I1,rfl,q1⟩)
def tIf (t:TT) (ta tb:TE):TE:=fun σ H Q=>t σ H fun c H1=>if c=true then ta σ H1 Q else tb σ H1 Q
theorem aIt {c:Expr} (hc:PT X c tA) (ha:PE X a ta) (hb:PE X b tb):PE X (.IfExp c a b pos) (tIf tA ta tb):=by
 intro pins s σ H Q I h
 refine wpAny_IfExp (thn (hc pins s σ H _ I h) fun d s1 ⟨H1,I1,q1⟩=>?_)
 cases d with
 | true=>exact ha pins s1 σ H1 Q I1 q1
 | false=>exact hb pins s1 σ H1 Q I1 q1
end
end L2
namespace L2
open PySem PySem.Spec PyProof.Rows
def SqL (K:FG) (H:Hp) (a:Addr) (xs:List V):Prop :=
 Rd H a (.lst xs) \/
  ∃(o:Obj) (its:Array Value) (n:Nat),K.lookup a=some o/\o.cls=.type "list" /\o.dict=none/\o.data=.seq its n/\its.size<=sizeLine/\Vals xs its.toList
def SqT (K:FG) (H:Hp) (a:Addr) (xs:List V):Prop :=
 Rd H a (.tup xs) \/
  ∃(o:Obj) (its:Array Value) (n:Nat),K.lookup a=some o/\o.cls=.type "tuple" /\o.data=.seq its n/\its.size<=sizeLine/\Vals xs its.toList
def bBb:Value->Option V
 | .none=>some .non
 | .bool b=>some (.bl b)
 | .int i _=>some (.int i)
 | .str x _=>some (.str x)
 | .bytes b _=>some (.byt b)
 | .float b _=>some (.flt b)
 | .ref a=>some (.ref a)
 | .type n=>some (.ty n)
 | _=>none
theorem RelV.abs {x:V} {u:Value} (r:RelV x u):bBb u=some x:=by
 cases x with
 | non=>cases r;rfl
 | bl _=>cases r;rfl
 | int _=>obtain ⟨t,rfl⟩:=r;rfl
 | str _=>obtain ⟨t,rfl⟩:=r;rfl
 | byt _=>obtain ⟨t,rfl⟩:=r;rfl
 | flt _=>obtain ⟨t,rfl⟩:=r;rfl
 | ref _=>cases r;rfl
 | ty _=>cases r;rfl
theorem RelV.inj {x y:V} {u:Value} (r:RelV x u) (q:RelV y u):x=y:=Option.some.inj (r.abs.symm.trans q.abs)
theorem Vals.inj:∀ {xs ys:List V} {us:Y1},Vals xs us->Vals ys us->xs=ys
 | _,_,_,.nil,.nil=>rfl
 | _,_,_,.cons r t,.cons r' t'=>by rw [r.inj r',Vals.inj t t']
section
variable {X:Cx} {pins:Y8} {σ:St} {H:Hp} {s:Shared} {a:Addr} {xs ys:List V}
theorem SqL.of {K:FG} (h:H a=some (.lst xs)):SqL K H a xs:=.inl (.inl h)
theorem Inv.list (I:Inv X pins σ H s) (h:SqL X.K H a xs):∃its:Y1,Vals xs its/\PlainL s.heap a its.toArray/\xs.length<=sizeLine:=by
 rcases h with h | ⟨o,its,n,hk,hc,hd,hs,hz,r⟩
 ·obtain ⟨z,its,n,r,e⟩:=h.ok I.hok
  exact ⟨its,r,⟨_,n,e,rfl,rfl,rfl⟩,z⟩
 ·refine ⟨its.toList,r,⟨o,n,I.kIn a o hk,hc,hd,by simpa using hs⟩,?_⟩
  have e:=r.length
  simp only [Array.length_toList] at e
  omega
theorem Inv.tuple (I:Inv X pins σ H s) (h:SqT X.K H a xs):∃its:Y1,Vals xs its/\IsTup s.heap a its.toArray/\xs.length<=sizeLine:=by
 rcases h with h | ⟨o,its,n,hk,hc,hs,hz,r⟩
 ·obtain ⟨z,its,r,p⟩:=h.ok I.hok
  exact ⟨its,r,p,z⟩
 ·refine ⟨its.toList,r,⟨o,I.kIn a o hk,hc,n,by simpa using hs⟩,?_⟩
  have e:=r.length
  simp only [Array.length_toList] at e
  omega
theorem Inv.aA0 (I:Inv X pins σ H s) (h:SqL X.K H a xs) (h':SqL X.K H a ys):xs=ys:=by
 obtain ⟨its,r,⟨o,n,e,_,_,d⟩,_⟩:=I.list h
 obtain ⟨its',r',⟨o',n',e',_,_,d'⟩,_⟩:=I.list h'
 rw [e] at e';cases e'
 rw [d] at d'
 injection d' with d1 _
 have:its=its':=by simpa using congrArg Array.toList d1
 subst this
 exact r.inj r'
theorem Inv.aFi (I:Inv X pins σ H s) (h:SqT X.K H a xs) (h':SqT X.K H a ys):xs=ys:=by
 obtain ⟨its,r,⟨o,e,_,n,d⟩,_⟩:=I.tuple h
 obtain ⟨its',r',⟨o',e',_,n',d'⟩,_⟩:=I.tuple h'
 rw [e] at e';cases e'
 rw [d] at d'
 injection d' with d1 _
 have:its=its':=by simpa using congrArg Array.toList d1
 subst this
 exact r.inj r'
end
section
variable {X:Cx} {pins:Y8} {σ:St} {H:Hp} {s:Shared} {E:Y9}
end
section
variable {X:Cx} {st:Stmt} {rest:List Stmt} {t u:TS} {e:Expr} {te:TE} {pos:Pos}
def aPp:TS:=fun D σ H=>D.nx σ H
def aVy (t u:TS):TS:=fun D σ H=>t { D with nx:=u D } σ H
theorem aN1:PSs X [] aPp:=fun _ _ σ H _ I h=>wpAny_execs_nil ⟨σ,H,I,h⟩
theorem aIh (h1:PS X st t) (h2:PSs X rest u):PSs X (st::rest) (aVy t u):=by
 intro pins s σ H D I h
 refine wpAny_execs_cons (thn (h1 pins s σ H { D with nx:=u D } I h) fun f s1 q=>?_)
 cases f with
 | next =>
  obtain ⟨σ',H',I',q⟩:=q
  exact h2 pins s1 σ' H' D I' q
 | ret v=>exact q
 | brk=>exact q
 | cont=>exact q
theorem aMg (h1:PS X st t):PSs X [st] t:=by
 intro pins s σ H D I h
 refine wpAny_execs_cons (thn (h1 pins s σ H D I h) fun f s1 q=>?_)
 cases f with
 | next=>exact wpAny_execs_nil q
 | ret v=>exact q
 | brk=>exact q
 | cont=>exact q
theorem Inv.quiet {pins:Y8} {σ:St} {H:Hp} {s:Shared} (I:Inv X pins σ H s):interactive X.env=false:=by simp [interactive,I.ok.kind]
def zU (te:TE):TS:=fun D σ H=>te σ H fun _ H1=>D.nx σ H1
theorem qY (he:PE X e te) (hs:swapsWith e none pos.line X.env=pure false:=by rfl):PS X (.Expr e pos) (zU te):=by
 intro pins s σ H D I h
 exact wpAny_Expr_any (thn (he pins s σ H _ I h) fun v s1 ⟨x,H1,I1,r1,q1⟩=>⟨σ,H1,I1,q1⟩) I.quiet hs
def aSc (te:TE):TS:=fun D σ H=>te σ H D.rt
theorem aHy (he:PE X e te):PS X (.Return (some e) pos) (aSc te):=by
 intro pins s σ H D I h
 exact wpAny_Return_some (thn (he pins s σ H _ I h) fun v s1 ⟨x,H1,I1,r1,q1⟩=>⟨x,σ,H1,I1,r1,q1⟩)
def aVu (c:TT) (t u:TS):TS:=fun D σ H=>c σ H fun b H1=>if b=true then t D σ H1 else u D σ H1
theorem aV2 {c:Expr} {a b:List Stmt} {tc:TT} (hc:PT X c tc) (ha:PSs X a t) (hb:PSs X b u):PS X (.If c a b pos) (aVu tc t u):=by
 intro pins s σ H D I h
 refine wpAny_If (thn (hc pins s σ H _ I h) fun d s1 ⟨H1,I1,q1⟩=>?_)
 cases d with
 | true=>exact ha pins s1 σ H1 D I1 q1
 | false=>exact hb pins s1 σ H1 D I1 q1
end
abbrev TG:=V->St->Hp->(St->Hp->Prop)->Prop
abbrev TGs:=List V->St->Hp->(St->Hp->Prop)->Prop
def PG (X:Cx) (target:Expr) (t:TG):Prop :=
 ∀(pins:Y8) (s:Shared) (σ:St) (H:Hp) (v:V) (u:Value) (Q:St->Hp->Prop),Inv X pins σ H s->RelV v u->t v σ H Q ->
  wpAny (model X.prog X.w) X.A (assign target X.env u) (fun _ s'=>∃σ' H',Inv X pins σ' H' s'/\Q σ' H') X.xe s
def PGs (X:Cx) (ts:List Expr) (t:TGs):Prop :=
 ∀(pins:Y8) (s:Shared) (σ:St) (H:Hp) (vs:List V) (us:Y1) (Q:St->Hp->Prop),Inv X pins σ H s->Vals vs us->t vs σ H Q ->
  wpAny (model X.prog X.w) X.A (assignInOrder ((assignEach ts X.env).map (·.2)) us) (fun _ s'=>∃σ' H',Inv X pins σ' H' s'/\Q σ' H') X.xe s
abbrev aR5:=V->V->V->Hp->(Hp->Prop)->Prop
def aW4 (X:Cx) (t:aR5):Prop :=
 ∀(pins:Y8) (s:Shared) (σ:St) (H:Hp) (o i v:V) (ov iv u:Value) (Q:Hp->Prop),Inv X pins σ H s->RelV o ov->RelV i iv->RelV v u->t o i v H Q ->
  wpAny (model X.prog X.w) X.A (setItem ov iv u) (fun _ s'=>∃H',Inv X pins σ H' s'/\Q H') X.xe s
abbrev TIp:=V->V->Hp->VK->Prop
def PIp (X:Cx) (op:Operator) (t:TIp):Prop :=
 ∀(pins:Y8) (s:Shared) (σ:St) (H:Hp) (x y:V) (v u:Value) (Q:VK),Inv X pins σ H s->RelV x v->RelV y u->t x y H Q ->
  wpAny (model X.prog X.w) X.A (inplaceOp op v u) (EP X pins σ Q) X.xe s
section
variable {X:Cx} {pos:Pos}
def qO (i:Nat):TG:=fun v σ H Q=>Q (σ.set i (some v)) H
theorem aLr {i:Nat} {x:Str} (hN:X.N.Nodup) (hi:X.N[i]?=some x) (hx:Loc X.env.scope x) (hf:X.fn x=true\/X.env.scope.names.lookup x=some .local:=by first | exact .inl rfl | exact .inr rfl | assumption):PG X (.Name x pos) (qO i):=by
 intro pins s σ H v u Q I r h
 exact wpAny_assign_Name (lH I hN hi hx r (fun s' I'=>⟨_,H,I',h⟩) hf)
def aX7:TGs:=fun vs σ H Q=>vs=[]/\Q σ H
def aP8 (t:TG) (u:TGs):TGs:=fun vs σ H Q=>∃v r,vs=v::r/\t v σ H fun σ' H'=>u r σ' H' Q
theorem aMv:PGs X [] aX7:=by
 intro pins s σ H vs us Q I r h
 obtain ⟨e,h⟩:=h
 subst e
 cases r
 exact assignInOrder_nil ⟨σ,H,I,h⟩
theorem aGi {e:Expr} {es:List Expr} {t:TG} {u:TGs} (h1:PG X e t) (h2:PGs X es u)
  (hs:(assignEach (e::es) X.env).map (·.2)=assign e X.env::(assignEach es X.env).map (·.2):=by rfl):PGs X (e::es) (aP8 t u):=by
 intro pins s σ H vs us Q I r h
 obtain ⟨v,vr,e1,h⟩:=h
 subst e1
 cases r with
 | cons r rr =>
  rw [hs]
  refine assignInOrder_cons (thn (h1 pins s σ H _ _ _ I r h) fun _ s1 ⟨σ1,H1,I1,q1⟩=>?_)
  exact h2 pins s1 σ1 H1 _ _ Q I1 rr q1
def aQ7 (K:FG) (n:Nat) (t:TGs):TG:=fun v σ H Q=>∃a xs,v=.ref a/\SqT K H a xs/\xs.length=n/\t xs σ H Q
theorem nD {es:List Expr} {k:Nat} {t:TGs} {n:Nat} (hc:X.calm=true) (h:PGs X es t)
  (hn:(assignEach es X.env).length=n:=by rfl) (hst:(assignEach es X.env).findIdx? (·.1)=none:=by rfl):PG X (.Tuple es k pos) (aQ7 X.K n t):=by
 intro pins s σ H v u Q I r hw
 obtain ⟨a,xs,e1,hq,hl,hw⟩:=hw
 subst e1
 cases r
 obtain ⟨its,rv,ht,hz⟩:=I.tuple hq
 refine assign_Tuple_tuple (I.ok.hd hc) ht (by simp [hn,<- hl,rv.length]) hst fun h' hx=>?_
 have I1:Inv X pins σ H { s with heap:=h' }:=I.kept (t':=s.toks) fun b o e=>hx b o (Nat.ne_of_lt (Heap.lt_size e)) e
 exact h pins _ σ H xs _ Q I1 (by simpa using rv) hw
def aW7 (to ti:TE) (t:aR5):TG:=fun v σ H Q=>to σ H fun o H1=>ti σ H1 fun i H2=>t o i v H2 fun H3=>Q σ H3
theorem aSy {o i:Expr} {to ti:TE} {t:aR5} (ho:PE X o to) (hi:PE X i ti) (hs:aW4 X t)
  (ha:∀v,assign (.Subscript o i pos) X.env v=(do
   let ov <- holding [v] (eval o X.env)
   let iv <- holding [v,ov] (eval i X.env)
   standAt pos
   holding [v,ov,iv] (setItem ov iv v)
   release [v,ov,iv] []):=by intro _;rfl):PG X (.Subscript o i pos) (aW7 to ti t):=by
 intro pins s σ H v u Q I r h
 rw [ha]
 refine wpAny_bind (wpAny_holding (thn (ho pins s σ H _ I h) fun ov s1 ⟨x,H1,I1,r1,q1⟩=>?_))
 refine wpAny_bind (wpAny_holding (thn (hi pins s1 σ H1 _ I1 q1) fun iv s2 ⟨y,H2,I2,r2,q2⟩=>?_))
 refine wpAny_bind (wpAny_standAt (wpAny_bind (wpAny_holding (thn (hs pins s2 σ H2 x y v ov iv u _ I2 r1 r2 r q2) fun _ s3 ⟨H3,I3,q3⟩=>?_))))
 exact wpAny_release ⟨σ,H3,I3,q3⟩
def aDn (te:TE) (g:TG):TS:=fun D σ H=>te σ H fun x H1=>g x σ H1 D.nx
theorem aG4 {tg e:Expr} {te:TE} {g:TG} (he:PE X e te) (hg:PG X tg g) (hs:swapsWithSole [tg] e pos.line X.env=pure false:=by rfl) (hw:swappedStores [tg] e X.env=pure none:=by rfl)
  (h1:(assignEach [tg] X.env).map (·.2)=[assign tg X.env]:=by rfl):PS X (.Assign [tg] e pos) (aDn te g):=by
 intro pins s σ H D I h
 refine wpAny_Assign_stores (thn (he pins s σ H _ I h) fun v s1 ⟨x,H1,I1,r1,q1⟩=>?_) hs hw
 rw [h1]
 exact thn (hg pins s1 σ H1 x v _ I1 r1 q1) fun _ s2 q=>q
theorem aTj {i:Nat} {x:Str} {e:Expr} {te:TE} {pos':Pos} (hN:X.N.Nodup) (hi:X.N[i]?=some x) (hx:Loc X.env.scope x) (he:PE X e te) (hs:swapsWith e (some (.Name x pos')) pos.line X.env=pure false:=by rfl) (hf:X.fn x=true\/X.env.scope.names.lookup x=some .local:=by first | exact .inl rfl | exact .inr rfl | assumption) :
  PS X (.Assign [.Name x pos'] e pos) (aDn te (qO i)):=by
 intro pins s σ H D I h
 refine wpAny_Assign_Name (thn (he pins s σ H _ I h) fun v s1 ⟨y,H1,I1,r1,q1⟩=>?_) hs
 exact lH I1 hN hi hx r1 (fun s2 I2=>⟨_,H1,I2,q1⟩) hf
def aYd (i:Nat) (te:TE) (ti:TIp):TS:=fun D σ H=>∃x,σ[i]?=some (some x)/\te σ H fun y H1=>ti x y H1 fun z H2=>D.nx (σ.set i (some z)) H2
theorem aSz {i:Nat} {x:Str} {e:Expr} {te:TE} {op:Operator} {ti:TIp} {pos':Pos} (hN:X.N.Nodup) (hi:X.N[i]?=some x) (hx:Loc X.env.scope x) (he:PE X e te) (ho:PIp X op ti) (hf:X.fn x=true\/X.env.scope.names.lookup x=some .local:=by first | exact .inl rfl | exact .inr rfl | assumption) :
  PS X (.AugAssign (.Name x pos') op e pos) (aYd i te ti):=by
 intro pins s σ H D I h
 obtain ⟨v,e1,h⟩:=h
 obtain ⟨m,hn,hl⟩:=I.loc
 have vis:Vis X.env.scope x:=by rcases hx with k | k;exact .inl k;exact .inr (.inl k)
 obtain ⟨u,r,l⟩:=hl i x v hi e1 vis
 refine wpAny_AugAssign_Name ?_
 have go:wpAny (model X.prog X.w) X.A (eval e X.env) (fun w s₂=>wpAny (model X.prog X.w) X.A (inplaceOp op u w) (fun r s₃=>wpAny (model X.prog X.w) X.A (storeName X.env x r) (fun _=>SP X pins D .next) X.xe s₃) X.xe s₂) X.xe s:=by
  refine thn (he pins s σ H _ I h) fun w s1 ⟨y,H1,I1,r1,q1⟩=>?_
  refine thn (ho pins s1 σ H1 v y u w _ I1 r r1 q1) fun z s2 ⟨zv,H2,I2,r2,q2⟩=>?_
  exact lH I2 hN hi hx r2 (fun s3 I3=>⟨_,H2,I3,q2⟩) hf
 rcases l with ⟨hk,hm⟩ | ⟨hk,c,hc,hcell⟩
 ·exact wpAny_loadName_local I.ok.kind hk hn hm go
 ·rcases hk with hk | hk
  ·exact wpAny_loadName_cell I.ok.kind hk hc hcell go
  ·rcases hx with k | k
   ·have:X.env.scope.names.lookup x=some .free:=hk
    rw [k] at this;cases this
   ·have:X.env.scope.names.lookup x=some .free:=hk
    rw [k] at this;cases this
def ipI (f:Int->Int->Int):TIp:=fun x y H Q=>∃i j,x=.int i/\y=.int j/\Q (.int (f i j)) H
theorem xN:PIp X .Add (ipI fun i j=>i+j):=by
 intro pins s σ H x y v u Q I r1 r2 h
 obtain ⟨i,j,e1,e2,q⟩:=h
 subst e1;subst e2
 obtain ⟨t,rfl⟩:=r1
 obtain ⟨t',rfl⟩:=r2
 exact iadd_int ⟨.int _,H,I.tok _,⟨_,rfl⟩,q⟩
end
section
variable {X:Cx} {pos:Pos}
def aF7 (c:TT) (tb:TS):TS:=fun D σ H=>∃W:Nat->St->Hp->Prop,(∃m,W m σ H)/\∀m σ H,W m σ H ->
 c σ H fun b H1=>if b=true then ∃N:St->Hp->Prop,(∀σ' H',N σ' H'->∃m',m'<m/\W m' σ' H')/\tb { D with nx:=N,ct:=N,bk:=D.nx } σ H1 else D.nx σ H1
theorem aHc {c:Expr} {body:List Stmt} {tc:TT} {tb:TS} (hp:PassesOwn (model X.prog X.w) X.A X.env X.xe) (hc:PT X c tc) (hb:PSs X body tb):PS X (.While c body [] pos) (aF7 tc tb):=by
 intro pins s σ H D I h
 obtain ⟨W,⟨m0,w0⟩,turn⟩:=h
 refine wpAny_While (codeAny_whileLoop (fun n s'=>∃σ' H',Inv X pins σ' H' s'/\W n σ' H') ?_ m0 ⟨σ,H,I,w0⟩)
 rintro n s1 ⟨σ1,H1,I1,w1⟩
 refine wpAny_passesOwn hp (thn (hc pins s1 σ1 H1 _ I1 (turn n σ1 H1 w1)) fun b s2 ⟨H2,I2,q2⟩=>?_)
 cases b with
 | true =>
  obtain ⟨N,hN,q2⟩:=q2
  rw [if_pos rfl]
  refine wpAny_passesOwn hp (thn (hb pins s2 σ1 H2 _ I2 q2) fun f s3 q3=>?_)
  cases f with
  | next =>
   obtain ⟨σ3,H3,I3,n3⟩:=q3
   obtain ⟨m',hm,w3⟩:=hN σ3 H3 n3
   exact ⟨m',hm,σ3,H3,I3,w3⟩
  | cont =>
   obtain ⟨σ3,H3,I3,n3⟩:=q3
   obtain ⟨m',hm,w3⟩:=hN σ3 H3 n3
   exact ⟨m',hm,σ3,H3,I3,w3⟩
  | brk=>exact q3
  | ret v=>exact q3
 | false =>
  rw [if_neg Bool.false_ne_true]
  exact wpAny_execs_nil ⟨σ1,H2,I2,q2⟩
end
structure It where
 go:Nat->Hp->Prop
 yld:Nat->Hp->V->Hp->Prop
 stop:Nat->Hp->Prop
def rW (X:Cx) (pins:Y8) (H:Hp) (b:Addr):Prop :=
 H b=none/\b ≠ X.env.locals/\b ∉ X.fs/\(b∈X.ex\/X.s₀.heap.objs.size<=b)/\(∀x c,X.env.cells.lookup x=some c->c ≠ b)/\∀p∈X.pn++pins,p.1 ≠ b
theorem Inv.aJy {X:Cx} {pins:Y8} {σ:St} {H H':Hp} {s:Shared} {b:Addr} (I:Inv X pins σ H s) (hb:s.heap.objs.size<=b) (hn:H' b=none):rW X pins H' b:=by
 refine ⟨hn,Nat.ne_of_gt (Nat.lt_of_lt_of_le I.lt hb),I.aU9 hb,.inr (Nat.le_trans I.sz hb),fun x c e z=>?_,fun p hp z=>?_⟩
 ·obtain ⟨v,q⟩:=I.cell x c e
  exact absurd (Nat.lt_of_lt_of_le q.lt (by rw [z];exact hb)) (Nat.lt_irrefl _)
 ·exact absurd (Nat.lt_of_lt_of_le (Heap.lt_size (I.pin p hp).1) (by rw [z];exact hb)) (Nat.lt_irrefl _)
structure Turn (P:Program) (w:World) (K:FG) (tg:Expr) (J:It) (fp:Y2) (it:Addr) (tn:Nat->Heap->Prop):Prop where
 mem:it∈fp
 obj:∀i h,tn i h->∀b∈fp,∃o,h.get? b=some o/\∀v,o.data ≠ .cell v
 keep:∀i h h',tn i h->(∀b∈fp,∀o,h.get? b=some o->h'.get? b=some o)->tn i h'
 item:∀(X:Cx),X.prog=P->X.w=w->X.K=K->X.calm=true->∀(i:Nat) (pins:Y8) (s:Shared) (σ:St) (H:Hp) (E:Y9),Inv X pins σ H s->(∀b∈fp,rW X pins H b)->tn i s.heap->J.go i H ->
  wpAny (model P w) X.A (pyNext (.ref it)) (fun r s1=>∃u,r=some u /\
   wpAny (model P w) X.A (letOwnedTupleGo tg (.ref it) u) (fun _ s2=>∃x H',Inv X pins σ H' s2/\RelV x u/\J.yld i H x H'/\tn (i+1) s2.heap/\∀b∈fp,H' b=none) E s1) E s
 done:∀(X:Cx),X.prog=P->X.w=w->X.K=K->X.calm=true->∀(i:Nat) (pins:Y8) (s:Shared) (σ:St) (H:Hp) (E:Y9),Inv X pins σ H s->(∀b∈fp,rW X pins H b)->tn i s.heap->J.stop i H ->
  wpAny (model P w) X.A (pyNext (.ref it)) (fun r s1=>r=none/\Inv X pins σ H s1) E s
 self:∀(A:Around) (i:Nat) (s:Shared) (Q:Y9) (E:Y9),tn i s.heap->Q (.ref it) s->wpAny (model P w) A (pyIter (.ref it)) Q E s
abbrev TI:=St->Hp->(It->Hp->Prop)->Prop
def PIE (X:Cx) (pins:Y8) (σ:St) (tg:Expr) (R:It->Hp->Prop) (itv:Value) (s2:Shared):Prop :=
 ∃(it:Addr) (fp:Y2) (tn:Nat->Heap->Prop) (J:It) (H':Hp),itv=.ref it/\Inv X pins σ H' s2/\Turn X.prog X.w X.K tg J fp it tn/\tn 0 s2.heap/\(∀b∈fp,rW X pins H' b)/\R J H'
def PI (X:Cx) (tg iter:Expr) (wi:TI):Prop :=
 ∀(pins:Y8) (s:Shared) (σ:St) (H:Hp) (R:It->Hp->Prop),Inv X pins σ H s->wi σ H R ->
  wpAny (model X.prog X.w) X.A (eval iter X.env) (fun v s1=>wpAny (model X.prog X.w) X.A (pyIter v) (PIE X pins σ tg R) X.xe s1) X.xe s
theorem aHu {M:Model} {A:Around} {E:Y9} {s:Shared} {tg:Expr} {it:Addr} {u:Value} {o:Obj} {n:String} {vs:Array Value} {Q:Unit->Shared->Prop} (ho:s.heap.get? it=some o) (hc:o.cls=.type n) (hd:o.data=.fields vs)
  (hn:["enumerate", "zip", "dict_itemiterator", "dict_reverseitemiterator", "odict_iterator", "itertools.zip_longest", "itertools.pairwise"].contains n=false) (hQ:Q () s):wpAny M A (letOwnedTupleGo tg (.ref it) u) Q E s:=by
 unfold letOwnedTupleGo
 cases tg<;>first
  | exact wpAny_pure hQ
  | (cases u<;>first
    | exact wpAny_pure hQ
    | (refine wpAny_bind (wpAny_load ho ?_)
       rw [hc,hd]
       show wpAny M A (if (["enumerate", "zip", "dict_itemiterator", "dict_reverseitemiterator", "odict_iterator", "itertools.zip_longest", "itertools.pairwise"].contains n && vs[0]? == some (rawInt _))=true then _ else _) Q E s
       rw [if_neg (by intro h;rw [hn,Bool.false_and] at h;cases h)]
       exact wpAny_pure hQ))
def Itl (K:FG) (a:Addr):It :=
 ⟨fun i H=>∃xs x,SqL K H a xs/\xs[i]?=some x,fun i H x H'=>H'=H/\∀xs,SqL K H a xs->xs[i]?=some x,fun i H=>∃xs,SqL K H a xs/\xs.length<=i⟩
def Itt (K:FG) (a:Addr):It :=
 ⟨fun i H=>∃xs x,SqT K H a xs/\xs[i]?=some x,fun i H x H'=>H'=H/\∀xs,SqT K H a xs->xs[i]?=some x,fun i H=>∃xs,SqT K H a xs/\xs.length<=i⟩
def Itr (lo:Int) (n:Nat):It:=⟨fun i _=>i<n,fun i H x H'=>H'=H/\x=.int (lo+i),fun i _=>n<=i⟩
theorem aDw {P:Program} {w:World} {K:FG} {tg:Expr} (a it:Addr):Turn P w K tg (Itl K a) [it] it (fun i h=>h.IsListIter it a i) where
 mem:=by simp
 obj:=fun i h st b hb=>by
  have e:b=it:=by simpa using hb
  subst e
  obtain ⟨o,e,c,d⟩:=st
  exact ⟨o,e,fun v z=>by rw [d] at z;cases z⟩
 keep:=fun i h h' st k=>st.at fun o e=>k it (by simp) o e
 item:=by
  intro X hP hw hK hc i pins s σ H E I hf st hg
  subst hP hw hK
  obtain ⟨xs,x,hq,hx⟩:=hg
  obtain ⟨its,rv,p,hz⟩:=I.list hq
  obtain ⟨u,hu,ru⟩:=rv.get hx
  obtain ⟨f0,f1,f2,f3,f4,f5⟩:=hf it (by simp)
  refine wpAny_pyNext_list_item st p.isList (x:=u) (by simpa using hu) fun h' st' sb=>?_
  have I1:Inv X pins σ H { s with heap:=h' }:=I.turned (t':=s.toks) (fun b o hb e=>(sb.2 b hb).trans e) f0 f1 f3 f4 f5
  obtain ⟨o,e,c,d⟩:=id st'
  exact ⟨u,rfl,aHu (s:={ s with heap:=h' }) e c d (by decide) ⟨x,H,I1,ru,⟨rfl,fun ys hy=>by rw [I.aA0 hy hq];exact hx⟩,st',fun b hb=>(hf b hb).1⟩⟩
 done:=by
  intro X hP hw hK hc i pins s σ H E I hf st hg
  subst hP hw hK
  obtain ⟨xs,hq,hx⟩:=hg
  obtain ⟨its,rv,p,hz⟩:=I.list hq
  obtain ⟨f0,f1,f2,f3,f4,f5⟩:=hf it (by simp)
  have hl:=rv.length
  exact wpAny_pyNext_list_end (I.ok.hd hc) st p.isList (by simp;omega) fun h' eb=>⟨rfl,I.turned (t':=s.toks) (fun b o hb e=>eb b o hb e) f0 f1 f3 f4 f5⟩
 self:=fun _ _ _ _ _ st h=>wpAny_pyIter_listiter st h
theorem aA5 {P:Program} {w:World} {K:FG} {tg:Expr} (a it:Addr):Turn P w K tg (Itt K a) [it] it (fun i h=>h.IsTupleIter it a i) where
 mem:=by simp
 obj:=fun i h st b hb=>by
  have e:b=it:=by simpa using hb
  subst e
  obtain ⟨o,e,c,d⟩:=st
  exact ⟨o,e,fun v z=>by rw [d] at z;cases z⟩
 keep:=fun i h h' st k=>st.at fun o e=>k it (by simp) o e
 item:=by
  intro X hP hw hK hc i pins s σ H E I hf st hg
  subst hP hw hK
  obtain ⟨xs,x,hq,hx⟩:=hg
  obtain ⟨its,rv,p,hz⟩:=I.tuple hq
  obtain ⟨u,hu,ru⟩:=rv.get hx
  obtain ⟨f0,f1,f2,f3,f4,f5⟩:=hf it (by simp)
  refine wpAny_pyNext_tuple_item st (show s.heap.IsTuple a its.toArray from p) (x:=u) (by simpa using hu) fun h' st' sb=>?_
  have I1:Inv X pins σ H { s with heap:=h' }:=I.turned (t':=s.toks) (fun b o hb e=>(sb.2 b hb).trans e) f0 f1 f3 f4 f5
  obtain ⟨o,e,c,d⟩:=id st'
  exact ⟨u,rfl,aHu (s:={ s with heap:=h' }) e c d (by decide) ⟨x,H,I1,ru,⟨rfl,fun ys hy=>by rw [I.aFi hy hq];exact hx⟩,st',fun b hb=>(hf b hb).1⟩⟩
 done:=by
  intro X hP hw hK hc i pins s σ H E I hf st hg
  subst hP hw hK
  obtain ⟨xs,hq,hx⟩:=hg
  obtain ⟨its,rv,p,hz⟩:=I.tuple hq
  obtain ⟨f0,f1,f2,f3,f4,f5⟩:=hf it (by simp)
  have hl:=rv.length
  exact wpAny_pyNext_tuple_end (I.ok.hd hc) st (show s.heap.IsTuple a its.toArray from p) (by simp;omega) fun h' eb=>⟨rfl,I.turned (t':=s.toks) (fun b o hb e=>eb b o hb e) f0 f1 f3 f4 f5⟩
 self:=fun _ _ _ _ _ st h=>wpAny_pyIter_tupleiter st h
theorem aBf {P:Program} {w:World} {K:FG} {tg:Expr} (it:Addr) (lo:Int) (n:Nat):Turn P w K tg (Itr lo n) [it] it (fun i h=>IsRangeIter h it (lo+(i:Nat) * 1) ((n:Int) - (i:Nat)) 1) where
 mem:=by simp
 obj:=fun i h st b hb=>by
  have e:b=it:=by simpa using hb
  subst e
  exact ⟨_,st,fun v z=>by
   have z':Data.fields _=Data.cell v:=z
   cases z'⟩
 keep:=fun i h h' st k=>k it (by simp) _ st
 item:=by
  intro X hP hw hK hc i pins s σ H E I hf st hg
  subst hP hw hK
  obtain ⟨f0,f1,f2,f3,f4,f5⟩:=hf it (by simp)
  have W:=Walks.range (prog:=X.prog) (w:=X.w) (I.ok.hd hc) it lo 1 n
  refine W.item i s _ _ hg st fun v h' tk hv st' kk=>?_
  obtain ⟨t,rfl⟩:=hv
  have I1:Inv X pins σ H { s with heap:=h',toks:=tk }:=I.turned (fun b o hb e=>kk b o (by simpa using hb) e) f0 f1 f3 f4 f5
  refine ⟨_,rfl,aHu (s:={ s with heap:=h',toks:=tk }) (n := "range_iterator") st' rfl rfl (by decide) ⟨.int (lo+i),H,I1,⟨t,?_⟩,⟨rfl,rfl⟩,st',fun b hb=>(hf b hb).1⟩⟩
  rw [Int.mul_one]
 done:=by
  intro X hP hw hK hc i pins s σ H E I hf st hg
  subst hP hw hK
  obtain ⟨f0,f1,f2,f3,f4,f5⟩:=hf it (by simp)
  exact wpAny_pyNext_range_end (I.ok.hd hc) st (by have:n<=i:=hg;omega) fun h' eb=>⟨rfl,I.turned (t':=s.toks) (fun b o hb e=>eb b o hb e) f0 f1 f3 f4 f5⟩
 self:=fun _ _ _ _ _ st h=>wpAny_pyIter_rangeiter st h
end L2
namespace L2
open PySem PySem.Spec PyProof.Rows
section
variable {X:Cx} {tg:Expr}
def aIp (K:FG) (tl:TE):TI:=fun σ H R=>tl σ H fun x H1=>∃a,x=.ref a/\(∃xs,SqL K H1 a xs)/\R (Itl K a) H1
def aRx (K:FG) (tl:TE):TI:=fun σ H R=>tl σ H fun x H1=>∃a,x=.ref a/\(∃xs,SqT K H1 a xs)/\R (Itt K a) H1
theorem aOd {l:Expr} {tl:TE} (hl:PE X l tl):PI X tg l (aIp X.K tl):=by
 intro pins s σ H R I h
 refine thn (hl pins s σ H _ I h) fun v s1 ⟨x,H1,I1,r1,q1⟩=>?_
 obtain ⟨a,e,⟨xs,hq⟩,q⟩:=q1
 subst e
 cases r1
 obtain ⟨its,rv,p,hz⟩:=I1.list hq
 refine wpAny_pyIter_list p.isList ?_
 refine ⟨s1.heap.objs.size,[s1.heap.objs.size],_,_,H1,rfl,I1.kept (t':=s1.toks) fun b o e=>Heap.get?_push_of_some _ e,aDw a _,⟨_,Heap.get?_push_size _ rfl,rfl,rfl⟩,fun b hb=>?_,q⟩
 have e:b=s1.heap.objs.size:=by simpa using hb
 subst e
 exact I1.aJy (Nat.le_refl _) (I1.hok.fresh (Nat.le_refl _))
theorem aRk {l:Expr} {tl:TE} (hl:PE X l tl):PI X tg l (aRx X.K tl):=by
 intro pins s σ H R I h
 refine thn (hl pins s σ H _ I h) fun v s1 ⟨x,H1,I1,r1,q1⟩=>?_
 obtain ⟨a,e,⟨xs,hq⟩,q⟩:=q1
 subst e
 cases r1
 obtain ⟨its,rv,p,hz⟩:=I1.tuple hq
 refine wpAny_pyIter_tuple (show s1.heap.IsTuple a its.toArray from p) ?_
 refine ⟨s1.heap.objs.size,[s1.heap.objs.size],_,_,H1,rfl,I1.kept (t':=s1.toks) fun b o e=>Heap.get?_push_of_some _ e,aA5 a _,⟨_,Heap.get?_push_size _ rfl,rfl,rfl⟩,fun b hb=>?_,q⟩
 have e:b=s1.heap.objs.size:=by simpa using hb
 subst e
 exact I1.aJy (Nat.le_refl _) (I1.hok.fresh (Nat.le_refl _))
theorem aAs {pins:Y8} {σ:St} {H:Hp} {s:Shared} {R:It->Hp->Prop} {E:Y9} {lo hi:Int} {t u v:Tok} {tk:Nat} (I:Inv X pins σ H s) (h1:-(2 ^ 62)<=lo) (h2:lo<2 ^ 62) (h3:-(2 ^ 62)<=hi) (h4:hi<2 ^ 62)
  (q:R (Itr lo (hi - lo).toNat) H):wpAny (model X.prog X.w) X.A (pyIter (.ref s.heap.objs.size)) (PIE X pins σ tg R) E { s with heap:=s.heap.push { cls:=.type "range",data:=.fields #[.int lo t,.int hi u,.int 1 v] },toks:=tk }:=by
 refine wpAny_pyIter_range (IsRange.new ..) (small_one h1 h2 h3 h4) ?_
 have I1:Inv X pins σ H { s with heap:=s.heap.push { cls:=.type "range",data:=.fields #[.int lo t,.int hi u,.int 1 v] },toks:=tk }:=I.kept fun b o e=>Heap.get?_push_of_some _ e
 refine ⟨(s.heap.push { cls:=.type "range",data:=.fields #[.int lo t,.int hi u,.int 1 v] }).objs.size,[(s.heap.push { cls:=.type "range",data:=.fields #[.int lo t,.int hi u,.int 1 v] }).objs.size],_,_,H,rfl,
  I1.kept (t':=tk) fun b o e=>Heap.get?_push_of_some _ e,aBf _ lo (hi - lo).toNat,?_,fun b hb=>?_,q⟩
 ·have e1:lo+((0:Nat):Int) * 1=lo:=by simp
  have e2:(((hi - lo).toNat:Nat):Int) - ((0:Nat):Int)=Builtin.Range.rangeSize lo hi 1:=by rw [rangeSize_one];split<;>omega
  show IsRangeIter _ _ (lo+((0:Nat):Int) * 1) ((((hi - lo).toNat:Nat):Int) - ((0:Nat):Int)) 1
  rw [e1,e2]
  exact Heap.get?_push_size _ rfl
 ·have e:b=(s.heap.push { cls:=.type "range",data:=.fields #[.int lo t,.int hi u,.int 1 v] }).objs.size:=by simpa using hb
  subst e
  exact I1.aJy (Nat.le_refl _) (I1.hok.fresh (Nat.le_refl _))
def aPz (ta:TA):TI:=fun σ H R=>ta σ H fun vs H1=>∃j:Int,vs=[.int j]/\-(2 ^ 62)<=j/\j<2 ^ 62/\R (Itr 0 j.toNat) H1
def aOw (ta:TA):TI:=fun σ H R=>ta σ H fun vs H1=>∃i j:Int,vs=[.int i,.int j]/\(-(2 ^ 62)<=i/\i<2 ^ 62/\-(2 ^ 62)<=j/\j<2 ^ 62)/\R (Itr i (j - i).toNat) H1
theorem aEj {a:Expr} {ta:TA} {p pos:Pos} (hg:Gl X "range") (hm:X.mg "range" = none) (ha:PA X [a] ta) (hs:starEach [a] X.env=[(false,eval a X.env)]:=by rfl):PI X tg (.Call (.Name "range" p) [a] [] pos) (aPz ta):=by
 intro pins s σ H R I h
 refine Call_ (pO I hg hm boot_range (PyProof.Rows.callWith_type1 (thn (ha pos pins s σ H _ I h) fun us s1 ⟨vs,H1,I1,r1,q1⟩=>?_) hs rfl))
 obtain ⟨j,e,q1,q2,q⟩:=q1
 subst e
 cases r1 with
 | cons r rr =>
  cases rr
  obtain ⟨t,rfl⟩:=r
  exact call_range_1 (aAs I1 (by omega) (by omega) q1 q2 (by simpa using q))
theorem aD3 {a b:Expr} {ta:TA} {p pos:Pos} (hg:Gl X "range") (hm:X.mg "range" = none) (ha:PA X [a,b] ta) (hs:starEach [a,b] X.env=[(false,eval a X.env),(false,eval b X.env)]:=by rfl) (hs2:starEach [b] X.env=[(false,eval b X.env)]:=by rfl) :
  PI X tg (.Call (.Name "range" p) [a,b] [] pos) (aOw ta):=by
 intro pins s σ H R I h
 refine Call_ (pO I hg hm boot_range (PyProof.Rows.callWith_type1 (thn (ha pos pins s σ H _ I h) fun us s1 ⟨vs,H1,I1,r1,q1⟩=>?_) (by rw [hs,hs2]) (by rw [hs2];rfl)))
 obtain ⟨i,j,e,⟨q1,q2,q3,q4⟩,q⟩:=q1
 subst e
 cases r1 with
 | cons r rr =>
  cases rr with
  | cons r' rr =>
   cases rr
   obtain ⟨t,rfl⟩:=r
   obtain ⟨t',rfl⟩:=r'
   exact call_range_2 (aAs I1 q1 q2 q3 q4 q)
def aVt (wi:TI) (g:TG) (tb:TS):TS:=fun D σ H=>wi σ H fun J H1=>∃W:Nat->Nat->St->Hp->Prop,(∃m,W 0 m σ H1)/\∀i m σ H,W i m σ H ->
 (J.stop i H/\D.nx σ H)\/(J.go i H/\∃N:St->Hp->Prop,(∀σ' H',N σ' H'->∃m',m'<m/\W (i+1) m' σ' H')/\∀x H',J.yld i H x H'->g x σ H' fun σ2 H2=>tb { D with nx:=N,ct:=N,bk:=D.nx } σ2 H2)
def tD (fp:Y2) (h:Heap):Y8:=fp.filterMap fun b=>(h.get? b).map fun o=>(b,o)
theorem kJ {fp:Y2} {h:Heap} {b:Addr} {o:Obj} (hb:b∈fp) (e:h.get? b=some o):(b,o)∈tD fp h:=List.mem_filterMap.mpr ⟨b,hb,by rw [e];rfl⟩
theorem aDs {fp:Y2} {h:Heap} {p:Addr×Obj} (hp:p∈tD fp h):p.1∈fp/\h.get? p.1=some p.2:=by
 obtain ⟨b,hb,e⟩:=List.mem_filterMap.mp hp
 cases q:h.get? b with
 | none=>rw [q] at e;cases e
 | some o =>
  rw [q] at e
  have e':(b,o)=p:=Option.some.inj e
  subst e'
  exact ⟨hb,q⟩
theorem Inv.pinned {pins:Y8} {σ:St} {H:Hp} {s:Shared} {fp:Y2} (I:Inv X pins σ H s) (hf:∀b∈fp,rW X pins H b) (ho:∀b∈fp,∃o,s.heap.get? b=some o/\∀v,o.data ≠ .cell v):Inv X (pins++tD fp s.heap) σ H s :=
 I.mP fun p hp=>(List.mem_append.mp hp).elim (fun z=>I.pin p (List.mem_append_right _ z)) fun z=>by
  obtain ⟨hb,e⟩:=aDs z
  obtain ⟨f0,f1,f2,_⟩:=hf p.1 hb
  obtain ⟨o,e',d⟩:=ho p.1 hb
  rw [e] at e';cases e'
  exact ⟨e,f0,f1,f2,d⟩
theorem Inv.pE {pins pl:Y8} {σ:St} {H:Hp} {s:Shared} (I:Inv X (pins++pl) σ H s):Inv X pins σ H s:=I.mP fun p hp=>I.pin p (List.mem_append_right _ (List.mem_append_left _ hp))
theorem aTl {iter:Expr} {body:List Stmt} {wi:TI} {g:TG} {tb:TS} {pos:Pos} (hp:PassesOwn (model X.prog X.w) X.A X.env X.xe) (hc:X.calm=true) (hi:PI X tg iter wi) (hg:PG X tg g) (hb:PSs X body tb)
  (hs:∀x,foldedSetIterable iter X.env x=pure x:=by intro _;rfl):PS X (.For tg iter body [] pos) (aVt wi g tb):=by
 intro pins s σ H D I h
 refine wpAny_For (thn (hi pins s σ H _ I h) fun v s1 h1=>thn h1 fun itv s2 h2=>?_) hs
 obtain ⟨it,fp,tn,J,H2,e,I2,T,st2,f2,W,⟨m0,w0⟩,turn⟩:=h2
 subst e
 have stat:∀ {H':Hp},(∀b∈fp,H' b=none)->∀b∈fp,rW X pins H' b:=fun hn b hb=>⟨hn b hb,(f2 b hb).2⟩
 refine codeAny_forLoop_any (fun n s'=>∃i σ' H',Inv X pins σ' H' s'/\tn i s'.heap/\(∀b∈fp,H' b=none)/\W i n σ' H') ?_ m0 ⟨0,σ,H2,I2,st2,fun b hb=>(f2 b hb).1,w0⟩
 rintro n s3 ⟨i,σ3,H3,I3,st3,fr3,w3⟩
 rcases turn i n σ3 H3 w3 with ⟨stop,qn⟩ | ⟨go,N,hN,step⟩
 ·refine wpAny_passesOwn hp (thn (T.done X rfl rfl rfl hc i pins s3 σ3 H3 X.xe I3 (stat fr3) st3 stop) fun r s4 ⟨hr,I4⟩=>?_)
  subst hr
  exact wpAny_execs_nil ⟨σ3,H3,I4,qn⟩
 ·refine wpAny_passesOwn hp (thn (T.item X rfl rfl rfl hc i pins s3 σ3 H3 X.xe I3 (stat fr3) st3 go) fun r s4 ⟨u,hr,h4⟩=>?_)
  subst hr
  refine wpAny_passesOwn hp (thn h4 fun _ s5 ⟨x,H5,I5,r5,y5,st5,fr5⟩=>?_)
  have I5':=I5.pinned (stat fr5) (T.obj _ _ st5)
  refine wpAny_passesOwn hp (thn (hg _ s5 σ3 H5 x u _ I5' r5 (step x H5 y5)) fun _ s6 ⟨σ6,H6,I6,q6⟩=>?_)
  refine wpAny_passesOwn hp (thn (hb _ s6 σ6 H6 _ I6 q6) fun f s7 q7=>?_)
  have again:∀ {σ7:St} {H7:Hp},Inv X (pins++tD fp s5.heap) σ7 H7 s7->N σ7 H7->∃m,m<n/\∃i σ' H',Inv X pins σ' H' s7/\tn i s7.heap/\(∀b∈fp,H' b=none)/\W i m σ' H':=fun {σ7 H7} I7 n7=>by
   obtain ⟨m',hm,w7⟩:=hN σ7 H7 n7
   refine ⟨m',hm,i+1,σ7,H7,I7.pE,T.keep _ _ _ st5 fun b hb o e=>(I7.pin (b,o) (List.mem_append_right _ (List.mem_append_right _ (kJ hb e)))).1,fun b hb=>?_,w7⟩
   obtain ⟨o,e,d⟩:=T.obj _ _ st5 b hb
   exact (I7.pin (b,o) (List.mem_append_right _ (List.mem_append_right _ (kJ hb e)))).2.1
  cases f with
  | next=>obtain ⟨σ7,H7,I7,n7⟩:=q7;exact again I7 n7
  | cont=>obtain ⟨σ7,H7,I7,n7⟩:=q7;exact again I7 n7
  | brk=>obtain ⟨σ7,H7,I7,q7⟩:=q7;exact ⟨σ7,H7,I7.pE,q7⟩
  | ret v=>obtain ⟨x7,σ7,H7,I7,r7,q7⟩:=q7;exact ⟨x7,σ7,H7,I7.pE,r7,q7⟩
end
end L2
namespace L2
open PySem PySem.Spec PyProof.Rows
abbrev R2:=V->V->Hp->VK->Prop
def OpR (X:Cx) (f:Value->Value->Sem Value) (r:R2):Prop :=
 ∀(pins:Y8) (s:Shared) (σ:St) (H:Hp) (x y:V) (v u:Value) (Q:VK),Inv X pins σ H s->RelV x v->RelV y u->r x y H Q ->
  wpAny (model X.prog X.w) X.A (f v u) (EP X pins σ Q) X.xe s
def UnR (X:Cx) (f:Value->Sem Value) (r:V->Hp->VK->Prop):Prop :=
 ∀(pins:Y8) (s:Shared) (σ:St) (H:Hp) (x:V) (v:Value) (Q:VK),Inv X pins σ H s->RelV x v->r x H Q ->
  wpAny (model X.prog X.w) X.A (f v) (EP X pins σ Q) X.xe s
def qI (X:Cx) (f:Value) (r:List V->Hp->VK->Prop):Prop :=
 ∀(pins:Y8) (s:Shared) (σ:St) (H:Hp) (xs:List V) (us:Y1) (Q:VK),Inv X pins σ H s->Vals xs us->r xs H Q ->
  wpAny (model X.prog X.w) X.A (call f us) (EP X pins σ Q) X.xe s
def bA7 (X:Cx) (r:V->Hp->(Bool->Hp->Prop)->Prop):Prop :=
 ∀(pins:Y8) (s:Shared) (σ:St) (H:Hp) (x:V) (v:Value) (Q:Bool->Hp->Prop),Inv X pins σ H s->RelV x v->r x H Q ->
  wpAny (model X.prog X.w) X.A (truthy v) (TP X pins σ Q) X.xe s
def tOp (r:R2) (ta tb:TE):TE:=fun σ H Q=>ta σ H fun x H1=>tb σ H1 fun y H2=>r x y H2 Q
def tUn (r:V->Hp->VK->Prop) (ta:TE):TE:=fun σ H Q=>ta σ H fun x H1=>r x H1 Q
def rI (C:Int->Int->Prop) (g:Int->Int->V):R2:=fun x y H Q=>∃i j,x=.int i/\y=.int j/\C i j/\Q (g i j) H
def rI0 (g:Int->Int->V):R2:=fun x y H Q=>∃i j,x=.int i/\y=.int j/\Q (g i j) H
def rU (g:Int->V):V->Hp->VK->Prop:=fun x H Q=>∃i,x=.int i/\Q (g i) H
section
variable {X:Cx} {a b c:Expr} {ta tb tc:TE} {pos:Pos}
theorem aT4 (ha:PE X a ta) (hb:PE X b tb) {pins:Y8} {s:Shared} {σ:St} {H:Hp} {R:V->V->Hp->Prop} (I:Inv X pins σ H s)
  (h:ta σ H fun x H1=>tb σ H1 fun y H2=>R x y H2) {Q:Y9} {f:Value->Value->Sem Value}
  (hf:∀v u s2 x y H2,Inv X pins σ H2 s2->RelV x v->RelV y u->R x y H2->wpAny (model X.prog X.w) X.A (f v u) Q X.xe s2) :
  wpAny (model X.prog X.w) X.A (eval a X.env) (fun v s₁=>wpAny (model X.prog X.w) X.A (eval b X.env) (fun u s₂=>wpAny (model X.prog X.w) X.A (f v u) Q X.xe s₂) X.xe s₁) X.xe s:=by
 refine thn (ha pins s σ H _ I h) fun v s1 ⟨x,H1,I1,r1,q1⟩=>?_
 refine thn (hb pins s1 σ H1 _ I1 q1) fun u s2 ⟨y,H2,I2,r2,q2⟩=>?_
 exact hf v u s2 x y H2 I2 r1 r2 q2
theorem aWw {op:Operator} {r:R2} (ho:OpR X (binaryOp op) r) (ha:PE X a ta) (hb:PE X b tb):PE X (.BinOp a op b pos) (tOp r ta tb):=by
 intro pins s σ H Q I h
 exact wpAny_BinOp (aT4 ha hb I h fun v u s2 x y H2 I2 rx ry q=>ho pins s2 σ H2 x y v u Q I2 rx ry q)
theorem aXw {op:UnaryOp} {r:V->Hp->VK->Prop} (ho:UnR X (unaryOp op) r) (ha:PE X a ta):PE X (.UnaryOp op a pos) (tUn r ta):=by
 intro pins s σ H Q I h
 exact UnaryOp_ (thn (ha pins s σ H _ I h) fun v s1 ⟨x,H1,I1,r1,q1⟩=>ho pins s1 σ H1 x v Q I1 r1 q1)
theorem opI {f:Value->Value->Sem Value} {C:Int->Int->Prop} {g:Int->Int->Int}
  (rule:∀(i j:Int) (t u:Tok) (s:Shared) (Q:Y9) (E:Y9),C i j->Q (.int (g i j) s.toks) { s with toks:=s.toks+1 }->wpAny (model X.prog X.w) X.A (f (.int i t) (.int j u)) Q E s) :
  OpR X f (rI C fun i j=>.int (g i j)):=by
 intro pins s σ H x y v u Q I rx ry h
 obtain ⟨i,j,rfl,rfl,hc,q⟩:=h
 obtain ⟨t,rfl⟩:=rx
 obtain ⟨t',rfl⟩:=ry
 exact rule i j t t' s _ _ hc ⟨.int (g i j),H,I.tok _,⟨_,rfl⟩,q⟩
theorem aUp {f:Value->Value->Sem Value} {g:Int->Int->Int}
  (rule:∀(i j:Int) (t u:Tok) (s:Shared) (Q:Y9) (E:Y9),Q (.int (g i j) s.toks) { s with toks:=s.toks+1 }->wpAny (model X.prog X.w) X.A (f (.int i t) (.int j u)) Q E s) :
  OpR X f (rI0 fun i j=>.int (g i j)):=by
 intro pins s σ H x y v u Q I rx ry h
 obtain ⟨i,j,rfl,rfl,q⟩:=h
 obtain ⟨t,rfl⟩:=rx
 obtain ⟨t',rfl⟩:=ry
 exact rule i j t t' s _ _ ⟨.int (g i j),H,I.tok _,⟨_,rfl⟩,q⟩
theorem aMd {f:Value->Value->Sem Value} {g:Int->Int->Bool}
  (rule:∀(i j:Int) (t u:Tok) (s:Shared) (Q:Y9) (E:Y9),Q (.bool (g i j)) s->wpAny (model X.prog X.w) X.A (f (.int i t) (.int j u)) Q E s) :
  OpR X f (rI0 fun i j=>.bl (g i j)):=by
 intro pins s σ H x y v u Q I rx ry h
 obtain ⟨i,j,rfl,rfl,q⟩:=h
 obtain ⟨t,rfl⟩:=rx
 obtain ⟨t',rfl⟩:=ry
 exact rule i j t t' s _ _ ⟨.bl (g i j),H,I,rfl,q⟩
theorem aS5:OpR X (binaryOp .Add) (rI0 fun i j=>.int (i+j)):=aUp fun _ _ _ _ _ _ _ q=>add_int q
theorem aSb:OpR X (binaryOp .Sub) (rI0 fun i j=>.int (i - j)):=aUp fun _ _ _ _ _ _ _ q=>sub_int q
theorem aTe:OpR X (binaryOp .Mod) (rI (fun _ j=>0<j) fun i j=>.int (i % j)):=opI fun i j _ _ _ _ _ hc q=>by
 have h1:(0:Int)<j:=hc
 exact mod_int' (by omega) (by rw [Int.fmod_eq_emod_of_nonneg i (by omega)];exact q)
theorem aRr:OpR X (binaryOp .BitXor) (rI0 fun i j=>.int (Builtin.bitXor i j)):=aUp fun _ _ _ _ _ _ _ q=>xor_int q
theorem unI {f:Value->Sem Value} {g:Int->Int}
  (rule:∀(i:Int) (t:Tok) (s:Shared) (Q:Y9) (E:Y9),Q (.int (g i) s.toks) { s with toks:=s.toks+1 }->wpAny (model X.prog X.w) X.A (f (.int i t)) Q E s) :
  UnR X f (rU fun i=>.int (g i)):=by
 intro pins s σ H x v Q I rx h
 obtain ⟨i,rfl,q⟩:=h
 obtain ⟨t,rfl⟩:=rx
 exact rule i t s _ _ ⟨.int (g i),H,I.tok _,⟨_,rfl⟩,q⟩
theorem aUn:UnR X (unaryOp .USub) (rU fun i=>.int (-i)):=unI fun _ _ _ _ _ q=>neg_int q
end
section
variable {X:Cx} {a b c:Expr} {ta tb tc:TE} {pos:Pos}
theorem aHm {pins:Y8} {σ:St} {H:Hp} {s:Shared} {Q:VK} {k k':Bool} (I:Inv X pins σ H s) (q:Q (.bl k) H) (e:k=k'):EP X pins σ Q (.bool k') s:=by
 subst e
 exact ⟨.bl k,H,I,rfl,q⟩
theorem aVz:OpR X (compareOp .Lt) (rI0 fun i j=>.bl (decide (i<j))):=aMd fun _ _ _ _ _ _ _ q=>lt_int q
theorem aGt:OpR X (compareOp .LtE) (rI0 fun i j=>.bl (decide (i<=j))):=aMd fun _ _ _ _ _ _ _ q=>le_int q
theorem aPw:OpR X (compareOp .Gt) (rI0 fun i j=>.bl (decide (j<i))):=aMd fun _ _ _ _ _ _ _ q=>gt_int q
theorem aXu:OpR X (compareOp .GtE) (rI0 fun i j=>.bl (decide (j<=i))):=aMd fun _ _ _ _ _ _ _ q=>ge_int q
theorem aSh:OpR X (compareOp .Is) (fun x y H Q=>y=.non/\Q (.bl (decide (x=.non))) H):=by
 intro pins s σ H x y v u Q I rx ry h
 obtain ⟨rfl,q⟩:=h
 cases ry
 refine is_none_gen (aHm I q ?_)
 cases x<;>first
  | (cases rx;rfl)
  | (obtain ⟨t,rfl⟩:=rx;rfl)
theorem aC5:OpR X (compareOp .IsNot) (fun x y H Q=>y=.non/\Q (.bl (!decide (x=.non))) H):=by
 intro pins s σ H x y v u Q I rx ry h
 obtain ⟨rfl,q⟩:=h
 cases ry
 refine isnot_none_gen (aHm I q ?_)
 cases x<;>first
  | (cases rx;rfl)
  | (obtain ⟨t,rfl⟩:=rx;rfl)
theorem OpR.or {f:Value->Value->Sem Value} {r r':R2} (h:OpR X f r) (h':OpR X f r'):OpR X f (fun x y H Q=>r x y H Q\/r' x y H Q):=by
 intro pins s σ H x y v u Q I rx ry q
 rcases q with q | q
 ·exact h pins s σ H x y v u Q I rx ry q
 ·exact h' pins s σ H x y v u Q I rx ry q
theorem iD (b:Expr) {op:CmpOp} (h:op ≠ .In:=by decide) (h2:op ≠ .NotIn:=by decide):behindInMarks op b=false:=by
 have e1:(op == CmpOp.In)=false:=by cases op<;>first | rfl | exact absurd rfl h
 have e2:(op == CmpOp.NotIn)=false:=by cases op<;>first | rfl | exact absurd rfl h2
 cases b<;>simp [behindInMarks,e1,e2]
theorem aLo {op:CmpOp} {r:R2} (ho:OpR X (compareOp op) r) (ha:PE X a ta) (hb:PE X b tb) (hm:behindInMarks op b=false):PE X (.Compare a [op] [b] pos) (tOp r ta tb):=by
 intro pins s σ H Q I h
 exact wpAny_Compare1 (aT4 ha hb I h fun v u s2 x y H2 I2 rx ry q=>ho pins s2 σ H2 x y v u Q I2 rx ry q) hm
def aDg (t:TE):TT:=fun σ H Q=>t σ H fun x H'=>∃k,x=.bl k/\Q k H'
theorem aKl {op:CmpOp} {r:R2} (ho:OpR X (compareOp op) r) (ha:PE X a ta) (hb:PE X b tb) (hm:behindInMarks op b=false):PT X (.Compare a [op] [b] pos) (aDg (tOp r ta tb)):=by
 intro pins s σ H Q I h
 refine wpAny_isTrue_Compare1 (thn (ha pins s σ H _ I h) fun v s1 ⟨x,H1,I1,r1,q1⟩=>thn (hb pins s1 σ H1 _ I1 q1) fun u s2 ⟨y,H2,I2,r2,q2⟩ =>
  thn (ho pins s2 σ H2 x y v u _ I2 r1 r2 q2) fun c s3 ⟨z,H3,I3,r3,k,e,q3⟩=>?_) hm
 subst e
 cases r3
 exact wpAny_truthy_bool ⟨H3,I3,q3⟩
def aI1 (r r':R2) (ta tb tc:TE):TE:=fun σ H Q=>ta σ H fun x H1=>tb σ H1 fun y H2=>r x y H2 fun z H3=>∃k,z=.bl k /\
 (if k=true then tc σ H3 fun w' H4=>r' y w' H4 Q else Q (.bl false) H3)
theorem aJf {op op':CmpOp} {r r':R2} (ho:OpR X (compareOp op) r) (ho':OpR X (compareOp op') r') (ha:PE X a ta) (hb:PE X b tb) (hc:PE X c tc)
  (hm:lastMarks [op,op'] [b,c]=false:=by with_unfolding_all rfl):PE X (.Compare a [op,op'] [b,c] pos) (aI1 r r' ta tb tc):=by
 intro pins s σ H Q I h
 refine Compare_chain (thn (ha pins s σ H _ I h) fun v s1 ⟨x,H1,I1,r1,q1⟩=>chain_link (thn (hb pins s1 σ H1 _ I1 q1) fun u s2 ⟨y,H2,I2,r2,q2⟩ =>
  thn (ho pins s2 σ H2 x y v u _ I2 r1 r2 q2) fun d s3 ⟨z,H3,I3,r3,k,e,q3⟩=>?_)) hm
 subst e
 cases r3
 refine wpAny_truthy_bool ?_
 cases k with
 | false=>exact ite_ff ⟨.bl false,H3,I3,rfl,q3⟩
 | true=>exact ite_tt (chain_last (thn (hc pins s3 σ H3 _ I3 q3) fun w' s4 ⟨z',H4,I4,r4,q4⟩=>ho' pins s4 σ H4 y z' u w' Q I4 r2 r4 q4))
def aRl (K:FG) (x:V) (H:Hp) (k:Bool):Prop :=
 match x with
 | .non=>k=false
 | .bl b=>k=b
 | .int i=>k=(i != 0)
 | .str y=>y.length<=sizeLine/\k=((y.length:Int) != 0)
 | .byt y=>y.size<=sizeLine/\k=((y.size:Int) != 0)
 | .ref p=>(∃xs,SqL K H p xs/\k = !xs.isEmpty)\/(∃xs,SqT K H p xs/\k = !xs.isEmpty)\/∃kvs,H p=some (.dK kvs)/\k = !kvs.isEmpty
 | _=>False
theorem aA3 {κ:Type} {kvs:List (κ×V)} {vs:List (κ×Value)} (r:KV kvs vs):(!vs.isEmpty) = !kvs.isEmpty:=by
 cases r<;>rfl
theorem tR {xs:List V} {its:Y1} (r:Vals xs its):(!its.toArray.isEmpty) = !xs.isEmpty:=by
 cases r<;>simp
theorem tN:(sizeLine:Nat)<2 ^ 63:=by rw [sizeLine_eq];decide
theorem aQ8:bA7 X (fun x H Q=>∃k,aRl X.K x H k/\Q k H):=by
 intro pins s σ H x v Q I rx h
 obtain ⟨k,e,q⟩:=h
 have hl:=tN
 have hs:sizeLine=16777216:=sizeLine_eq
 cases x with
 | non =>
  cases rx
  have e':k=false:=e
  subst e'
  exact truthy_none ⟨H,I,q⟩
 | bl b =>
  cases rx
  have e':k=b:=e
  subst e'
  exact wpAny_truthy_bool ⟨H,I,q⟩
 | int i =>
  obtain ⟨t,rfl⟩:=rx
  have e':k=(i != 0):=e
  subst e'
  exact PySem.P.truthy_int ⟨H,I,q⟩
 | str y =>
  obtain ⟨t,rfl⟩:=rx
  obtain ⟨hy,e'⟩:y.length<=sizeLine/\k=((y.length:Int) != 0):=e
  subst e'
  exact PySem.P.truthy_str (by omega) ⟨H,I.tok _,q⟩
 | byt y =>
  obtain ⟨t,rfl⟩:=rx
  obtain ⟨hy,e'⟩:y.size<=sizeLine/\k=((y.size:Int) != 0):=e
  subst e'
  exact PySem.W.truthy_bytes (by omega) ⟨H,I.tok _,q⟩
 | ref p =>
  cases rx
  have e':(∃xs,SqL X.K H p xs/\k = !xs.isEmpty)\/(∃xs,SqT X.K H p xs/\k = !xs.isEmpty)\/∃kvs,H p=some (.dK kvs)/\k = !kvs.isEmpty:=e
  rcases e' with ⟨xs,hx,e'⟩ | ⟨xs,hx,e'⟩ | ⟨kvs,hx,e'⟩
  ·subst e'
   obtain ⟨its,r,pl,hz⟩:=I.list hx
   have hlen:=r.length
   exact wpAny_truthy_list pl.isList (by simp only [List.size_toArray];omega) ⟨H,I.tok _,by rw [tR r];exact q⟩
  ·subst e'
   obtain ⟨its,r,pl,hz⟩:=I.tuple hx
   have hlen:=r.length
   exact truthy_tuple pl (by simp only [List.size_toArray];omega) ⟨H,I.tok _,by rw [tR r];exact q⟩
  ·subst e'
   obtain ⟨hz,hS,vs,r,m⟩:kvs.length<=sizeLine/\(p == sysModules)=false/\∃vs,KV kvs vs/\s.heap.DictOf (cU X.prog X.w) p vs:=I.hok p _ hx
   have hlen:kvs.length=vs.length:=Paired.length r
   exact wpAny_truthy_dict hS m (by omega) ⟨H,I.tok _,by rw [aA3 r];exact q⟩
 | _=>exact (show False from e).elim
theorem aGd (ha:PE X a ta) (he:∀whole,isTrue a X.env whole=(do let v <- whole;standAt a.pos;holding [v] (truthy v))) :
  PT X a (fun σ H Q=>ta σ H fun x H'=>∃k,aRl X.K x H' k/\Q k H'):=by
 intro pins s σ H Q I h
 exact isTrue_plain (thn (ha pins s σ H _ I h) fun v s1 ⟨x,H1,I1,r1,q1⟩=>aQ8 pins s1 σ H1 x v Q I1 r1 q1) (he _)
theorem vals1 {x:V} {us:Y1} (r:Vals [x] us):∃u,us=[u]/\RelV x u:=by
 cases r with
 | cons r1 r2=>cases r2;exact ⟨_,rfl,r1⟩
theorem vals2 {x y:V} {us:Y1} (r:Vals [x,y] us):∃u w',us=[u,w']/\RelV x u/\RelV y w':=by
 cases r with
 | cons r1 r2 =>
  cases r2 with
  | cons r3 r4=>cases r4;exact ⟨_,_,rfl,r1,r3⟩
theorem aEv (hc:X.calm=true):qI X (.builtin "max") (fun xs H Q=>∃i j,xs=[.int i,.int j]/\Q (.int (if j > i then j else i)) H):=by
 intro pins s σ H xs us Q I r h
 obtain ⟨i,j,rfl,q⟩:=h
 obtain ⟨u,w',rfl,⟨t,rfl⟩,⟨t',rfl⟩⟩:=vals2 r
 refine max_two_ints (I.ok.hd hc) fun h' tk k=>⟨_,H,I.kept k,?_,q⟩
 by_cases hj:j > i
 ·rw [if_pos hj,if_pos hj];exact ⟨_,rfl⟩
 ·rw [if_neg hj,if_neg hj];exact ⟨_,rfl⟩
end
end L2
namespace L2
open PySem PySem.Spec PyProof.Rows
structure ObjM (h:Heap) (x dx C:Addr) (mA:Y6):Prop where
 obj:h.get? x=some (PySem.W.instObj C dx)
 ns:h.Ns1 dx mA
 ne:dx ≠ x
theorem aEa {h:Heap} {dx:Addr} {mA:Y6} (n:h.Ns1 dx mA):∃od,h.get? dx=some od/\∀name,PySem.W.lookIn name od=some (mA name):=by
 obtain ⟨o,es,ep,ho,hd,hk,_,hm⟩:=n
 refine ⟨o,ho,fun name=>?_⟩
 have e:=hm name
 unfold nsFind findBy at e
 rw [<- Array.find?_toList] at e
 unfold PySem.W.lookIn
 rw [hd]
 dsimp only
 split
 ·rename_i y q
  rw [q] at e
  exact congrArg some e
 ·rename_i q
  rw [q] at e
  have a:es.toList.any (·.refKey)=false:=by
   rw [List.any_eq_false]
   intro y hy
   obtain ⟨z,t,hkey⟩:=hk y (Array.mem_toList_iff.mp hy)
   simp [DictEntry.refKey,hkey]
  have a':¬ es.toList.any (·.refKey)=true:=by rw [a];exact Bool.false_ne_true
  rw [if_neg a']
  exact congrArg some e
theorem ObjM.look {h:Heap} {x dx C:Addr} {mA:Y6} (I:ObjM h x dx C mA):∃od,PySem.W.InstAt h x (PySem.W.instObj C dx) C (some od)/\∀name,PySem.W.lookIn name od=some (mA name) :=
 let ⟨od,ho,hl⟩:=aEa I.ns
 ⟨od,⟨I.obj,rfl,rfl,ho⟩,hl⟩
section
variable {prog:Program} {w:World} {A:Around} {E:Y9} {s:Shared} {K:FG} {x dx C f:Addr} {mA:Y6} {name:Str} {v:Value}
end
theorem tY.some_of {v:V} {o:Option Value} (r:tY (some v) o):∃u,o=some u/\RelV v u:=by
 cases o with
 | none=>exact (show False from r).elim
 | some u=>exact ⟨u,rfl,r⟩
section
variable {P:Program} {w:World} {H H':Hp} {h h':Heap} {a C dx:Addr} {fs fs':List (Str×V)}
theorem aLq (hok:HOk P w H h) (e:H a=some (.ins C dx fs)):∃mA,ObjM h a dx C mA/\(∀f,tY (fs.lookup f) (mA f))/\PySem.Within mA (fs.map (·.1))/\fs.length<=1000/\H dx=some (.own a):=by
 obtain ⟨d,z,ne,ob,mA,n,r,q⟩:=(show dR P w H h a (.ins C dx fs) from hok a _ e)
 exact ⟨mA,⟨ob,n,ne⟩,r,q,z,d⟩
end
structure Cls (K:FG) (C:Addr):Prop where
 pg:PySem.W.plainGet K C Str.empty=true
 hd:PySem.W.hasDictIn K C=true
 po:PySem.W.plainOver K C=true
 sa:PySem.W.findIn K (.ref C) "__setattr__" = some (some (.builtin "object.__setattr__"))
theorem Cls.get {K:FG} {C:Addr} (c:Cls K C) (f:Str):PySem.W.plainGet K C f=true:=c.pg
section
variable {X:Cx} {pins:Y8} {σ:St} {H:Hp} {s:Shared} {a C dx:Addr} {fs:List (Str×V)} {f:Str} {v:V} {A:Around} {E:Y9}
end
section
variable {X:Cx} {o e value:Expr} {f:Str} {pos pos' tpos:Pos} {ta tv:TE}
end
section
variable {X:Cx} {pins:Y8} {σ:St} {H:Hp} {s:Shared} {A:Around} {E:Y9} {Q:Y9} {c:Value} {b:Bool}
inductive TyOf (K:FG) (H:Hp):V->Value->Prop where
 | non:TyOf K H .non (.type "NoneType")
 | bl (x:Bool):TyOf K H (.bl x) (.type "bool")
 | int (i:Int):TyOf K H (.int i) (.type "int")
 | str (x:Str):TyOf K H (.str x) (.type "str")
 | flt (x:UInt64):TyOf K H (.flt x) (.type "float")
 | lst {a:Addr} {xs:List V} (e:H a=some (.lst xs)):TyOf K H (.ref a) (.type "list")
 | frz {a:Addr} {o:Obj} {xs:List V} (e:H a=some (.frz o (.lst xs))):TyOf K H (.ref a) (.type "list")
 | tup {a:Addr} {xs:List V} (e:H a=some (.tup xs)):TyOf K H (.ref a) (.type "tuple")
 | dK {a:Addr} {kvs:List (Key×V)} (e:H a=some (.dK kvs)):TyOf K H (.ref a) (.type "dict")
 | dT {a:Addr} {kvs:List (List Key×V)} (e:H a=some (.dT kvs)):TyOf K H (.ref a) (.type "dict")
 | ins {a C dx:Addr} {fs:List (Str×V)} (e:H a=some (.ins C dx fs)) (cl:Cls K C) (ha:PySem.W.findIn K (.ref C) "__class__" = some (some (.builtin "object.__class__")))
   (hn:PySem.W.specialIn K (.builtin "object.__class__") "__get__" = some (some (.builtin "getset_descriptor.__get__"))) (htk:PySem.W.takesIn K (.builtin "object.__class__")=some true)
   (hm:PySem.W.mroIn K C (.type "object")=some true):TyOf K H (.ref a) (.ref C)
theorem iR {x:V} {u t:Value} (I:Inv X pins σ H s) (rx:RelV x u) (ty:TyOf X.K H x t) (e:PySem.W.kitOne X.K t c=some b) (h:∀tk,Q (.bool b) { s with toks:=tk }) :
  wpAny (model X.prog X.w) A (call (.builtin "isinstance") [u,c]) Q E s:=by
 cases ty with
 | non=>cases (show u=Value.none from rx);exact PySem.W.kia_one PySem.W.kitx_none I.kIn True.intro e (fun z=>nomatch z) h
 | bl y=>cases (show u=Value.bool y from rx);exact PySem.W.kia_one PySem.W.kitx_bool I.kIn True.intro e (fun z=>nomatch z) h
 | int i=>obtain ⟨t,q⟩:=(show ∃t,u=Value.int i t from rx);cases q;exact PySem.W.kia_one PySem.W.kitx_int I.kIn True.intro e (fun z=>nomatch z) h
 | str y=>obtain ⟨t,q⟩:=(show ∃t,u=Value.str y t from rx);cases q;exact PySem.W.kia_one PySem.W.kitx_str I.kIn True.intro e (fun z=>nomatch z) h
 | flt y=>obtain ⟨t,q⟩:=(show ∃t,u=Value.float y t from rx);cases q;exact PySem.W.kia_one PySem.W.kitx_float I.kIn True.intro e (fun z=>nomatch z) h
 | @lst a xs ea =>
  cases (show u=Value.ref a from rx)
  obtain ⟨_,_,n,_,h1⟩:=(show dR X.prog X.w H s.heap a (.lst xs) from I.hok a _ ea)
  exact PySem.W.kia_one PySem.W.kitx_list I.kIn ⟨_,h1,rfl⟩ e (fun z=>nomatch z) h
 | @frz a ob xs ea =>
  cases (show u=Value.ref a from rx)
  obtain ⟨_,_,_,n,_,h1⟩:=(show dR X.prog X.w H s.heap a (.frz ob (.lst xs)) from I.hok a _ ea)
  exact PySem.W.kia_one PySem.W.kitx_list I.kIn ⟨_,h1,rfl⟩ e (fun z=>nomatch z) h
 | @tup a xs ea =>
  cases (show u=Value.ref a from rx)
  obtain ⟨_,_,_,p⟩:=(show dR X.prog X.w H s.heap a (.tup xs) from I.hok a _ ea)
  obtain ⟨o,h1,h2,_⟩:=p
  exact PySem.W.kia_one PySem.W.kitx_tuple I.kIn ⟨o,h1,h2⟩ e (fun z=>nomatch z) h
 | @dK a kvs ea =>
  cases (show u=Value.ref a from rx)
  obtain ⟨_,_,vs,_,p⟩:=(show dR X.prog X.w H s.heap a (.dK kvs) from I.hok a _ ea)
  obtain ⟨o,es,ep,h1,h2,_⟩:=p
  exact PySem.W.kia_one PySem.W.kitx_dict I.kIn ⟨o,h1,h2.1⟩ e (fun z=>nomatch z) h
 | @dT a kvs ea =>
  cases (show u=Value.ref a from rx)
  obtain ⟨_,_,xs,_,o,es,ep,h1,h2,_⟩:=(show dR X.prog X.w H s.heap a (.dT kvs) from I.hok a _ ea)
  exact PySem.W.kia_one PySem.W.kitx_dict I.kIn ⟨o,h1,h2.1⟩ e (fun z=>nomatch z) h
 | @ins a C dx fs ea cl ha hn htk hm =>
  cases (show u=Value.ref a from rx)
  obtain ⟨mA,O,_⟩:=aLq I.hok ea
  obtain ⟨od,J,_⟩:=O.look
  exact PySem.W.kia_one (PySem.W.kitx_own (cl.get _) cl.hd ha hn htk hm) I.kIn J e (fun z=>nomatch z) h
end
end L2
namespace L2
open PySem PySem.Spec PyProof.Rows
structure Room (k:Nat) (A:Around):Prop where
 hd:A.handled=none
 dp:A.depth+3 * k+5<recursionLimit
 un:A.units+16 * k+200<cLine
theorem Room.mono {j k:Nat} {A:Around} (r:Room k A) (h:j<=k):Room j A:=⟨r.hd,by have:=r.dp;omega,by have:=r.un;omega⟩
theorem Room.deeper {k:Nat} {A:Around} (r:Room (k+1) A) (env:Env):Room k (A.deeper env) :=
 ⟨r.hd,by have:=r.dp;show A.depth+1+3 * k+5<_;omega,by have:=r.un;show A.units+3+16 * k+200<_;omega⟩
theorem Room.depth {k:Nat} {A:Around} (r:Room k A):A.depth<recursionLimit:=by have:=r.dp;omega
def aBl:TA:=fun _ H Q=>Q [] H
def qH (ta:TE) (tr:TA):TA:=fun σ H Q=>ta σ H fun x H1=>tr σ H1 fun xs H2=>Q (x::xs) H2
section
variable {X:Cx} {e:Expr} {es:List Expr} {te:TE} {t:TA} {pos:Pos}
theorem pV:PA X [] aBl:=fun _ _ _ _ H Q I h=>Calls.spliced_nil ⟨[],H,I,.nil,h⟩
theorem iN (ha:PE X e te) (hr:PA X es t) (hs:starEach (e::es) X.env=(false,eval e X.env)::starEach es X.env:=by rfl):PA X (e::es) (qH te t):=by
 intro pos pins s σ H Q I h
 rw [hs]
 show wpAny _ _ (spliced ((false,eval e X.env)::backTo pos (starEach es X.env))) _ _ s
 refine Calls.spliced_cons (thn (ha pins s σ H _ I h) fun u s1 ⟨x,H1,I1,r1,q1⟩=>?_)
 exact thn (hr pos pins s1 σ H1 _ I1 q1) fun us s2 ⟨xs,H2,I2,r2,q2⟩=>⟨x::xs,H2,I2,.cons r1 r2,q2⟩
def aV9 (t:TA):TE:=fun σ H Q=>t σ H fun xs H1=>xs.length<=sizeLine/\∀p,H1 p=none->Q (.ref p) (upd H1 p (.tup xs))
def aQ2 (t:TA):TE:=fun σ H Q=>t σ H fun xs H1=>xs.length<=sizeLine/\∀p,H1 p=none->Q (.ref p) (upd H1 p (.lst xs))
theorem aQq {x1} (h:PA X es t):PE X (.Tuple es x1 pos) (aV9 t):=by
 intro pins s σ H Q I hq
 refine wpAny_Tuple_spliced (thn (h pos pins s σ H _ I hq) fun us s1 ⟨xs,H1,I1,r,z,q⟩=>⟨by rw [<- r.length];exact z,?_⟩)
 have hf:H1 s1.heap.objs.size=none:=I1.hok.fresh (Nat.le_refl _)
 refine ⟨.ref s1.heap.objs.size,upd H1 s1.heap.objs.size (.tup xs),I1.laid (t':=s1.toks) (fun b u e=>Heap.get?_push_of_some _ e) (Nat.le_refl _) ?_,rfl,q _ hf⟩
 exact ⟨z,us,r,⟨_,Heap.get?_push_size _ rfl,rfl,_,rfl⟩⟩
theorem aJi (h:PA X es t):PE X (.List es pos) (aQ2 t):=by
 intro pins s σ H Q I hq
 refine wpAny_List_spliced (thn (h pos pins s σ H _ I hq) fun us s1 ⟨xs,H1,I1,r,z,q⟩=>⟨by rw [<- r.length];exact z,?_⟩)
 have hf:H1 s1.heap.objs.size=none:=I1.hok.fresh (Nat.le_refl _)
 refine ⟨.ref s1.heap.objs.size,upd H1 s1.heap.objs.size (.lst xs),I1.laid (t':=s1.toks) (fun b u e=>Heap.get?_push_of_some _ e) (Nat.le_refl _) ?_,rfl,q _ hf⟩
 exact ⟨z,us,0,r,Heap.get?_push_size _ rfl⟩
end
abbrev Sp:=List V->Hp->VK->XK->Prop
abbrev CXT:=List Env->Hp->Shared->XK->Value->Shared->Prop
structure Env0 (P:Program) (w:World) (K:FG) (mg:Y6) (base:Heap) (A:Around) (outer:List Env) (s:Shared) (H:Hp):Prop where
 frames:A.frames=some outer
 mod:Mod K mg base
 bs:∀b o,base.get? b=some o->s.heap.get? b=some o/\H b=none
 bsz:base.objs.size<=s.heap.objs.size
 funs:s.heap.FunFrames base outer
 frf:∀b∈frs outer,H b=none
 hok:HOk P w H s.heap
 bare:AllBare s.gens
def CE (outer:List Env) (P:Program) (w:World) (H:Hp) (s:Shared) (Q:VK) (u:Value) (s':Shared):Prop :=
 ∃v H',s'.os=s.os/\AllBare s'.gens/\Un (frs outer) [] H H' s.heap s'.heap/\HOk P w H' s'.heap/\RelV v u/\Q v H'
def CR (CX:CXT) (outer:List Env) (P:Program) (w:World) (H:Hp) (s:Shared) (Q:VK) (E:XK) (r:Result) (s':Shared):Prop :=
 match r with
 | .ok (.ret u)=>CE outer P w H s Q u s'
 | .ok _=>False
 | .error e=>CX outer H s E e s'
structure FnOk (P:Program) (w:World) (K:FG) (mg:Y6) (base:Heap) (CX:CXT) (k:Nat) (f:Addr) (fd:FuncData) (ps:List Str) (sp:Sp):Prop where
 len:∀vs H Q E,sp vs H Q E->vs.length=ps.length
 run:∀(A:Around) (outer:List Env) (s:Shared) (H:Hp) (args:Args) (us:Y1) (vs:List V) (Q:VK) (E:XK),Room k A->Env0 P w K mg base A outer s H->BindsTo s fd args (ps.zip us)->Vals vs us->sp vs H Q E ->
  codeAny (model P w) A (.call (.ref f) args) (CR CX outer P w H s Q E) s
theorem FnOk.mono {P:Program} {w:World} {K:FG} {mg:Y6} {base:Heap} {CX:CXT} {j k:Nat} {f:Addr} {fd:FuncData} {ps:List Str} {sp:Sp} (F:FnOk P w K mg base CX j f fd ps sp) (h:j<=k) :
  FnOk P w K mg base CX k f fd ps sp:=⟨F.len,fun A outer s H args us vs Q E hr=>F.run A outer s H args us vs Q E (hr.mono h)⟩
section
variable {X:Cx} {pins:Y8} {σ:St} {H:Hp} {s s':Shared}
theorem Inv.aOs (I:Inv X pins σ H s):Env0 X.prog X.w X.K X.mg X.base X.A X.stack s H :=
 ⟨I.ok.frames,I.ok.mod,I.bs,Nat.le_trans I.ok.bsz I.sz,I.stack,I.yR,I.hok,I.bare⟩
theorem Inv.after {Q:VK} {u:Value} (I:Inv X pins σ H s) (h:CE X.stack X.prog X.w H s Q u s'):EP X pins σ Q u s':=by
 obtain ⟨v,H',os,bare,un,hok,r,q⟩:=h
 obtain ⟨hh,g,d,t,os'⟩:=s'
 obtain rfl:os'=s.os:=os
 exact ⟨v,H',I.call (h':=hh) (g':=g) (d':=d) (t':=t) (ch:=[]) un hok bare (fun b z=>absurd z (by simp)),r,q⟩
end
def aAe (sp:Sp) (dvs:List V) (E:XK) (t:TA):TE:=fun σ H Q=>t σ H fun vs H1=>sp (vs++dvs) H1 Q E
def Binds (K:FG) (fd:FuncData) (ps:List Str) (ds:Y1):Prop :=
 ∀(s:Shared) (us:Y1),K.In s.heap->(us++ds).length=ps.length->BindsTo s fd ⟨us,[]⟩ (ps.zip (us++ds))
theorem Binds.all {K:FG} {fd:FuncData} {ps:List Str} (h:∀us:Y1,us.length=ps.length->bindArgs fd ⟨us,[]⟩=pure (ps.zip us)):Binds K fd ps []:=fun s us _ hl=>by
 rw [List.append_nil] at hl ⊢
 exact .of_eq (h us hl)
def Passes (CX:CXT) (X:Cx) (E:XK):Prop:=∀(pins:Y8) (σ:St) (H:Hp) (s:Shared) (e:Value) (s':Shared),Inv X pins σ H s->CX X.stack H s E e s'->X.xe e s'
section
variable {X:Cx} {CX:CXT} {k:Nat} {f C:Addr} {fd:FuncData} {ps:List Str} {sp:Sp} {dvs:List V} {ds:Y1} {E:XK} {x m:Str} {p pos apos:Pos} {e o:Expr} {es:List Expr} {ta:TE} {t:TA}
theorem aF0 {pins:Y8} {σ:St} {H:Hp} {s:Shared} {Q:VK} {us:Y1} {vs:List V} (F:FnOk X.prog X.w X.K X.mg X.base CX k f fd ps sp) (hr:Room k X.A) (hb:Binds X.K fd ps ds) (hd:Vals dvs ds) (hx:Passes CX X E)
  (I:Inv X pins σ H s) (r:Vals vs us) (h:sp (vs++dvs) H Q E):wpAny (model X.prog X.w) X.A (call (.ref f) us) (EP X pins σ Q) X.xe s:=by
 have r2:Vals (vs++dvs) (us++ds):=r.append hd
 have hl:(us++ds).length=ps.length:=by rw [<- r2.length];exact F.len _ _ _ _ h
 refine wpAny_call (codeAny_mono (F.run X.A X.stack s H ⟨us,[]⟩ (us++ds) (vs++dvs) Q E hr I.aOs (hb s us I.kIn hl) r2 h) fun r s' hq=>?_)
 cases r with
 | error e=>exact hx pins σ H s e s' I hq
 | ok fl =>
  cases fl with
  | ret u=>exact I.after hq
  | next=>exact False.elim hq
  | brk=>exact False.elim hq
  | cont=>exact False.elim hq
theorem aCe (F:FnOk X.prog X.w X.K X.mg X.base CX k f fd ps sp) (hr:Room k X.A) (hg:Gl X x) (hm:X.mg x=some (.ref f)) (hk:PySem.W.keepIn X.K (.ref f)=true) (hb:Binds X.K fd ps ds) (hd:Vals dvs ds) (hx:Passes CX X E)
  (ha:PA X (e::es) t) (hdb:(x == ("__debug__" : Str))=false:=by decide) (he:starEach (e::es) X.env=(false,eval e X.env)::starEach es X.env:=by rfl) (hpl:(backTo pos (starEach es X.env)).any (·.1)=false:=by rfl) :
  PE X (.Call (.Name x p) (e::es) [] pos) (aAe sp dvs E t):=by
 intro pins s σ H Q I h
 refine wpAny_Call_Name_kw (kM I hg hm ?_ hdb)
 refine PySem.W.callWith_K (h₀:=X.base) I.ok.mod.kin hk (thn (ha pos pins s σ H _ I h) fun us s1 ⟨vs,H1,I1,r,q⟩=>⟨I1.kIn,?_⟩) he hpl
 exact aF0 F hr hb hd hx I1 r q
end
section
variable {X:Cx} {CX:CXT} {k:Nat} {f C:Addr} {fd:FuncData} {ps ks:List Str} {sp:Sp} {E:XK} {x m:Str} {p pos apos kpos:Pos} {e o:Expr} {es:List Expr} {kws:List Keyword} {te ta:TE} {t tk:TA} {nm:Option Str}
variable {g:Y1->Y1->Y1} {gV:List V->List V->List V}
end
structure FnScope (N P:List Str) (sc:Scope):Prop where
 kind:sc.kind=.function
 co:sc.isCoroutine=false
 gen:sc.isGenerator=false
 nd:N.Nodup
 pre:N.take P.length=P
 par:∀x∈P,sc.names.lookup x=some .local\/sc.names.lookup x=some .cell
 nofree:∀y∈sc.names,y.2 ≠ .free
theorem wH {kindOf:Str->Option NameKind} {x:Str}:∀ {binds:List (Str×Value)} {m:Y6},(∀v,(x,v) ∉ binds)->bindL kindOf binds m x=m x
 | [],_,_=>rfl
 | (n,v)::r,m,h=>by
  unfold bindL
  rw [wH fun w hw=>h w (List.mem_cons_of_mem _ hw)]
  split
  ·have:x ≠ n:=by rintro rfl;exact h v List.mem_cons_self
   simp [this]
  ·rfl
theorem vM {kindOf:Str->Option NameKind} {x:Str}:∀ {binds:List (Str×Value)} {m:Y6},(∀v,(x,v) ∉ binds)->bindC kindOf binds m x=m x
 | [],_,_=>rfl
 | (n,v)::r,m,h=>by
  unfold bindC
  rw [vM fun w hw=>h w (List.mem_cons_of_mem _ hw)]
  split
  ·rfl
  ·have:x ≠ n:=by rintro rfl;exact h v List.mem_cons_self
   simp [this]
theorem vR {kindOf:Str->Option NameKind} {x:Str} {v:Value}:∀ {P:List Str} {vs:Y1} {i:Nat} {m:Y6},P.Nodup->P[i]?=some x->vs[i]?=some v->kindOf x=some .local ->
  bindL kindOf (P.zip vs) m x=some v
 | [],_,_,_,_,h,_,_=>by simp at h
 | _::_,[],_,_,_,_,h,_=>by simp at h
 | p::P,w::vs,0,m,nd,h1,h2,hk=>by
  simp at h1 h2;subst h1;subst h2
  show bindL kindOf ((p,w)::P.zip vs) m p=_
  unfold bindL
  rw [wH fun v hv=>(List.nodup_cons.mp nd).1 (List.of_mem_zip hv).1,if_pos hk]
  simp
 | p::P,w::vs,i+1,m,nd,h1,h2,hk=>by
  show bindL kindOf ((p,w)::P.zip vs) m x=_
  unfold bindL
  exact vR (i:=i) (List.nodup_cons.mp nd).2 (by simpa using h1) (by simpa using h2) hk
theorem vZ {kindOf:Str->Option NameKind} {x:Str} {v:Value}:∀ {P:List Str} {vs:Y1} {i:Nat} {m:Y6},P.Nodup->P[i]?=some x->vs[i]?=some v->kindOf x ≠ some .local ->
  bindC kindOf (P.zip vs) m x=some v
 | [],_,_,_,_,h,_,_=>by simp at h
 | _::_,[],_,_,_,_,h,_=>by simp at h
 | p::P,w::vs,0,m,nd,h1,h2,hk=>by
  simp at h1 h2;subst h1;subst h2
  show bindC kindOf ((p,w)::P.zip vs) m p=_
  unfold bindC
  rw [vM fun v hv=>(List.nodup_cons.mp nd).1 (List.of_mem_zip hv).1,if_neg hk]
  simp
 | p::P,w::vs,i+1,m,nd,h1,h2,hk=>by
  show bindC kindOf ((p,w)::P.zip vs) m x=_
  unfold bindC
  exact vZ (i:=i) (List.nodup_cons.mp nd).2 (by simpa using h1) (by simpa using h2) hk
def start (N:List Str) (vs:List V):St:=vs.map some++List.replicate (N.length - vs.length) none
def gE (CX:CXT) (P:Program) (w:World) (K:FG) (mg:Y6) (base:Heap) (N:List Str) (qual:Str) (scope:Scope) (f:Addr) (cd:Value) (A:Around) (outer:List Env) (s:Shared) (H:Hp) (E:XK):Cx where
 prog:=P
 w:=w
 K:=K
 mg:=mg
 base:=base
 A:=A.deeper (envOfC qual scope s.heap.objs.size f cd)
 N:=N
 s₀:=s
 H₀:=H
 env:=envOfC qual scope s.heap.objs.size f cd
 outer:=outer
 stack:=envOfC qual scope s.heap.objs.size f cd::outer
 ex:=[]
 calm:=true
 fn:=fun _=>true
 pn:=[]
 xe:=fun e s'=>wpAny (model P w) (A.deeper (envOfC qual scope s.heap.objs.size f cd)) (leaving (envOfC qual scope s.heap.objs.size f cd) e) (fun _ s''=>CX outer H s E e s'') (fun e' s''=>CX outer H s E e' s'') s'
theorem tG {sc:Scope} {n:Nat} {x:Str} (h:sc.names.lookup x=some .cell):∃c,(cellsFrom n sc.names []).lookup x=some c:=by
 have q:=PySem.W.cellsFrom_some sc.names n [] (.inl h)
 exact Option.isSome_iff_exists.mp q
theorem vW {CX:CXT} {P:Program} {w:World} {K:FG} {mg:Y6} {base:Heap} {N ps:List Str} {qual:Str} {scope:Scope} {f:Addr} {cd:Value} {A:Around} {outer:List Env} {s s1:Shared} {H:Hp} {E:XK} {us:Y1} {vs:List V}
  (S:FnScope N ps scope) (hd:A.handled=none) (e0:Env0 P w K mg base A outer s H) (hl:vs.length=ps.length) (r:Vals vs us)
  (x:InCallC s s.heap.objs.size (bindL (envOfC qual scope s.heap.objs.size f cd).kindOf (ps.zip us) fun _=>none) (cellsFrom (s.heap.objs.size+1) scope.names []) (bindC (envOfC qual scope s.heap.objs.size f cd).kindOf (ps.zip us) fun _=>none) s1) :
  Inv (gE CX P w K mg base N qual scope f cd A outer s H E) [] (start N vs) H s1:=by
 have hpl:ps.length<=N.length:=by have:=congrArg List.length S.pre;rw [List.length_take] at this;omega
 obtain ⟨h1,tk,rfl,hk⟩:=x.done
 have noA:∀b:Addr,b ∉ (gE CX P w K mg base N qual scope f cd A outer s H E).ex:=fun b z=>absurd (show b∈([]:Y2) from z) (by simp)
 refine ⟨⟨e0.mod,S.kind,rfl,rfl,Nat.le_refl _,fun y z c h1 h2=>?_,fun y hy=>?_,fun y c _ h=>?_,fun _=>hd,Around.frames_deeper e0.frames,.inr ⟨rfl,rfl⟩,fun b z=>absurd z (noA b),e0.bs,e0.bsz,fun b _ _=>noA b,fun b z=>absurd z (noA b),e0.funs,e0.frf⟩,
  rfl,e0.bare,Un.kept hk,⟨_,x.toInCall.ns,fun i y v h1 h2 h3=>?_⟩,fun y c h=>⟨_,x.cell y c h⟩,e0.hok.fresh (Nat.le_refl _),fun y c h=>?_,fun p hp=>absurd (show p∈([]:Y8) from hp) (by simp),e0.hok.kept hk,?_⟩
 ·exact name_of_addr x.apart (PySem.mem_of_lookup h1) (PySem.mem_of_lookup h2)
 ·have hy:scope.names.lookup y=some .cell\/scope.names.lookup y=some .free:=hy
  rcases hy with hy | hy
  ·exact tG hy
  ·exact absurd rfl (S.nofree _ (PySem.mem_of_lookup hy))
 ·exact Nat.le_of_lt (x.above y c (PySem.mem_of_lookup h))
 ·have hi:i<vs.length:=by
   unfold start at h2
   by_cases hi:i<vs.length
   ·exact hi
   ·rw [List.getElem?_append_right (by simpa using hi)] at h2
    rw [List.getElem?_replicate] at h2
    split at h2<;>cases h2
  have ha:vs[i]?=some v:=by
   unfold start at h2
   rw [List.getElem?_append_left (by simpa using hi),List.getElem?_map] at h2
   cases e:vs[i]? with
   | none=>rw [e] at h2;cases h2
   | some a=>rw [e] at h2;cases h2;rfl
  obtain ⟨u,hu,rv⟩:=r.get ha
  have hp:ps[i]?=some y:=by
   rw [<- S.pre,List.getElem?_take_of_lt (by omega)];exact h1
  have ndP:ps.Nodup:=by rw [<- S.pre];exact S.nd.sublist (List.take_sublist _ _)
  refine ⟨u,rv,?_⟩
  rcases S.par y (List.mem_of_getElem? hp) with k | k
  ·exact .inl ⟨k,vR ndP hp hu k⟩
  ·obtain ⟨c,e⟩:=tG (n:=s.heap.objs.size+1) k
   refine .inr ⟨.inl k,c,e,?_⟩
   have q:=x.cell y c e
   rw [vZ ndP hp hu (by show scope.names.lookup y ≠ _;rw [k];decide)] at q
   exact q
 ·exact e0.hok.fresh (Nat.le_of_lt (x.above y c (PySem.mem_of_lookup h)))
 ·unfold start
  show _=N.length
  rw [List.length_append,List.length_map,List.length_replicate]
  omega
theorem aI4 {CX:CXT} {P:Program} {w:World} {K:FG} {mg:Y6} {base:Heap} {k:Nat} {f:Addr} {name qual:Str} {params:Arguments} {body:List Stmt} {scope:Scope} {dV kV doc pm cdv ct oc:Value} {an od:Option Addr}
  {osl:Array (Option Value)} {N ps:List Str} {sp:Sp} (lk:K.lookup f=some ⟨oc,od,.func (PySem.W.fnOf name qual params body scope dV kV doc pm an cdv ct),osl⟩) (hcd:PySem.W.codeIn K cdv qual=true) (S:FnScope N ps scope)
  (len:∀vs H Q E,sp vs H Q E->vs.length=ps.length)
  (hbody:∀(A:Around) (outer:List Env) (s:Shared) (H:Hp) (vs:List V) (Q:VK) (E:XK),Room k (A.deeper (envOfC qual scope s.heap.objs.size f cdv))->sp vs H Q E ->
   ∃t,PSs (gE CX P w K mg base N qual scope f cdv A outer s H E) body t/\t { nx:=fun _ H'=>Q .non H',rt:=Q } (start N vs) H) :
  FnOk P w K mg base CX (k+1) f (PySem.W.fnOf name qual params body scope dV kV doc pm an cdv ct) ps sp:=by
 refine ⟨len,fun A outer s H args us vs Q E hr e0 hb r hsp=>?_⟩
 have hl:=len _ _ _ _ hsp
 have KX:K.In s.heap:=e0.mod.kin.keeps fun b o e=>(e0.bs b o e).1
 have lim:s.heap.NoLimit:=e0.mod.nolimit.keeps fun b o e=>(e0.bs b o e).1
 have hkind:∀y∈ps.zip us,scope.names.lookup y.1=some .local\/(scope.names.lookup y.1=some .cell/\((cellsFrom (s.heap.objs.size+1) scope.names []).lookup y.1).isSome=true):=fun ⟨n,v⟩ hy=>by
  rcases S.par n (List.of_mem_zip hy).1 with q | q
  ·exact .inl q
  ·exact .inr ⟨q,PySem.W.cellsFrom_some _ _ _ (.inl q)⟩
 refine codeAny_call_function hr.depth (KX _ _ lk) rfl S.co S.gen rfl (PySem.W.codeRec_of KX hcd) (hb _ _ _ _ ?_)
 refine wpAny_newFunctionEnv_cells S.kind hkind fun env he s1 x=>?_
 subst he
 refine ⟨lim.keeps x.toInCall.keep,codeAny_func ?_⟩
 obtain ⟨t,ht,hq⟩:=hbody A outer s H vs Q E (hr.deeper _) hsp
 have I:Inv (gE CX P w K mg base N qual scope f cdv A outer s H E) [] (start N vs) H s1:=vW S hr.hd e0 hl r x
 refine wpAny_mono (ht [] s1 (start N vs) H _ I hq) (fun fl s' hs=>?_) fun e s' hs=>hs
 have fin:∀ {σ':St} {H':Hp} {v:V} {u:Value},Inv (gE CX P w K mg base N qual scope f cdv A outer s H E) [] σ' H' s'->RelV v u->Q v H'->CE outer P w H s Q u s' :=
  fun {σ' H' v u} J rv q=>⟨v,H',J.os,J.bare,J.base,J.hok,rv,q⟩
 cases fl with
 | ret u =>
  obtain ⟨v,σ',H',J,rv,q⟩:=hs
  exact fin J rv q
 | next =>
  obtain ⟨σ',H',J,q⟩:=hs
  exact fin (v:=V.non) (u:=Value.none) J rfl q
 | brk =>
  obtain ⟨_,_,_,q⟩:=hs
  exact False.elim q
 | cont =>
  obtain ⟨_,_,_,q⟩:=hs
  exact False.elim q
end L2
namespace L2
open PySem PySem.Spec PyProof.Rows
section
variable {X:Cx} {x:Str} {p pos:Pos} {e:Expr} {es:List Expr} {t:TA} {id T:String} {r:List V->Hp->VK->Prop}
def tCB (r:List V->Hp->VK->Prop) (t:TA):TE:=fun σ H Q=>t σ H fun vs H1=>r vs H1 Q
theorem aAr (hc:qI X (.builtin id) r) (hg:Gl X x) (hm:X.mg x=none) (hv:bootBuiltins x=some (.builtin id)) (ha:PA X (e::es) t) (hn:x ≠ "__name__" :=by decide) (hdb:(x == ("__debug__" : Str))=false:=by decide)
  (he:starEach (e::es) X.env=(false,eval e X.env)::starEach es X.env:=by rfl) (hpl:(backTo pos (starEach es X.env)).any (·.1)=false:=by rfl):PE X (.Call (.Name x p) (e::es) [] pos) (tCB r t):=by
 intro pins s σ H Q I h
 refine wpAny_Call_Name_kw (pO I hg hm hv ?_ hn hdb)
 exact PyProof.Rows.callWith_builtin1 (thn (ha pos pins s σ H _ I h) fun us s1 ⟨vs,H1,I1,r1,q1⟩=>hc pins s1 σ H1 vs us Q I1 r1 q1) he hpl
end
end L2
namespace HT
open PySem PyProof.Rows
theorem aG5 (A:Around) (s:Shared) (a:Int) (t:Tok) (c:Int) (u:Tok):∃e,SeqAt.EqAt A s (.int a t) (.int c u) e/\(e=true ↔ a=c) :=
 ⟨(a == c),SeqAt.EqAt.int_int a t c u,by simp⟩
section
open PySem.SeqAt
open PySem.AutoSeq1 (wpAny_loadPart')
open PySem.MeetsSeq PySem.MeetsSeq2 PySem.MeetsSeq3
end
section
variable {prog:Program} {w:World} {A:Around} {E:Y9} {s:Shared}
theorem cat_tup {t b:Addr} {vs ws:Y1} {Q:Y9} (ht:IsTup s.heap t vs.toArray) (hb:IsTup s.heap b ws.toArray) (hv:vs ≠ [])
  (h1:ws=[]->Q (.ref t) s) (h2:ws ≠ []->Q (.ref s.heap.objs.size) { s with heap:=s.heap.push { cls:=.type "tuple",data:=.seq (vs++ws).toArray } })
  (hsz:vs.length+ws.length<=sizeLine):wpAny (model prog w) A (binaryOp .Add (.ref t) (.ref b)) Q E s:=by
 obtain ⟨⟨cls,dd,data,sl⟩,ho,hc,n,hd⟩:=id ht
 obtain ⟨⟨cls2,dd2,data2,sl2⟩,ho2,hc2,n2,hd2⟩:=id hb
 simp only at hc hd hc2 hd2
 subst hc hd hc2 hd2
 have e:vs.toArray++ws.toArray=(vs++ws).toArray:=by simp
 by_cases hw:ws=[]
 ·exact concat_meets ⟨_,ho,rfl⟩ ⟨_,ho2,rfl⟩ noFill_tuple_add seq_tuple_add PySem.F.slot_tuple_add PySem.F.entry_tuple_add (PySem.F.args_tuple_add_2 _ _)
   (tuple_addW1 t b vs.toArray ws.toArray n n2 dd dd2 sl sl2 (by simpa using hv) (by simp [hw])) ⟨ho,ho2,h1 hw⟩
 ·refine concat_meets ⟨_,ho,rfl⟩ ⟨_,ho2,rfl⟩ noFill_tuple_add seq_tuple_add PySem.F.slot_tuple_add PySem.F.entry_tuple_add (PySem.F.args_tuple_add_2 _ _)
   (tuple_addW2 t b vs.toArray ws.toArray n n2 dd dd2 sl sl2 (by simpa using hv) (by simpa using hw) (by rw [List.size_toArray,List.size_toArray];exact hsz)) ⟨ho,ho2,?_⟩
  rw [e]
  exact h2 hw
end
end HT
namespace L2
open PySem PySem.Spec PyProof.Rows
theorem intsAre_of {ns:Y0}:∀ {us:Y1},Vals (ns.map V.int) us->IntsAre us ns:=by
 induction ns with
 | nil=>intro us r;rw [List.map_nil] at r;cases r;exact .nil
 | cons n ns ih =>
  intro us r
  rw [List.map_cons] at r
  cases r with
  | cons r1 r2 =>
   obtain ⟨t,e⟩:=r1
   subst e
   exact .cons n t (ih r2)
section
variable {X:Cx} {e:Expr} {te:TE} {lo hi:Option Expr} {tl th:TO} {pos p2:Pos}
def aPk (K:FG):R2:=fun x y H Q=>∃a b xs ys,x=.ref a/\y=.ref b/\SqT K H a xs/\SqT K H b ys/\xs ≠ []/\xs.length+ys.length<=sizeLine /\
 (ys=[]->Q (.ref a) H)/\(ys ≠ []->∀p,H p=none->Q (.ref p) (upd H p (.tup (xs++ys))))
theorem Vals.yQ {xs:List V} {us:Y1} (r:Vals xs us):us=[] ↔ xs=[]:=by
 cases r with
 | nil=>simp
 | cons _ _=>simp
theorem aM4:OpR X (binaryOp .Add) (aPk X.K):=by
 intro pins s σ H x y v u Q I rx ry h
 obtain ⟨a,b,xs,ys,rfl,rfl,ha,hb,hx,hz,q1,q2⟩:=h
 cases rx
 cases ry
 obtain ⟨its,r1,p1,_⟩:=I.tuple ha
 obtain ⟨its2,r2,p2,_⟩:=I.tuple hb
 refine HT.cat_tup p1 p2 (fun z=>hx (r1.yQ.mp z)) (fun z=>⟨.ref a,H,I,rfl,q1 (r2.yQ.mp z)⟩) (fun z=>?_) (by rw [<- r1.length,<- r2.length];exact hz)
 refine ⟨.ref s.heap.objs.size,_,I.laid (t':=s.toks) (o:=.tup (xs++ys)) (fun b ob q=>Heap.get?_push_of_some _ q) (Nat.le_refl _) ?_,rfl,q2 (fun w=>z (r2.yQ.mpr w)) _ (I.hok.fresh (Nat.le_refl _))⟩
 exact ⟨by rw [List.length_append];exact hz,_,r1.append r2,IsTup.new _ _⟩
end
end L2
namespace L2
open PySem PySem.Spec PyProof.Rows
def ixN (n:Nat) (i:Int):Option Nat:=if 0<=i then (if i<n then some i.toNat else none) else if -(n:Int)<=i then some (i+n).toNat else none
def atI {α:Type} (xs:List α) (i:Int):Option α:=(ixN xs.length i).bind fun j=>xs[j]?
theorem aC0 {n:Nat} {i:Int} {j:Nat} (h:ixN n i=some j):seqIndex? i n=some j/\j<n/\-(n:Int)<=i/\i<n:=by
 unfold ixN at h
 by_cases h0:0<=i
 ·rw [if_pos h0] at h
  by_cases h1:i<n
  ·rw [if_pos h1] at h
   have e:i.toNat=j:=Option.some.inj h
   exact ⟨by rw [seqIndex_of h0 h1,e],by omega,by omega,h1⟩
  ·rw [if_neg h1] at h;cases h
 ·rw [if_neg h0] at h
  by_cases h1:-(n:Int)<=i
  ·rw [if_pos h1] at h
   have e:(i+n).toNat=j:=Option.some.inj h
   exact ⟨by rw [seqIndex_neg (by omega) h1,e],by omega,h1,by omega⟩
  ·rw [if_neg h1] at h;cases h
theorem aDe {α:Type} {xs:List α} {i:Int} {v:α} (h:atI xs i=some v):∃j,seqIndex? i xs.length=some j/\xs[j]?=some v/\j<xs.length/\-(xs.length:Int)<=i/\i<xs.length:=by
 unfold atI at h
 cases e:ixN xs.length i with
 | none=>rw [e] at h;cases h
 | some j =>
  rw [e] at h
  obtain ⟨h1,h2,h3,h4⟩:=aC0 e
  exact ⟨j,h1,h,h2,h3,h4⟩
theorem iH {α:Type} {xs:List α} {j:Nat} {v:α} (h:xs[j]?=some v):atI xs (j:Int)=some v:=by
 have hj:j<xs.length:=(List.getElem?_eq_some_iff.mp h).1
 have e:ixN xs.length (j:Int)=some j:=by
  unfold ixN
  rw [if_pos (by omega),if_pos (by omega)];simp
 unfold atI;rw [e];exact h
def wN (b:Expr):Prop:=∀o i,subscripted b false o i=operate [o,i] (getItem o i)
def IxR (X:Cx) (r:R2):Prop :=
 ∀(value slice:Expr) (pins:Y8) (s:Shared) (σ:St) (H:Hp) (x y:V) (v u:Value) (Q:VK),Inv X pins σ H s->RelV x v->RelV y u->r x y H Q ->
  subscripted slice false v u=operate [v,u] (getItem v u)->wpAny (model X.prog X.w) X.A (subscriptTail value slice v u) (EP X pins σ Q) X.xe s
def MtR (X:Cx) (id:String) (r:V->List V->Hp->VK->Prop):Prop :=
 ∀(pins:Y8) (s:Shared) (σ:St) (H:Hp) (x:V) (xs:List V) (v:Value) (us:Y1) (Q:VK),Inv X pins σ H s->RelV x v->Vals xs us->r x xs H Q ->
  wpAny (model X.prog X.w) X.A (call (.builtin id) (v::us)) (EP X pins σ Q) X.xe s
section
variable {X:Cx} {a b:Expr} {ta tb:TE} {pos:Pos}
theorem IxR.or {r r':R2} (h:IxR X r) (h':IxR X r'):IxR X (fun x y H Q=>r x y H Q\/r' x y H Q):=by
 intro value slice pins s σ H x y v u Q I rx ry q hs
 rcases q with q | q
 ·exact h value slice pins s σ H x y v u Q I rx ry q hs
 ·exact h' value slice pins s σ H x y v u Q I rx ry q hs
theorem aIk {r:R2} (hr:IxR X r) (ha:PE X a ta) (hb:PE X b tb) (hs:wN b):PE X (.Subscript a b pos) (tOp r ta tb):=by
 intro pins s σ H Q I h
 exact Subscript_ (aT4 ha hb I h fun v u s2 x y H2 I2 rx ry q=>hr a b pins s2 σ H2 x y v u Q I2 rx ry q (hs _ _))
def aMp (K:FG):R2:=fun x y H Q=>∃p xs i v,x=.ref p/\y=.int i/\SqL K H p xs/\atI xs i=some v/\Q v H
def aQ1 (K:FG):R2:=fun x y H Q=>∃p xs i v,x=.ref p/\y=.int i/\SqT K H p xs/\atI xs i=some v/\Q v H
theorem wQ:IxR X (aMp X.K):=by
 intro value slice pins s σ H x y v u Q I rx ry h hs
 obtain ⟨p,xs,i,z,rfl,rfl,hq,he,q⟩:=h
 cases rx
 obtain ⟨t,rfl⟩:=ry
 obtain ⟨its,r,pl,hz⟩:=I.list hq
 obtain ⟨j,h1,h2,h3,h4,h5⟩:=aDe he
 obtain ⟨w,ew,rw'⟩:=r.get h2
 have hl:=r.length
 have hn:=tN
 have fin:EP X pins σ Q w s:=⟨z,H,I,rw',q⟩
 by_cases h0:0<=i
 ·have hj:i.toNat=j:=by
   rw [seqIndex_of h0 h5] at h1
   exact Option.some.inj h1
  exact item_listR pl.isList h0 (by omega) (by rw [hj];simpa using ew) fin hs
 ·have hj:(i+(its.toArray.size:Int)).toNat=j:=by
   rw [seqIndex_neg (by omega) h4] at h1
   rw [List.size_toArray,<- hl]
   exact Option.some.inj h1
  exact subscriptTail_builtinR (x:=w) pl.isList.typeIs slot_list_getitem.lookup
   (wpAny_getItem_list_neg (Q:=fun r s'=>r=w/\EP X pins σ Q r s') pl.isList (by omega) (by rw [List.size_toArray]<;>omega) (by omega) (by rw [hj];simpa using ew) ⟨rfl,fin⟩) hs
theorem aFm:IxR X (aQ1 X.K):=by
 intro value slice pins s σ H x y v u Q I rx ry h hs
 obtain ⟨p,xs,i,z,rfl,rfl,hq,he,q⟩:=h
 cases rx
 obtain ⟨t,rfl⟩:=ry
 obtain ⟨its,r,pl,hz⟩:=I.tuple hq
 obtain ⟨j,h1,h2,h3,h4,h5⟩:=aDe he
 obtain ⟨w,ew,rw'⟩:=r.get h2
 have hl:=r.length
 have hn:=tN
 have fin:EP X pins σ Q w s:=⟨z,H,I,rw',q⟩
 exact subscriptTail_builtinR (x:=w) pl.typeIs slot_tuple_getitem.lookup
  (getItem_tuple (j:=j) (Q:=fun r s'=>r=w/\EP X pins σ Q r s') pl (by omega) (by omega) (by rw [List.size_toArray,<- hl];exact h1) (by simpa using ew) ⟨rfl,fin⟩) hs
theorem aBq (its:Y1) (n j:Nat) (u:Value):Obj.mapSeq (·.setIfInBounds j u) { cls:=.type "list",data:=.seq its.toArray n }={ cls:=.type "list",data:=.seq (its.set j u).toArray n }:=by
 simp [Obj.mapSeq]
theorem Inv.lst {pins:Y8} {σ:St} {H:Hp} {s:Shared} {p:Addr} {xs:List V} (I:Inv X pins σ H s) (h:H p=some (.lst xs)) :
  ∃(its:Y1) (n:Nat),Vals xs its/\s.heap.get? p=some { cls:=.type "list",data:=.seq its.toArray n }/\xs.length<=sizeLine:=by
 obtain ⟨z,its,n,r,e⟩:=I.hok p _ h
 exact ⟨its,n,r,e,z⟩
theorem Inv.aU6 {pins:Y8} {σ:St} {H:Hp} {s:Shared} {p:Addr} {xs ys:List V} {its its':Y1} {n n':Nat} {f:Obj->Obj} (I:Inv X pins σ H s) (h:H p=some (.lst xs))
  (ho:s.heap.get? p=some { cls:=.type "list",data:=.seq its.toArray n }) (hf:f { cls:=.type "list",data:=.seq its.toArray n }={ cls:=.type "list",data:=.seq its'.toArray n' }) (r:Vals ys its') (hz:ys.length<=sizeLine) (t:Nat) :
  Inv X pins σ (upd H p (.lst ys)) { s with heap:=s.heap.update p f,toks:=t }:=by
 have e:(s.heap.update p f).get? p=some { cls:=.type "list",data:=.seq its'.toArray n' }:=by
  rw [Heap.get?_update_self f ho (by rw [hf]<;>rfl),hf]
 refine I.write (x:=p) (e:=p) (by rw [h];trivial) (.inl rfl) (fun b u hb q=>(Heap.get?_update_other _ _ (Ne.symm hb)).trans q) ⟨_,e⟩ ?_
 exact ⟨hz,its',n',r,e⟩
def aQe:V->V->V->Hp->(Hp->Prop)->Prop:=fun o i v H Q=>∃p xs k j,o=.ref p/\i=.int k/\H p=some (.lst xs)/\ixN xs.length k=some j/\Q (upd H p (.lst (xs.set j v)))
theorem set_list:aW4 X aQe:=by
 intro pins s σ H o i v ov iv u Q I ro ri rv h
 obtain ⟨p,xs,k,j,rfl,rfl,hp,hj,q⟩:=h
 cases ro
 obtain ⟨t,rfl⟩:=ri
 obtain ⟨its,n,r,ho,hz⟩:=I.lst hp
 obtain ⟨h1,h2,h3,h4⟩:=aC0 hj
 have hl:=r.length
 have hn:=tN
 have I':Inv X pins σ (upd H p (.lst (xs.set j v))) { s with heap:=s.heap.update p (Obj.mapSeq (·.setIfInBounds j u)) } :=
  I.aU6 hp ho (aBq its n j u) (r.set rv j) (by rw [List.length_set];exact hz) s.toks
 by_cases h0:0<=k
 ·have hk:k.toNat=j:=by
   rw [seqIndex_of h0 h4] at h1
   exact Option.some.inj h1
  exact PySem.W.ki_setAt ho h0 (by omega) (by rw [List.size_toArray,<- hl];exact h4) (by rw [hk];exact ⟨_,I',q⟩)
 ·have hk:(k+(its.toArray.size:Int)).toNat=j:=by
   rw [seqIndex_neg (by omega) h3] at h1
   rw [List.size_toArray,<- hl]
   exact Option.some.inj h1
  exact PySem.W.ki_setBack ho (by omega) (by rw [List.size_toArray,<- hl];exact h3) (by omega) (by rw [hk];exact ⟨_,I',q⟩)
theorem xA:qI X (.builtin "len") (fun xs H Q=>∃p ys,xs=[.ref p]/\(SqL X.K H p ys\/SqT X.K H p ys)/\Q (.int ys.length) H):=by
 intro pins s σ H xs us Q I r h
 obtain ⟨p,ys,rfl,hq,q⟩:=h
 obtain ⟨u,rfl,rx⟩:=vals1 r
 cases rx
 have hn:=tN
 rcases hq with hq | hq
 ·obtain ⟨its,r',pl,hz⟩:=I.list hq
  have hlen:=r'.length
  exact Calls.call_len_list pl.isList (by simp only [List.size_toArray]<;>omega) ⟨.int ys.length,H,I.tok _,⟨s.toks+1,by rw [List.size_toArray,hlen]⟩,q⟩
 ·obtain ⟨its,r',pl,hz⟩:=I.tuple hq
  have hlen:=r'.length
  exact len_tuple pl (by simp only [List.size_toArray]<;>omega) ⟨.int ys.length,H,I.tok _,⟨s.toks+1,by rw [List.size_toArray,hlen]⟩,q⟩
def tyV (K:FG) (T:String) (x:V) (H:Hp):Prop:=match x with
 | .str _=>T = "str"
 | .int _=>T = "int"
 | .ref p=>(T = "list" /\∃xs,SqL K H p xs)\/(T = "tuple" /\∃o,K.lookup p=some o/\o.cls=.type "tuple" /\o.dict=none) \/
   (T = "dict" /\((∃kvs,H p=some (.dK kvs))\/∃kvs,H p=some (.dT kvs)))\/(T = "set" /\∃S n,H p=some (.set S n))
 | _=>False
theorem aHq {pins:Y8} {σ:St} {H:Hp} {s:Shared} {T:String} {x:V} {v:Value} (I:Inv X pins σ H s) (r:RelV x v) (ty:tyV X.K T x H) :
  s.TypeIs v T/\∀a,v=.ref a->∃ob,s.heap.get? a=some ob/\ob.dict=none:=by
 cases x with
 | str z =>
  obtain ⟨t,rfl⟩:=r
  cases (show T = "str" from ty)
  exact ⟨typeIs_str s z t,fun _ e=>nomatch e⟩
 | int i =>
  obtain ⟨t,rfl⟩:=r
  cases (show T = "int" from ty)
  exact ⟨typeIs_int s i t,fun _ e=>nomatch e⟩
 | ref p =>
  cases r
  rcases ty with ⟨rfl,xs,hq⟩ | ⟨rfl,o,hk,hc,hd⟩ | ⟨rfl,hk⟩ | ⟨rfl,S,n,hk⟩
  ·obtain ⟨its,_,pl,_⟩:=I.list hq
   refine ⟨pl.isList.typeIs,fun a e=>?_⟩
   cases e
   obtain ⟨o,n,e,c,hd,_⟩:=pl
   exact ⟨o,e,hd⟩
  ·refine ⟨⟨o,I.kIn p o hk,hc⟩,fun a e=>?_⟩
   cases e
   exact ⟨o,I.kIn _ o hk,hd⟩
  ·have z:∃o,s.heap.get? p=some o/\o.ExactDict:=by
    rcases hk with ⟨kvs,hk⟩ | ⟨kvs,hk⟩
    ·obtain ⟨_,_,_,_,o,_,_,e,ex,_⟩:=I.hok p _ hk
     exact ⟨o,e,ex⟩
    ·obtain ⟨_,_,_,_,o,_,_,e,ex,_⟩:=I.hok p _ hk
     exact ⟨o,e,ex⟩
   obtain ⟨o,e,ex⟩:=z
   refine ⟨⟨o,e,ex.1⟩,fun a e2=>?_⟩
   cases e2
   exact ⟨o,e,ex.2.1⟩
  ·obtain ⟨o,_,_,_,e,ex,_⟩:=I.hok p _ hk
   refine ⟨⟨o,e,ex.1⟩,fun a e2=>?_⟩
   cases e2
   exact ⟨o,e,ex.2.1⟩
 | _=>exact False.elim ty
def aV1 (K:FG) (T:String) (r:V->List V->Hp->VK->Prop) (to:TE):TE:=fun σ H Q=>to σ H fun x H1=>tyV K T x H1/\r x [] H1 Q
def tBM (K:FG) (T:String) (r:V->List V->Hp->VK->Prop) (to:TE) (t:TA):TE:=fun σ H Q=>to σ H fun x H1=>tyV K T x H1/\t σ H1 fun xs H2=>r x xs H2 Q
variable {o e:Expr} {es:List Expr} {to:TE} {t:TA} {name:Str} {apos cpos:Pos} {T id:String} {r:V->List V->Hp->VK->Prop}
theorem aF5 (pa:PlainAttrs T) (slot:Slot T name id) (hty:typeOf (.builtin id)=pure (.type "method_descriptor")) (hm:MtR X id r) (ho:PE X o to)
  (hbase:attributeBase o name X.env (eval o X.env)=eval o X.env:=by rfl) (hline:(apos.endLine == cpos.line)=true:=by rfl):PE X (.Call (.Attribute o name apos) [] [] cpos) (aV1 X.K T r to):=by
 intro pins s σ H Q I h
 refine wpAny_Call_method0_late hbase hline (thn (ho pins s σ H _ I h) fun v s1 ⟨x,H1,I1,r1,ty,q1⟩=>?_)
 obtain ⟨h1,h2⟩:=aHq I1 r1 ty
 exact ⟨T,id,pa,slot,hty,h1,h2,Calls.callWith_builtin rfl (PySem.evalArgs_none (hm pins s1 σ H1 x [] v [] Q I1 r1 .nil q1))⟩
theorem aP3 (pa:PlainAttrs T) (slot:Slot T name id) (hty:typeOf (.builtin id)=pure (.type "method_descriptor")) (hm:MtR X id r) (ho:PE X o to) (ha:PA X (e::es) t)
  (hbase:attributeBase o name X.env (eval o X.env)=eval o X.env:=by rfl)
  (hfew:((backTo cpos (starEach (e::es) X.env)).all (fun x=>!x.1) && (backToKw cpos (keywordEach [] X.env)).all (fun x=>x.1.isSome)
   && decide ((e::es).length+([]:List Keyword).length+(if ([]:List Keyword).isEmpty then 0 else 1)<30))=true:=by rfl)
  (hline:(apos.endLine == cpos.line)=true:=by rfl) (hs:starEach (e::es) X.env=(false,eval e X.env)::starEach es X.env:=by rfl) (hplain:(backTo cpos (starEach es X.env)).any (·.1)=false:=by rfl) :
  PE X (.Call (.Attribute o name apos) (e::es) [] cpos) (tBM X.K T r to t):=by
 intro pins s σ H Q I h
 refine wpAny_Call_method_late hbase hfew hline rfl (thn (ho pins s σ H _ I h) fun v s1 ⟨x,H1,I1,r1,ty,q1⟩=>?_)
 obtain ⟨h1,h2⟩:=aHq I1 r1 ty
 refine ⟨T,id,pa,slot,hty,h1,h2,?_⟩
 have hA:=ha cpos pins s1 σ H1 _ I1 q1
 rw [hs] at hA ⊢
 refine Calls.callWith_builtin (by show (false || (backTo cpos (starEach es X.env)).any (·.1))=false;rw [hplain]<;>rfl) (Calls.evalArgs_plain ?_)
 exact thn hA fun us s2 ⟨vs,H2,I2,r2,q2⟩=>hm pins s2 σ H2 x vs v us Q I2 r1 r2 q2
end
end L2
namespace L2
open PySem PySem.Spec PyProof.Rows
def MtM (X:Cx) (id:String) (r:V->List V->Hp->VK->Prop):Prop :=
 ∀(pins:Y8) (s:Shared) (σ:St) (H:Hp) (x:V) (xs:List V) (v:Value) (us:Y1) (Q:VK),Inv X pins σ H s->RelV x v->Vals xs us->r x xs H Q ->
  wpAny (model X.prog X.w) X.A (call (.builtin id) (v::us)) (EP X pins σ Q) X.xe s
theorem Vals.one:∀ {x:V} {us:Y1},Vals [x] us->∃u,us=[u]/\RelV x u
 | _,_,.cons r .nil=>⟨_,rfl,r⟩
theorem Vals.two:∀ {x y:V} {us:Y1},Vals [x,y] us->∃u v,us=[u,v]/\RelV x u/\RelV y v
 | _,_,_,.cons r (.cons q .nil)=>⟨_,_,rfl,r,q⟩
theorem Vals.zero:∀ {us:Y1},Vals [] us->us=[]
 | _,.nil=>rfl
theorem Vals.reverse {xs:List V} {us:Y1} (h:Vals xs us):Vals xs.reverse us.reverse:=by
 induction h with
 | nil=>exact .nil
 | cons r t ih=>rw [List.reverse_cons,List.reverse_cons];exact Vals.append ih (.cons r .nil)
theorem Vals.rep {xs:List V} {us:Y1} (h:Vals xs us):∀k:Nat,Vals (List.replicate k xs).flatten (List.replicate k us).flatten
 | 0=>.nil
 | k+1=>by
  rw [List.replicate_succ,List.replicate_succ,List.flatten_cons,List.flatten_cons]
  exact Vals.append h (Vals.rep h k)
theorem foldl_rep (its:Y1):∀(k:Nat) (acc:Y1),
  List.foldl (fun x1 x2=>x1++x2) acc.toArray (List.replicate k its.toArray)=(acc++(List.replicate k its).flatten).toArray
 | 0,acc=>by simp
 | k+1,acc=>by
  have e:acc.toArray++its.toArray=(acc++its).toArray:=by simp
  have e2:(acc++its)++(List.replicate k its).flatten=acc++(List.replicate (k+1) its).flatten:=by
   rw [List.replicate_succ,List.flatten_cons,List.append_assoc]
  rw [<- e2,<- foldl_rep its k (acc++its),<- e,List.replicate_succ,List.foldl_cons]
section
variable {X:Cx} {pins:Y8} {σ:St} {H:Hp} {s:Shared} {l b:Addr} {xs ys zs:List V}
theorem Inv.aYj {its its':Y1} {n:Nat} {f:Array Value->Array Value} {t':Nat} (I:Inv X pins σ H s) (hH:H l=some (.lst xs))
  (e:s.heap.get? l=some { cls:=.type "list",data:=.seq its.toArray n }) (hf:f its.toArray=its'.toArray) (hv:Vals ys its') (hz:ys.length<=sizeLine) :
  Inv X pins σ (upd H l (.lst ys)) { s with heap:=s.heap.update l (Obj.mapSeq f),toks:=t' }:=by
 have q:=PySem.IsL.update e f
 rw [hf] at q
 refine I.write (x:=l) (e:=l) (by rw [hH];exact trivial) (.inl rfl) (fun b' u hb hu=>(Heap.get?_update_other s.heap (Obj.mapSeq f) (Ne.symm hb)).trans hu) ⟨_,q⟩ ?_
 exact ⟨hz,its',_,hv,q⟩
theorem Inv.aU5 {its:Y1} {t':Nat} (I:Inv X pins σ H s) (hv:Vals ys its) (hz:ys.length<=sizeLine) :
  Inv X pins σ (upd H s.heap.objs.size (.lst ys)) { s with heap:=s.heap.push { cls:=.type "list",data:=.seq its.toArray },toks:=t' } :=
 I.laid (fun _ _ q=>Heap.get?_push_of_some _ q) (Nat.le_refl _) ⟨hz,its,0,hv,Heap.get?_push_size _ rfl⟩
theorem Inv.fresh (I:Inv X pins σ H s):H s.heap.objs.size=none:=I.hok.fresh (Nat.le_refl _)
theorem Inv.aVb (I:Inv X pins σ H s) (hH:H l=some (.lst xs)):xs.length<=sizeLine/\∃(its:Y1) (n:Nat),Vals xs its/\xs.length=its.length/\s.heap.get? l=some { cls:=.type "list",data:=.seq its.toArray n }:=by
 obtain ⟨z,its,n,r,e⟩:=I.hok l _ hH
 exact ⟨z,its,n,r,r.length,e⟩
theorem aFu {n:Nat} (h:n<=sizeLine):Builtin.List.listTooLong n=false:=by
 unfold Builtin.List.listTooLong
 exact decide_eq_false (by omega)
end
section
variable {X:Cx}
def xT:V->List V->Hp->VK->Prop:=fun x vs H Q=>∃l xs y,x=.ref l/\vs=[y]/\H l=some (.lst xs)/\xs.length<sizeLine/\Q .non (upd H l (.lst (xs ++ [y])))
theorem pJ:MtM X "list.append" xT:=by
 intro pins s σ H x vs v us Q I rx rv h
 obtain ⟨l,xs,y,rfl,rfl,hH,hz,q⟩:=h
 cases rx
 obtain ⟨u,rfl,ru⟩:=rv.one
 obtain ⟨z,its,n,r,hl,e⟩:=I.aVb hH
 refine call_meets F.slot_list_append ⟨_,e,rfl⟩ F.entry_list_append (F.args_list_append_2 _ _) (PySem.list_append l its.toArray n u (by rw [List.size_toArray];omega)) ⟨e,?_⟩
 refine ⟨.non,_,I.aYj (its':=its ++ [u]) hH e (by simp) (r.append (.cons ru .nil)) ?_,rfl,q⟩
 rw [List.length_append,List.length_singleton]
 omega
def zS:V->List V->Hp->VK->Prop:=fun x vs H Q=>∃l xs,x=.ref l/\vs=[]/\H l=some (.lst xs)/\Q .non (upd H l (.lst xs.reverse))
theorem aBw:MtM X "list.reverse" zS:=by
 intro pins s σ H x vs v us Q I rx rv h
 obtain ⟨l,xs,rfl,rfl,hH,q⟩:=h
 cases rx
 have hus:=rv.zero
 subst hus
 obtain ⟨z,its,n,r,hl,e⟩:=I.aVb hH
 refine call_meets F.slot_list_reverse ⟨_,e,rfl⟩ F.entry_list_reverse (F.args_list_reverse_1 _) (AutoSeq1.list_reverse_list_0 l its.toArray n (by rw [List.size_toArray];omega)) ⟨e,?_⟩
 refine ⟨.non,_,I.aYj (its':=its.reverse) hH e (by simp) r.reverse ?_,rfl,q⟩
 rw [List.length_reverse]
 omega
def aWb:R2:=fun x y H Q=>∃l k xs,x=.ref l/\y=.int k/\H l=some (.lst xs)/\-(2 ^ 63)<=k/\k<2 ^ 63/\xs.length * k.toNat<=sizeLine /\
 ∀p,H p=none->Q (.ref p) (upd H p (.lst (List.replicate k.toNat xs).flatten))
theorem len_rep {α:Type} (xs:List α) (k:Nat):(List.replicate k xs).flatten.length=k * xs.length:=by
 induction k with
 | zero=>simp
 | succ k ih=>rw [List.replicate_succ,List.flatten_cons,List.length_append,ih,Nat.succ_mul,Nat.add_comm]
theorem aSv:OpR X (binaryOp .Mult) aWb:=by
 intro pins s σ H x y v u Q I rx ry h
 obtain ⟨l,k,xs,rfl,rfl,hH,h1,h2,hz,q⟩:=h
 cases rx
 obtain ⟨t,rfl⟩:=ry
 obtain ⟨z,its,n,r,hl,e⟩:=I.aVb hH
 have hlen:its.toArray.size * k.toNat<=sizeLine:=by rw [List.size_toArray,<- hl];exact hz
 have hcap:¬ its.toArray.size * k.toNat > (2 ^ 63 - 1) / 8:=by
  have:(sizeLine:Nat)<=(2 ^ 63 - 1) / 8:=by decide
  omega
 have hfit:¬ (!Builtin.List.listFitsIndex k)=true:=by
  rw [fitsIndex_both h1 h2]
  exact Bool.false_ne_true
 have hlong:¬ Builtin.List.listTooLong (its.toArray.size * k.toNat)=true:=by
  rw [aFu hlen]
  exact Bool.false_ne_true
 have hnew:List.foldl (fun x1 x2=>x1++x2) #[] (List.replicate (if its.toArray.isEmpty=true then 0 else k.toNat) its.toArray)=(List.replicate k.toNat its).flatten.toArray:=by
  have f0:∀m:Nat,List.foldl (fun x1 x2=>x1++x2) #[] (List.replicate m its.toArray)=(List.replicate m its).flatten.toArray:=fun m=>by
   have:=foldl_rep its m []
   rw [List.nil_append] at this
   exact this
  rw [f0]
  cases its with
  | nil=>simp
  | cons a r'=>rw [if_neg (by simp)]
 refine wpAny_binaryOp_repeat_ref (T := "list") (U := "int") (by decide) ⟨_,e,rfl⟩ (fun s'=>typeIs_int s' k t) noFill_list_mul F.fills_int_mul F.slot_int_rmul repeat_list F.slot_int_index.lookup
  (call_meets F.slot_int_rmul (typeIs_int s k t) F.entry_int_rmul (F.args_int_rmul_2 _ _) (int___rmul___int_list k t l its.toArray n)
   ⟨e,rfl,⟨_,e,rfl⟩,call_meets F.slot_list_mul ⟨_,e,rfl⟩ F.entry_list_mul (F.args_list_mul_2 _ _) (AutoListH.list___mul___list_int_3 l its.toArray n k t hfit hcap hlong) ⟨e,?_⟩⟩)
 rw [hnew]
 exact ⟨.ref _,_,I.aU5 (t':=s.toks) (r.rep k.toNat) (by rw [len_rep,Nat.mul_comm];exact hz),rfl,q _ I.fresh⟩
end
section
variable {prog:Program} {w:World} {A:Around} {E:Y9} {s:Shared}
end
section
variable {X:Cx}
end
end L2
namespace Att
open PySem PySem.W PySem.Calls PyProof.Rows
theorem qV {P:Params} {h:Heap}:∀(ns:Y0) (vs:Y1),WellAll P h vs (ns.map WData.int)->IntsAre vs ns:=by
 intro ns
 induction ns with
 | nil =>
  intro vs w
  rw [List.map_nil] at w
  cases w
  exact .nil
 | cons n ns ih =>
  intro vs w
  rw [List.map_cons] at w
  cases w with
  | cons a b =>
   cases a
   exact .cons _ _ (ih _ b)
theorem aD9 {l:OpenLaw} {n:Nat} (hn:l.most=some n) {P:Params} {h:Heap} {args:List WData} {vals:Y1}
  (hpre:l.row.toRowW.claim.pre args=true) (hwl:WellAll P h vals args) :
  ∃a vs ns,vals=[Value.ref a]/\args=[WData.list (ns.map WData.int)]/\h.get? a=some { cls:=.type "list",data:=.seq vs.toArray }/\IntsAre vs ns/\ns.length<=n:=by
 have hsh:WShape.hasAll [] args [.list .int]=true:=(pre_splitW hpre).1
 have hc:l.pre.holds [] { args:=args }=true:=(pre_splitW hpre).2
 obtain ⟨d,r,rfl,h1,h2⟩:=hasAllW_cons hsh
 obtain rfl:=hasAllW_nil h2
 obtain ⟨xs,rfl,h3⟩:=hasW_list h1
 obtain ⟨ns,rfl⟩:=items_int h3
 have hlen:ns.length<=n:=by
  unfold OpenLaw.pre at hc
  have h4:(WTm.not (.lt (.lit (.int (n:Int))) (.len (.arg 0)))).holds [] { args:=[.list (ns.map .int)] }=true:=by
   have h4:=(holds_andW hc).1
   rw [hn] at h4
   exact h4
  have h5:=condW_of h4 (w_not (w_lt w_lit (w_len_list (w_arg rfl))))
  rw [List.length_map] at h5
  refine Nat.le_of_not_lt fun q=>?_
  have q':(n:Int)<((ns.length:Nat):Int):=by omega
  first
   | (rw [decide_eq_true q'] at h5;exact absurd h5 (by decide))
   | (simp at h5;omega)
 cases hwl with
 | cons w1 w2 =>
  cases w2
  cases w1 with
  | list ho hall=>exact ⟨_,_,ns,rfl,rfl,ho,qV ns _ hall,hlen⟩
theorem aEt (l:OpenLaw) (args:List WData):l.row.toRowW.claim.post args (.bool true) args=true :=
 postW_of (r:=l.row.toRowW) (X:=(true == true))
  (show WShape.has [] (.bool true) .bool=true by first | rfl | decide | simp [WShape.has,WShape.arms,WShape.armsAll])
  (show (WTm.eq .res (.lit (.bool true))).value [] { args:=args,res:=some (.bool true),after:=args }=some (.bool (true == true)) from w_eq_bool (w_res rfl) w_lit) rfl
theorem attach_call {l:OpenLaw} {n:Nat} {q:Program} {loose:List Str} {XP:(Str->Option Value)->Heap->Prop} {YP:World->Heap->Prop} {d:DefRec}
  (hn:l.most=some n) (hdf:d.params.defaults=[])
  (call:∀(w:World) (s₀ s₁:Shared) (mg mb:Y6) (fa:Addr) (o:Obj) (pm cd doc:Value) (a:Addr) (vs:Y1) (ns:Y0),
   Ground q loose [] XP w s₀ mg mb s₁.heap->YP w s₁.heap ->
   s₁.heap.get? fa=some o->o.data=.func (docDef d.name d.params d.body d.scope pm cd doc)->s₁.heap.CodeRec cd d.name->mg d.name=some (.ref fa) ->
   s₁.heap.get? a=some { cls:=.type "list",data:=.seq vs.toArray }->IntsAre vs ns->ns.length<=n->s₁.gens = #[] ->
   codeAny (model l.prog w) callerA (.call (.ref fa) ⟨[.ref a],[]⟩) (fun r s'=>r=.ok (.ret (.bool true))/\OldK s₁.heap s'.heap/\s'.os=s₁.os/\AllBare s'.gens) s₁) :
  WalkO q loose XP YP l.row.toRowW d [] (fun f vs=>PySem.call f vs):=by
 intro w s₀ s₁ mg mb G Y fa o pm cd doc dV kV ho hd hcd hD hmg hg args vals as hpre hlay hrd hwl hlo
 obtain rfl:dV=.none:=Dflts.none hD hdf
 obtain rfl:kV=.none:=Dflts.noKw hD
 obtain ⟨a,vs,ns,rfl,rfl,hobj,hints,hlen⟩:=aD9 hn hpre hwl
 refine enter_call (codeAny_mono (call w s₀ s₁ mg mb fa o pm cd doc a vs ns G Y ho (fd_plain hd) hcd hmg hobj hints hlen hg) fun r s' hq=>?_)
 obtain ⟨rfl,h2,h3,h4⟩:=hq
 exact ⟨.inl ⟨.bool true,.bool true,[],rfl,fun _=>rfl,.bool true,aEt l _,fun _=>⟨List.Pairwise.nil,fun _ hm=>(nomatch hm)⟩⟩,h2,h3,h4⟩
section
variable {prog:Program} {w:World} {A:Around} {E:Y9} {s:Shared} {K:Frag}
end
end Att
namespace L2
open PySem PySem.Spec PyProof.Rows
theorem wB:∀ {vs:Y1} {ns:Y0},IntsAre vs ns->Vals (ns.map V.int) vs
 | _,_,.nil=>.nil
 | _,_,.cons n t h=>.cons ⟨t,rfl⟩ (wB h)
end L2
namespace L2
open PySem PySem.Spec PyProof.Rows
end L2
namespace L2
open PySem PySem.Spec PyProof.Rows
def eK (s:Stmt):Arguments:=match s with
 | .FunctionDef _ a _ _ _ _ _ _ _ _=>a
 | _=>{ posonlyargs:=[],args:=[],vararg:=none,kwonlyargs:=[],kw_defaults:=[],kwarg:=none,defaults:=[] }
def cL (s:Stmt):List Stmt:=match s with
 | .FunctionDef _ _ b _ _ _ _ _ _ _=>b
 | _=>[]
def aG (s:Stmt):Scope:=match s with
 | .FunctionDef _ _ _ _ _ _ sc _ _ _=>sc
 | _=>{ kind:=.function,names:=[],isGenerator:=false,isCoroutine:=false }
abbrev E0:XK:=fun _ _ _=>False
structure Fun (K:FG) (x qual:Str) (st:Stmt) (f:Addr) (fd:FuncData):Prop where
 ex:∃(oc:Value) (od:Option Addr) (kV doc pm:Value) (an:Option Addr) (cdv ct:Value) (osl:Array (Option Value)),
  fd=PySem.W.fnOf x qual (eK st) (cL st) (aG st) .none kV doc pm an cdv ct/\K.lookup f=some ⟨oc,od,.func fd,osl⟩/\PySem.W.codeIn K cdv qual=true
 kp:PySem.W.keepIn K (.ref f)=true
section
variable {P:Program} {w:World} {K:FG} {mg:Y6} {base:Heap}
theorem Fun.binds {x qual:Str} {st:Stmt} {f:Addr} {fd:FuncData} {ps:List Str} (F:Fun K x qual st f fd)
  (h:∀(kV doc pm:Value) (an:Option Addr) (cdv ct:Value) (us:Y1),us.length=ps.length->bindArgs (PySem.W.fnOf x qual (eK st) (cL st) (aG st) .none kV doc pm an cdv ct) ⟨us,[]⟩=pure (ps.zip us)):Binds K fd ps []:=by
 obtain ⟨oc,od,kV,doc,pm,an,cdv,ct,osl,rfl,lk,hcd⟩:=F.ex
 exact .all (h kV doc pm an cdv ct)
theorem aUe {x qual:Str} {st:Stmt} {f:Addr} {oc:Value} {od an:Option Addr} {osl:Array (Option Value)} {kV doc pm cdv ct:Value} (l:K.lookup f=some ⟨oc,od,.func (PySem.W.fnOf x qual (eK st) (cL st) (aG st) .none kV doc pm an cdv ct),osl⟩)
  (c:PySem.W.codeIn K cdv qual=true) (k:PySem.W.keepIn K (.ref f)=true):Fun K x qual st f (PySem.W.fnOf x qual (eK st) (cL st) (aG st) .none kV doc pm an cdv ct):=⟨⟨oc,od,kV,doc,pm,an,cdv,ct,osl,rfl,l,c⟩,k⟩
end
section
variable {X:Cx}
end
def Same (H H':Hp):Prop:=∀b o,H b=some o->H' b=some o
theorem Same.refl (H:Hp):Same H H:=fun _ _ h=>h
theorem Same.trans {H H1 H2:Hp} (a:Same H H1) (b:Same H1 H2):Same H H2:=fun c o h=>b c o (a c o h)
theorem Same.free {H H':Hp} (e:Same H H') {l:Addr} (h:H' l=Option.none):H l=Option.none:=by
 cases q:H l with
 | none=>rfl
 | some o =>
  rw [e l o q] at h
  cases h
theorem Same.seq {K:FG} {H H':Hp} {a:Addr} {xs:List V} (e:Same H H') (h:SqL K H a xs):SqL K H' a xs:=by
 rcases h with (h | ⟨o,h⟩) | h
 ·exact .inl (.inl (e _ _ h))
 ·exact .inl (.inr ⟨o,e _ _ h⟩)
 ·exact .inr h
end L2
end
section
namespace L2
open PySem PySem.Spec PyProof.Rows
section
variable {κ:Type} [DecidableEq κ]
def uD (kvs:List (κ×V)) (k:κ):Option V:=(kvs.find? fun kv=>decide (kv.1=k)).map (·.2)
def putK (kvs:List (κ×V)) (k:κ) (v:V):List (κ×V) :=
 if (kvs.any fun kv=>decide (kv.1=k))=true then kvs.map (fun kv=>if kv.1=k then (kv.1,v) else kv) else kvs ++ [(k,v)]
theorem oY {p:κ×V} {r:List (κ×V)} {k:κ} (e:p.1=k):uD (p::r) k=some p.2:=by simp [uD,List.find?_cons,e]
theorem oV {p:κ×V} {r:List (κ×V)} {k:κ} (e:¬ p.1=k):uD (p::r) k=uD r k:=by simp [uD,List.find?_cons,e]
theorem aAk (k:κ):∀kvs:List (κ×V),(kvs.any fun kv=>decide (kv.1=k))=(uD kvs k).isSome
 | []=>rfl
 | p::r=>by
  rw [List.any_cons]
  by_cases e:p.1=k
  ·simp only [oY e,decide_eq_true e,Bool.true_or,Option.isSome_some]
  ·rw [oV e,decide_eq_false e,Bool.false_or];exact aAk k r
theorem lG (kvs:List (κ×V)) (k:κ) (v:V):(putK kvs k v).length<=kvs.length+1:=by
 unfold putK
 split
 ·rw [List.length_map];omega
 ·rw [List.length_append,List.length_cons,List.length_nil];omega
theorem tY.isSome_eq {o:Option V} {u:Option Value} (r:tY o u):o.isSome=u.isSome:=by
 cases o with
 | none=>cases u with
  | none=>rfl
  | some _=>exact (show False from r).elim
 | some _=>cases u with
  | none=>exact (show False from r).elim
  | some _=>rfl
theorem KV.val {kvs:List (κ×V)} {vs:List (κ×Value)} (r:KV kvs vs) (k:κ):tY (uD kvs k) (valueAt vs k):=by
 unfold KV at r
 induction r with
 | nil=>exact True.intro
 | @cons p q ps qs h t ih =>
  obtain ⟨h1,h2⟩:=h
  by_cases e:p.1=k
  ·have e':q.1=k:=h1.symm.trans e
   have b:valueAt (q::qs) k=some q.2:=by simp [valueAt,List.find?_cons,e']
   rw [oY e,b];exact h2
  ·have e':¬ q.1=k:=fun z=>e (h1.trans z)
   have b:valueAt (q::qs) k=valueAt qs k:=by simp [valueAt,List.find?_cons,e']
   rw [oV e,b];exact ih
theorem KV.any {kvs:List (κ×V)} {vs:List (κ×Value)} (r:KV kvs vs) (k:κ):(kvs.any fun kv=>decide (kv.1=k))=vs.any fun kv=>decide (kv.1=k):=by
 unfold KV at r
 induction r with
 | nil=>rfl
 | cons h t ih=>rw [List.any_cons,List.any_cons,ih,h.1]
theorem KV.aU7 {kvs:List (κ×V)} {vs:List (κ×Value)} (r:KV kvs vs) (k:κ) {y:V} {u:Value} (ry:RelV y u) :
  KV (kvs.map fun kv=>if kv.1=k then (kv.1,y) else kv) (vs.map fun kv=>if kv.1=k then (kv.1,u) else kv):=by
 unfold KV at r ⊢
 induction r with
 | nil=>exact .nil
 | @cons p q ps qs h t ih =>
  rw [List.map_cons,List.map_cons]
  refine .cons ?_ ih
  obtain ⟨h1,h2⟩:=h
  by_cases e:p.1=k
  ·rw [if_pos e,if_pos (h1.symm.trans e)];exact ⟨h1,ry⟩
  ·rw [if_neg e,if_neg (fun z=>e (h1.trans z))];exact ⟨h1,h2⟩
theorem KV.put {kvs:List (κ×V)} {vs:List (κ×Value)} (r:KV kvs vs) (k:κ) {y:V} {u:Value} (ry:RelV y u):KV (putK kvs k y) (stored vs k u):=by
 unfold putK stored
 rw [r.any k]
 by_cases e:(vs.any fun kv=>decide (kv.1=k))=true
 ·rw [if_pos e,if_pos e];exact r.aU7 k ry
 ·rw [if_neg e,if_neg e];exact Paired.snoc r ⟨rfl,ry⟩
theorem KV.length {kvs:List (κ×V)} {vs:List (κ×Value)} (r:KV kvs vs):kvs.length=vs.length:=Paired.length r
end
theorem zJ {P:Program} {w:World} {k:Key} {u:Value} (r:RelV (kV k) u):(cU P w).is k u=true:=by
 cases k with
 | inl i=>obtain ⟨t,e⟩:=(show ∃t,u=Value.int i t from r);subst e;exact yY P w i t
 | inr x=>obtain ⟨t,e⟩:=(show ∃t,u=Value.str x t from r);subst e;exact zL P w x t
theorem vN {P:Program} {w:World}:∀ {ks:List Key} {us:Y1},Vals (ks.map kV) us->ItemsAre (cU P w) ks us
 | [],_,r=>by rw [List.map_nil] at r;cases r;exact .nil
 | k::ks,_,r=>by
  rw [List.map_cons] at r
  cases r with
  | cons h t=>exact .cons (zJ h) (vN t)
abbrev KT (H:Hp):List (List Key×V)->List (List Key×Addr×Value)->Prop:=Paired fun p q=>p.1=q.1/\H q.2.1=some (.tup (p.1.map kV))/\RelV p.2 q.2.2
theorem KT.val {H:Hp} {kvs:List (List Key×V)} {xs:List (List Key×Addr×Value)} (r:KT H kvs xs) (k:List Key):tY (uD kvs k) ((atKey xs k).map (·.2)):=by
 induction r with
 | nil=>exact True.intro
 | @cons p q ps qs h t ih =>
  obtain ⟨h1,_,h2⟩:=h
  by_cases e:p.1=k
  ·have e':q.1=k:=h1.symm.trans e
   have b:atKey (q::qs) k=some q.2:=by simp [atKey,List.find?_cons,e']
   rw [oY e,b];exact h2
  ·have e':¬ q.1=k:=fun z=>e (h1.trans z)
   have b:atKey (q::qs) k=atKey qs k:=by simp [atKey,List.find?_cons,e']
   rw [oV e,b];exact ih
theorem KT.aU7 {H:Hp} {kvs:List (List Key×V)} {xs:List (List Key×Addr×Value)} (r:KT H kvs xs) (k:List Key) {y:V} {u:Value} (ry:RelV y u) :
  KT H (kvs.map fun kv=>if kv.1=k then (kv.1,y) else kv) (xs.map (putAt k u)):=by
 induction r with
 | nil=>exact .nil
 | @cons p q ps qs h t ih =>
  rw [List.map_cons,List.map_cons]
  refine .cons ?_ ih
  obtain ⟨h1,h2,h3⟩:=h
  unfold putAt
  by_cases e:p.1=k
  ·rw [if_pos e,if_pos (h1.symm.trans e)];exact ⟨h1,h2,ry⟩
  ·rw [if_neg e,if_neg (fun z=>e (h1.trans z))];exact ⟨h1,h2,h3⟩
theorem KT.put {H:Hp} {kvs:List (List Key×V)} {xs:List (List Key×Addr×Value)} (r:KT H kvs xs) (k:List Key) {b:Addr} {y:V} {u:Value} (hb:H b=some (.tup (k.map kV))) (ry:RelV y u) :
  KT H (putK kvs k y) (storedH xs k b u):=by
 have e:(kvs.any fun kv=>decide (kv.1=k))=(atKey xs k).isSome:=by
  rw [aAk,(r.val k).isSome_eq,Option.isSome_map]
 unfold putK storedH
 rw [e]
 by_cases q:(atKey xs k).isSome=true
 ·rw [if_pos q,if_pos q];exact r.aU7 k ry
 ·rw [if_neg q,if_neg q];exact Paired.snoc r ⟨rfl,hb,ry⟩
theorem KT.keeps {H H':Hp} {kvs:List (List Key×V)} {xs:List (List Key×Addr×Value)} (r:KT H kvs xs) (ht:∀b ys,H b=some (.tup ys)->H' b=some (.tup ys)):KT H' kvs xs :=
 Paired.aU8 r fun _ _ z=>⟨z.1,ht _ _ z.2.1,z.2.2⟩
section
variable {P:Program} {w:World} {H:Hp} {h:Heap} {a:Addr}
theorem aPr {u:HO} (ok:HOk P w H h) (e:Rd H a u):dR P w H h a u:=e.ok ok
theorem aC7 {kvs:List (Key×V)} (ok:HOk P w H h) (e:Rd H a (.dK kvs)):kvs.length<=sizeLine/\(a == sysModules)=false/\∃vs,KV kvs vs/\h.DictOf (cU P w) a vs :=
 show dR P w H h a (.dK kvs) from aPr ok e
theorem aPn {kvs:List (Key×V)} (ok:HOk P w H h) (e:H a=some (.dK kvs)):kvs.length<=sizeLine/\(a == sysModules)=false/\∃vs,KV kvs vs/\h.DictOf (cU P w) a vs:=aC7 ok (.inl e)
theorem tL {ks:List Key} (ok:HOk P w H h) (e:H a=some (.tup (ks.map kV))):(tupleKind (cU P w)).is h ks a:=by
 obtain ⟨_,its,r,o,h1,h2,n,h3⟩:=(show dR P w H h a (.tup (ks.map kV)) from ok a _ e)
 exact ⟨o,its.toArray,n,h1,h2,h3,by simpa using vN r⟩
theorem aCu {kvs:List (List Key×V)} (ok:HOk P w H h) (e:Rd H a (.dT kvs)):kvs.length<=sizeLine/\(a == sysModules)=false /\
  ∃xs,KT H kvs xs/\h.DictOfH (tupleKind (cU P w)) a xs:=by
 obtain ⟨z,y,xs,r,o,es,ep,h1,h2,h3,h4,h5⟩:=(show dR P w H h a (.dT kvs) from aPr ok e)
 refine ⟨z,y,xs,r,o,es,ep,h1,h2,h3,h4,fun x hx=>?_,h5⟩
 have all:∀ {l:List (List Key×V)} {m:List (List Key×Addr×Value)},KT H l m->∀x∈m,(tupleKind (cU P w)).is h x.1 x.2.1:=by
  intro l m q
  induction q with
  | nil=>intro x hx;exact nomatch hx
  | @cons p q ps qs hq t ih =>
   intro x hx
   rcases List.mem_cons.mp hx with e | hx
   ·subst e
    exact tL ok (by rw [<- hq.1];exact hq.2.1)
   ·exact ih x hx
 exact all r x hx
theorem aQg {kvs:List (List Key×V)} (ok:HOk P w H h) (e:H a=some (.dT kvs)):kvs.length<=sizeLine/\(a == sysModules)=false /\
  ∃xs,KT H kvs xs/\h.DictOfH (tupleKind (cU P w)) a xs:=aCu ok (.inl e)
end
def aEw (H:Hp) (a:Addr) (y:V) (r:Option V):Prop :=
 (∃kvs k,Rd H a (.dK kvs)/\y=kV k/\r=uD kvs k)\/∃kvs k b,Rd H a (.dT kvs)/\y=.ref b/\H b=some (.tup (k.map kV))/\r=uD kvs k
def aRo (H:Hp) (a:Addr) (y v:V) (H':Hp):Prop :=
 (∃kvs k,H a=some (.dK kvs)/\y=kV k/\kvs.length<sizeLine/\H'=upd H a (.dK (putK kvs k v))) \/
 ∃kvs k b,H a=some (.dT kvs)/\y=.ref b/\H b=some (.tup (k.map kV))/\kvs.length<sizeLine/\H'=upd H a (.dT (putK kvs k v))
section
variable {X:Cx} {pins:Y8} {σ:St} {H:Hp} {s:Shared} {a:Addr} {y v:V} {u r:Value} {o:Option V} {A:Around} {E:Y9}
theorem Inv.big (I:Inv X pins σ H s):sysModules<s.heap.objs.size:=by
 have h:mainGlobals<s.heap.objs.size:=(I.mod.glob.keeps I.bk).lt
 exact Nat.lt_trans (by decide) h
theorem aDy {Q:Y9} (hu:A.units+1<cLine) (I:Inv X pins σ H s) (g:aEw H a y (some v)) (ry:RelV y u) (h:∀w' s',Inv X pins σ H s'->RelV v w'->Q w' s') :
  wpAny (model X.prog X.w) A (getItem (.ref a) u) Q E s:=by
 rcases g with ⟨kvs,k,e,ey,l⟩ | ⟨kvs,k,b,e,ey,eb,l⟩
 ·subst ey
  obtain ⟨z,hd,vs,rel,dd⟩:=aC7 I.hok e
  obtain ⟨w',hw,rw'⟩:=tY.some_of (v:=v) (o:=valueAt vs k) (by rw [l];exact rel.val k)
  exact wpAny_getItem_of (zJ ry) dd.mapOf hw (h w' _ (I.tok _) rw')
 ·subst ey
  cases (show u=Value.ref b from ry)
  obtain ⟨z,hd,xs,rel,dd⟩:=aCu I.hok e
  obtain ⟨w',hw,rw'⟩:=tY.some_of (v:=v) (o:=(atKey xs k).map (·.2)) (by rw [l];exact rel.val k)
  obtain ⟨p,hp,hp2⟩:=Option.map_eq_some_iff.mp hw
  refine wpAny_getItem_heap (tupleKind_room_in1 hu) (tL I.hok eb) dd hp ?_
  rw [hp2]
  exact h w' _ (I.tok _) rw'
theorem aM1 {Q:Y9} (hu:A.units+1<cLine) (I:Inv X pins σ H s) (g:aEw H a y o) (ry:RelV y u) (h:∀s',Inv X pins σ H s'->Q (.bool (!o.isSome)) s') :
  wpAny (model X.prog X.w) A (compareOp .NotIn u (.ref a)) Q E s:=by
 rcases g with ⟨kvs,k,e,ey,l⟩ | ⟨kvs,k,b,e,ey,eb,l⟩
 ·subst ey
  obtain ⟨z,hd,vs,rel,dd⟩:=aC7 I.hok e
  refine wpAny_notIn_of (zJ ry) hd dd.mapOf ?_
  rw [<- (rel.val k).isSome_eq,<- l]
  exact h _ (I.tok _)
 ·subst ey
  cases (show u=Value.ref b from ry)
  obtain ⟨z,hd,xs,rel,dd⟩:=aCu I.hok e
  refine wpAny_notIn_heap (tupleKind_room_in1 hu) (tL I.hok eb) hd dd ?_
  have q:=(rel.val k).isSome_eq
  rw [Option.isSome_map] at q
  rw [<- q,<- l]
  exact h _ (I.tok _)
theorem qX {h':Heap} {t':Nat} {ob:HO} (I:Inv X pins σ H s) (mu:Mut (H a)) (hs:Heap.SameBut a s.heap h') (he:∃q,h'.get? a=some q) (new:dR X.prog X.w (upd H a ob) h' a ob) :
  Inv X pins σ (upd H a ob) { s with heap:=h',toks:=t' } :=
 I.write (x:=a) (e:=a) mu (.inl rfl) (fun b q hb z=>(hs.2 b hb).trans z) he new
theorem aFt {P:Program} {w:World} {H':Hp} {h':Heap} {kvs:List (Key×V)} {vs:List (Key×Value)} (z:kvs.length<=sizeLine) (hd:(a == sysModules)=false) (rel:KV kvs vs) (dd:h'.DictOf (cU P w) a vs) :
  dR P w H' h' a (.dK kvs):=⟨z,hd,vs,rel,dd⟩
theorem aE1 {H':Hp} {Q:Unit->Shared->Prop} (hu:A.units+1<cLine) (I:Inv X pins σ H s) (g:aRo H a y v H') (ry:RelV y u) (rv:RelV v r) (h:∀s',Inv X pins σ H' s'->Q () s') :
  wpAny (model X.prog X.w) A (setItem (.ref a) u r) Q E s:=by
 rcases g with ⟨kvs,k,e,ey,l,eH⟩ | ⟨kvs,k,b,e,ey,eb,l,eH⟩
 ·subst ey eH
  obtain ⟨z,hd,vs,rel,dd⟩:=aPn I.hok e
  have hz:vs.length<=sizeLine:=by rw [<- rel.length];exact z
  have hl:(putK kvs k v).length<=sizeLine:=by have:=lG kvs k v;omega
  refine wpAny_setItem_pairs (hsz:=hz) (zJ ry) dd fun h' dd' hs=>h _ ?_
  have he:∃q,h'.get? a=some q:=let ⟨q,_,_,hq,_⟩:=dd';⟨q,hq⟩
  exact qX I (by rw [e];exact True.intro) hs he (aFt hl hd (rel.put k rv) dd')
 ·subst ey eH
  cases (show u=Value.ref b from ry)
  obtain ⟨z,hd,xs,rel,dd⟩:=aQg I.hok e
  have hz:xs.length<=sizeLine:=by rw [<- Paired.length rel];exact z
  have hl:(putK kvs k v).length<=sizeLine:=by have:=lG kvs k v;omega
  refine wpAny_setItem_heap (hsz:=hz) (tupleKind_room_in1 hu) (tL I.hok eb) dd fun h' dd' hs=>h _ ?_
  obtain ⟨q,es,ep,hq,h2,h3,h4,_,h5⟩:=dd'
  refine qX I (by rw [e];exact True.intro) hs ⟨q,hq⟩ ⟨hl,hd,_,(rel.put k eb rv).keeps fun c ys ec=>?_,q,es,ep,hq,h2,h3,h4,h5⟩
  rw [aU (rQ ec e (fun z=>nomatch z))]
  exact ec
end
section
variable {X:Cx} {pins:Y8} {σ:St} {H:Hp} {s:Shared} {a:Addr} {kvs:List (Key×V)} {k:Key} {u:Value} {A:Around} {E:Y9}
end
def aTy (i:Expr):Prop:=∀ov iv,subscripted i false ov iv=operate [ov,iv] (getItem ov iv)
theorem aOh {prog:Program} {w:World} {A:Around} {E:Y9} {s:Shared} {env:Env} {value slice:Expr} {pos:Pos} {T id:String} {Q:Y9}
  (hl:typeLookup (.type T) "__getitem__" = pure (some (.builtin id))) (hs:aTy slice)
  (h:wpAny (model prog w) A (eval value env) (fun o s₁=>wpAny (model prog w) A (eval slice env) (fun i s₂=>s₂.TypeIs o T/\wpAny (model prog w) A (getItem o i) Q E s₂) E s₁) E s) :
  wpAny (model prog w) A (eval (.Subscript value slice pos) env) Q E s:=by
 refine Subscript_ (wpAny_mono h (fun o s₁ h₁=>wpAny_mono h₁ (fun i s₂ h₂=>?_) fun _ _ x=>x) fun _ _ x=>x)
 obtain ⟨hT,h₂⟩:=h₂
 unfold subscriptTail
 refine wpAny_bind ?_
 rw [getitemInPython_of_ne hT.not_modules]
 refine wpAny_bind (wpAny_specialOf hT hl ?_)
 have fin:wpAny (model prog w) A (subscripted slice false o i) (fun r s₃=>wpAny (model prog w) A (letTemporaryGo value o r >>= fun _=>pure r) Q E s₃) E s₂:=by
  rw [hs o i]
  exact wpAny_operating (wpAny_mono h₂ (fun r s₃ h₃=>wpAny_bind (wpAny_letTemporaryGo (wpAny_pure h₃))) fun _ _ x=>x)
 first
  | exact wpAny_pure (wpAny_bind fin)
  | exact wpAny_bind (wpAny_pure (wpAny_bind fin))
  | exact wpAny_bind fin
theorem aAc {X:Cx} {pins:Y8} {σ:St} {H:Hp} {s:Shared} {a:Addr} {y:V} {o:Option V} (I:Inv X pins σ H s) (g:aEw H a y o):s.TypeIs (.ref a) "dict" :=by
 rcases g with ⟨kvs,k,e,_,_⟩ | ⟨kvs,k,b,e,_,_,_⟩
 ·obtain ⟨_,_,vs,_,dd⟩:=aC7 I.hok e
  exact dd.typeIs
 ·obtain ⟨_,_,xs,_,dd⟩:=aCu I.hok e
  exact dd.typeIs
def aP9 (td ty:TE):TE:=fun σ H Q=>td σ H fun x H1=>ty σ H1 fun y H2=>∃a v,x=.ref a/\aEw H2 a y (some v)/\Q v H2
def aCp (ty td:TE):TE:=fun σ H Q=>ty σ H fun y H1=>td σ H1 fun x H2=>∃a o,x=.ref a/\aEw H2 a y o/\Q (.bl (!o.isSome)) H2
def aO7 (td ty tv:TE):TS:=fun D σ H=>tv σ H fun v H1=>td σ H1 fun x H2=>ty σ H2 fun y H3=>∃a H4,x=.ref a/\aRo H3 a y v H4/\D.nx σ H4
section
variable {X:Cx} {o i e value:Expr} {pos pos' tpos:Pos} {td ty tv:TE}
theorem aMl (hu:X.A.units+1<cLine) (ho:PE X o td) (hi:PE X i ty) (hs:aTy i):PE X (.Subscript o i pos) (aP9 td ty):=by
 intro pins s σ H Q I h
 refine aOh PySem.F.slot_dict_getitem.lookup hs (thn (ho pins s σ H _ I h) fun u s1 ⟨x,H1,I1,rx,q1⟩=>thn (hi pins s1 σ H1 _ I1 q1) fun iv s2 ⟨y,H2,I2,ry,a,v,ex,g,q2⟩=>?_)
 subst ex
 obtain rfl:u=Value.ref a:=rx
 exact ⟨aAc I2 g,aDy hu I2 g ry fun w' s3 I3 rw'=>⟨v,H2,I3,rw',q2⟩⟩
theorem aFf (hu:X.A.units+1<cLine) (hi:PE X i ty) (ho:PE X o td):PC X .NotIn i o (aCp ty td):=by
 intro pins s σ H Q I h
 refine thn (hi pins s σ H _ I h) fun iv s1 ⟨y,H1,I1,ry,q1⟩=>thn (ho pins s1 σ H1 _ I1 q1) fun u s2 ⟨x,H2,I2,rx,a,ov,ex,g,q2⟩=>?_
 subst ex
 obtain rfl:u=Value.ref a:=rx
 exact aM1 hu I2 g ry fun s3 I3=>⟨.bl (!ov.isSome),H2,I3,rfl,q2⟩
theorem aM5 (hu:X.A.units+1<cLine) (ho:PE X o td) (hi:PE X i ty) (hv:PE X value tv) (hs:swapsWith value (some (.Subscript o i pos')) pos.line X.env=pure false) :
  PS X (.Assign [.Subscript o i pos'] value pos) (aO7 td ty tv):=by
 intro pins s σ H D I h
 refine wpAny_Assign_Subscript (thn (hv pins s σ H _ I h) fun r s1 ⟨v,H1,I1,rv,q1⟩=>thn (ho pins s1 σ H1 _ I1 q1) fun u s2 ⟨x,H2,I2,rx,q2⟩=>thn (hi pins s2 σ H2 _ I2 q2) fun iv s3 ⟨y,H3,I3,ry,a,H4,ex,g,q3⟩=>?_) hs
 subst ex
 obtain rfl:u=Value.ref a:=rx
 exact aE1 hu I3 g ry rv fun s4 I4=>⟨σ,H4,I4,q3⟩
end
theorem aFl {P:Program} {w:World} {H:Hp} (h:Heap) (hb:sysModules<h.objs.size):dR P w H (h.push { cls:=.type "dict",data:=.dict #[] }) h.objs.size (.dK []) :=
 ⟨Nat.zero_le _,beq_eq_false_iff_ne.mpr (Ne.symm (Nat.ne_of_lt hb)),[],.nil,Heap.DictOf.new h⟩
theorem aHh {P:Program} {w:World} {H:Hp} (h:Heap) (hb:sysModules<h.objs.size):dR P w H (h.push { cls:=.type "dict",data:=.dict #[] }) h.objs.size (.dT []) :=
 ⟨Nat.zero_le _,beq_eq_false_iff_ne.mpr (Ne.symm (Nat.ne_of_lt hb)),[],.nil,_,#[],0,Heap.get?_push_size _ rfl,⟨rfl,rfl,rfl⟩,rfl,rfl,List.nodup_nil⟩
section
variable {X:Cx} {pos:Pos}
end
def aA2:List (TE×TE)->St->Hp->(List (V×V)->Hp->Prop)->Prop
 | [],_,H,Q=>Q [] H
 | (tk,tv)::r,σ,H,Q=>tk σ H fun x H1=>tv σ H1 fun y H2=>aA2 r σ H2 fun ps H3=>Q ((x,y)::ps) H3
abbrev VV:List (V×V)->List (Value×Value)->Prop:=Paired fun p q=>RelV p.1 q.1/\RelV p.2 q.2
def PPs (X:Cx) (pos:Pos) (keys:List (Option Expr)) (values:List Expr) (trs:List (TE×TE)):Prop :=
 ∀(pins:Y8) (s:Shared) (σ:St) (H:Hp) (Q:List (V×V)->Hp->Prop),Inv X pins σ H s->aA2 trs σ H Q ->
  wpAny (model X.prog X.w) X.A (evalPairs (pairTrees keys values X.env pos)) (fun vs s'=>∃ps H',Inv X pins σ H' s'/\VV ps vs/\Q ps H') X.xe s
theorem aNe {X:Cx} {pos:Pos}:PPs X pos [] [] []:=fun pins s σ H Q I h=>pairTrees_nil_walk ⟨[],H,I,.nil,h⟩
theorem aJm {X:Cx} {pos:Pos} {k v:Expr} {ks:List (Option Expr)} {vs:List Expr} {tk tv:TE} {trs:List (TE×TE)} (hk:PE X k tk) (hv:PE X v tv) (hr:PPs X pos ks vs trs) :
  PPs X pos (some k::ks) (v::vs) ((tk,tv)::trs):=fun pins s σ H Q I h =>
 pairTrees_cons_walk (thn (hk pins s σ H _ I h) fun u s1 ⟨x,H1,I1,rx,q1⟩=>thn (hv pins s1 σ H1 _ I1 q1) fun w2 s2 ⟨y,H2,I2,ry,q2⟩ =>
  thn (hr pins s2 σ H2 _ I2 q2) fun ws s3 ⟨ps,H3,I3,rel,q3⟩=>⟨(x,y)::ps,H3,I3,.cons ⟨rx,ry⟩ rel,q3⟩)
def uF (kvs more:List (Key×V)):List (Key×V):=more.foldl (fun acc kv=>putK acc kv.1 kv.2) kvs
theorem KV.merge:∀ {more:List (Key×V)} {rs:List (Key×Value)} {kvs:List (Key×V)} {vs:List (Key×Value)},KV more rs->KV kvs vs->KV (uF kvs more) (merged vs rs):=by
 intro more rs kvs vs r
 unfold KV at r
 induction r generalizing kvs vs with
 | nil=>intro q;exact q
 | @cons p q ps qs h t ih =>
  intro r0
  have e:KV (putK kvs p.1 p.2) (stored vs q.1 q.2):=by
   have:=r0.put p.1 h.2
   rw [<- h.1];exact this
  exact ih e
theorem mZ:∀(more kvs:List (Key×V)),(uF kvs more).length<=kvs.length+more.length
 | [],kvs=>by show kvs.length<=kvs.length+0;omega
 | p::r,kvs=>by
  have h1:=mZ r (putK kvs p.1 p.2)
  have h2:=lG kvs p.1 p.2
  show (uF (putK kvs p.1 p.2) r).length<=_
  rw [List.length_cons];omega
theorem sU {P:Program} {w:World}:∀ {kvs:List (Key×V)} {ws:List (Value×Value)},VV (kvs.map fun kv=>(kV kv.1,kv.2)) ws->∃rs,Carries (cU P w) ws rs/\KV kvs rs
 | [],_,r=>by rw [List.map_nil] at r;cases r;exact ⟨[],True.intro,.nil⟩
 | p::kvs,_,r=>by
  rw [List.map_cons] at r
  cases r with
  | @cons a b as bs h t =>
   obtain ⟨rs,c,q⟩:=sU (P:=P) (w:=w) t
   obtain ⟨b1,b2⟩:=b
   exact ⟨(p.1,b2)::rs,⟨zJ h.1,rfl,c⟩,.cons ⟨rfl,h.2⟩ q⟩
def aP1 (trs:List (TE×TE)):TE:=fun σ H Q=>∀p,H p=none->aA2 trs σ (upd H p (.dK [])) fun ps H2=>H2 p=some (.dK [])/\∃kvs:List (Key×V),ps=kvs.map (fun kv=>(kV kv.1,kv.2))/\kvs.length<=15/\Q (.ref p) (upd H2 p (.dK (uF [] kvs)))
theorem aKf {X:Cx} {pos:Pos} {keys:List (Option Expr)} {values:List Expr} {trs:List (TE×TE)} (h:PPs X pos keys values trs) (hall:keys.all (·.isSome)=true) (hl:keys.length=values.length) (h0:keys ≠ [])
  (h15:keys.length<=15):PE X (.Dict keys values pos) (aP1 trs):=by
 intro pins s σ H Q I q
 have hn:=I.hok.fresh (Nat.le_refl s.heap.objs.size)
 have I1:=I.laid (a:=s.heap.objs.size) (o:=.dK []) (h':=s.heap.push { cls:=.type "dict",data:=.dict #[] }) (t':=s.toks) (fun _ _ q=>Heap.get?_push_of_some _ q) (Nat.le_refl _) (aFl s.heap I.big)
 refine wpAny_Dict_walk (knd:=cU X.prog X.w) hall hl h0 h15 (thn (h pins _ σ _ _ I1 (q _ hn)) fun ws s2 ⟨ps,H2,I2,rel,e,kvs,ep,lk,q2⟩=>?_)
 subst ep
 obtain ⟨rs,c,rk⟩:=sU (P:=X.prog) (w:=X.w) rel
 obtain ⟨z,hd,vs0,r0,dd⟩:=aPn I2.hok e
 cases r0
 refine ⟨rs,c,dd,fun h' dd' hs=>⟨.ref s.heap.objs.size,_,?_,rfl,q2⟩⟩
 have hz:(uF [] kvs).length<=sizeLine:=by
  have h1:=mZ kvs []
  rw [List.length_nil] at h1
  rw [sizeLine_eq];omega
 have he:∃q,h'.get? s.heap.objs.size=some q:=let ⟨q,_,_,hq,_⟩:=dd';⟨q,hq⟩
 exact qX I2 (by rw [e];exact True.intro) hs he (aFt hz hd (rk.merge .nil) dd')
end L2
end
section
namespace VL
open PySem PySem.Spec PyProof.Rows L2
theorem nJ (env:Env):∀(l:List (Str×NameKind)) (acc:List (Str×Addr)),(∀y∈l,y.2=.free->∃c,env.cells.lookup y.1=some c)->(∀x c,acc.lookup x=some c->env.cells.lookup x=some c) ->
  ∃cl,(forIn l acc (fun (x:Str×NameKind) (cs:List (Str×Addr))=>(if x.2 == NameKind.free then (do let a <- cellOf env x.1;pure (ForInStep.yield ((x.1,a)::cs))) else pure (ForInStep.yield cs):Sem (ForInStep (List (Str×Addr))))):Sem (List (Str×Addr)))=pure cl /\
   (∀x c,cl.lookup x=some c->env.cells.lookup x=some c)/\(∀x c,acc.lookup x=some c->cl.lookup x=some c)/\∀y∈l,y.2=.free->cl.lookup y.1=env.cells.lookup y.1
 | [],acc,_,ha=>⟨acc,by simp,ha,fun _ _ h=>h,fun y hy=>by cases hy⟩
 | (n,k)::l,acc,hl,ha=>by
  by_cases hk:k=.free
  ·subst hk
   obtain ⟨c,hc⟩:=hl (n,.free) List.mem_cons_self rfl
   have ha':∀x d,((n,c)::acc).lookup x=some d->env.cells.lookup x=some d:=fun x d e=>by
    rw [List.lookup_cons] at e
    cases q:x == n with
    | true =>
     rw [q] at e
     have:x=n:=by simpa using q
     subst this;cases e;exact hc
    | false=>rw [q] at e;exact ha x d e
   obtain ⟨cl,e1,e2,e3,e4⟩:=nJ env l ((n,c)::acc) (fun y hy=>hl y (List.mem_cons_of_mem _ hy)) ha'
   have up:∀x d,acc.lookup x=some d->((n,c)::acc).lookup x=some d:=fun x d e=>by
    rw [List.lookup_cons]
    cases q:x == n with
    | true =>
     have:x=n:=by simpa using q
     subst this
     have:=ha _ _ e
     rw [hc] at this;exact this
    | false=>exact e
   refine ⟨cl,?_,e2,fun x d e=>e3 x d (up x d e),fun y hy hf=>?_⟩
   ·rw [List.forIn_cons]
    have:cellOf env n=pure c:=by unfold cellOf;rw [hc]
    simp only [this,beq_self_eq_true,if_true,pure_bind]
    exact e1
   ·rcases List.mem_cons.mp hy with rfl | hy
    ·rw [hc]
     exact e3 n c (by rw [List.lookup_cons,beq_self_eq_true])
    ·exact e4 y hy hf
  ·obtain ⟨cl,e1,e2,e3,e4⟩:=nJ env l acc (fun y hy=>hl y (List.mem_cons_of_mem _ hy)) ha
   refine ⟨cl,?_,e2,e3,fun y hy hf=>?_⟩
   ·rw [List.forIn_cons]
    have:(k == NameKind.free)=false:=by simpa using hk
    simp only [this,Bool.false_eq_true,if_false,pure_bind]
    exact e1
   ·rcases List.mem_cons.mp hy with rfl | hy
    ·exact absurd hf hk
    ·exact e4 y hy hf
theorem aB7 (scope:Scope) (env:Env) (h:∀y∈scope.names,y.2=.free->∃c,env.cells.lookup y.1=some c) :
  ∃cl,closureFor scope env=pure cl/\(∀x c,cl.lookup x=some c->env.cells.lookup x=some c)/\∀y∈scope.names,y.2=.free->cl.lookup y.1=env.cells.lookup y.1:=by
 obtain ⟨cl,e1,e2,_,e4⟩:=nJ env scope.names [] h (fun x c e=>by simp at e)
 refine ⟨cl,?_,e2,e4⟩
 unfold closureFor
 have:(forIn scope.names ([]:List (Str×Addr)) fun (x:Str×NameKind) (r:List (Str×Addr))=>(match x with
   | (name,kind)=>if (kind == NameKind.free)=true then (do let a <- cellOf env name;pure (ForInStep.yield ((name,a)::r))) else pure (ForInStep.yield r):Sem (ForInStep (List (Str×Addr)))))=pure cl:=e1
 first
  | (simp only [this,pure_bind])
  | (rw [this];rfl)
  | (show (forIn _ _ _ >>= _)=_;rw [this];rfl)
theorem iF {env:Env}:∀ {names:List (Str×NameKind)} {x:Str},names.lookup x=some .free ->
  (names.map fun (n,k)=>if (k == NameKind.free && env.scope.kind == .function && env.kindOf n == some .cell) then (n,NameKind.cell) else (n,k)).lookup x=some .cell \/
  (names.map fun (n,k)=>if (k == NameKind.free && env.scope.kind == .function && env.kindOf n == some .cell) then (n,NameKind.cell) else (n,k)).lookup x=some .free
 | [],_,h=>by simp at h
 | (n,k)::r,x,h=>by
  have ih:=@iF env r x
  rw [List.map_cons]
  cases hx:x == n with
  | true =>
   simp only [List.lookup_cons,hx] at h
   cases h
   by_cases hc:(NameKind.free == NameKind.free && env.scope.kind == .function && env.kindOf n == some .cell)=true
   ·left;simp only [hc,if_true,List.lookup_cons,hx]
   ·right;simp only [hc,Bool.false_eq_true,if_false,List.lookup_cons,hx]
  | false =>
   simp only [List.lookup_cons,hx] at h
   by_cases hc:(k == NameKind.free && env.scope.kind == .function && env.kindOf n == some .cell)=true
   ·simp only [hc,if_true,List.lookup_cons,hx];exact ih h
   ·simp only [hc,Bool.false_eq_true,if_false,List.lookup_cons,hx];exact ih h
theorem lJ {env:Env}:∀ {names:List (Str×NameKind)} {x:Str} {k:NameKind},(names.map fun (n,k)=>if (k == NameKind.free && env.scope.kind == .function && env.kindOf n == some .cell) then (n,NameKind.cell) else (n,k)).lookup x=some k->k=.cell\/k=.free ->
  ∃y∈names,y.1=x/\(y.2=.free\/y.2=.cell)
 | [],_,_,h,_=>by simp at h
 | (n,k)::r,x,k',h,hk=>by
  rw [List.map_cons] at h
  cases hx:x == n with
  | true =>
   have e:x=n:=by simpa using hx
   subst e
   by_cases hc:(k == NameKind.free && env.scope.kind == .function && env.kindOf x == some .cell)=true
   ·refine ⟨(x,k),List.mem_cons_self,rfl,.inl ?_⟩
    simp only [Bool.and_eq_true] at hc
    simpa using hc.1.1
   ·simp only [hc,Bool.false_eq_true,if_false,List.lookup_cons,hx] at h
    cases h
    exact ⟨(x,k),List.mem_cons_self,rfl,hk.symm⟩
  | false =>
   have h':(r.map fun (n,k)=>if (k == NameKind.free && env.scope.kind == .function && env.kindOf n == some .cell) then (n,NameKind.cell) else (n,k)).lookup x=some k':=by
    by_cases hc:(k == NameKind.free && env.scope.kind == .function && env.kindOf n == some .cell)=true
    ·simp only [hc,if_true,List.lookup_cons,hx] at h;exact h
    ·simp only [hc,Bool.false_eq_true,if_false,List.lookup_cons,hx] at h;exact h
   obtain ⟨y,hy,e⟩:=lJ h' hk
   exact ⟨y,List.mem_cons_of_mem _ hy,e⟩
def blk (X:Cx) (scope:Scope) (cl:List (Str×Addr)) (N:List Str) (s3:Shared) (H3:Hp) (fp:Y2):Cx :=
 { X with N:=N,s₀:=s3,H₀:=H3,env:=compEnvC scope cl s3.heap.objs.size X.env,outer:=X.stack,ex:=fp,fn:=fun _=>false,pn:=[],xe:=fun _ _=>False }
def PTs (Y:Cx) (ifs:List Expr) (t:TT):Prop :=
 ∀(pins:Y8) (s:Shared) (σ:L2.St) (H:Hp) (Q:Bool->Hp->Prop),L2.Inv Y pins σ H s->t σ H Q ->
  wpAny (model Y.prog Y.w) Y.A (forIn ifs true fun c r=>if r=true then do let ok <- isTrue c Y.env (eval c Y.env);pure (ForInStep.yield ok) else pure (ForInStep.yield r)) (TP Y pins σ Q) Y.xe s
theorem aNb {Y:Cx}:PTs Y [] (fun _ H Q=>Q true H):=fun _ _ _ H _ I h=>wpAny_tests_nil ⟨H,I,h⟩
theorem aK5 {Y:Cx} {c:Expr} {t:TT} (h:PT Y c t):PTs Y [c] t:=fun pins s σ H Q I q=>wpAny_tests_one (h pins s σ H Q I q)
def aCr (wi:TI) (nt:Nat) (js:T0) (g:TG) (tc:TT) (te:TE):TE:=fun σ H Q=>wi σ H fun J H1=>∀acc,H1 acc=none->∃W:Nat->Nat->L2.St->Hp->Prop,
 (∃m,W 0 m (List.replicate nt none++js.map fun j=>(σ[j]?).join) (upd H1 acc (.lst [])))/\∀i m σ' H',W i m σ' H' ->
  (J.stop i H'/\Q (.ref acc) H')\/(J.go i H'/\∀x H2,J.yld i H' x H2->g x σ' H2 fun σ2 H3=>tc σ2 H3 fun b H4 =>
   if b=true then te σ2 H4 fun y H5=>∃xs,H5 acc=some (.lst xs)/\xs.length<sizeLine/\∃m',m'<m/\W (i+1) m' σ2 (upd H5 acc (.lst (xs ++ [y])))
   else ∃m',m'<m/\W (i+1) m' σ2 H4)
section
variable {prog:Program} {w:World} {A:Around} {R:Result->Shared->Prop} {s:Shared}
theorem aAw {elt target iter:Expr} {ifs:List Expr} {scope:Scope} {pos:Pos} {it acc:Value} {env:Env} (I:Nat->Shared->Prop)
  (turn:∀n s,I n s->wpAny (model prog w) A (pyNext it) (fun r s₁=>match r with
   | none=>R (.ok .next) s₁
   | some v=>wpAny (model prog w) A (letOwnedTupleGo target it v) (fun _ s₁=>wpAny (model prog w) A (assign target env v) (fun _ s₂ =>
     wpAny (model prog w) A (forIn ifs true fun c r=>if r=true then do let ok <- isTrue c env (eval c env);pure (ForInStep.yield ok) else pure (ForInStep.yield r)) (fun ok s₃ =>
      if ok=true then wpAny (model prog w) A (eval elt env) (fun x s₄ =>
       wpAny (model prog w) A (call (.builtin "list.append") [acc,x]) (fun _ s₅=>∃m,m<n/\I m s₅) (fun _ _=>False) s₄) (fun _ _=>False) s₃
      else ∃m,m<n/\I m s₃) (fun _ _=>False) s₂) (fun _ _=>False) s₁) (fun _ _=>False) s₁) (fun _ _=>False) s)
  (n:Nat) (h:I n s):codeAny (model prog w) A (.compLoop (.ListComp elt [⟨target,iter,ifs,0⟩] scope pos) 0 it acc env) R s:=by
 refine codeAny_loop rfl I (fun n s hI=>?_) n h
 show wpAny _ A ((compTurn (.ListComp elt [⟨target,iter,ifs,0⟩] scope pos) 0 it acc env).onRaise (fun x=>do noteFrame x env;theTreesLotGoes x)) _ _ s
 refine wpAny_noted ?_
 rw [compTurn_list]
 refine wpAny_bind (wpAny_standAt (wpAny_bind (wpAny_mono (turn n s hI) (fun r s₁ h₁=>?_) fun _ _ h'=>h'.elim)))
 cases r with
 | none=>exact wpAny_pure h₁
 | some v =>
  refine wpAny_bind (wpAny_mono h₁ (fun _ s₁' h₁'=>?_) fun _ _ h'=>h'.elim)
  refine wpAny_bind (wpAny_mono h₁' (fun _ s₂ h₂=>wpAny_bind (wpAny_mono h₂ (fun ok s₃ h₃=>?_) fun _ _ h'=>h'.elim)) fun _ _ h'=>h'.elim)
  cases ok with
  | false=>exact wpAny_pure ⟨rfl,h₃⟩
  | true =>
   exact wpAny_bind (wpAny_bind (wpAny_mono h₃ (fun x s₄ h₄=>wpAny_bind (wpAny_mono h₄ (fun _ s₅ h₅=>wpAny_pure (wpAny_pure ⟨rfl,h₅⟩)) fun _ _ h'=>h'.elim)) fun _ _ h'=>h'.elim))
end
section
variable {X:Cx} {pos:Pos}
theorem vK {elt iter tg:Expr} {ifs:List Expr} {scope:Scope} {wi:TI} {N:List Str} {nt:Nat} {js:T0} {g:TG} {tc:TT} {te:TE}
  (hc:X.calm=true) (hi:PI X tg iter wi) (hkind:scope.kind=.function) (hcell:∀y∈scope.names,y.2 ≠ .cell) (hnames:∀y∈scope.names,y.2=.local->scope.names.lookup y.1=some .local)
  (hfr:∀y∈scope.names,y.2=.free->X.env.kindOf y.1=some .cell\/X.env.kindOf y.1=some .free)
  (hlen:nt+js.length=N.length)
  (hjs:∀(k:Nat) (j:Nat),js[k]?=some j->∃x,N[nt+k]?=some x/\X.N[j]?=some x/\scope.names.lookup x=some .free)
  (hb:∀cl s3 H3 fp,PG (blk X scope cl N s3 H3 fp) tg g/\PTs (blk X scope cl N s3 H3 fp) ifs tc/\PE (blk X scope cl N s3 H3 fp) elt te)
  (hs:∀x,foldedSetIterable iter X.env x=pure x) {pins:Y8} {s:Shared} {σ:L2.St} {H:Hp} {Q:VK} {use:Option (Value->Sem Unit)} {QQ:Y9} (p0:Pos) (I:L2.Inv X pins σ H s) (h:aCr wi nt js g tc te σ H Q)
  (fin:∀(a C:Addr) (s6:Shared) (H5:Hp) (m:Y6),L2.Inv X pins σ H5 s6->s6.heap.Ns C m->rW X pins H5 C->Q (.ref a) H5->compPost (model X.prog X.w) X.A X.xe use QQ (.ref a) C (.ok .next) s6) :
  wpAny (model X.prog X.w) X.A (comprehension (.ListComp elt [⟨tg,iter,ifs,0⟩] scope pos) scope X.env p0 (newList []) false (eval iter X.env) use) QQ X.xe s:=by
 obtain ⟨cl,hcl,cl1,cl2⟩:=aB7 scope X.env fun y hy hf=>I.ok.has y.1 (hfr y hy hf)
 refine wpAny_comprehension_free (use:=use) rfl hs hcl hkind hnames (wpAny_mono (hi pins s σ H _ I h) (fun xv s1 h1=>wpAny_mono h1 (fun itv s2 h2=>?_) fun _ _ z=>z) fun _ _ z=>z)
 obtain ⟨it,fp,tn,J,H2,rfl,I2,T,st2,hfp,h2⟩:=h2
 obtain ⟨W,⟨m0,w0⟩,turn⟩:=h2 s2.heap.objs.size I2.fresh
 refine wpAny_newObj_type (wpAny_newFunctionEnv hcell (by intro y hy;simp at hy) (fun h₁ hns₁ hsb₁=>?_) hkind)
 dsimp only at hns₁ hsb₁ ⊢
 have I3:L2.Inv X pins σ (upd H2 s2.heap.objs.size (.lst [])) { s2 with heap:=s2.heap.push { cls:=.type "list",data:=.seq ([]:Y1).toArray } }:=I2.aU5 (its:=[]) (t':=s2.toks) .nil (Nat.zero_le _)
 generalize hs3:({ s2 with heap:=s2.heap.push { cls:=.type "list",data:=.seq ([]:Y1).toArray } }:Shared)=s3 at I3
 have e3:s3.heap=s2.heap.push { cls:=.type "list",dict:=none,data:=.seq ([]:Y1).toArray }:=by rw [<- hs3]
 rw [<- e3] at hns₁ hsb₁
 have hH3:∃H3,H3=upd H2 s2.heap.objs.size (.lst []):=⟨_,rfl⟩
 obtain ⟨H3,eH3⟩:=hH3
 rw [<- eH3] at I3 w0
 have hC:s3.heap.objs.size=s2.heap.objs.size+1:=by rw [e3,Heap.size_push]
 have k1:∀b u,s3.heap.get? b=some u->h₁.get? b=some u:=fun b u e=>hsb₁.extBut b u (Nat.ne_of_lt (Heap.lt_size e)) (Heap.get?_push_of_some _ e)
 have k2:∀b u,s2.heap.get? b=some u->s3.heap.get? b=some u:=fun b u e=>by rw [e3];exact Heap.get?_push_of_some _ e
 have hfpo:∀b∈fp,∃o,s2.heap.get? b=some o:=fun b hb=>let ⟨o,e,_⟩:=T.obj 0 _ st2 b hb;⟨o,e⟩
 have hfplt:∀b∈fp,b<s2.heap.objs.size:=fun b hb=>let ⟨o,e⟩:=hfpo b hb;Heap.lt_size e
 have hfn:∀b∈fp,b ∉ frs X.stack:=fun b hb z=>(List.mem_cons.mp (I2.uH b z)).elim (hfp b hb).2.1 (hfp b hb).2.2.1
 have hH3fp:∀b∈fp,H3 b=none:=fun b hb=>by rw [eH3,aU (Nat.ne_of_lt (hfplt b hb))];exact (hfp b hb).1
 let Y:=blk X scope cl N s3 H3 fp
 obtain ⟨pg,pt,pe⟩:=hb cl s3 H3 fp
 have okY:Y.Ok:=by
  refine ⟨I3.ok.mod,by show (relabel scope X.env).kind=_;exact hkind,I3.ok.glob,I3.ok.blt,Nat.le_refl _,fun x y c a b=>I3.ok.inj x y c (cl1 x c a) (cl1 y c b),fun x hx=>?_,(fun x c z=>by cases z),I3.ok.hd,I3.ok.frames,.inl rfl,fun b hb=>⟨?_,fun x c e=>(hfp b hb).2.2.2.2.1 x c (cl1 x c e)⟩,I3.bs,Nat.le_trans I3.ok.bsz I3.sz,fun b o e hb=>?_,hfn,I3.stack,I3.yR⟩
  ·have hx':(relabel scope X.env).names.lookup x=some .cell\/(relabel scope X.env).names.lookup x=some .free:=hx
   obtain ⟨y,hy,e1,e2⟩:∃y∈scope.names,y.1=x/\(y.2=.free\/y.2=.cell):=by
    rcases hx' with z | z
    ·exact lJ z (.inl rfl)
    ·exact lJ z (.inr rfl)
   have e2:y.2=.free:=e2.elim id fun z=>absurd z (hcell y hy)
   obtain ⟨c,ec⟩:=I3.ok.has y.1 (hfr y hy e2)
   exact ⟨c,by subst e1;exact (cl2 y hy e2).trans ec⟩
  ·exact Nat.ne_of_lt (by show b<s3.heap.objs.size;rw [hC];exact Nat.lt_succ_of_lt (hfplt b hb))
  ·rcases (hfp b hb).2.2.2.1 with z | z
   ·exact I3.ok.noex b o e z
   ·exact absurd (Nat.lt_of_lt_of_le (Heap.lt_size e) (Nat.le_trans I3.ok.bsz z)) (Nat.lt_irrefl _)
 have vals:∀(i:Nat) (x:Str) (v:V),N[i]?=some x->(List.replicate nt none++js.map fun j=>(σ[j]?).join)[i]?=some (some v)->∃u c,RelV v u/\X.env.cells.lookup x=some c/\s3.heap.IsCell c (some u)/\scope.names.lookup x=some .free:=by
  intro i x v a1 a2
  have hi:nt<=i:=by
   rcases Nat.lt_or_ge i nt with z | z
   ·rw [List.getElem?_append_left (by simpa using z),List.getElem?_replicate,if_pos z] at a2;cases a2
   ·exact z
  obtain ⟨k,rfl⟩:=Nat.exists_eq_add_of_le hi
  rw [List.getElem?_append_right (by simp)] at a2
  rw [List.length_replicate,Nat.add_sub_cancel_left,List.getElem?_map] at a2
  cases ej:js[k]? with
  | none=>rw [ej] at a2;cases a2
  | some j =>
   rw [ej] at a2
   have hv:σ[j]?=some (some v):=by
    have a2:(σ[j]?).join=some v:=Option.some.inj a2
    cases q:σ[j]? with
    | none=>rw [q] at a2;cases a2
    | some o=>rw [q] at a2;exact congrArg some a2
   obtain ⟨y,n1,n2,n3⟩:=hjs k j ej
   have ey:y=x:=by rw [n1] at a1;exact Option.some.inj a1
   subst ey
   have mem:(y,NameKind.free)∈scope.names:=PySem.mem_of_lookup n3
   have kd:=hfr _ mem rfl
   have vis:Vis X.env.scope y:=by
    rcases kd with z | z
    ·exact .inr (.inl z)
    ·exact .inr (.inr z)
   obtain ⟨m,hn,hl⟩:=I3.loc
   obtain ⟨u,ru,look⟩:=hl j y v n2 hv vis
   rcases look with ⟨kk,_⟩ | ⟨kk,c,ec,hce⟩
   ·rcases kd with z | z
    ·rw [z] at kk;cases kk
    ·rw [z] at kk;cases kk
   ·exact ⟨u,c,ru,ec,hce,n3⟩
 have IY:L2.Inv Y [] (List.replicate nt none++js.map fun j=>(σ[j]?).join) H3 { s3 with heap:=h₁,toks:=s3.toks+([]:List (Str×Value)).length }:=by
  refine ⟨okY,rfl,I3.bare,Un.kept k1,⟨_,hns₁,fun i x v a1 a2 a3=>?_⟩,fun x c e=>?_,I3.hok.fresh (Nat.le_refl _),fun x c e=>I3.freeC x c (cl1 x c e),(fun p hp=>by cases hp),I3.hok.kept k1,?_⟩
  ·obtain ⟨u,c,ru,ec,⟨o,ho,hd⟩,n3⟩:=vals i x v a1 a2
   exact ⟨u,ru,.inr ⟨iF n3,c,(cl2 (x,.free) (PySem.mem_of_lookup n3) rfl).trans ec,o,k1 c o ho,hd⟩⟩
  ·obtain ⟨v,o,ho,hd⟩:=I3.cell x c (cl1 x c e)
   exact ⟨v,o,k1 c o ho,hd⟩
  ·show _=N.length
   simp;omega
 have hfY:∀ {H':Hp},(∀b∈fp,H' b=none)->∀b∈fp,rW Y [] H' b:=fun hn b hb =>
  ⟨hn b hb,Nat.ne_of_lt (by show b<s3.heap.objs.size;rw [hC];exact Nat.lt_succ_of_lt (hfplt b hb)),hfn b hb,.inl hb,fun x c e=>(hfp b hb).2.2.2.2.1 x c (cl1 x c e),fun p hp=>by cases hp⟩
 have st1:tn 0 h₁:=T.keep 0 _ _ st2 fun b hb o e=>k1 b o (k2 b o e)
 have loop:∀s4:Shared,s4={ s3 with heap:=h₁,toks:=s3.toks+([]:List (Str×Value)).length }->codeAny (model X.prog X.w) X.A (.compLoop (.ListComp elt [⟨tg,iter,ifs,0⟩] scope pos) 0 (.ref it) (.ref s2.heap.objs.size) (compEnvC scope cl s3.heap.objs.size X.env))
   (compPost (model X.prog X.w) X.A X.xe use QQ (.ref s2.heap.objs.size) s3.heap.objs.size) s4:=by
  rintro s4 rfl
  refine aAw (fun n s'=>∃i σ' H',L2.Inv Y [] σ' H' s'/\tn i s'.heap/\(∀b∈fp,H' b=none)/\W i n σ' H') ?_ m0 ⟨0,_,H3,IY,st1,hH3fp,w0⟩
  rintro n s5 ⟨i,σ5,H5,I5,st5,fr5,w5⟩
  rcases turn i n σ5 H5 w5 with ⟨stop,qn⟩ | ⟨go,step⟩
  ·refine wpAny_mono (T.done Y rfl rfl rfl hc i [] s5 σ5 H5 (fun _ _=>False) I5 (hfY fr5) st5 stop) (fun r s6 ⟨hr,I6⟩=>?_) fun _ _ z=>z
   subst hr
   obtain ⟨m,hn,_⟩:=I6.loc
   have U6:Un (frs X.stack) fp H3 H5 s3.heap s6.heap:=I6.base
   have U2:Un (frs X.stack) fp H2 H3 s2.heap s3.heap:=by rw [eH3];exact Un.laid k2 (Nat.le_refl _) I2.fresh
   have IX:L2.Inv X pins σ H5 s6:=by
    refine I2.aDl (s':=s6) ?_ (U2.trans U6) I6.hok I6.bare fun b hb=>⟨(hfp b hb).2.2.2.1,(hfp b hb).2.1,(hfp b hb).2.2.2.2.1,(hfp b hb).2.2.2.2.2⟩
    rw [I6.os]
    show s3.os=s2.os
    rw [<- hs3]
   exact fin _ _ s6 H5 m IX hn (I2.aJy (by rw [hC];exact Nat.le_succ _) I6.free) qn
  ·refine wpAny_mono (T.item Y rfl rfl rfl hc i [] s5 σ5 H5 (fun _ _=>False) I5 (hfY fr5) st5 go) (fun r s6 ⟨u,hr,h6⟩=>?_) fun _ _ z=>z
   subst hr
   refine wpAny_mono h6 (fun _ s7 ⟨x,H7,I7,r7,y7,st7,fr7⟩=>?_) fun _ _ z=>z
   have I7':=I7.pinned (hfY fr7) (T.obj _ _ st7)
   refine wpAny_mono (pg _ s7 σ5 H7 x u _ I7' r7 (step x H7 y7)) (fun _ s8 ⟨σ8,H8,I8,q8⟩=>?_) fun _ _ z=>z
   refine wpAny_mono (pt _ s8 σ8 H8 _ I8 q8) (fun ok s9 ⟨H9,I9,q9⟩=>?_) fun _ _ z=>z
   have again:∀ {s':Shared} {H':Hp} {m':Nat},L2.Inv Y ([]++tD fp s7.heap) σ8 H' s'->m'<n->W (i+1) m' σ8 H'->∃m,m<n/\∃i σ' H',L2.Inv Y [] σ' H' s'/\tn i s'.heap/\(∀b∈fp,H' b=none)/\W i m σ' H':=fun {s' H' m'} I' hm w'=>by
    refine ⟨m',hm,i+1,σ8,H',I'.pE,T.keep _ _ _ st7 fun b hb o e=>(I'.pin (b,o) (List.mem_append_right _ (List.mem_append_right _ (kJ hb e)))).1,fun b hb=>?_,w'⟩
    obtain ⟨o,e,d⟩:=T.obj _ _ st7 b hb
    exact (I'.pin (b,o) (List.mem_append_right _ (List.mem_append_right _ (kJ hb e)))).2.1
   cases ok with
   | false =>
    rw [if_neg Bool.false_ne_true] at q9 ⊢
    obtain ⟨m',hm,w'⟩:=q9
    exact again I9 hm w'
   | true =>
    rw [if_pos rfl] at q9 ⊢
    refine wpAny_mono (pe _ s9 σ8 H9 _ I9 q9) (fun yv s10 ⟨y,H10,I10,r10,xs,hacc,hz,m',hm,w'⟩=>?_) fun _ _ z=>z
    refine wpAny_mono (pJ (X:=blk X scope cl N s3 H3 fp) _ s10 σ8 H10 (.ref s2.heap.objs.size) [y] (.ref s2.heap.objs.size) [yv] (fun _ H'=>H'=upd H10 s2.heap.objs.size (.lst (xs ++ [y]))) I10 rfl (.cons r10 .nil) ⟨s2.heap.objs.size,xs,y,rfl,rfl,hacc,hz,rfl⟩) (fun _ s11 ⟨_,H11,I11,_,e11⟩=>?_) fun _ _ z=>z
    subst e11
    exact again I11 hm w'
 subst hs3
 exact codeAny_compStart_list (loop _ rfl) (T.self _ 0 _ _ _ st1 (loop _ rfl))
theorem Inv.aQn {pins:Y8} {s:Shared} {σ:L2.St} {H:Hp} {C:Addr} {m:Y6} {h':Heap} (I:L2.Inv X pins σ H s) (n:s.heap.Ns C m) (f:rW X pins H C) (hs:Heap.SameBut C s.heap h'):L2.Inv X pins σ H { s with heap:=h' }:=by
 have hne:∀b,b ∉ [C]->b ≠ C:=fun b hb z=>hb (by rw [z];exact List.mem_cons_self)
 refine I.aDl (s':={ s with heap:=h' }) (ch:=[C]) rfl ?_ ?_ I.bare fun b hb=>?_
 ·exact ⟨fun b o e _ _ hx=>(hs.2 b (hne b hx)).trans e,fun b o e _ _ hx=>⟨o.slots,(hs.2 b (hne b hx)).trans e⟩,fun b o _ q _=>q,fun b o e hx=>⟨o,(hs.2 b (hne b hx)).trans e⟩,fun _ _ q=>q,fun _ _ _ q=>q,fun _ ps q=>⟨#[],by simpa using q⟩⟩
 ·intro b u e
  have hbC:∀c,(c=b\/H c=some (.own b))->c ≠ C:=fun c hcb z=>by
   rcases hcb with q | q
   ·rw [<- q,z,f.1] at e;cases e
   ·rw [z,f.1] at q;cases q
  exact (I.hok b u e).stay (fun c w' hcb q=>(hs.2 c (hbC c hcb)).trans q) (fun _ q=>q) fun _ _ q=>q
 ·have:b=C:=by simpa using hb
  subst this
  exact ⟨f.2.2.2.1,f.2.1,f.2.2.2.2.1,f.2.2.2.2.2⟩
theorem aK7 {elt iter tg:Expr} {ifs:List Expr} {scope:Scope} {wi:TI} {N:List Str} {nt:Nat} {js:T0} {g:TG} {tc:TT} {te:TE}
  (hc:X.calm=true) (hi:PI X tg iter wi) (hkind:scope.kind=.function) (hcell:∀y∈scope.names,y.2 ≠ .cell) (hnames:∀y∈scope.names,y.2=.local->scope.names.lookup y.1=some .local)
  (hfr:∀y∈scope.names,y.2=.free->X.env.kindOf y.1=some .cell\/X.env.kindOf y.1=some .free)
  (hlen:nt+js.length=N.length)
  (hjs:∀(k:Nat) (j:Nat),js[k]?=some j->∃x,N[nt+k]?=some x/\X.N[j]?=some x/\scope.names.lookup x=some .free)
  (hb:∀cl s3 H3 fp,PG (blk X scope cl N s3 H3 fp) tg g/\PTs (blk X scope cl N s3 H3 fp) ifs tc/\PE (blk X scope cl N s3 H3 fp) elt te)
  (hs:∀x,foldedSetIterable iter X.env x=pure x:=by intro _;rfl) :
  PE X (.ListComp elt [⟨tg,iter,ifs,0⟩] scope pos) (aCr wi nt js g tc te):=by
 intro pins s σ H Q I h
 rw [eval_ListComp]
 exact vK hc hi hkind hcell hnames hfr hlen hjs hb hs _ I h fun a C s6 H5 m IX hn hf q=>⟨m,hn,fun h' hs'=>⟨.ref a,H5,Inv.aQn IX hn hf hs',rfl,q⟩⟩
theorem aBo {i:Nat} {y:Str} {py spos:Pos} {elt iter tg:Expr} {ifs:List Expr} {scope:Scope} {wi:TI} {N:List Str} {nt:Nat} {js:T0} {g:TG} {tc:TT} {te:TE}
  (hN:X.N.Nodup) (hi0:X.N[i]?=some y) (hx:X.env.scope.names.lookup y=some .local) (hsw:swapsWith (.ListComp elt [⟨tg,iter,ifs,0⟩] scope pos) (some (.Name y py)) spos.line X.env=pure true) (hc:X.calm=true) (hi:PI X tg iter wi) (hkind:scope.kind=.function) (hcell:∀y∈scope.names,y.2 ≠ .cell) (hnames:∀y∈scope.names,y.2=.local->scope.names.lookup y.1=some .local)
  (hfr:∀y∈scope.names,y.2=.free->X.env.kindOf y.1=some .cell\/X.env.kindOf y.1=some .free)
  (hlen:nt+js.length=N.length)
  (hjs:∀(k:Nat) (j:Nat),js[k]?=some j->∃x,N[nt+k]?=some x/\X.N[j]?=some x/\scope.names.lookup x=some .free)
  (hb:∀cl s3 H3 fp,PG (blk X scope cl N s3 H3 fp) tg g/\PTs (blk X scope cl N s3 H3 fp) ifs tc/\PE (blk X scope cl N s3 H3 fp) elt te)
  (hs:∀x,foldedSetIterable iter X.env x=pure x:=by intro _;rfl):PS X (.Assign [.Name y py] (.ListComp elt [⟨tg,iter,ifs,0⟩] scope pos) spos) (aDn (aCr wi nt js g tc te) (qO i)):=by
 intro pins s σ H D I h
 rw [exec_Assign_Name_used _ _ _ _ hsw]
 refine wpAny_bind (wpAny_standAt (wpAny_bind ?_))
 show wpAny _ X.A (do let _ <- comprehension (.ListComp elt [⟨tg,iter,ifs,0⟩] scope pos) scope X.env _ (newList []) false (eval iter X.env) (some (assign (.Name y py) X.env))) _ _ s
 refine wpAny_bind (wpAny_mono (vK (QQ:=fun _ s'=>(SP X pins D) .next s') hc hi hkind hcell hnames hfr hlen hjs hb hs _ I h fun a C s6 H5 m IX hn hf q=>?_) (fun _ s' hq=>wpAny_pure (wpAny_pure hq)) fun _ _ e=>e)
 show wpAny _ X.A (assign (.Name y py) X.env (.ref a)) _ _ _
 refine wpAny_assign_Name (wF (v:=.ref a) IX hN hi0 (.inl hx) rfl (fun s7 I7 ⟨a0,sb,ha⟩=>?_) (.inr hx))
 have hne:C ≠ a0:=fun z=>by
  rcases ha with q | q
  ·exact hf.2.1 (z.trans q)
  ·exact hf.2.2.2.2.1 y a0 q z.symm
 exact ⟨m,hn.sameBut sb hne,fun h' hs'=>⟨_,H5,Inv.aQn I7 (hn.sameBut sb hne) hf hs',q⟩⟩
end
end VL
end
section
namespace VL
open PySem L2
inductive Tg where
 | exc (c:Str) | dK (kvs:List (Key×Int)) | dT (kvs:List (List Key×Int)) | tab (x:Str) (l:List (Pos×Str))
 deriving Inhabited
inductive D where
 | non | bl (b:Bool) | int (i:Int) | str (x:Str) | tup (ds:List D) | lst (own:Bool) (ds:List D) | ext (own:Bool) (t:Tg) | fn (a:Addr)
 deriving Inhabited
def ExcAt (a C:Addr):HO:=.ext fun h=>∃o vs,h.get? a=some o/\o.cls=.ref C/\o.data=.fields vs
def aBj (F:Hp) (c:Addr) (q:Str):Prop:=∃oc u vs t,F c=some (.frz oc u)/\oc.data=.fields vs/\vs[1]?=some (.str q t)
def aLi (K:FG) (F:Hp) (a:Addr) (x:Str) (l:List (Pos×Str)) (u:HO):Prop:=(∃c,PySem.W.tabIn K x=some (c,a))/\∃m:List (Pos×Addr),u=.tbl (triples m).toArray/\m.map (·.1)=l.map (·.1) /\
 ∀(i:Nat) (p p':Pos) (q:Str) (c:Addr),l[i]?=some (p,q)->m[i]?=some (p',c)->aBj F c q
def TgO (K:FG) (F:Hp) (a:Addr):Tg->HO->Prop
 | .exc c,u=>∃C,PySem.W.nsIn K mainGlobals c=some (some (.ref C))/\u=ExcAt a C
 | .dK kvs,u=>u=.dK (kvs.map fun p=>(p.1,V.int p.2))
 | .dT kvs,u=>u=.dT (kvs.map fun p=>(p.1,V.int p.2))
 | .tab x l,u=>aLi K F a x l u
mutual
def D.calm:D->Bool
 | .non=>true | .bl _=>true | .int _=>true | .str _=>true
 | .tup ds=>D.bS ds
 | .lst o ds=>!o && D.bS ds
 | .ext o _=>!o
 | .fn _=>true
def D.bS:List D->Bool
 | []=>true
 | d::ds=>d.calm && D.bS ds
end
mutual
def D.frz:D->D
 | .non=>.non | .bl b=>.bl b | .int i=>.int i | .str x=>.str x
 | .tup ds=>.tup (D.frzs ds)
 | .lst _ ds=>.lst false (D.frzs ds)
 | .ext _ t=>.ext false t
 | .fn a=>.fn a
def D.frzs:List D->List D
 | []=>[]
 | d::ds=>d.frz::D.frzs ds
end
theorem D.rH:∀ds:List D,D.frzs ds=ds.map D.frz
 | []=>rfl
 | d::ds=>by rw [D.frzs,D.rH ds];rfl
theorem D.uI:∀ds:List D,D.bS ds=ds.all D.calm
 | []=>rfl
 | d::ds=>by rw [D.bS,D.uI ds];rfl
inductive R (α:Type) where
 | ok (a:α) | exc (c:Str) | bad
def R.bind {α β:Type} (x:R α) (f:α->R β):R β:=match x with
 | .ok a=>f a | .exc c=>.exc c | .bad=>.bad
def R.of {α:Type}:Option α->R α
 | some a=>.ok a | none=>.bad
def TqT (K:FG) (F:Hp) (a:Addr) (xs:List V):Prop :=
 F a=some (.tup xs)\/∃(o:Obj) (its:Array Value) (n:Nat),K.lookup a=some o/\o.cls=.type "tuple" /\o.data=.seq its n/\its.size<=sizeLine/\Vals xs its.toList
theorem TqT.of {K:FG} {F:Hp} {a:Addr} {xs:List V} (h:F a=some (.tup xs)):TqT K F a xs:=.inl h
mutual
def Own (K:FG) (F H:Hp):D->V->Y2->Prop
 | .non,v,fp=>v=.non/\fp=[]
 | .bl b,v,fp=>v=.bl b/\fp=[]
 | .int i,v,fp=>v=.int i/\fp=[]
 | .str x,v,fp=>v=.str x/\fp=[]
 | .tup ds,v,fp=>fp=[]/\∃a xs,v=.ref a/\TqT K F a xs/\aJ K F H ds xs []
 | .lst o ds,v,fp=>∃a xs fq,v=.ref a/\aJ K F H ds xs fq/\((o=true/\F a=none/\H a=some (.lst xs)/\fp=a::fq)\/(o=false/\Rd F a (.lst xs)/\fq=[]/\fp=[]))
 | .fn a,v,fp=>v=.ref a/\fp=[]
 | .ext o t,v,fp=>∃a u,v=.ref a/\TgO K F a t u/\((o=true/\F a=none/\H a=some u/\fp=[a])\/(o=false/\F a=some u/\fp=[]))
def aJ (K:FG) (F H:Hp):List D->List V->Y2->Prop
 | [],vs,fp=>vs=[]/\fp=[]
 | d::ds,vs,fp=>∃v r f1 f2,vs=v::r/\Own K F H d v f1/\aJ K F H ds r f2/\fp=f1++f2
end
section
variable {K:FG} {F H F' H':Hp}
theorem Same.tqT {a:Addr} {xs:List V} (e:Same F F') (h:TqT K F a xs):TqT K F' a xs:=h.imp (fun h=>e _ _ h) id
theorem Same.aA1 {a:Addr} {xs:List V} (e:Same F F') (h:TqT K F a xs):SqT K F' a xs:=h.imp (fun h=>.inl (e _ _ h)) id
theorem Same.rd {a:Addr} {u:HO} (e:Same F F') (h:Rd F a u):Rd F' a u:=by
 rcases h with h | ⟨o,h⟩
 ·exact .inl (e _ _ h)
 ·exact .inr ⟨o,e _ _ h⟩
theorem TgO.mono {a:Addr} {t:Tg} {u:HO} (e:Same F F') (h:TgO K F a t u):TgO K F' a t u:=by
 cases t with
 | tab x l =>
  have h:aLi K F a x l u:=h
  obtain ⟨h1,m,h2,h3,h4⟩:=h
  refine ⟨h1,m,h2,h3,fun i p p' q c e1 e2=>?_⟩
  obtain ⟨oc,u',vs,t,q1,q2⟩:=h4 i p p' q c e1 e2
  exact ⟨oc,u',vs,t,e _ _ q1,q2⟩
 | exc _=>exact h
 | dK _=>exact h
 | dT _=>exact h
mutual
theorem Own.keep (hf:Same F F'):∀(d:D) {v:V} {fp:Y2},(∀a∈fp,F' a=none/\H' a=H a)->Own K F H d v fp->Own K F' H' d v fp
 | .non,_,_,_,h=>h
 | .bl _,_,_,_,h=>h
 | .int _,_,_,_,h=>h
 | .str _,_,_,_,h=>h
 | .fn _,_,_,_,h=>h
 | .tup ds,v,fp,_,h=>by
  unfold Own at h ⊢
  obtain ⟨e,a,xs,e1,q,r⟩:=h
  exact ⟨e,a,xs,e1,Same.tqT hf q,aJ.keep hf ds (by simp) r⟩
 | .lst o ds,v,fp,k,h=>by
  unfold Own at h ⊢
  obtain ⟨a,xs,fq,e1,r,h⟩:=h
  rcases h with ⟨o1,h1,h2,h3⟩ | ⟨o1,h1,h2,h3⟩
  ·subst h3
   obtain ⟨k1,k2⟩:=k a List.mem_cons_self
   exact ⟨a,xs,fq,e1,aJ.keep hf ds (fun b hb=>k b (List.mem_cons_of_mem _ hb)) r,.inl ⟨o1,k1,k2.trans h2,rfl⟩⟩
  ·subst h2
   exact ⟨a,xs,[],e1,aJ.keep hf ds (by simp) r,.inr ⟨o1,Same.rd hf h1,rfl,h3⟩⟩
 | .ext o t,v,fp,k,h=>by
  unfold Own at h ⊢
  obtain ⟨a,u,e1,tg,h⟩:=h
  rcases h with ⟨o1,h1,h2,h3⟩ | ⟨o1,h1,h3⟩
  ·subst h3
   obtain ⟨k1,k2⟩:=k a List.mem_cons_self
   exact ⟨a,u,e1,tg.mono hf,.inl ⟨o1,k1,k2.trans h2,rfl⟩⟩
  ·exact ⟨a,u,e1,tg.mono hf,.inr ⟨o1,hf _ _ h1,h3⟩⟩
theorem aJ.keep (hf:Same F F'):∀(ds:List D) {vs:List V} {fp:Y2},(∀a∈fp,F' a=none/\H' a=H a)->aJ K F H ds vs fp->aJ K F' H' ds vs fp
 | [],_,_,_,h=>h
 | d::ds,vs,fp,k,h=>by
  unfold aJ at h ⊢
  obtain ⟨v,r,f1,f2,e,h1,h2,e2⟩:=h
  subst e2
  exact ⟨v,r,f1,f2,e,Own.keep hf d (fun b hb=>k b (List.mem_append_left _ hb)) h1,aJ.keep hf ds (fun b hb=>k b (List.mem_append_right _ hb)) h2,rfl⟩
end
mutual
theorem Own.zone:∀(d:D) {v:V} {fp:Y2},Own K F H d v fp->∀a∈fp,F a=none/\∃u,H a=some u
 | .non,_,_,h,a,ha=>by unfold Own at h;rw [h.2] at ha;cases ha
 | .bl _,_,_,h,a,ha=>by unfold Own at h;rw [h.2] at ha;cases ha
 | .int _,_,_,h,a,ha=>by unfold Own at h;rw [h.2] at ha;cases ha
 | .str _,_,_,h,a,ha=>by unfold Own at h;rw [h.2] at ha;cases ha
 | .fn _,_,_,h,a,ha=>by unfold Own at h;rw [h.2] at ha;cases ha
 | .tup _,_,_,h,a,ha=>by unfold Own at h;rw [h.1] at ha;cases ha
 | .lst o ds,v,fp,h,a,ha=>by
  unfold Own at h
  obtain ⟨b,xs,fq,e1,r,h⟩:=h
  rcases h with ⟨o1,h1,h2,h3⟩ | ⟨o1,h1,h2,h3⟩
  ·subst h3
   rcases List.mem_cons.mp ha with rfl | ha
   ·exact ⟨h1,_,h2⟩
   ·exact aJ.zone ds r a ha
  ·rw [h3] at ha;cases ha
 | .ext o t,v,fp,h,a,ha=>by
  unfold Own at h
  obtain ⟨b,u,e1,tg,h⟩:=h
  rcases h with ⟨o1,h1,h2,h3⟩ | ⟨o1,h1,h3⟩
  ·subst h3
   have:a=b:=by simpa using ha
   subst this
   exact ⟨h1,u,h2⟩
  ·rw [h3] at ha;cases ha
theorem aJ.zone:∀(ds:List D) {vs:List V} {fp:Y2},aJ K F H ds vs fp->∀a∈fp,F a=none/\∃u,H a=some u
 | [],_,_,h,a,ha=>by unfold aJ at h;rw [h.2] at ha;cases ha
 | d::ds,vs,fp,h,a,ha=>by
  unfold aJ at h
  obtain ⟨v,r,f1,f2,e,h1,h2,e2⟩:=h
  subst e2
  rcases List.mem_append.mp ha with ha | ha
  ·exact Own.zone d h1 a ha
  ·exact aJ.zone ds h2 a ha
end
mutual
theorem Own.dU:∀(d:D) {v:V} {fp:Y2},d.calm=true->Own K F H d v fp->fp=[]
 | .non,_,_,_,h=>by unfold Own at h;exact h.2
 | .bl _,_,_,_,h=>by unfold Own at h;exact h.2
 | .int _,_,_,_,h=>by unfold Own at h;exact h.2
 | .str _,_,_,_,h=>by unfold Own at h;exact h.2
 | .fn _,_,_,_,h=>by unfold Own at h;exact h.2
 | .tup _,_,_,_,h=>by unfold Own at h;exact h.1
 | .lst o ds,_,_,hc,h=>by
  unfold Own at h
  obtain ⟨a,xs,fq,e1,r,h⟩:=h
  rcases h with ⟨o1,_⟩ | ⟨_,_,_,h3⟩
  ·subst o1;simp [D.calm] at hc
  ·exact h3
 | .ext o t,_,_,hc,h=>by
  unfold Own at h
  obtain ⟨b,u,e1,tg,h⟩:=h
  rcases h with ⟨o1,_⟩ | ⟨_,_,h3⟩
  ·subst o1;simp [D.calm] at hc
  ·exact h3
end
theorem aJ.dU:∀(ds:List D) {vs:List V} {fp:Y2},D.bS ds=true->aJ K F H ds vs fp->fp=[]
 | [],_,_,_,h=>by unfold aJ at h;exact h.2
 | d::ds,vs,fp,hc,h=>by
  unfold aJ at h
  obtain ⟨v,r,f1,f2,e,h1,h2,e2⟩:=h
  simp only [D.bS,Bool.and_eq_true] at hc
  rw [e2,Own.dU d hc.1 h1,aJ.dU ds hc.2 h2];rfl
theorem aJ.length:∀(ds:List D) {vs:List V} {fp:Y2},aJ K F H ds vs fp->ds.length=vs.length
 | [],_,_,h=>by unfold aJ at h;rw [h.1];rfl
 | d::ds,vs,fp,h=>by
  unfold aJ at h
  obtain ⟨v,r,f1,f2,e,h1,h2,e2⟩:=h
  rw [e,List.length_cons,List.length_cons,aJ.length ds h2]
theorem aJ.get:∀(ds:List D) {vs:List V} {fp:Y2} {i:Nat} {d:D},aJ K F H ds vs fp->ds[i]?=some d->∃v f,vs[i]?=some v/\Own K F H d v f/\f.Sublist fp
 | [],_,_,_,_,_,e=>by simp at e
 | c::ds,vs,fp,0,d,h,e=>by
  unfold aJ at h
  obtain ⟨v,r,f1,f2,e1,h1,h2,e2⟩:=h
  simp at e;subst e;subst e1;subst e2
  exact ⟨v,f1,rfl,h1,List.sublist_append_left _ _⟩
 | c::ds,vs,fp,i+1,d,h,e=>by
  unfold aJ at h
  obtain ⟨v,r,f1,f2,e1,h1,h2,e2⟩:=h
  subst e1;subst e2
  obtain ⟨u,f,q1,q2,q3⟩:=aJ.get ds (i:=i) h2 (by simpa using e)
  exact ⟨u,f,by simpa using q1,q2,q3.trans (List.sublist_append_right _ _)⟩
theorem aJ.append:∀(ds:List D) {es:List D} {vs us:List V} {f g:Y2},aJ K F H ds vs f->aJ K F H es us g->aJ K F H (ds++es) (vs++us) (f++g)
 | [],es,vs,us,f,g,h,k=>by unfold aJ at h;rw [h.1,h.2];exact k
 | d::ds,es,vs,us,f,g,h,k=>by
  unfold aJ at h
  obtain ⟨v,r,f1,f2,e1,h1,h2,e2⟩:=h
  subst e1;subst e2
  show aJ K F H (d::(ds++es)) _ _
  unfold aJ
  exact ⟨v,r++us,f1,f2++g,rfl,h1,aJ.append ds h2 k,by rw [List.append_assoc]⟩
theorem aJ.one {d:D} {v:V} {f:Y2} (h:Own K F H d v f):aJ K F H [d] [v] f:=by
 unfold aJ
 exact ⟨v,[],f,[],rfl,h,by unfold aJ;exact ⟨rfl,rfl⟩,by simp⟩
theorem aJ.nil:aJ K F H [] [] []:=by unfold aJ;exact ⟨rfl,rfl⟩
theorem aJ.cons {d:D} {v:V} {f:Y2} {ds:List D} {vs:List V} {g:Y2} (h:Own K F H d v f) (k:aJ K F H ds vs g):aJ K F H (d::ds) (v::vs) (f++g):=by
 unfold aJ;exact ⟨v,vs,f,g,rfl,h,k,rfl⟩
theorem aJ.of_get:∀(ds:List D) {vs:List V},ds.length=vs.length->(∀(i:Nat) (d:D) (v:V),ds[i]?=some d->vs[i]?=some v->Own K F H d v [])->aJ K F H ds vs []
 | [],vs,hl,_=>by
  have:vs=[]:=List.length_eq_zero_iff.mp (by simpa using hl.symm)
  subst this;exact aJ.nil
 | d::ds,[],hl,_=>by simp at hl
 | d::ds,v::vs,hl,h=>by
  have h1:=h 0 d v rfl rfl
  have h2:=aJ.of_get ds (vs:=vs) (by simpa using hl) fun i d' v' e1 e2=>h (i+1) d' v' (by simpa using e1) (by simpa using e2)
  exact aJ.cons h1 h2
theorem aJ.aYl {ds:List D} {vs:List V} {i:Nat} {d:D} {v:V} (h:aJ K F H ds vs []) (e:ds[i]?=some d) (e2:vs[i]?=some v):Own K F H d v []:=by
 obtain ⟨u,f,q1,q2,q3⟩:=aJ.get ds h e
 rw [e2] at q1;cases q1
 have:f=[]:=List.sublist_nil.mp q3
 subst this;exact q2
structure Grow (F H F' H':Hp):Prop where
 fr:Same F F'
 all:Same H H'
 inn:Same F' H'
 new:∀b o,F' b=some o->F b=some o\/H b=none
theorem Grow.refl (h:Same F H):Grow F H F H:=⟨Same.refl _,Same.refl _,h,fun _ _ e=>.inl e⟩
theorem Grow.trans {F1 H1 F2 H2:Hp} (a:Grow F H F1 H1) (b:Grow F1 H1 F2 H2):Grow F H F2 H2 :=
 ⟨a.fr.trans b.fr,a.all.trans b.all,b.inn,fun c o e=>by
  rcases b.new c o e with h | h
  ·exact a.new c o h
  ·exact .inr (a.all.free h)⟩
theorem Own.grow {d:D} {v:V} {fp:Y2} (g:Grow F H F' H') (h:Own K F H d v fp):Own K F' H' d v fp:=by
 refine Own.keep g.fr d (fun a ha=>?_) h
 obtain ⟨h1,xs,h2⟩:=Own.zone d h a ha
 refine ⟨?_,(g.all a _ h2).trans h2.symm⟩
 cases e:F' a with
 | none=>rfl
 | some o =>
  rcases g.new a o e with q | q
  ·rw [h1] at q;cases q
  ·rw [h2] at q;cases q
theorem aJ.grow {ds:List D} {vs:List V} {fp:Y2} (g:Grow F H F' H') (h:aJ K F H ds vs fp):aJ K F' H' ds vs fp:=by
 refine aJ.keep g.fr ds (fun a ha=>?_) h
 obtain ⟨h1,xs,h2⟩:=aJ.zone ds h a ha
 refine ⟨?_,(g.all a _ h2).trans h2.symm⟩
 cases e:F' a with
 | none=>rfl
 | some o =>
  rcases g.new a o e with q | q
  ·rw [h1] at q;cases q
  ·rw [h2] at q;cases q
theorem Same.upd {p:Addr} {o:HO} (h:H p=none):Same H (upd H p o):=fun b u e=>by
 rw [aU (bX e h)];exact e
theorem Grow.both {p:Addr} {o:HO} (hs:Same F H) (h:H p=none):Grow F H (upd F p o) (upd H p o):=by
 refine ⟨Same.upd (hs.free h),Same.upd h,fun b u e=>?_,fun b u e=>?_⟩
 ·by_cases hb:b=p
  ·subst hb;rw [bJ] at e ⊢;exact e
  ·rw [aU hb] at e ⊢;exact hs b u e
 ·by_cases hb:b=p
  ·subst hb;exact .inr h
  ·rw [aU hb] at e;exact .inl e
theorem Grow.one {p:Addr} {o:HO} (hs:Same F H) (h:H p=none):Grow F H F (upd H p o) :=
 ⟨Same.refl _,Same.upd h,fun b u e=>by rw [aU (bX (hs b u e) h)];exact hs b u e,fun _ _ e=>.inl e⟩
def gD (F H:Hp) (fp:Y2):Hp:=fun b=>if b∈fp then H b else F b
theorem eT {fp:Y2} (h:∀a∈fp,F a=none):Same F (gD F H fp):=fun b o e=>by
 unfold gD
 rw [if_neg fun hb=>by rw [h b hb] at e;cases e];exact e
theorem oB {fp:Y2} (hs:Same F H):Same (gD F H fp) H:=fun b o e=>by
 unfold gD at e
 split at e
 ·exact e
 ·exact hs b o e
mutual
theorem Own.freeze {fp:Y2} (hz:∀a∈fp,F a=none):∀(d:D) {v:V} {f:Y2},(∀a∈f,a∈fp)->Own K F H d v f->Own K (gD F H fp) H d.frz v []
 | .non,_,_,_,h=>by unfold Own at h;unfold D.frz Own;exact ⟨h.1,rfl⟩
 | .bl _,_,_,_,h=>by unfold Own at h;unfold D.frz Own;exact ⟨h.1,rfl⟩
 | .int _,_,_,_,h=>by unfold Own at h;unfold D.frz Own;exact ⟨h.1,rfl⟩
 | .str _,_,_,_,h=>by unfold Own at h;unfold D.frz Own;exact ⟨h.1,rfl⟩
 | .fn _,_,_,_,h=>by unfold Own at h;unfold D.frz Own;exact ⟨h.1,rfl⟩
 | .tup ds,_,_,_,h=>by
  unfold Own at h;unfold D.frz Own
  obtain ⟨e,a,xs,e1,q,r⟩:=h
  exact ⟨rfl,a,xs,e1,Same.tqT (eT hz) q,aJ.freeze hz ds (by simp) r⟩
 | .lst o ds,v,f,hf,h=>by
  unfold Own at h;unfold D.frz Own
  obtain ⟨a,xs,fq,e1,r,h⟩:=h
  rcases h with ⟨o1,h1,h2,h3⟩ | ⟨o1,h1,h2,h3⟩
  ·subst h3
   refine ⟨a,xs,[],e1,aJ.freeze hz ds (fun b hb=>hf b (List.mem_cons_of_mem _ hb)) r,.inr ⟨rfl,.inl ?_,rfl,rfl⟩⟩
   unfold gD;rw [if_pos (hf a List.mem_cons_self)];exact h2
  ·subst h2
   exact ⟨a,xs,[],e1,aJ.freeze hz ds (by simp) r,.inr ⟨rfl,Same.rd (eT hz) h1,rfl,rfl⟩⟩
 | .ext o t,v,f,hf,h=>by
  unfold Own at h;unfold D.frz Own
  obtain ⟨a,u,e1,tg,h⟩:=h
  rcases h with ⟨o1,h1,h2,h3⟩ | ⟨o1,h1,h3⟩
  ·subst h3
   refine ⟨a,u,e1,tg.mono (eT hz),.inr ⟨rfl,?_,rfl⟩⟩
   unfold gD;rw [if_pos (hf a List.mem_cons_self)];exact h2
  ·exact ⟨a,u,e1,tg.mono (eT hz),.inr ⟨rfl,eT hz _ _ h1,rfl⟩⟩
theorem aJ.freeze {fp:Y2} (hz:∀a∈fp,F a=none):∀(ds:List D) {vs:List V} {f:Y2},(∀a∈f,a∈fp)->aJ K F H ds vs f->aJ K (gD F H fp) H (D.frzs ds) vs []
 | [],_,_,_,h=>by unfold aJ at h;unfold D.frzs aJ;exact ⟨h.1,rfl⟩
 | d::ds,vs,f,hf,h=>by
  unfold aJ at h;unfold D.frzs aJ
  obtain ⟨v,r,f1,f2,e,h1,h2,e2⟩:=h
  subst e2
  exact ⟨v,r,[],[],e,Own.freeze hz d (fun b hb=>hf b (List.mem_append_left _ hb)) h1,aJ.freeze hz ds (fun b hb=>hf b (List.mem_append_right _ hb)) h2,rfl⟩
end
mutual
theorem D.frz_calm:∀d:D,d.calm=true->d.frz=d
 | .non,_=>rfl | .bl _,_=>rfl | .int _,_=>rfl | .str _,_=>rfl | .fn _,_=>rfl
 | .tup ds,h=>by unfold D.frz;rw [D.frzs_calm ds (by simpa [D.calm] using h)]
 | .lst o ds,h=>by
  simp only [D.calm,Bool.and_eq_true,Bool.not_eq_true'] at h
  unfold D.frz;rw [D.frzs_calm ds h.2,h.1]
 | .ext o t,h=>by
  simp only [D.calm,Bool.not_eq_true'] at h
  unfold D.frz;rw [h]
theorem D.frzs_calm:∀ds:List D,D.bS ds=true->D.frzs ds=ds
 | [],_=>rfl
 | d::ds,h=>by
  simp only [D.bS,Bool.and_eq_true] at h
  unfold D.frzs;rw [D.frz_calm d h.1,D.frzs_calm ds h.2]
end
end
inductive Slot where
 | un | val (d:D) | pin (d:D)
 deriving Inhabited
def Slot.d?:Slot->Option D
 | .un=>none | .val d=>some d | .pin d=>some d
abbrev Env:=List Slot
structure Sim (K:FG) (F H:Hp) (σ:St) (ρ:Env) (fps:Y5):Prop where
 same:Same F H
 ls:σ.length=ρ.length
 lf:fps.length=ρ.length
 at_:∀(i:Nat) (s:Slot) (d:D),ρ[i]?=some s->s.d?=some d->∃v fp,σ[i]?=some (some v)/\fps[i]?=some fp/\Own K F H d v fp
 nd:fps.flatten.Nodup
 zone:∀a∈fps.flatten,F a=none/\H a ≠ none
section
variable {K:FG} {F H F' H':Hp} {σ:St} {ρ:Env} {fps:Y5}
theorem Sim.grow (S:Sim K F H σ ρ fps) (g:Grow F H F' H'):Sim K F' H' σ ρ fps:=by
 refine ⟨g.inn,S.ls,S.lf,fun i s d e1 e2=>?_,S.nd,fun a ha=>?_⟩
 ·obtain ⟨v,fp,h1,h2,h3⟩:=S.at_ i s d e1 e2
  exact ⟨v,fp,h1,h2,h3.grow g⟩
 ·obtain ⟨h1,h2⟩:=S.zone a ha
  constructor
  ·cases e:F' a with
   | none=>rfl
   | some o =>
    rcases g.new a o e with q | q
    ·rw [h1] at q;cases q
    ·exact absurd q h2
  ·intro e
   exact h2 (g.all.free e)
end
structure Evo (F H:Hp) (Z:Y2) (F' H':Hp) (Z':Y2):Prop where
 fr:Same F F'
 keep:∀b o,H b=some o->b ∉ Z->H' b=some o
 dom:∀b,H' b=none->H b=none
 new:∀b o,F' b=some o->F b=some o\/H b=none\/b∈Z
 zone:∀b∈Z',b∈Z\/H b=none
section
variable {F H F' H' F1 H1:Hp} {Z Z' Z1:Y2}
theorem Evo.refl:Evo F H Z F H Z:=⟨Same.refl _,fun _ _ e _=>e,fun _ e=>e,fun _ _ e=>.inl e,fun _ h=>.inl h⟩
theorem Evo.trans (a:Evo F H Z F1 H1 Z1) (b:Evo F1 H1 Z1 F' H' Z'):Evo F H Z F' H' Z':=by
 refine ⟨a.fr.trans b.fr,fun c o e hc=>?_,fun c e=>a.dom c (b.dom c e),fun c o e=>?_,fun c hc=>?_⟩
 ·refine b.keep c o (a.keep c o e hc) fun hz=>?_
  rcases a.zone c hz with h | h
  ·exact hc h
  ·rw [h] at e;cases e
 ·rcases b.new c o e with h | h | h
  ·exact a.new c o h
  ·exact .inr (.inl (a.dom c h))
  ·rcases a.zone c h with h | h
   ·exact .inr (.inr h)
   ·exact .inr (.inl h)
 ·rcases b.zone c hc with h | h
  ·exact a.zone c h
  ·exact .inr (a.dom c h)
theorem Grow.evo (g:Grow F H F' H'):Evo F H Z F' H' Z :=
 ⟨g.fr,fun b o e _=>g.all b o e,fun _ e=>g.all.free e,fun b o e=>(g.new b o e).elim .inl fun h=>.inr (.inl h),fun _ h=>.inl h⟩
end
end VL
end
section
namespace VL
open PySem L2
def R.holds {α:Type} (x:R α) (P:α->Prop):Prop:=match x with
 | .ok a=>P a | _=>False
theorem R.aW {α β:Type} {x:R α} {f:α->R β} {P:β->Prop}:(x.bind f).holds P ↔ x.holds fun a=>(f a).holds P:=by
 cases x<;>exact Iff.rfl
theorem R.aP {α:Type} {x:R α} {P Q:α->Prop} (h:x.holds P) (k:∀a,P a->Q a):x.holds Q:=by
 cases x with
 | ok a=>exact k a h
 | exc _=>exact h.elim
 | bad=>exact h.elim
theorem R.holds_of {α:Type} {x:Option α} {P:α->Prop} (h:(R.of x).holds P):∃a,x=some a/\P a:=by
 cases x with
 | none=>exact h.elim
 | some a=>exact ⟨a,rfl,h⟩
def R.hx {α:Type} (x:R α) (P:α->Prop) (W:Str->Prop):Prop:=match x with
 | .ok a=>P a | .exc c=>W c | .bad=>False
theorem R.aQm {α:Type} {x:R α} {P:α->Prop} {W:Str->Prop} (h:x.holds P):x.hx P W:=by
 cases x with
 | ok a=>exact h
 | exc _=>exact h.elim
 | bad=>exact h.elim
abbrev aR:=Env->R (D×Bool)
abbrev dC:=Env->R Bool
abbrev cH:=Env->R (List (D×Bool))
def EPost (K:FG) (F H:Hp) (Q:VK) (x:D×Bool):Prop :=
 ∀v F' H' fp,Grow F H F' H'->Own K F' H' x.1 v fp->fp.Nodup->(x.2=true->∀b∈fp,H b=none)->Q v H'
def aCq (F H:Hp) (Q:Bool->Hp->Prop) (x:Bool):Prop:=∀F' H',Grow F H F' H'->Q x H'
def Args (K:FG) (F H:Hp):List (D×Bool)->List V->Y2->Prop
 | [],vs,fa=>vs=[]/\fa=[]
 | x::xs,vs,fa=>∃v r fp f2,vs=v::r/\Own K F H x.1 v fp/\fp.Nodup/\Args K F H xs r f2/\((x.2=true/\fa=fp++f2)\/(x.2=false/\fa=f2))
def zN (K:FG) (F H:Hp) (Q:List V->Hp->Prop) (xs:List (D×Bool)):Prop :=
 ∀vs F' H' fa,Grow F H F' H'->Args K F' H' xs vs fa->fa.Nodup->(∀b∈fa,H b=none)->Q vs H'
def tv (K:FG) (f:aR):TE:=fun σ H Q=>∃ρ F fps,Sim K F H σ ρ fps/\(f ρ).holds (EPost K F H Q)
def tvT (K:FG) (f:dC):TT:=fun σ H Q=>∃ρ F fps,Sim K F H σ ρ fps/\(f ρ).holds (aCq F H Q)
def tvA (K:FG) (f:cH):TA:=fun σ H Q=>∃ρ F fps,Sim K F H σ ρ fps/\(f ρ).holds (zN K F H Q)
section
variable {K:FG} {F H F' H':Hp} {σ:St} {Q:VK}
theorem EPost.lift {x:D×Bool} (g:Grow F H F' H') (h:EPost K F H Q x):EPost K F' H' Q x:=fun v F2 H2 fp g2 o n k =>
 h v F2 H2 fp (g.trans g2) o n fun e b hb=>g.all.free (k e b hb)
theorem aCq.lift {Q:Bool->Hp->Prop} {x:Bool} (g:Grow F H F' H') (h:aCq F H Q x):aCq F' H' Q x:=fun F2 H2 g2=>h F2 H2 (g.trans g2)
def aC (i:Nat):aR:=fun ρ=>match ρ[i]? with
 | some (.val d)=>.ok (d,false) | some (.pin d)=>.ok (d,false) | _=>.bad
theorem Sim.sub {ρ:Env} {fps:Y5} (S:Sim K F H σ ρ fps) {i:Nat} {fp:Y2} (e:fps[i]?=some fp):fp.Nodup:=by
 have:fp∈fps:=List.mem_of_getElem? e
 exact (List.sublist_flatten_of_mem this).nodup S.nd
theorem aS4 {i:Nat} (h:tv K (aC i) σ H Q):tU i σ H Q:=by
 obtain ⟨ρ,F,fps,S,h⟩:=h
 unfold aC at h
 cases e:ρ[i]? with
 | none=>rw [e] at h;exact h.elim
 | some s =>
  rw [e] at h
  cases s with
  | un=>exact h.elim
  | val d =>
   obtain ⟨v,fp,h1,h2,h3⟩:=S.at_ i _ d e rfl
   exact ⟨v,h1,h v F H fp (Grow.refl S.same) h3 (S.sub h2) (fun z=>by cases z)⟩
  | pin d =>
   obtain ⟨v,fp,h1,h2,h3⟩:=S.at_ i _ d e rfl
   exact ⟨v,h1,h v F H fp (Grow.refl S.same) h3 (S.sub h2) (fun z=>by cases z)⟩
def vC (d:D):aR:=fun _=>.ok (d,true)
def fH:D->Option V
 | .non=>some .non | .bl b=>some (.bl b) | .int i=>some (.int i) | .str x=>some (.str x) | _=>none
theorem gI {d:D} {v:V} (e:fH d=some v):Own K F H d v []:=by
 cases d<;>simp [fH] at e<;>subst e<;>unfold Own<;>exact ⟨rfl,rfl⟩
theorem rF {d:D} {v u:V} {fp:Y2} (e:fH d=some v) (o:Own K F H d u fp):u=v/\fp=[]:=by
 cases d<;>simp [fH] at e<;>subst e<;>unfold Own at o<;>exact o
theorem EPost.bBj {d:D} {v:V} {b:Bool} (hs:Same F H) (h:EPost K F H Q (d,b)) (e:fH d=some v):Q v H :=
 h v F H [] (Grow.refl hs) (gI e) List.nodup_nil fun _ _ hb=>by cases hb
theorem EPost.fD {F0 H0:Hp} {d:D} {v:V} {b:Bool} (g:Grow F0 H0 F H) (h:EPost K F0 H0 Q (d,b)) (e:fH d=some v):Q v H :=
 h v F H [] g (gI e) List.nodup_nil fun _ _ hb=>by cases hb
theorem aGa {d:D} {v:V} (e:fH d=some v) (h:tv K (vC d) σ H Q):tC v σ H Q:=by
 obtain ⟨ρ,F,fps,S,h⟩:=h
 exact EPost.bBj S.same h e
def v2 (k:D×Bool->D×Bool->R (D×Bool)) (f h:aR):aR:=fun ρ=>(f ρ).bind fun x=>(h ρ).bind fun y=>k x y
def Op2 (K:FG) (k:D×Bool->D×Bool->R (D×Bool)) (r:R2):Prop :=
 ∀(F0 H0 F H:Hp) (x y:D×Bool) (v u:V) (fx fy:Y2) (Q:VK),Grow F0 H0 F H->Own K F H x.1 v fx->fx.Nodup->(x.2=true->∀b∈fx,H0 b=none) ->
  Own K F H y.1 u fy->fy.Nodup->(y.2=true->∀b∈fy,H0 b=none)->(k x y).holds (EPost K F0 H0 Q)->r v u H Q
theorem aCf {k:D×Bool->D×Bool->R (D×Bool)} {r:R2} (hr:Op2 K k r) {f g:aR} (h:tv K (v2 k f g) σ H Q):tOp r (tv K f) (tv K g) σ H Q:=by
 obtain ⟨ρ,F,fps,S,h⟩:=h
 refine ⟨ρ,F,fps,S,R.aP (R.aW.mp h) fun x hx v F1 H1 fx g1 o1 n1 k1=>?_⟩
 refine ⟨ρ,F1,fps,S.grow g1,R.aP (R.aW.mp hx) fun y hy u F2 H2 fy g2 o2 n2 k2=>?_⟩
 exact hr F H F2 H2 x y v u fx fy Q (g1.trans g2) (o1.grow g2) n1 k1 o2 n2 (fun e b hb=>g1.all.free (k2 e b hb)) hy
def v1 (k:D×Bool->R (D×Bool)) (f:aR):aR:=fun ρ=>(f ρ).bind k
def Op1 (K:FG) (k:D×Bool->R (D×Bool)) (r:V->Hp->VK->Prop):Prop :=
 ∀(F0 H0 F H:Hp) (x:D×Bool) (v:V) (fx:Y2) (Q:VK),Grow F0 H0 F H->Own K F H x.1 v fx->fx.Nodup->(x.2=true->∀b∈fx,H0 b=none) ->
  (k x).holds (EPost K F0 H0 Q)->r v H Q
theorem aYi {k:D×Bool->R (D×Bool)} {r:V->Hp->VK->Prop} (hr:Op1 K k r) {f:aR} (h:tv K (v1 k f) σ H Q):tUn r (tv K f) σ H Q:=by
 obtain ⟨ρ,F,fps,S,h⟩:=h
 exact ⟨ρ,F,fps,S,R.aP (R.aW.mp h) fun x hx v F1 H1 fx g1 o1 n1 k1=>hr F H F1 H1 x v fx Q g1 o1 n1 k1 hx⟩
def kI (g:Int->Int->D):D×Bool->D×Bool->R (D×Bool):=fun x y=>match x.1,y.1 with
 | .int i,.int j=>.ok (g i j,true) | _,_=>.bad
def kIc (c:Int->Int->Bool) (g:Int->Int->D):D×Bool->D×Bool->R (D×Bool):=fun x y=>match x.1,y.1 with
 | .int i,.int j=>if c i j=true then .ok (g i j,true) else .bad | _,_=>.bad
theorem uC {g:Int->Int->D} {g':Int->Int->V} (e:∀i j,fH (g i j)=some (g' i j)):Op2 K (kI g) (rI0 g'):=by
 intro F0 H0 F H x y v u fx fy Q gr o1 n1 k1 o2 n2 k2 h
 obtain ⟨x,bx⟩:=x
 obtain ⟨y,by'⟩:=y
 cases x<;>try exact h.elim
 cases y<;>try exact h.elim
 rename_i i j
 unfold Own at o1 o2
 exact ⟨i,j,o1.1,o2.1,EPost.fD gr h (e i j)⟩
theorem aA9 {c:Int->Int->Bool} {C:Int->Int->Prop} {g:Int->Int->D} {g':Int->Int->V} (e:∀i j,fH (g i j)=some (g' i j)) (hc:∀i j,c i j=true->C i j):Op2 K (kIc c g) (rI C g'):=by
 intro F0 H0 F H x y v u fx fy Q gr o1 n1 k1 o2 n2 k2 h
 obtain ⟨x,bx⟩:=x
 obtain ⟨y,by'⟩:=y
 cases x<;>try exact h.elim
 cases y<;>try exact h.elim
 rename_i i j
 unfold Own at o1 o2
 have h:(if c i j=true then R.ok (g i j,true) else R.bad).holds (EPost K F0 H0 Q):=h
 by_cases hcc:c i j=true
 ·rw [if_pos hcc] at h
  exact ⟨i,j,o1.1,o2.1,hc i j hcc,EPost.fD gr h (e i j)⟩
 ·rw [if_neg hcc] at h;exact h.elim
def kU (g:Int->D):D×Bool->R (D×Bool):=fun x=>match x.1 with
 | .int i=>.ok (g i,true) | _=>.bad
theorem aXa {g:Int->D} {g':Int->V} (e:∀i,fH (g i)=some (g' i)):Op1 K (kU g) (rU g'):=by
 intro F0 H0 F H x v fx Q gr o1 n1 k1 h
 obtain ⟨x,bx⟩:=x
 cases x<;>try exact h.elim
 rename_i i
 unfold Own at o1
 exact ⟨i,o1.1,EPost.fD gr h (e i)⟩
theorem Own.aOt {o:Bool} {ds:List D} {v:V} {fp:Y2} (g:Same F H) (h:Own K F H (.lst o ds) v fp):∃a xs fq,v=.ref a/\Rd H a (.lst xs)/\aJ K F H ds xs fq/\fq.Sublist fp:=by
 unfold Own at h
 obtain ⟨a,xs,fq,e1,r,h⟩:=h
 rcases h with ⟨o1,h1,h2,h3⟩ | ⟨o1,h1,h2,h3⟩
 ·subst h3
  exact ⟨a,xs,fq,e1,.inl h2,r,List.sublist_cons_self _ _⟩
 ·subst h2;subst h3
  exact ⟨a,xs,[],e1,Same.rd g h1,r,List.Sublist.refl _⟩
theorem Own.lst {o:Bool} {ds:List D} {v:V} {fp:Y2} (g:Same F H) (h:Own K F H (.lst o ds) v fp):∃a xs fq,v=.ref a/\SqL K H a xs/\aJ K F H ds xs fq/\fq.Sublist fp:=by
 obtain ⟨a,xs,fq,e,q,r⟩:=Own.aOt g h
 exact ⟨a,xs,fq,e,.inl q,r⟩
theorem Own.tup {ds:List D} {v:V} {fp:Y2} (g:Same F H) (h:Own K F H (.tup ds) v fp):∃a xs,v=.ref a/\SqT K H a xs/\aJ K F H ds xs []/\fp=[]:=by
 unfold Own at h
 obtain ⟨e,a,xs,e1,q,r⟩:=h
 exact ⟨a,xs,e1,Same.aA1 g q,r,e⟩
theorem aJ.atI {ds:List D} {vs:List V} {fp:Y2} {i:Int} {d:D} (h:aJ K F H ds vs fp) (e:L2.atI ds i=some d):∃v f,L2.atI vs i=some v/\Own K F H d v f/\f.Sublist fp:=by
 unfold L2.atI at e ⊢
 rw [<- aJ.length ds h]
 cases q:ixN ds.length i with
 | none=>rw [q] at e;cases e
 | some j =>
  rw [q] at e
  exact aJ.get ds h e
def kIx:D×Bool->D×Bool->R (D×Bool):=fun x y=>match x.1,y.1 with
 | .lst _ ds,.int i=>R.of ((atI ds i).map (·,x.2)) | .tup ds,.int i=>R.of ((atI ds i).map (·,x.2)) | _,_=>.bad
theorem aQp:Op2 K kIx (fun v u H Q=>aMp K v u H Q\/aQ1 K v u H Q):=by
 intro F0 H0 F H x y v u fx fy Q gr o1 n1 k1 o2 n2 k2 h
 obtain ⟨x,bx⟩:=x
 obtain ⟨y,by'⟩:=y
 cases x<;>try exact h.elim
 ·rename_i ds
  cases y<;>try exact h.elim
  rename_i i
  obtain ⟨a,xs,e1,q,r,e2⟩:=Own.tup gr.inn o1
  unfold Own at o2
  obtain ⟨z,ez,h⟩:=R.holds_of h
  cases ed:atI ds i with
  | none=>rw [ed] at ez;cases ez
  | some d =>
   rw [ed] at ez;cases ez
   obtain ⟨w,f,q1,q2,q3⟩:=aJ.atI r ed
   have:f=[]:=List.sublist_nil.mp q3
   subst this
   exact .inr ⟨a,xs,i,w,e1,o2.1,q,q1,h w F H [] gr q2 List.nodup_nil fun _ _ hb=>by cases hb⟩
 ·rename_i o ds
  cases y<;>try exact h.elim
  rename_i i
  obtain ⟨a,xs,fq,e1,q,r,e2⟩:=Own.lst gr.inn o1
  unfold Own at o2
  obtain ⟨z,ez,h⟩:=R.holds_of h
  cases ed:atI ds i with
  | none=>rw [ed] at ez;cases ez
  | some d =>
   rw [ed] at ez;cases ez
   obtain ⟨w,f,q1,q2,q3⟩:=aJ.atI r ed
   have hs:f.Sublist fx:=q3.trans e2
   exact .inl ⟨a,xs,i,w,e1,o2.1,q,q1,h w F H f gr q2 (hs.nodup n1) fun e b hb=>k1 e b (hs.subset hb)⟩
def aE:cH:=fun _=>.ok []
def aA (f:aR) (g:cH):cH:=fun ρ=>(f ρ).bind fun x=>(g ρ).bind fun xs=>.ok (x::xs)
theorem aMy {Q:List V->Hp->Prop} (h:tvA K aE σ H Q):aBl σ H Q:=by
 obtain ⟨ρ,F,fps,S,h⟩:=h
 exact h [] F H [] (Grow.refl S.same) (by unfold Args;exact ⟨rfl,rfl⟩) List.nodup_nil fun _ hb=>by cases hb
theorem aF3 {f:aR} {g:cH} {Q:List V->Hp->Prop} (h:tvA K (aA f g) σ H Q):qH (tv K f) (tvA K g) σ H Q:=by
 obtain ⟨ρ,F,fps,S,h⟩:=h
 refine ⟨ρ,F,fps,S,R.aP (R.aW.mp h) fun x hx v F1 H1 fx g1 o1 n1 k1=>?_⟩
 refine ⟨ρ,F1,fps,S.grow g1,R.aP (R.aW.mp hx) fun xs hy vs F2 H2 fa g2 o2 n2 k2=>?_⟩
 have hy:zN K F H Q (x::xs):=hy
 have zo:=Own.zone x.1 o1
 cases e:x.2 with
 | true =>
  refine hy (v::vs) F2 H2 (fx++fa) (g1.trans g2) ?_ ?_ ?_
  ·unfold Args
   exact ⟨v,vs,fx,fa,rfl,o1.grow g2,n1,o2,.inl ⟨e,rfl⟩⟩
  ·refine List.nodup_append.mpr ⟨n1,n2,fun a ha b hb z=>?_⟩
   subst z
   obtain ⟨_,ys,q⟩:=zo a ha
   rw [k2 a hb] at q;cases q
  ·intro b hb
   rcases List.mem_append.mp hb with hb | hb
   ·exact k1 e b hb
   ·exact g1.all.free (k2 b hb)
 | false =>
  refine hy (v::vs) F2 H2 fa (g1.trans g2) ?_ n2 fun b hb=>g1.all.free (k2 b hb)
  unfold Args
  exact ⟨v,vs,fx,fa,rfl,o1.grow g2,n1,o2,.inr ⟨e,rfl⟩⟩
def aS (x:D×Bool):Bool:=x.2 || x.1.calm
theorem Args.aJz:∀(xs:List (D×Bool)) {vs:List V} {fa:Y2},xs.all aS=true->Args K F H xs vs fa->aJ K F H (xs.map (·.1)) vs fa
 | [],_,_,_,h=>by unfold Args at h;rw [h.1,h.2];exact aJ.nil
 | x::xs,vs,fa,hk,h=>by
  unfold Args at h
  obtain ⟨v,r,fp,f2,e,o,n,t,w⟩:=h
  rw [List.all_cons,Bool.and_eq_true] at hk
  subst e
  rw [List.map_cons]
  rcases w with ⟨_,w⟩ | ⟨e,w⟩
  ·subst w;exact aJ.cons o (Args.aJz xs hk.2 t)
  ·subst w
   have hc:x.1.calm=true:=by have:=hk.1;unfold aS at this;rw [e] at this;exact this
   have:fp=[]:=Own.dU x.1 hc o
   subst this
   exact aJ.cons o (Args.aJz xs hk.2 t)
theorem Args.length:∀(xs:List (D×Bool)) {vs:List V} {fa:Y2},Args K F H xs vs fa->xs.length=vs.length
 | [],_,_,h=>by unfold Args at h;rw [h.1];rfl
 | x::xs,vs,fa,h=>by
  unfold Args at h
  obtain ⟨v,r,fp,f2,e,o,n,t,w⟩:=h
  rw [e,List.length_cons,List.length_cons,Args.length xs t]
def cN (g:cH):aR:=fun ρ=>(g ρ).bind fun xs=>if xs.all aS && decide (xs.length<=1000000) then .ok (.lst true (xs.map (·.1)),true) else .bad
def cQ (g:cH):aR:=fun ρ=>(g ρ).bind fun xs=>if xs.all aS && decide (xs.length<=1000000) then .ok (.tup (D.frzs (xs.map (·.1))),true) else .bad
theorem iG {n:Nat} (h:n<=1000000):n<=sizeLine:=Nat.le_trans h (by decide)
theorem wZ {ds:List D} {xs:List V} {fa:Y2} {p:Addr} (hs:Same F H) (h:H p=none) (o:aJ K F H ds xs fa):Own K F (upd H p (.lst xs)) (.lst true ds) (.ref p) (p::fa):=by
 unfold Own
 exact ⟨p,xs,fa,rfl,o.grow (Grow.one hs h),.inl ⟨rfl,hs.free h,bJ,rfl⟩⟩
theorem aD1 {ds:List D} {xs:List V} {fa:Y2} {p:Addr} (h:H p=none) (o:aJ K F H ds xs fa) (n:fa.Nodup):(p::fa).Nodup:=by
 refine List.nodup_cons.mpr ⟨fun hp=>?_,n⟩
 obtain ⟨_,ys,q⟩:=aJ.zone ds o p hp
 rw [h] at q;cases q
theorem aQr {g:cH} (h:tv K (cN g) σ H Q):aQ2 (tvA K g) σ H Q:=by
 obtain ⟨ρ,F,fps,S,h⟩:=h
 refine ⟨ρ,F,fps,S,R.aP (R.aW.mp h) fun xs hx vs F1 H1 fa g1 o1 n1 k1=>?_⟩
 by_cases hc:(xs.all aS && decide (xs.length<=1000000))=true
 ·rw [if_pos hc] at hx
  rw [Bool.and_eq_true,decide_eq_true_iff] at hc
  have o2:=Args.aJz xs hc.1 o1
  refine ⟨iG (by rw [<- Args.length xs o1];exact hc.2),fun p hp=>?_⟩
  refine hx (.ref p) F1 _ (p::fa) (g1.trans (Grow.one g1.inn hp)) (wZ g1.inn hp o2) (aD1 hp o2 n1) fun _ b hb=>?_
  rcases List.mem_cons.mp hb with rfl | hb
  ·exact g1.all.free hp
  ·exact k1 b hb
 ·rw [if_neg hc] at hx;exact hx.elim
theorem Grow.frz {fa:Y2} (g:Grow F H F' H') (k:∀b∈fa,H b=none) (z:∀b∈fa,F' b=none):Grow F H (gD F' H' fa) H' :=
 ⟨g.fr.trans (eT z),g.all,oB g.inn,fun b o e=>by
  unfold gD at e
  split at e
  ·rename_i hb;exact .inr (k b hb)
  ·exact g.new b o e⟩
theorem aQu {g:cH} (h:tv K (cQ g) σ H Q):aV9 (tvA K g) σ H Q:=by
 obtain ⟨ρ,F,fps,S,h⟩:=h
 refine ⟨ρ,F,fps,S,R.aP (R.aW.mp h) fun xs hx vs F1 H1 fa g1 o1 n1 k1=>?_⟩
 by_cases hc:(xs.all aS && decide (xs.length<=1000000))=true
 ·rw [if_pos hc] at hx
  rw [Bool.and_eq_true,decide_eq_true_iff] at hc
  have o2:=Args.aJz xs hc.1 o1
  have z:∀b∈fa,F1 b=none:=fun b hb=>(aJ.zone _ o2 b hb).1
  have g2:=g1.frz k1 z
  have o3:aJ K (gD F1 H1 fa) H1 (D.frzs (xs.map (·.1))) vs []:=aJ.freeze z _ (fun a ha=>ha) o2
  refine ⟨iG (by rw [<- Args.length xs o1];exact hc.2),fun p hp=>?_⟩
  have g3:Grow (gD F1 H1 fa) H1 (upd (gD F1 H1 fa) p (.tup vs)) (upd H1 p (.tup vs)):=Grow.both g2.inn hp
  refine hx (.ref p) _ _ [] (g2.trans g3) ?_ List.nodup_nil fun _ b hb=>by cases hb
  unfold Own
  exact ⟨rfl,p,vs,rfl,TqT.of bJ,o3.grow g3⟩
 ·rw [if_neg hc] at hx;exact hx.elim
def aN (f:aR):dC:=fun ρ=>(f ρ).bind fun x=>match x.1 with | .bl b=>.ok b | _=>.bad
theorem aGo {f:aR} {Q:Bool->Hp->Prop} (h:tvT K (aN f) σ H Q):aDg (tv K f) σ H Q:=by
 obtain ⟨ρ,F,fps,S,h⟩:=h
 refine ⟨ρ,F,fps,S,R.aP (R.aW.mp h) fun x hx v F1 H1 fx g1 o1 n1 k1=>?_⟩
 obtain ⟨x,b⟩:=x
 cases x<;>try exact hx.elim
 rename_i c
 unfold Own at o1
 exact ⟨c,o1.1,hx F1 H1 g1⟩
def cZ (f g:dC):dC:=fun ρ=>(f ρ).bind fun c=>if c=true then g ρ else .ok false
def gR (f g:dC):dC:=fun ρ=>(f ρ).bind fun c=>if c=true then .ok true else g ρ
def dA (f:dC):dC:=fun ρ=>(f ρ).bind fun c=>.ok (!c)
theorem aL0 {f g:dC} {Q:Bool->Hp->Prop} (h:tvT K (cZ f g) σ H Q):aXt (tvT K f) (tvT K g) σ H Q:=by
 obtain ⟨ρ,F,fps,S,h⟩:=h
 refine ⟨ρ,F,fps,S,R.aP (R.aW.mp h) fun c hx F1 H1 g1=>?_⟩
 cases c with
 | true=>rw [if_pos rfl] at hx ⊢;exact ⟨ρ,F1,fps,S.grow g1,R.aP hx fun b hb=>hb.lift g1⟩
 | false=>rw [if_neg Bool.false_ne_true] at hx ⊢;exact hx F1 H1 g1
theorem aUy {f g:dC} {Q:Bool->Hp->Prop} (h:tvT K (gR f g) σ H Q):tOr (tvT K f) (tvT K g) σ H Q:=by
 obtain ⟨ρ,F,fps,S,h⟩:=h
 refine ⟨ρ,F,fps,S,R.aP (R.aW.mp h) fun c hx F1 H1 g1=>?_⟩
 cases c with
 | false=>rw [if_neg Bool.false_ne_true] at hx ⊢;exact ⟨ρ,F1,fps,S.grow g1,R.aP hx fun b hb=>hb.lift g1⟩
 | true=>rw [if_pos rfl] at hx ⊢;exact hx F1 H1 g1
theorem aNn {f:dC} {Q:Bool->Hp->Prop} (h:tvT K (dA f) σ H Q):aVi (tvT K f) σ H Q:=by
 obtain ⟨ρ,F,fps,S,h⟩:=h
 exact ⟨ρ,F,fps,S,R.aP (R.aW.mp h) fun c hx F1 H1 g1=>hx F1 H1 g1⟩
def vIf (c:dC) (f g:aR):aR:=fun ρ=>(c ρ).bind fun b=>if b=true then f ρ else g ρ
theorem aWr {c:dC} {f g:aR} (h:tv K (vIf c f g) σ H Q):tIf (tvT K c) (tv K f) (tv K g) σ H Q:=by
 obtain ⟨ρ,F,fps,S,h⟩:=h
 refine ⟨ρ,F,fps,S,R.aP (R.aW.mp h) fun c hx F1 H1 g1=>?_⟩
 cases c with
 | true=>rw [if_pos rfl] at hx ⊢;exact ⟨ρ,F1,fps,S.grow g1,R.aP hx fun b hb=>hb.lift g1⟩
 | false=>rw [if_neg Bool.false_ne_true] at hx ⊢;exact ⟨ρ,F1,fps,S.grow g1,R.aP hx fun b hb=>hb.lift g1⟩
def wY (f g:aR):aR:=fun ρ=>(f ρ).bind fun x=>match x.1 with | .bl true=>g ρ | .bl false=>.ok (.bl false,true) | _=>.bad
def vOr (f g:aR):aR:=fun ρ=>(f ρ).bind fun x=>match x.1 with | .bl false=>g ρ | .bl true=>.ok (.bl true,true) | _=>.bad
def aMe:D×Bool->R (D×Bool):=fun x=>match x.1 with | .bl b=>.ok (.bl (!b),true) | _=>.bad
theorem aUr {f g:aR} (h:tv K (wY f g) σ H Q):aQf (tv K f) (tv K g) σ H Q:=by
 obtain ⟨ρ,F,fps,S,h⟩:=h
 refine ⟨ρ,F,fps,S,R.aP (R.aW.mp h) fun x hx v F1 H1 fx g1 o1 n1 k1=>?_⟩
 obtain ⟨x,b⟩:=x
 cases x<;>try exact hx.elim
 rename_i c
 unfold Own at o1
 refine ⟨c,o1.1,?_⟩
 cases c with
 | true=>rw [if_pos rfl];exact ⟨ρ,F1,fps,S.grow g1,R.aP hx fun b hb=>hb.lift g1⟩
 | false=>rw [if_neg Bool.false_ne_true];exact EPost.fD g1 hx rfl
theorem aXf {f g:aR} (h:tv K (vOr f g) σ H Q):aXk (tv K f) (tv K g) σ H Q:=by
 obtain ⟨ρ,F,fps,S,h⟩:=h
 refine ⟨ρ,F,fps,S,R.aP (R.aW.mp h) fun x hx v F1 H1 fx g1 o1 n1 k1=>?_⟩
 obtain ⟨x,b⟩:=x
 cases x<;>try exact hx.elim
 rename_i c
 unfold Own at o1
 refine ⟨c,o1.1,?_⟩
 cases c with
 | false=>rw [if_neg Bool.false_ne_true];exact ⟨ρ,F1,fps,S.grow g1,R.aP hx fun b hb=>hb.lift g1⟩
 | true=>rw [if_pos rfl];exact EPost.fD g1 hx rfl
theorem aR3 {f:aR} (h:tv K (v1 aMe f) σ H Q):aPf (tv K f) σ H Q:=by
 obtain ⟨ρ,F,fps,S,h⟩:=h
 refine ⟨ρ,F,fps,S,R.aP (R.aW.mp h) fun x hx v F1 H1 fx g1 o1 n1 k1=>?_⟩
 obtain ⟨x,b⟩:=x
 cases x<;>try exact hx.elim
 rename_i c
 unfold Own at o1
 exact ⟨c,o1.1,EPost.fD g1 hx rfl⟩
def vCB (k:List (D×Bool)->R (D×Bool)) (g:cH):aR:=fun ρ=>(g ρ).bind k
def OpA (K:FG) (k:List (D×Bool)->R (D×Bool)) (r:List V->Hp->VK->Prop):Prop :=
 ∀(F0 H0 F H:Hp) (xs:List (D×Bool)) (vs:List V) (fa:Y2) (Q:VK),Grow F0 H0 F H->Args K F H xs vs fa->fa.Nodup->(∀b∈fa,H0 b=none)->(k xs).holds (EPost K F0 H0 Q)->r vs H Q
theorem aPb {k:List (D×Bool)->R (D×Bool)} {r:List V->Hp->VK->Prop} (hr:OpA K k r) {g:cH} (h:tv K (vCB k g) σ H Q):tCB r (tvA K g) σ H Q:=by
 obtain ⟨ρ,F,fps,S,h⟩:=h
 exact ⟨ρ,F,fps,S,R.aP (R.aW.mp h) fun xs hx vs F1 H1 fa g1 o1 n1 k1=>hr F H F1 H1 xs vs fa Q g1 o1 n1 k1 hx⟩
end
end VL
end
section
namespace VL
open PySem L2
inductive Out where
 | next (ρ:Env) | ret (d:D) (ρ:Env) | brk (ρ:Env) | cont (ρ:Env) | exc (c:Str) (ρ:Env) | bad
abbrev SemS:=Env->Out
abbrev gZ:=Env->R (D×Bool×Env)
def kT (ρ ρ':Env):Prop:=∀(i:Nat) (d:D),ρ[i]?=some (.pin d)->∃d',ρ'[i]?=some (.pin d')
def gG (ρ:Env) (σ:St) (ρ':Env) (σ':St):Prop:=∀(i:Nat) (d:D),ρ[i]?=some (.pin d)->(∃d',ρ'[i]?=some (.pin d'))/\σ'[i]?=σ[i]?
theorem kT.refl (ρ:Env):kT ρ ρ:=fun _ d h=>⟨d,h⟩
theorem kT.trans {ρ ρ1 ρ2:Env} (a:kT ρ ρ1) (b:kT ρ1 ρ2):kT ρ ρ2:=fun i d h=>by
 obtain ⟨d1,h1⟩:=a i d h
 exact b i d1 h1
theorem kT.pins {ρ ρ':Env} {σ:St} (a:kT ρ ρ'):gG ρ σ ρ' σ:=fun i d h=>⟨a i d h,rfl⟩
theorem gG.refl (ρ:Env) (σ:St):gG ρ σ ρ σ:=(kT.refl ρ).pins
theorem gG.trans {ρ ρ1 ρ2:Env} {σ σ1 σ2:St} (a:gG ρ σ ρ1 σ1) (b:gG ρ1 σ1 ρ2 σ2):gG ρ σ ρ2 σ2:=fun i d h=>by
 obtain ⟨⟨d1,h1⟩,e1⟩:=a i d h
 obtain ⟨h2,e2⟩:=b i d1 h1
 exact ⟨h2,e2.trans e1⟩
def fC (K:FG) (F H:Hp) (Z:Y2) (ρ:Env) (σ:St) (P:St->Hp->Prop) (ρ':Env):Prop :=
 ∀σ' F' H' fps',Evo F H Z F' H' fps'.flatten->Sim K F' H' σ' ρ' fps'->gG ρ σ ρ' σ'->P σ' H'
def jV (K:FG) (F H:Hp) (Z:Y2) (ρ:Env) (σ:St) (P:VK) (d:D) (ρ':Env):Prop :=
 ∀r σ' F' H' fps' fr,Evo F H Z F' H' fps'.flatten->Sim K F' H' σ' ρ' fps'->gG ρ σ ρ' σ'->Own K F' H' d r fr->fr.Nodup->(∀b∈fr,b ∉ fps'.flatten/\(b∈Z\/H b=none))->P r H'
abbrev XW:=Str->St->Hp->Prop
def dE (K:FG) (W:XW) (F H:Hp) (Z:Y2) (ρ:Env) (σ:St) (D:Ends):Out->Prop
 | .next ρ'=>fC K F H Z ρ σ D.nx ρ'
 | .ret d ρ'=>jV K F H Z ρ σ D.rt d ρ'
 | .brk ρ'=>fC K F H Z ρ σ D.bk ρ'
 | .cont ρ'=>fC K F H Z ρ σ D.ct ρ'
 | .exc c ρ'=>fC K F H Z ρ σ (W c) ρ'
 | .bad=>False
def sv (K:FG) (W:XW) (g:SemS):TS:=fun D σ H=>∃ρ F fps,Sim K F H σ ρ fps/\dE K W F H fps.flatten ρ σ D (g ρ)
def nA (K:FG) (F H:Hp) (Z:Y2) (ρ:Env) (σ:St) (Q:VK) (x:D×Bool×Env):Prop :=
 ∀v F' H' fps' fp,Evo F H Z F' H' fps'.flatten->Sim K F' H' σ x.2.2 fps'->kT ρ x.2.2->Own K F' H' x.1 v fp->fp.Nodup->(x.2.1=true->∀b∈fp,b ∉ fps'.flatten/\(b∈Z\/H b=none))->Q v H'
def tx (K:FG) (W:XW) (g:gZ):TE:=fun σ H Q=>∃ρ F fps,Sim K F H σ ρ fps/\(g ρ).hx (nA K F H fps.flatten ρ σ Q) fun c=>fC K F H fps.flatten ρ σ (W c) ρ
section
variable {K:FG} {W:XW} {F H F' H' F1 H1:Hp} {Z Z' Z1:Y2} {σ σ1:St} {ρ ρ1:Env} {D':Ends}
theorem fC.lift {P:St->Hp->Prop} {ρ':Env} (e:Evo F H Z F1 H1 Z1) (p:gG ρ σ ρ1 σ1) (h:fC K F H Z ρ σ P ρ'):fC K F1 H1 Z1 ρ1 σ1 P ρ' :=
 fun σ' F' H' fps' e' S' p'=>h σ' F' H' fps' (e.trans e') S' (p.trans p')
theorem jV.lift {P:VK} {d:D} {ρ':Env} (e:Evo F H Z F1 H1 Z1) (p:gG ρ σ ρ1 σ1) (h:jV K F H Z ρ σ P d ρ'):jV K F1 H1 Z1 ρ1 σ1 P d ρ' :=
 fun r σ' F' H' fps' fr e' S' p' o n k=>h r σ' F' H' fps' fr (e.trans e') S' (p.trans p') o n fun b hb=>⟨(k b hb).1,by
  rcases (k b hb).2 with q | q
  ·exact e.zone b q
  ·exact .inr (e.dom b q)⟩
theorem dE.lift {o:Out} (e:Evo F H Z F1 H1 Z1) (p:gG ρ σ ρ1 σ1) (h:dE K W F H Z ρ σ D' o):dE K W F1 H1 Z1 ρ1 σ1 D' o:=by
 cases o with
 | next ρ'=>exact fC.lift e p h
 | ret d ρ'=>exact jV.lift e p h
 | brk ρ'=>exact fC.lift e p h
 | cont ρ'=>exact fC.lift e p h
 | exc c ρ'=>exact fC.lift e p h
 | bad=>exact h
def aZ:SemS:=fun ρ=>.next ρ
def Out.andThen (o:Out) (g:SemS):Out:=match o with | .next ρ=>g ρ | o=>o
def aI (f g:SemS):SemS:=fun ρ=>(f ρ).andThen g
theorem aKi (h:sv K W aZ D' σ H):aPp D' σ H:=by
 obtain ⟨ρ,F,fps,S,h⟩:=h
 exact h σ F H fps .refl S (gG.refl _ _)
theorem aUh {f g:SemS} (h:sv K W (aI f g) D' σ H):aVy (sv K W f) (sv K W g) D' σ H:=by
 obtain ⟨ρ,F,fps,S,h⟩:=h
 refine ⟨ρ,F,fps,S,?_⟩
 unfold aI at h
 cases e:f ρ with
 | next ρ1 =>
  rw [e] at h
  have h:dE K W F H fps.flatten ρ σ D' (g ρ1):=h
  exact fun σ1 F1 H1 fps1 e1 S1 p1=>⟨ρ1,F1,fps1,S1,dE.lift e1 p1 h⟩
 | ret d ρ'=>rw [e] at h;exact h
 | brk ρ'=>rw [e] at h;exact h
 | cont ρ'=>rw [e] at h;exact h
 | exc _ _=>rw [e] at h;exact h
 | bad=>rw [e] at h;exact h
def sIf (c:dC) (f g:SemS):SemS:=fun ρ=>match c ρ with
 | .ok true=>f ρ | .ok false=>g ρ | .exc _=>.bad | .bad=>.bad
theorem aWe {c:dC} {f g:SemS} (h:sv K W (sIf c f g) D' σ H):aVu (tvT K c) (sv K W f) (sv K W g) D' σ H:=by
 obtain ⟨ρ,F,fps,S,h⟩:=h
 refine ⟨ρ,F,fps,S,?_⟩
 unfold sIf at h
 cases e:c ρ with
 | ok b =>
  rw [e] at h
  intro F1 H1 g1
  cases b with
  | true=>rw [if_pos rfl];exact ⟨ρ,F1,fps,S.grow g1,dE.lift g1.evo (gG.refl _ _) h⟩
  | false=>rw [if_neg Bool.false_ne_true];exact ⟨ρ,F1,fps,S.grow g1,dE.lift g1.evo (gG.refl _ _) h⟩
 | exc _=>rw [e] at h;exact h.elim
 | bad=>rw [e] at h;exact h.elim
def xOf (f:aR):gZ:=fun ρ=>match f ρ with | .ok x=>.ok (x.1,x.2,ρ) | _=>.bad
theorem aH9 {f:aR} {Q:VK} (h:tx K W (xOf f) σ H Q):tv K f σ H Q:=by
 obtain ⟨ρ,F,fps,S,h⟩:=h
 refine ⟨ρ,F,fps,S,?_⟩
 unfold xOf at h
 cases ef:f ρ with
 | exc _=>rw [ef] at h;exact h.elim
 | bad=>rw [ef] at h;exact h.elim
 | ok x =>
  rw [ef] at h
  have hx:nA K F H fps.flatten ρ σ Q (x.1,x.2,ρ):=h
  intro v F1 H1 fx g1 o1 n1 k1
  refine hx v F1 H1 fps fx g1.evo (S.grow g1) (kT.refl _) o1 n1 fun e b hb=>⟨fun hz=>?_,.inr (k1 e b hb)⟩
  exact (S.zone b hz).2 (k1 e b hb)
def cT (g:gZ):SemS:=fun ρ=>match g ρ with | .ok (_,_,ρ')=>.next ρ' | .exc c=>.exc c ρ | .bad=>.bad
theorem aMa {g:gZ} (h:sv K W (cT g) D' σ H):zU (tx K W g) D' σ H:=by
 obtain ⟨ρ,F,fps,S,h⟩:=h
 refine ⟨ρ,F,fps,S,?_⟩
 unfold cT at h
 cases e:g ρ with
 | ok x =>
  rw [e] at h
  exact fun v F1 H1 fps1 fp e1 S1 p1 o1 n1 k1=>h σ F1 H1 fps1 e1 S1 p1.pins
 | exc c=>rw [e] at h;exact h
 | bad=>rw [e] at h;exact h.elim
def bD (g:gZ):SemS:=fun ρ=>match g ρ with
 | .ok (d,fr,ρ')=>if fr || d.calm then .ret d ρ' else .bad
 | .exc c=>.exc c ρ | .bad=>.bad
theorem aJu {g:gZ} (h:sv K W (bD g) D' σ H):aSc (tx K W g) D' σ H:=by
 obtain ⟨ρ,F,fps,S,h⟩:=h
 refine ⟨ρ,F,fps,S,?_⟩
 unfold bD at h
 cases e:g ρ with
 | ok x =>
  obtain ⟨d,fr,ρ'⟩:=x
  rw [e] at h
  intro v F1 H1 fps1 fp e1 S1 p1 o1 n1 k1
  have h:dE K W F H fps.flatten ρ σ D' (if (fr || d.calm)=true then .ret d ρ' else .bad):=h
  by_cases hc:(fr || d.calm)=true
  ·rw [if_pos hc] at h
   refine h v σ F1 H1 fps1 fp e1 S1 p1.pins o1 n1 fun b hb=>?_
   cases ef:fr with
   | true=>exact k1 ef b hb
   | false =>
    rw [ef,Bool.false_or] at hc
    rw [Own.dU d hc o1] at hb;cases hb
  ·rw [if_neg hc] at h;exact h.elim
 | exc c=>rw [e] at h;exact h
 | bad=>rw [e] at h;exact h.elim
theorem oR {fps:Y5} {i:Nat} {fp:Y2} (n:fps.flatten.Nodup) (nf:fp.Nodup) (dj:∀b∈fp,b ∉ fps.flatten):(fps.set i fp).flatten.Nodup:=by
 induction fps generalizing i with
 | nil=>simp
 | cons f r ih =>
  rw [List.flatten_cons] at n dj
  obtain ⟨n1,n2,n3⟩:=List.nodup_append.mp n
  cases i with
  | zero =>
   rw [List.set_cons_zero,List.flatten_cons]
   exact List.nodup_append.mpr ⟨nf,n2,fun a ha b hb z=>dj a ha (List.mem_append_right _ (z ▸ hb))⟩
  | succ i =>
   rw [List.set_cons_succ,List.flatten_cons]
   refine List.nodup_append.mpr ⟨n1,ih n2 fun b hb hr=>dj b hb (List.mem_append_right _ hr),fun a ha b hb z=>?_⟩
   subst z
   obtain ⟨l,hl,hal⟩:=List.mem_flatten.mp hb
   rcases List.mem_or_eq_of_mem_set hl with hl | rfl
   ·exact n3 a ha a (List.mem_flatten.mpr ⟨l,hl,hal⟩) rfl
   ·exact dj a hal (List.mem_append_left _ ha)
theorem bL {fps:Y5} {i:Nat} {fp:Y2} {b:Addr} (h:b∈(fps.set i fp).flatten):b∈fps.flatten\/b∈fp:=by
 obtain ⟨l,hl,hb⟩:=List.mem_flatten.mp h
 rcases List.mem_or_eq_of_mem_set hl with hl | rfl
 ·exact .inl (List.mem_flatten.mpr ⟨l,hl,hb⟩)
 ·exact .inr hb
theorem Sim.store {fps:Y5} {i:Nat} {d:D} {v:V} {fp:Y2} (S:Sim K F H σ ρ fps) (o:Own K F H d v fp) (n:fp.Nodup) (dj:∀b∈fp,b ∉ fps.flatten):Sim K F H (σ.set i (some v)) (ρ.set i (.val d)) (fps.set i fp):=by
 refine ⟨S.same,by simp [S.ls],by simp [S.lf],fun j s c e1 e2=>?_,oR S.nd n dj,fun a ha=>?_⟩
 ·by_cases hj:i=j
  ·subst hj
   have hi:i < ρ.length:=by
    rcases Nat.lt_or_ge i ρ.length with h | h
    ·exact h
    ·rw [List.getElem?_eq_none_iff.mpr (by simpa using h)] at e1;cases e1
   rw [List.getElem?_set_self (by exact hi)] at e1
   cases e1;cases e2
   refine ⟨v,fp,List.getElem?_set_self (by rw [S.ls];exact hi),List.getElem?_set_self (by rw [S.lf];exact hi),o⟩
  ·rw [List.getElem?_set_ne hj] at e1
   obtain ⟨w,f,h1,h2,h3⟩:=S.at_ j s c e1 e2
   exact ⟨w,f,by rw [List.getElem?_set_ne hj];exact h1,by rw [List.getElem?_set_ne hj];exact h2,h3⟩
 ·rcases bL ha with h | h
  ·exact S.zone a h
  ·obtain ⟨h1,xs,h2⟩:=Own.zone d o a h
   exact ⟨h1,by rw [h2];simp⟩
def free (ρ:Env) (i:Nat):Bool:=match ρ[i]? with | some (.pin _)=>false | some _=>true | none=>false
theorem jU {i:Nat} {d:D} {x:Option V} (h:free ρ i=true):gG ρ σ (ρ.set i (.val d)) (σ.set i x):=fun j c e=>by
 have hj:i ≠ j:=by
  rintro rfl
  unfold free at h
  rw [e] at h;cases h
 exact ⟨⟨c,by rw [List.getElem?_set_ne hj];exact e⟩,by rw [List.getElem?_set_ne hj]⟩
def bW (i:Nat) (d:D) (ρ:Env):Option Env:=if free ρ i then some (ρ.set i (.val d)) else none
def aX (i:Nat) (g:gZ):SemS:=fun ρ=>match g ρ with
 | .ok (d,fr,ρ')=>if (fr || d.calm) && free ρ' i then .next (ρ'.set i (.val d)) else .bad
 | .exc c=>.exc c ρ | .bad=>.bad
theorem aCx {fps1:Y5} {i:Nat} {fp:Y2} (e:Evo F H Z F' H' fps1.flatten) (k:∀b∈fp,b∈Z\/H b=none):Evo F H Z F' H' (fps1.set i fp).flatten :=
 ⟨e.fr,e.keep,e.dom,e.new,fun b hb=>(bL hb).elim (e.zone b) (k b)⟩
theorem aIe {i:Nat} {g:gZ} (h:sv K W (aX i g) D' σ H):aDn (tx K W g) (qO i) D' σ H:=by
 obtain ⟨ρ,F,fps,S,h⟩:=h
 refine ⟨ρ,F,fps,S,?_⟩
 unfold aX at h
 cases e:g ρ with
 | ok x =>
  obtain ⟨d,fr,ρ'⟩:=x
  rw [e] at h
  intro v F1 H1 fps1 fp e1 S1 p1 o1 n1 k1
  have h:dE K W F H fps.flatten ρ σ D' (if ((fr || d.calm) && free ρ' i)=true then .next (ρ'.set i (.val d)) else .bad):=h
  by_cases hc:((fr || d.calm) && free ρ' i)=true
  ·rw [if_pos hc] at h
   rw [Bool.and_eq_true] at hc
   have k2:∀b∈fp,b ∉ fps1.flatten/\(b∈fps.flatten\/H b=none):=fun b hb=>by
    cases ef:fr with
    | true=>exact k1 ef b hb
    | false =>
     have:=hc.1
     rw [ef,Bool.false_or] at this
     rw [Own.dU d this o1] at hb;cases hb
   exact h _ F1 H1 _ (aCx e1 fun b hb=>(k2 b hb).2) (S1.store o1 n1 fun b hb=>(k2 b hb).1) (p1.pins.trans (jU hc.2))
  ·rw [if_neg hc] at h;exact h.elim
 | exc c=>rw [e] at h;exact h
 | bad=>rw [e] at h;exact h.elim
def cX:T0->List D->Env->Option Env
 | [],[],ρ=>some ρ
 | i::is,d::ds,ρ=>if d.calm then (bW i d ρ).bind (cX is ds) else none
 | _,_,_=>none
def lB:T0->TGs
 | []=>aX7
 | i::is=>aP8 (qO i) (lB is)
theorem nC:∀(is:T0) {ds:List D} {vs:List V} {ρ ρ':Env} {σ:St} {fps:Y5} {P:St->Hp->Prop},cX is ds ρ=some ρ'->Sim K F H σ ρ fps->aJ K F H ds vs [] ->
  (∀σ' fps',Sim K F H σ' ρ' fps'->gG ρ σ ρ' σ'->(∀b∈fps'.flatten,b∈fps.flatten)->P σ' H)->lB is vs σ H P
 | [],[],vs,ρ,ρ',σ,fps,P,e,S,o,h=>by
  unfold cX at e;cases e
  unfold aJ at o
  exact ⟨o.1,h σ fps S (gG.refl _ _) fun _ hb=>hb⟩
 | i::is,d::ds,vs,ρ,ρ',σ,fps,P,e,S,o,h=>by
  unfold cX at e
  by_cases hc:d.calm=true
  ·rw [if_pos hc] at e
   unfold bW at e
   by_cases hf:free ρ i=true
   ·rw [if_pos hf] at e
    have e:cX is ds (ρ.set i (.val d))=some ρ':=e
    unfold aJ at o
    obtain ⟨v,r,f1,f2,e1,o1,o2,e2⟩:=o
    have ef:=List.append_eq_nil_iff.mp e2.symm
    rw [ef.1] at o1;rw [ef.2] at o2
    refine ⟨v,r,e1,?_⟩
    refine nC is e (S.store (i:=i) o1 List.nodup_nil fun b hb=>by cases hb) o2 fun σ' fps' S' p' k'=>?_
    refine h σ' fps' S' ((jU hf).trans p') fun b hb=>?_
    rcases bL (k' b hb) with q | q
    ·exact q
    ·cases q
   ·rw [if_neg hf] at e;cases e
  ·rw [if_neg hc] at e;cases e
 | [],d::ds,vs,ρ,ρ',σ,fps,P,e,S,o,h=>by unfold cX at e;cases e
 | i::is,[],vs,ρ,ρ',σ,fps,P,e,S,o,h=>by unfold cX at e;cases e
def bM (is:T0) (g:gZ):SemS:=fun ρ=>match g ρ with
 | .ok (.tup ds,_,ρ')=>(match cX is ds ρ' with | some ρ2=>.next ρ2 | none=>.bad)
 | .ok _=>.bad | .exc c=>.exc c ρ | .bad=>.bad
theorem nG:∀(is:T0) {ds:List D} {ρ ρ':Env},cX is ds ρ=some ρ'->ds.length=is.length
 | [],[],_,_,_=>rfl
 | i::is,d::ds,ρ,ρ',e=>by
  unfold cX at e
  by_cases hc:d.calm=true
  ·rw [if_pos hc] at e
   cases q:bW i d ρ with
   | none=>rw [q] at e;cases e
   | some ρ1 =>
    rw [q] at e
    rw [List.length_cons,List.length_cons,nG is (show cX is ds ρ1=some ρ' from e)]
  ·rw [if_neg hc] at e;cases e
 | [],_::_,_,_,e=>by unfold cX at e;cases e
 | _::_,[],_,_,e=>by unfold cX at e;cases e
theorem aEu {is:T0} {g:gZ} {n:Nat} (hn:is.length=n) (h:sv K W (bM is g) D' σ H):aDn (tx K W g) (aQ7 K n (lB is)) D' σ H:=by
 obtain ⟨ρ,F,fps,S,h⟩:=h
 refine ⟨ρ,F,fps,S,?_⟩
 unfold bM at h
 cases e:g ρ with
 | ok x =>
  obtain ⟨d,fr,ρ'⟩:=x
  rw [e] at h
  intro v F1 H1 fps1 fp e1 S1 p1 o1 n1 k1
  cases d<;>try exact h.elim
  rename_i ds
  obtain ⟨a,xs,ev,q,o2,e2⟩:=Own.tup S1.same o1
  have h:dE K W F H fps.flatten ρ σ D' (match cX is ds ρ' with | some ρ2=>.next ρ2 | none=>.bad):=h
  cases eb:cX is ds ρ' with
  | none=>rw [eb] at h;exact h.elim
  | some ρ2 =>
   rw [eb] at h
   refine ⟨a,xs,ev,q,?_,?_⟩
   ·rw [<- aJ.length ds o2,nG is eb,hn]
   ·refine nC is eb S1 o2 fun σ' fps' S' p' k'=>?_
    exact h σ' F1 H1 fps' ⟨e1.fr,e1.keep,e1.dom,e1.new,fun b hb=>e1.zone b (k' b hb)⟩ S' (p1.pins.trans p')
 | exc c=>rw [e] at h;exact h
 | bad=>rw [e] at h;exact h.elim
def fR (o:Out) (again:Env->Out):Out:=match o with
 | .next ρ=>again ρ | .cont ρ=>again ρ | .brk ρ=>.next ρ | o=>o
def cV (c:dC) (b:SemS):Nat->SemS
 | 0,_=>.bad
 | n+1,ρ=>match c ρ with
  | .ok true=>fR (b ρ) (cV c b n)
  | .ok false=>.next ρ
  | .exc _=>.bad | .bad=>.bad
theorem aIx {n:Nat} {c:dC} {b:SemS} (h:sv K W (cV c b n) D' σ H):aF7 (tvT K c) (sv K W b) D' σ H:=by
 refine ⟨fun m σ H=>sv K W (cV c b m) D' σ H,⟨n,h⟩,?_⟩
 rintro m σ H ⟨ρ,F,fps,S,h⟩
 refine ⟨ρ,F,fps,S,?_⟩
 cases m with
 | zero=>exact h.elim
 | succ m =>
  unfold cV at h
  cases e:c ρ with
  | exc _=>rw [e] at h;exact h.elim
  | bad=>rw [e] at h;exact h.elim
  | ok k =>
   rw [e] at h
   intro F1 H1 g1
   cases k with
   | false =>
    rw [if_neg Bool.false_ne_true]
    exact h σ F1 H1 fps g1.evo (S.grow g1) (gG.refl _ _)
   | true =>
    rw [if_pos rfl]
    refine ⟨fun σ' H'=>sv K W (cV c b m) D' σ' H',fun σ' H' q=>⟨m,Nat.lt_succ_self m,q⟩,ρ,F1,fps,S.grow g1,?_⟩
    have h:dE K W F H fps.flatten ρ σ D' (fR (b ρ) (cV c b m)):=h
    have h:=dE.lift (g1.evo (Z:=fps.flatten)) (gG.refl ρ σ) h
    cases eb:b ρ with
    | next ρ' =>
     rw [eb] at h
     exact fun σ' F' H' fps' e' S' p'=>⟨ρ',F',fps',S',dE.lift e' p' h⟩
    | cont ρ' =>
     rw [eb] at h
     exact fun σ' F' H' fps' e' S' p'=>⟨ρ',F',fps',S',dE.lift e' p' h⟩
    | brk ρ'=>rw [eb] at h;exact h
    | ret d ρ'=>rw [eb] at h;exact h
    | exc _ _=>rw [eb] at h;exact h
    | bad=>rw [eb] at h;exact h
abbrev lN:=Env->R (List D)
def wO (K:FG) (F:Hp) (ds:List D) (J:It):Prop :=
 (∀i H',Same F H'->ds.length<=i->J.stop i H') /\
 ∀i d,ds[i]?=some d->∀F' H',Same F F'->Same F' H'->J.go i H'/\∀x H2,J.yld i H' x H2->∃F2,Grow F' H' F2 H2/\Own K F2 H2 d x []
def aJa (K:FG) (F H:Hp) (R':It->Hp->Prop) (ds:List D):Prop:=∀J F' H',Grow F H F' H'->wO K F' ds J->R' J H'
def iv (K:FG) (f:lN):TI:=fun σ H R'=>∃ρ F fps,Sim K F H σ ρ fps/\(f ρ).holds (aJa K F H R')
def forL (set:D->Env->Option Env) (b:SemS):List D->SemS
 | [],ρ=>.next ρ
 | d::ds,ρ=>match set d ρ with
  | none=>.bad
  | some ρ1=>fR (b ρ1) (forL set b ds)
def Tgt (K:FG) (set:D->Env->Option Env) (g:TG):Prop :=
 ∀(F H:Hp) (d:D) (v:V) (ρ ρ':Env) (σ:St) (fps:Y5) (P:St->Hp->Prop),Sim K F H σ ρ fps->Own K F H d v []->set d ρ=some ρ' ->
  (∀σ' fps',Sim K F H σ' ρ' fps'->gG ρ σ ρ' σ'->(∀b∈fps'.flatten,b∈fps.flatten)->P σ' H)->g v σ H P
theorem cJ {i:Nat}:Tgt K (bW i) (qO i):=by
 intro F H d v ρ ρ' σ fps P S o e h
 unfold bW at e
 by_cases hf:free ρ i=true
 ·rw [if_pos hf] at e;cases e
  refine h _ _ (S.store o List.nodup_nil fun b hb=>by cases hb) (jU hf) fun b hb=>?_
  rcases bL hb with q | q
  ·exact q
  ·cases q
 ·rw [if_neg hf] at e;cases e
def eP (is:T0):D->Env->Option Env:=fun d ρ=>match d with | .tup ds=>cX is ds ρ | _=>none
theorem mG {is:T0} {n:Nat} (hn:is.length=n):Tgt K (eP is) (aQ7 K n (lB is)):=by
 intro F H d v ρ ρ' σ fps P S o e h
 unfold eP at e
 cases d<;>try cases e
 rename_i ds
 obtain ⟨a,xs,ev,q,o2,e2⟩:=Own.tup S.same o
 refine ⟨a,xs,ev,q,?_,nC is e S o2 h⟩
 rw [<- aJ.length ds o2,nG is e,hn]
def iC (f:lN) (set:D->Env->Option Env) (b:SemS):SemS:=fun ρ=>match f ρ with
 | .ok ds=>forL set b ds ρ | .exc _=>.bad | .bad=>.bad
theorem aTz {f:lN} {set:D->Env->Option Env} {g:TG} {b:SemS} (ht:Tgt K set g) (h:sv K W (iC f set b) D' σ H):aVt (iv K f) g (sv K W b) D' σ H:=by
 obtain ⟨ρ,F,fps,S,h⟩:=h
 refine ⟨ρ,F,fps,S,?_⟩
 unfold iC at h
 cases e:f ρ with
 | exc _=>rw [e] at h;exact h.elim
 | bad=>rw [e] at h;exact h.elim
 | ok ds =>
  rw [e] at h
  intro J F0 H0 g0 hJ
  have h:=dE.lift (g0.evo (Z:=fps.flatten)) (gG.refl ρ σ) h
  refine ⟨fun i m σ' H'=>i<=ds.length/\m=ds.length - i/\∃ρ' F' fps',Same F0 F'/\Sim K F' H' σ' ρ' fps'/\dE K W F' H' fps'.flatten ρ' σ' D' (forL set b (ds.drop i) ρ'),
   ⟨ds.length,Nat.zero_le _,rfl,ρ,F0,fps,Same.refl _,S.grow g0,h⟩,?_⟩
  rintro i m σ1 H1 ⟨hi,rfl,ρ1,F1,fps1,s1,S1,h1⟩
  by_cases hlt:i<ds.length
  ·refine .inr ?_
   obtain ⟨d,hd⟩:∃d,ds[i]?=some d:=⟨ds[i],by simp [hlt]⟩
   have hdrop:ds.drop i=d::ds.drop (i+1):=by
    rw [List.drop_eq_getElem_cons hlt]
    congr 1
    rw [List.getElem?_eq_getElem hlt] at hd;exact Option.some.inj hd
   rw [hdrop] at h1
   obtain ⟨go,yl⟩:=hJ.2 i d hd F1 H1 s1 S1.same
   refine ⟨go,fun σ' H'=>∃ρ' F' fps',Same F0 F'/\Sim K F' H' σ' ρ' fps'/\dE K W F' H' fps'.flatten ρ' σ' D' (forL set b (ds.drop (i+1)) ρ'),fun σ' H' q=>⟨ds.length - (i+1),by omega,by omega,rfl,q⟩,fun x H2 hy=>?_⟩
   obtain ⟨F2,g2,o2⟩:=yl x H2 hy
   have h1:dE K W F1 H1 fps1.flatten ρ1 σ1 D' (match set d ρ1 with | none=>.bad | some ρ2=>fR (b ρ2) (forL set b (ds.drop (i+1)))):=h1
   have h1:=dE.lift (g2.evo (Z:=fps1.flatten)) (gG.refl ρ1 σ1) h1
   cases es:set d ρ1 with
   | none=>rw [es] at h1;exact h1.elim
   | some ρ2 =>
    rw [es] at h1
    refine ht F2 H2 d x ρ1 ρ2 σ1 fps1 _ (S1.grow g2) o2 es fun σ2 fps2 S2 p2 k2=>?_
    have ev2:Evo F2 H2 fps1.flatten F2 H2 fps2.flatten:=⟨Same.refl _,fun _ _ e _=>e,fun _ e=>e,fun _ _ e=>.inl e,fun b hb=>.inl (k2 b hb)⟩
    have h2:dE K W F2 H2 fps2.flatten ρ2 σ2 D' (fR (b ρ2) (forL set b (ds.drop (i+1)))):=dE.lift ev2 p2 h1
    refine ⟨ρ2,F2,fps2,S2,?_⟩
    have s2:Same F0 F2:=s1.trans g2.fr
    cases eb:b ρ2 with
    | next ρ3 =>
     rw [eb] at h2
     exact fun σ' F' H' fps' e' S' p'=>⟨ρ3,F',fps',s2.trans e'.fr,S',dE.lift e' p' h2⟩
    | cont ρ3 =>
     rw [eb] at h2
     exact fun σ' F' H' fps' e' S' p'=>⟨ρ3,F',fps',s2.trans e'.fr,S',dE.lift e' p' h2⟩
    | brk ρ3=>rw [eb] at h2;exact h2
    | ret d ρ3=>rw [eb] at h2;exact h2
    | exc _ _=>rw [eb] at h2;exact h2
    | bad=>rw [eb] at h2;exact h2
  ·refine .inl ⟨hJ.1 i H1 (s1.trans S1.same) (by omega),?_⟩
   rw [List.drop_eq_nil_of_le (by omega)] at h1
   exact h1 σ1 F1 H1 fps1 .refl S1 (gG.refl _ _)
def aQk (f:aR):lN:=fun ρ=>(f ρ).bind fun x=>match x.1 with
 | .tup ds=>.ok ds | _=>.bad
theorem aSs {f:aR} {R':It->Hp->Prop} (h:iv K (aQk f) σ H R'):aRx K (tv K f) σ H R':=by
 obtain ⟨ρ,F,fps,S,h⟩:=h
 refine ⟨ρ,F,fps,S,R.aP (R.aW.mp h) fun x hx v F1 H1 fx g1 o1 n1 k1=>?_⟩
 obtain ⟨x,b⟩:=x
 cases x<;>try exact hx.elim
 rename_i ds
 unfold Own at o1
 obtain ⟨_,a,xs,ev,q,r⟩:=o1
 refine ⟨a,ev,⟨xs,Same.aA1 g1.inn q⟩,hx _ F1 H1 g1 ⟨fun i H' hs hl=>?_,fun i d hd F' H' s1 s2=>?_⟩⟩
 ·exact ⟨xs,Same.aA1 hs q,by rw [<- aJ.length ds r];exact hl⟩
 ·obtain ⟨u,f,q1,q2,q3⟩:=aJ.get ds r hd
  refine ⟨⟨xs,u,Same.aA1 (s1.trans s2) q,q1⟩,fun y H2 hy=>?_⟩
  obtain ⟨e,hy⟩:=hy
  subst e
  have ey:=hy xs (Same.aA1 (s1.trans s2) q)
  rw [q1] at ey;cases ey
  have:f=[]:=List.sublist_nil.mp q3
  subst this
  exact ⟨F',Grow.refl s2,Own.keep s1 d (fun a ha=>by cases ha) q2⟩
def jA (lo:Int) (n:Nat):List D:=(List.range n).map fun (i:Nat)=>D.int (lo+(i:Int))
def cW (i:Int):Bool:=decide (-(2 ^ 62)<=i) && decide (i<2 ^ 62)
def iR1 (g:cH):lN:=fun ρ=>(g ρ).bind fun xs=>match xs with
 | [(.int j,_)]=>if cW j then .ok (jA 0 j.toNat) else .bad | _=>.bad
def iR2 (g:cH):lN:=fun ρ=>(g ρ).bind fun xs=>match xs with
 | [(.int i,_),(.int j,_)]=>if cW i && cW j then .ok (jA i (j - i).toNat) else .bad | _=>.bad
theorem sG {lo:Int} {n:Nat}:wO K F (jA lo n) (Itr lo n):=by
 refine ⟨fun i H' _ hl=>?_,fun i d hd F' H' s1 s2=>?_⟩
 ·unfold jA at hl
  show n<=i
  simpa using hl
 ·unfold jA at hd
  rw [List.getElem?_map] at hd
  have hi:i<n:=by
   rcases Nat.lt_or_ge i n with h | h
   ·exact h
   ·rw [List.getElem?_eq_none_iff.mpr (by simpa using h)] at hd;cases hd
  rw [List.getElem?_range hi] at hd
  cases hd
  refine ⟨hi,fun y H2 hy=>?_⟩
  obtain ⟨e1,e2⟩:=hy
  subst e1;subst e2
  exact ⟨F',Grow.refl s2,gI rfl⟩
theorem aDm {g:cH} {R':It->Hp->Prop} (h:iv K (iR1 g) σ H R'):aPz (tvA K g) σ H R':=by
 obtain ⟨ρ,F,fps,S,h⟩:=h
 refine ⟨ρ,F,fps,S,R.aP (R.aW.mp h) fun xs hx vs F1 H1 fa g1 o1 n1 k1=>?_⟩
 match xs,hx,o1 with
 | [(.int j,b)],hx,o1 =>
  have hx:(if cW j=true then R.ok (jA 0 j.toNat) else R.bad).holds (aJa K F H R'):=hx
  by_cases hc:cW j=true
  ·rw [if_pos hc] at hx
   unfold cW at hc
   rw [Bool.and_eq_true,decide_eq_true_iff,decide_eq_true_iff] at hc
   unfold Args at o1
   obtain ⟨v,r,fp,f2,e,o,n,t,w⟩:=o1
   unfold Args at t;unfold Own at o
   rw [e,t.1,o.1]
   exact ⟨j,rfl,hc.1,hc.2,hx _ F1 H1 g1 sG⟩
  ·rw [if_neg hc] at hx;exact hx.elim
theorem aD6 {g:cH} {R':It->Hp->Prop} (h:iv K (iR2 g) σ H R'):aOw (tvA K g) σ H R':=by
 obtain ⟨ρ,F,fps,S,h⟩:=h
 refine ⟨ρ,F,fps,S,R.aP (R.aW.mp h) fun xs hx vs F1 H1 fa g1 o1 n1 k1=>?_⟩
 match xs,hx,o1 with
 | [(.int i,b),(.int j,b')],hx,o1 =>
  have hx:(if (cW i && cW j)=true then R.ok (jA i (j - i).toNat) else R.bad).holds (aJa K F H R'):=hx
  by_cases hc:(cW i && cW j)=true
  ·rw [if_pos hc] at hx
   unfold cW at hc
   simp only [Bool.and_eq_true,decide_eq_true_iff] at hc
   unfold Args at o1
   obtain ⟨v,r,fp,f2,e,o,n,t,w⟩:=o1
   unfold Args at t
   obtain ⟨v',r',fp',f2',e',o',n',t',w'⟩:=t
   unfold Args at t';unfold Own at o o'
   rw [e,e',t'.1,o.1,o'.1]
   exact ⟨i,j,rfl,⟨hc.1.1,hc.1.2,hc.2.1,hc.2.2⟩,hx _ F1 H1 g1 sG⟩
  ·rw [if_neg hc] at hx;exact hx.elim
end
end VL
end
section
namespace VL
open PySem L2
section
variable {K:FG} {W:XW} {F H F' H' F1 H1:Hp} {Z Z' Z1:Y2} {σ σ1:St} {ρ ρ1:Env} {D':Ends}
theorem eJ {fps:Y5} {i:Nat} {fp f:Y2} (n:fps.flatten.Nodup) (e:fps[i]?=some f) (nf:fp.Nodup) (dj:∀b∈fp,b∈f\/b ∉ fps.flatten):(fps.set i fp).flatten.Nodup:=by
 induction fps generalizing i with
 | nil=>simp
 | cons g r ih =>
  rw [List.flatten_cons] at n dj
  obtain ⟨n1,n2,n3⟩:=List.nodup_append.mp n
  cases i with
  | zero =>
   simp at e;subst e
   rw [List.set_cons_zero,List.flatten_cons]
   refine List.nodup_append.mpr ⟨nf,n2,fun a ha b hb z=>?_⟩
   subst z
   rcases dj a ha with h | h
   ·exact n3 a h a hb rfl
   ·exact h (List.mem_append_right _ hb)
  | succ i =>
   have e:r[i]?=some f:=by simpa using e
   rw [List.set_cons_succ,List.flatten_cons]
   refine List.nodup_append.mpr ⟨n1,ih n2 e fun b hb=>(dj b hb).imp_right fun h hr=>h (List.mem_append_right _ hr),fun a ha b hb z=>?_⟩
   subst z
   rcases bL hb with h | h
   ·exact n3 a ha a h rfl
   ·rcases dj a h with q | q
    ·exact n3 a ha a (List.mem_flatten.mpr ⟨f,List.mem_of_getElem? e,q⟩) rfl
    ·exact q (List.mem_append_left _ ha)
theorem apart {fps:Y5} {i j:Nat} {f g:Y2} {a:Addr} (n:fps.flatten.Nodup) (hi:fps[i]?=some f) (hj:fps[j]?=some g) (ne:i ≠ j) (ha:a∈f):a ∉ g:=by
 induction fps generalizing i j with
 | nil=>simp at hi
 | cons h r ih =>
  rw [List.flatten_cons] at n
  obtain ⟨n1,n2,n3⟩:=List.nodup_append.mp n
  cases i with
  | zero =>
   simp at hi;subst hi
   cases j with
   | zero=>exact absurd rfl ne
   | succ j =>
    have hj:r[j]?=some g:=by simpa using hj
    exact fun hb=>n3 a ha a (List.mem_flatten.mpr ⟨g,List.mem_of_getElem? hj,hb⟩) rfl
  | succ i =>
   have hi:r[i]?=some f:=by simpa using hi
   cases j with
   | zero =>
    simp at hj;subst hj
    exact fun hb=>n3 a hb a (List.mem_flatten.mpr ⟨f,List.mem_of_getElem? hi,ha⟩) rfl
   | succ j=>exact ih n2 hi (by simpa using hj) fun z=>ne (by rw [z])
theorem Own.other {d:D} {v:V} {f:Y2} {a:Addr} {o:HO} (h:Own K F H d v f) (ha:a ∉ f):Own K F (upd H a o) d v f:=by
 refine Own.keep (Same.refl _) d (fun b hb=>⟨(Own.zone d h b hb).1,?_⟩) h
 exact aU fun z=>ha (z ▸ hb)
theorem aJ.other {d:List D} {v:List V} {f:Y2} {a:Addr} {o:HO} (h:aJ K F H d v f) (ha:a ∉ f):aJ K F (upd H a o) d v f:=by
 refine aJ.keep (Same.refl _) d (fun b hb=>⟨(aJ.zone d h b hb).1,?_⟩) h
 exact aU fun z=>ha (z ▸ hb)
def getD (ρ:Env) (i:Nat):Option D:=(ρ[i]?).bind Slot.d?
def putD (ρ:Env) (i:Nat) (d:D):Env:=match ρ[i]? with
 | some (.pin _)=>ρ.set i (.pin d) | some (.val _)=>ρ.set i (.val d) | _=>ρ
theorem Sim.get {fps:Y5} (S:Sim K F H σ ρ fps) {i:Nat} {d:D} (e:getD ρ i=some d):∃v fp,σ[i]?=some (some v)/\fps[i]?=some fp/\Own K F H d v fp:=by
 unfold getD at e
 cases q:ρ[i]? with
 | none=>rw [q] at e;cases e
 | some s=>rw [q] at e;exact S.at_ i s d q e
theorem sQ {i j:Nat} {d:D} {s:Slot} {c:D} (e:(putD ρ i d)[j]?=some s) (e2:s.d?=some c) (hi:(getD ρ i).isSome=true):(i=j/\c=d)\/(i ≠ j/\ρ[j]?=some s):=by
 unfold getD at hi
 unfold putD at e
 cases q:ρ[i]? with
 | none=>rw [q] at hi;cases hi
 | some t =>
  have hlt:i < ρ.length:=(List.getElem?_eq_some_iff.mp q).1
  rw [q] at e hi
  cases t with
  | un=>cases hi
  | val _ =>
   by_cases hj:i=j
   ·subst hj
    have e:(ρ.set i (.val d))[i]?=some s:=e
    rw [List.getElem?_set_self hlt] at e;cases e;cases e2;exact .inl ⟨rfl,rfl⟩
   ·have e:(ρ.set i (.val d))[j]?=some s:=e
    rw [List.getElem?_set_ne hj] at e;exact .inr ⟨hj,e⟩
  | pin _ =>
   by_cases hj:i=j
   ·subst hj
    have e:(ρ.set i (.pin d))[i]?=some s:=e
    rw [List.getElem?_set_self hlt] at e;cases e;cases e2;exact .inl ⟨rfl,rfl⟩
   ·have e:(ρ.set i (.pin d))[j]?=some s:=e
    rw [List.getElem?_set_ne hj] at e;exact .inr ⟨hj,e⟩
theorem fQ {i:Nat} {d:D}:(putD ρ i d).length=ρ.length:=by
 unfold putD
 split<;>simp
theorem oP {i:Nat} {d:D}:kT ρ (putD ρ i d):=fun j c e=>by
 unfold putD
 cases q:ρ[i]? with
 | none=>exact ⟨c,e⟩
 | some t =>
  have hlt:i < ρ.length:=(List.getElem?_eq_some_iff.mp q).1
  cases t with
  | un=>exact ⟨c,e⟩
  | val _ =>
   refine ⟨c,?_⟩
   show (ρ.set i (.val d))[j]?=_
   have hj:i ≠ j:=by rintro rfl;rw [q] at e;cases e
   rw [List.getElem?_set_ne hj];exact e
  | pin _ =>
   by_cases hj:i=j
   ·subst hj
    exact ⟨d,by show (ρ.set i (.pin d))[i]?=_;rw [List.getElem?_set_self hlt]⟩
   ·exact ⟨c,by show (ρ.set i (.pin d))[j]?=_;rw [List.getElem?_set_ne hj];exact e⟩
theorem Sim.mutate {fps:Y5} (S:Sim K F H σ ρ fps) {i:Nat} {d d':D} {v:V} {fp fp':Y2} {a:Addr} {xs:List V} (e:getD ρ i=some d) (es:σ[i]?=some (some v)) (ef:fps[i]?=some fp)
  (ha:a∈fp) (o:Own K F (upd H a (.lst xs)) d' v fp') (n:fp'.Nodup) (dj:∀b∈fp',b∈fp\/(b ∉ fps.flatten)) :
  Sim K F (upd H a (.lst xs)) σ (putD ρ i d') (fps.set i fp'):=by
 have hz:a∈fps.flatten:=List.mem_flatten.mpr ⟨fp,List.mem_of_getElem? ef,ha⟩
 have fa:=(S.zone a hz).1
 refine ⟨fun b u q=>?_,by rw [fQ];exact S.ls,by rw [fQ,List.length_set];exact S.lf,fun j s c e1 e2=>?_,eJ S.nd ef n dj,fun b hb=>?_⟩
 ·rw [aU (bX q fa)];exact S.same b u q
 ·rcases sQ e1 e2 (by rw [e];rfl) with ⟨rfl,rfl⟩ | ⟨hj,e3⟩
  ·exact ⟨v,fp',es,List.getElem?_set_self (List.getElem?_eq_some_iff.mp ef).1,o⟩
  ·obtain ⟨w,f,h1,h2,h3⟩:=S.at_ j s c e3 e2
   exact ⟨w,f,h1,by rw [List.getElem?_set_ne hj];exact h2,h3.other (apart S.nd ef h2 hj ha)⟩
 ·rcases bL hb with h | h
  ·refine ⟨(S.zone b h).1,?_⟩
   by_cases hba:b=a
   ·subst hba;rw [bJ];simp
   ·rw [aU hba];exact (S.zone b h).2
  ·obtain ⟨q1,ys,q2⟩:=Own.zone d' o b h
   exact ⟨q1,by rw [q2];simp⟩
theorem xQ {a:Addr} {o:HO} (ha:a∈Z) (k:∀b∈Z',b∈Z):Evo F H Z F (upd H a o) Z':=by
 refine ⟨Same.refl _,fun b u e hb=>?_,fun b e=>?_,fun _ _ e=>.inl e,fun b hb=>.inl (k b hb)⟩
 ·exact (aU (fun z:b=a=>hb (by rw [z];exact ha))).trans e
 ·by_cases hba:b=a
  ·subst hba;rw [bJ] at e;cases e
  ·rw [aU hba] at e;exact e
theorem Grow.bBi (g:Grow F H F' H') (k:∀b∈Z',b∈Z\/H b=none):Evo F H Z F' H' Z' :=
 ⟨g.fr,fun b o e _=>g.all b o e,fun _ e=>g.all.free e,fun b o e=>(g.new b o e).elim .inl fun h=>.inr (.inl h),k⟩
theorem aJ.replace:∀(ds:List D) {xs:List V} {fq:Y2} {j:Nat} {dj:D},aJ K F H ds xs fq->fq.Nodup->ds[j]?=some dj->∃vj fj,xs[j]?=some vj/\Own K F H dj vj fj/\(∀b∈fj,b∈fq)/\fj.Nodup /\
  ∀(H':Hp) (dj':D) (vj':V) (fj':Y2),(∀b∈fq,b ∉ fj->H' b=H b)->Own K F H' dj' vj' fj'->∃fq',aJ K F H' (ds.set j dj') (xs.set j vj') fq'/\(∀b∈fq',b∈fj'\/(b∈fq/\b ∉ fj))/\(fj'.Nodup->(∀b∈fj',b∈fj\/b ∉ fq)->fq'.Nodup)
 | [],_,_,_,_,_,_,e=>by simp at e
 | c::ds,xs,fq,0,dj,h,n,e=>by
  unfold aJ at h
  obtain ⟨v,r,f1,f2,e1,h1,h2,e2⟩:=h
  simp at e;subst e;subst e1;subst e2
  obtain ⟨n1,n2,n3⟩:=List.nodup_append.mp n
  refine ⟨v,f1,rfl,h1,fun b hb=>List.mem_append_left _ hb,n1,fun H' dj' vj' fj' k o=>?_⟩
  have h2':aJ K F H' ds r f2:=aJ.keep (Same.refl _) ds (fun b hb=>⟨(aJ.zone ds h2 b hb).1,k b (List.mem_append_right _ hb) fun z=>n3 b z b hb rfl⟩) h2
  refine ⟨fj'++f2,aJ.cons o h2',fun b hb=>?_,fun n4 k4=>?_⟩
  ·rcases List.mem_append.mp hb with hb | hb
   ·exact .inl hb
   ·exact .inr ⟨List.mem_append_right _ hb,fun z=>n3 b z b hb rfl⟩
  ·refine List.nodup_append.mpr ⟨n4,n2,fun a ha b hb z=>?_⟩
   subst z
   rcases k4 a ha with q | q
   ·exact n3 a q a hb rfl
   ·exact q (List.mem_append_right _ hb)
 | c::ds,xs,fq,j+1,dj,h,n,e=>by
  unfold aJ at h
  obtain ⟨v,r,f1,f2,e1,h1,h2,e2⟩:=h
  subst e1;subst e2
  obtain ⟨n1,n2,n3⟩:=List.nodup_append.mp n
  obtain ⟨vj,fj,q1,q2,q3,q5,q4⟩:=aJ.replace ds (j:=j) h2 n2 (by simpa using e)
  refine ⟨vj,fj,by simpa using q1,q2,fun b hb=>List.mem_append_right _ (q3 b hb),q5,fun H' dj' vj' fj' k o=>?_⟩
  obtain ⟨fq',p1,p2,p3⟩:=q4 H' dj' vj' fj' (fun b hb hn=>k b (List.mem_append_right _ hb) hn) o
  have h1':Own K F H' c v f1:=Own.keep (Same.refl _) c (fun b hb=>⟨(Own.zone c h1 b hb).1,k b (List.mem_append_left _ hb) fun z=>n3 b hb b (q3 b z) rfl⟩) h1
  refine ⟨f1++fq',aJ.cons h1' p1,fun b hb=>?_,fun n4 k4=>?_⟩
  ·rcases List.mem_append.mp hb with hb | hb
   ·exact .inr ⟨List.mem_append_left _ hb,fun z=>n3 b hb b (q3 b z) rfl⟩
   ·exact (p2 b hb).imp_right fun z=>⟨List.mem_append_right _ z.1,z.2⟩
  ·refine List.nodup_append.mpr ⟨n1,p3 n4 fun b hb=>(k4 b hb).imp_right fun z y=>z (List.mem_append_right _ y),fun a ha b hb z=>?_⟩
   subst z
   rcases p2 a hb with q | q
   ·rcases k4 a q with q | q
    ·exact n3 a ha a (q3 a q) rfl
    ·exact q (List.mem_append_left _ ha)
   ·exact n3 a ha a q.1 rfl
theorem Own.opened {ds:List D} {v:V} {fp:Y2} (h:Own K F H (.lst true ds) v fp):∃a xs fq,v=.ref a/\aJ K F H ds xs fq/\F a=none/\H a=some (.lst xs)/\fp=a::fq:=by
 unfold Own at h
 obtain ⟨a,xs,fq,e,r,w⟩:=h
 rcases w with ⟨_,w1,w2,w3⟩ | ⟨w,_⟩
 ·exact ⟨a,xs,fq,e,r,w1,w2,w3⟩
 ·cases w
theorem Own.closed {ds:List D} {a:Addr} {xs:List V} {fq:Y2} (r:aJ K F H ds xs fq) (h1:F a=none) (h2:H a=some (.lst xs)):Own K F H (.lst true ds) (.ref a) (a::fq):=by
 unfold Own
 exact ⟨a,xs,fq,rfl,r,.inl ⟨rfl,h1,h2,rfl⟩⟩
theorem Sim.zone1 {fps:Y5} {i:Nat} {fp:Y2} {a:Addr} (S:Sim K F H σ ρ fps) (h2:fps[i]?=some fp) (ha:a∈fp):F a=none :=
 (S.zone a (List.mem_flatten.mpr ⟨_,List.mem_of_getElem? h2,ha⟩)).1
theorem Sim.aDk {fps:Y5} {fu:Y2} (S:Sim K F H σ ρ fps) (k3:∀b∈fu,H b=none):∀b∈fu,b ∉ fps.flatten:=fun b hb hz=>(S.zone b hz).2 (k3 b hb)
theorem fC.mut {fps:Y5} {P:St->Hp->Prop} {i:Nat} {d d':D} {v:V} {fp fp' fu:Y2} {a:Addr} {xs:List V} (h:fC K F H fps.flatten ρ σ P (putD ρ i d')) (S:Sim K F H σ ρ fps) (g2:Grow F H F1 H1) (k3:∀b∈fu,H b=none)
  (eg:getD ρ i=some d) (h1:σ[i]?=some (some v)) (h2:fps[i]?=some fp) (ha:a∈fp) (o:Own K F1 (upd H1 a (.lst xs)) d' v fp') (n:fp'.Nodup) (dj:∀b∈fp',b∈fp\/b∈fu):P σ (upd H1 a (.lst xs)):=by
 have S3:=(S.grow g2).mutate eg h1 h2 ha o n fun b hb=>(dj b hb).imp_right (S.aDk k3 b)
 have ez:Evo F H fps.flatten F1 H1 (fps.flatten++fu):=g2.bBi fun b hb=>(List.mem_append.mp hb).imp_right (k3 b)
 have hz:∀b∈fp,b∈fps.flatten:=fun b hb=>List.mem_flatten.mpr ⟨_,List.mem_of_getElem? h2,hb⟩
 refine h σ F1 _ _ (ez.trans (xQ (List.mem_append_left _ (hz a ha)) fun b hb=>?_)) S3 (oP.pins)
 rcases bL hb with q | q
 ·exact List.mem_append_left _ q
 ·rcases dj b q with q | q
  ·exact List.mem_append_left _ (hz b q)
  ·exact List.mem_append_right _ q
def uY (d0:D) (x:D×Bool):Option D:=match d0 with
 | .lst true ds=>if aS x && decide (ds.length<1000000) then some (.lst true (ds ++ [x.1])) else none | _=>none
def cR (i:Nat) (f:aR):SemS:=fun ρ=>match f ρ with
 | .ok x=>(match (getD ρ i).bind fun d=>uY d x with | some d=>.next (putD ρ i d) | none=>.bad)
 | .exc _=>.bad | .bad=>.bad
theorem oK {n:Nat} (h:n<1000000):n<sizeLine:=Nat.lt_of_lt_of_le h (by decide)
theorem oS {x:D×Bool} {v:V} {fp:Y2} (k:aS x=true) (o:Own K F H x.1 v fp) (h:x.2=true->∀b∈fp,H1 b=none):∀b∈fp,H1 b=none:=fun b hb=>by
 unfold aS at k
 cases e:x.2 with
 | true=>exact h e b hb
 | false =>
  rw [e,Bool.false_or] at k
  rw [Own.dU x.1 k o] at hb;cases hb
theorem aDo {i:Nat} {f:aR} (h:sv K W (cR i f) D' σ H):zU (tBM K "list" xT (tU i) (qH (tv K f) aBl)) D' σ H:=by
 obtain ⟨ρ,F,fps,S,h⟩:=h
 unfold cR at h
 cases ef:f ρ with
 | exc _=>rw [ef] at h;exact h.elim
 | bad=>rw [ef] at h;exact h.elim
 | ok x =>
  rw [ef] at h
  have h:dE K W F H fps.flatten ρ σ D' (match (getD ρ i).bind fun d=>uY d x with | some d=>.next (putD ρ i d) | none=>.bad):=h
  cases eg:getD ρ i with
  | none=>rw [eg] at h;exact h.elim
  | some d0 =>
   rw [eg] at h
   have h:dE K W F H fps.flatten ρ σ D' (match uY d0 x with | some d=>.next (putD ρ i d) | none=>.bad):=h
   cases ek:uY d0 x with
   | none=>rw [ek] at h;exact h.elim
   | some d1 =>
    rw [ek] at h
    unfold uY at ek
    split at ek<;>try cases ek
    rename_i ds
    by_cases hc:(aS x && decide (ds.length<1000000))=true
    ·rw [if_pos hc] at ek;cases ek
     rw [Bool.and_eq_true,decide_eq_true_iff] at hc
     obtain ⟨v,fp,h1,h2,h3⟩:=S.get eg
     obtain ⟨a,xs,fq,ev,r,w1,w2,w3⟩:=Own.opened h3
     subst ev;subst w3
     have nfp:=S.sub h2
     refine ⟨.ref a,h1,.inl ⟨rfl,xs,SqL.of w2⟩,ρ,F,fps,S,?_⟩
     rw [ef]
     intro u F2 H2 fu g2 o2 n2 k2
     have k3:=oS hc.1 o2 k2
     have S2:=S.grow g2
     have w2':=g2.all a _ w2
     refine ⟨a,xs,u,rfl,rfl,w2',oK (by rw [<- aJ.length ds r];exact hc.2),?_⟩
     have w1':=S2.zone1 h2 List.mem_cons_self
     have hau:a ∉ fu:=fun z=>by have:=k3 a z;rw [w2] at this;cases this
     have haq:a ∉ fq:=(List.nodup_cons.mp nfp).1
     have r2:aJ K F2 (upd H2 a (.lst (xs ++ [u]))) (ds ++ [x.1]) (xs ++ [u]) (fq++fu):=aJ.append ds ((r.grow g2).other haq) (aJ.one (o2.other hau))
     have hn:(a::(fq++fu)).Nodup:=by
      refine List.nodup_cons.mpr ⟨fun z=>(List.mem_append.mp z).elim haq hau,List.nodup_append.mpr ⟨(List.nodup_cons.mp nfp).2,n2,fun p hp q hq z=>?_⟩⟩
      subst z
      exact S.aDk k3 p hq (List.mem_flatten.mpr ⟨_,List.mem_of_getElem? h2,List.mem_cons_of_mem _ hp⟩)
     refine fC.mut h S g2 k3 eg h1 h2 List.mem_cons_self (Own.closed r2 w1' bJ) hn fun b hb=>?_
     rcases List.mem_cons.mp hb with rfl | hb
     ·exact .inl List.mem_cons_self
     ·exact (List.mem_append.mp hb).imp_left fun z=>List.mem_cons_of_mem _ z
    ·rw [if_neg hc] at ek;cases ek
def aD7 (d0:D) (k:Int) (x:D×Bool):Option D:=match d0 with
 | .lst true ds=>if aS x then (ixN ds.length k).map fun j=>.lst true (ds.set j x.1) else none | _=>none
def fO (i:Nat) (h f:aR):SemS:=fun ρ=>match f ρ with
 | .ok x=>(match h ρ with
  | .ok (.int k,_)=>(match (getD ρ i).bind fun d=>aD7 d k x with | some d=>.next (putD ρ i d) | none=>.bad)
  | .ok _=>.bad | .exc _=>.bad | .bad=>.bad)
 | .exc _=>.bad | .bad=>.bad
theorem aSg {n:Nat} {k:Int} {j:Nat} (e:ixN n k=some j):j<n:=by
 unfold ixN at e
 split at e
 ·split at e
  ·cases e;omega
  ·cases e
 ·split at e
  ·cases e;omega
  ·cases e
theorem set_own {ds:List D} {xs:List V} {fq fu:Y2} {a:Addr} {j:Nat} {d:D} {u:V} (r:aJ K F H ds xs fq) (n:(a::fq).Nodup) (hj:j<ds.length) (w1:F a=none) (o:Own K F H d u fu) (nu:fu.Nodup) (hau:a ∉ fu) (dju:∀b∈fu,b ∉ fq) :
  ∃fq',Own K F (upd H a (.lst (xs.set j u))) (.lst true (ds.set j d)) (.ref a) (a::fq')/\(a::fq').Nodup/\∀b∈fq',b∈fq\/b∈fu:=by
 obtain ⟨na,nq⟩:=List.nodup_cons.mp n
 obtain ⟨dj,hdj⟩:∃dj,ds[j]?=some dj:=⟨ds[j],by simp [hj]⟩
 obtain ⟨vj,fj,q1,q2,q3,_,q4⟩:=aJ.replace ds (r.other (a:=a) (o:=.lst (xs.set j u)) na) nq hdj
 obtain ⟨fq',p1,p2,p3⟩:=q4 _ d u fu (fun b _ _=>rfl) (o.other hau)
 have k:∀b∈fq',b∈fq\/b∈fu:=fun b hb=>(p2 b hb).elim .inr fun z=>.inl z.1
 refine ⟨fq',Own.closed p1 w1 bJ,List.nodup_cons.mpr ⟨fun z=>(k a z).elim na hau,p3 nu fun b hb=>.inr (dju b hb)⟩,k⟩
theorem aB0 {i:Nat} {h f:aR} (hh:sv K W (fO i h f) D' σ H):aDn (tv K f) (aW7 (tU i) (tv K h) aQe) D' σ H:=by
 obtain ⟨ρ,F,fps,S,hh⟩:=hh
 unfold fO at hh
 cases ef:f ρ with
 | exc _=>rw [ef] at hh;exact hh.elim
 | bad=>rw [ef] at hh;exact hh.elim
 | ok x =>
  rw [ef] at hh
  dsimp only at hh
  cases eh:h ρ with
  | exc _=>rw [eh] at hh;exact hh.elim
  | bad=>rw [eh] at hh;exact hh.elim
  | ok y =>
   rw [eh] at hh
   obtain ⟨y,by'⟩:=y
   cases y<;>try exact hh.elim
   rename_i k
   dsimp only at hh
   cases eg:getD ρ i with
   | none=>rw [eg] at hh;exact hh.elim
   | some d0 =>
    rw [eg] at hh
    dsimp only [Option.bind] at hh
    cases ek:aD7 d0 k x with
    | none=>rw [ek] at hh;exact hh.elim
    | some d1 =>
     rw [ek] at hh
     unfold aD7 at ek
     split at ek<;>try cases ek
     rename_i ds
     by_cases hc:aS x=true
     ·rw [if_pos hc] at ek
      cases ej:ixN ds.length k with
      | none=>rw [ej] at ek;cases ek
      | some j =>
       rw [ej] at ek;cases ek
       refine ⟨ρ,F,fps,S,?_⟩
       rw [ef]
       intro u F2 H2 fu g2 o2 n2 k2
       have k3:=oS hc o2 k2
       have S2:=S.grow g2
       obtain ⟨v,fp,h1,h2,h3⟩:=S2.get eg
       refine ⟨v,h1,ρ,F2,fps,S2,?_⟩
       rw [eh]
       intro w F3 H3 fw g3 o3 n3 k4
       unfold Own at o3
       obtain ⟨a,xs,fq,ev,r,w1,w2,w3⟩:=Own.opened (h3.grow g3)
       subst ev;subst w3
       have nfp:=S.sub h2
       refine ⟨a,xs,k,j,rfl,o3.1,w2,by rw [<- aJ.length ds r];exact ej,?_⟩
       have hz:∀b∈a::fq,b∈fps.flatten:=fun b hb=>List.mem_flatten.mpr ⟨_,List.mem_of_getElem? h2,hb⟩
       have nf:=S.aDk k3
       obtain ⟨fq',p1,p2,p3⟩:=set_own r nfp (aSg ej) w1 (o2.grow g3) n2 (fun z=>nf a z (hz a List.mem_cons_self)) fun b hb z=>nf b hb (hz b (List.mem_cons_of_mem _ z))
       refine fC.mut hh S (g2.trans g3) k3 eg h1 h2 List.mem_cons_self p1 p2 fun b hb=>?_
       rcases List.mem_cons.mp hb with rfl | hb
       ·exact .inl List.mem_cons_self
       ·exact (p3 b hb).imp_left fun z=>List.mem_cons_of_mem _ z
     ·rw [if_neg hc] at ek;cases ek
def aIg (d0:D) (k:Int) (x:D×Bool):Option D:=match d0 with
 | .lst true ds=>(ixN ds.length k).bind fun j=>(ds[j]?).bind fun dj=>(uY dj x).map fun d=>.lst true (ds.set j d)
 | _=>none
def lY (i:Nat) (h f:aR):SemS:=fun ρ=>match h ρ with
 | .ok (.int k,_)=>(match f ρ with
  | .ok x=>(match (getD ρ i).bind fun d=>aIg d k x with | some d=>.next (putD ρ i d) | none=>.bad)
  | .exc _=>.bad | .bad=>.bad)
 | .ok _=>.bad | .exc _=>.bad | .bad=>.bad
theorem aH3 {ds:List D} {xs:List V} {fq:Y2} {a:Addr} {j:Nat} {dj:D} (r:aJ K F H ds xs fq) (n:(a::fq).Nodup) (w1:F a=none) (w2:H a=some (.lst xs)) (hdj:ds[j]?=some dj) :
  ∃vj fj,xs[j]?=some vj/\Own K F H dj vj fj/\(∀b∈fj,b∈fq)/\fj.Nodup/\∀(b:Addr) (ys:List V) (dj':D) (fj' fu:Y2),b∈fj->Own K F (upd H b (.lst ys)) dj' vj fj'->fj'.Nodup->(∀c∈fj',c∈fj\/c∈fu)->(∀c∈fu,c ∉ a::fq) ->
   ∃fq',Own K F (upd H b (.lst ys)) (.lst true (ds.set j dj')) (.ref a) (a::fq')/\(a::fq').Nodup/\∀c∈fq',c∈fq\/c∈fu:=by
 obtain ⟨na,nq⟩:=List.nodup_cons.mp n
 obtain ⟨vj,fj,q1,q2,q3,q5,q4⟩:=aJ.replace ds r nq hdj
 refine ⟨vj,fj,q1,q2,q3,q5,?_⟩
 ·intro b ys dj' fj' fu hb o nj k1 k2
  obtain ⟨fq',p1,p2,p3⟩:=q4 _ dj' vj fj' (fun c hc hn=>aU fun z=>hn (z ▸ hb)) o
  have hx:xs.set j vj=xs:=by
   apply List.ext_getElem?
   intro m
   by_cases hm:j=m
   ·subst hm;rw [q1,List.getElem?_set_self (List.getElem?_eq_some_iff.mp q1).1]
   ·rw [List.getElem?_set_ne hm]
  rw [hx] at p1
  have hab:a ≠ b:=fun z=>na (q3 a (z ▸ hb))
  have k:∀c∈fq',c∈fq\/c∈fu:=fun c hc=>by
   rcases p2 c hc with q | q
   ·exact (k1 c q).imp_left (q3 c)
   ·exact .inl q.1
  refine ⟨fq',Own.closed p1 w1 (by rw [aU hab];exact w2),List.nodup_cons.mpr ⟨fun z=>?_,p3 nj fun c hc=>(k1 c hc).imp_right fun q z=>k2 c q (List.mem_cons_of_mem _ z)⟩,k⟩
  rcases k a z with q | q
  ·exact na q
  ·exact k2 a q List.mem_cons_self
theorem aNm {α:Type} {xs:List α} {k:Int} {j:Nat} {v:α} (e:ixN xs.length k=some j) (h:xs[j]?=some v):atI xs k=some v:=by
 unfold atI;rw [e];exact h
theorem zT {i:Nat} {h f:aR} (hh:sv K W (lY i h f) D' σ H):zU (tBM K "list" xT (tOp (aMp K) (tU i) (tv K h)) (qH (tv K f) aBl)) D' σ H:=by
 obtain ⟨ρ,F,fps,S,hh⟩:=hh
 unfold lY at hh
 cases eh:h ρ with
 | exc _=>rw [eh] at hh;exact hh.elim
 | bad=>rw [eh] at hh;exact hh.elim
 | ok y =>
  rw [eh] at hh
  obtain ⟨y,by'⟩:=y
  cases y<;>try exact hh.elim
  rename_i k
  dsimp only at hh
  cases ef:f ρ with
  | exc _=>rw [ef] at hh;exact hh.elim
  | bad=>rw [ef] at hh;exact hh.elim
  | ok x =>
   rw [ef] at hh
   dsimp only at hh
   cases eg:getD ρ i with
   | none=>rw [eg] at hh;exact hh.elim
   | some d0 =>
    rw [eg] at hh
    dsimp only [Option.bind] at hh
    cases ek:aIg d0 k x with
    | none=>rw [ek] at hh;exact hh.elim
    | some d1 =>
     rw [ek] at hh
     unfold aIg at ek
     split at ek<;>try cases ek
     rename_i ds
     cases ej:ixN ds.length k with
     | none=>rw [ej] at ek;cases ek
     | some j =>
      rw [ej] at ek
      dsimp only [Option.bind] at ek
      cases edj:ds[j]? with
      | none=>rw [edj] at ek;cases ek
      | some dj =>
       rw [edj] at ek
       dsimp only at ek
       cases ea:uY dj x with
       | none=>rw [ea] at ek;cases ek
       | some dn =>
        rw [ea] at ek;cases ek
        unfold uY at ea
        split at ea<;>try cases ea
        rename_i es
        by_cases hc:(aS x && decide (es.length<1000000))=true
        ·rw [if_pos hc] at ea;cases ea
         rw [Bool.and_eq_true,decide_eq_true_iff] at hc
         obtain ⟨v,fp,h1,h2,h3⟩:=S.get eg
         refine ⟨v,h1,ρ,F,fps,S,?_⟩
         rw [eh]
         intro w F2 H2 fw g2 o2 n2 k2
         unfold Own at o2
         obtain ⟨a,xs,fq,ev,r,w1,w2,w3⟩:=Own.opened (h3.grow g2)
         subst ev;subst w3
         have nfp:=S.sub h2
         have S2:=S.grow g2
         obtain ⟨vj,fj,q1,q2,q3,q5,q4⟩:=aH3 r nfp w1 w2 edj
         obtain ⟨b,ys,fr,eb,rb,b1,b2,b3⟩:=Own.opened q2
         subst eb;subst b3
         refine ⟨a,xs,k,.ref b,rfl,o2.1,SqL.of w2,aNm (by rw [<- aJ.length ds r];exact ej) q1,.inl ⟨rfl,ys,SqL.of b2⟩,ρ,F2,fps,S2,?_⟩
         rw [ef]
         intro u F3 H3 fu g3 o3 n3 k3
         have k3:=oS hc.1 o3 k3
         have nf:=S2.aDk k3
         have hz:∀c∈a::fq,c∈fps.flatten:=fun c hb=>List.mem_flatten.mpr ⟨_,List.mem_of_getElem? h2,hb⟩
         obtain ⟨vj',fj',p1,p2,p3,p5,p4⟩:=aH3 (r.grow g3) nfp ((S2.grow g3).zone1 h2 List.mem_cons_self) (g3.all _ _ w2) edj
         have evj:vj'=.ref b:=by rw [q1] at p1;exact (Option.some.inj p1).symm
         subst evj
         obtain ⟨b',ys',fr',eb',rb',b1',b2',b3'⟩:=Own.opened p2
         cases eb'
         subst b3'
         have eys:ys'=ys:=by
          have:=g3.all _ _ b2
          rw [b2'] at this
          cases this;rfl
         subst eys
         have nfj:=List.nodup_cons.mp p5
         have hb0:b∈fq:=p3 b List.mem_cons_self
         have hbu:b ∉ fu:=fun z=>nf b z (hz b (List.mem_cons_of_mem _ hb0))
         refine ⟨b,ys',u,rfl,rfl,b2',oK (by rw [<- aJ.length es rb'];exact hc.2),?_⟩
         have rb2:aJ K F3 (upd H3 b (.lst (ys' ++ [u]))) (es ++ [x.1]) (ys' ++ [u]) (fr'++fu):=aJ.append es (rb'.other nfj.1) (aJ.one (o3.other hbu))
         have hn:(b::(fr'++fu)).Nodup:=by
          refine List.nodup_cons.mpr ⟨fun z=>(List.mem_append.mp z).elim nfj.1 hbu,List.nodup_append.mpr ⟨nfj.2,n3,fun p hp q hq z=>?_⟩⟩
          subst z
          exact nf p hq (hz p (List.mem_cons_of_mem _ (p3 p (List.mem_cons_of_mem _ hp))))
         obtain ⟨fq',s1,s2,s3⟩:=p4 b (ys' ++ [u]) (.lst true (es ++ [x.1])) (b::(fr'++fu)) fu List.mem_cons_self (Own.closed rb2 b1' bJ) hn (fun c hc=>by
          rcases List.mem_cons.mp hc with rfl | hc
          ·exact .inl List.mem_cons_self
          ·exact (List.mem_append.mp hc).imp_left fun z=>List.mem_cons_of_mem _ z) fun c hc z=>nf c hc (hz c z)
         refine fC.mut (fu:=fu) hh S (g2.trans g3) (fun c hc=>g2.all.free (k3 c hc)) eg h1 h2 (List.mem_cons_of_mem _ hb0) s1 s2 fun c hc=>?_
         rcases List.mem_cons.mp hc with rfl | hc
         ·exact .inl List.mem_cons_self
         ·exact (s3 c hc).imp_left fun z=>List.mem_cons_of_mem _ z
        ·rw [if_neg hc] at ea;cases ea
def frz1 (ρ:Env) (i:Nat):Env:=match getD ρ i with | some d=>putD ρ i d.frz | none=>ρ
def jE (is:T0) (g:SemS):SemS:=fun ρ=>g (is.foldl frz1 ρ)
theorem Sim.frz1 {fps:Y5} (S:Sim K F H σ ρ fps) (i:Nat):∃F' fps',Sim K F' H σ (VL.frz1 ρ i) fps'/\Evo F H fps.flatten F' H fps'.flatten/\kT ρ (VL.frz1 ρ i):=by
 unfold VL.frz1
 cases e:getD ρ i with
 | none=>exact ⟨F,fps,S,.refl,kT.refl _⟩
 | some d =>
  obtain ⟨v,fp,h1,h2,h3⟩:=S.get e
  have hz:∀b∈fp,b∈fps.flatten:=fun b hb=>List.mem_flatten.mpr ⟨_,List.mem_of_getElem? h2,hb⟩
  have z:∀b∈fp,F b=none:=fun b hb=>(S.zone b (hz b hb)).1
  have hsub:∀b∈(fps.set i []).flatten,b∈fps.flatten/\b ∉ fp:=by
   intro b hb
   refine ⟨(bL hb).elim id (fun q=>by cases q),fun q=>?_⟩
   obtain ⟨l,hl,hbl⟩:=List.mem_flatten.mp hb
   obtain ⟨j,hj⟩:=List.mem_iff_getElem?.mp hl
   by_cases hij:i=j
   ·subst hij
    rw [List.getElem?_set_self (List.getElem?_eq_some_iff.mp h2).1] at hj;cases hj;cases hbl
   ·rw [List.getElem?_set_ne hij] at hj
    exact apart S.nd h2 hj hij q hbl
  refine ⟨gD F H fp,fps.set i [],⟨oB S.same,by rw [fQ];exact S.ls,by rw [fQ,List.length_set];exact S.lf,fun j s c e1 e2=>?_,eJ S.nd h2 List.nodup_nil (fun b hb=>by cases hb),fun b hb=>?_⟩,⟨eT z,fun _ _ e _=>e,fun _ e=>e,fun b o e=>?_,fun b hb=>.inl (hsub b hb).1⟩,oP⟩
  ·rcases sQ e1 e2 (by rw [e];rfl) with ⟨rfl,rfl⟩ | ⟨hj,e3⟩
   ·exact ⟨v,[],h1,List.getElem?_set_self (List.getElem?_eq_some_iff.mp h2).1,Own.freeze z d (fun a ha=>ha) h3⟩
   ·obtain ⟨w,f,q1,q2,q3⟩:=S.at_ j s c e3 e2
    refine ⟨w,f,q1,by rw [List.getElem?_set_ne hj];exact q2,Own.keep (eT z) c (fun a ha=>⟨?_,rfl⟩) q3⟩
    unfold gD
    rw [if_neg fun q=>apart S.nd h2 q2 hj q ha]
    exact (Own.zone c q3 a ha).1
  ·obtain ⟨q1,q2⟩:=hsub b hb
   refine ⟨?_,(S.zone b q1).2⟩
   unfold gD;rw [if_neg q2];exact (S.zone b q1).1
  ·unfold gD at e
   split at e
   ·rename_i hb;exact .inr (.inr (hz b hb))
   ·exact .inl e
theorem Sim.frzs (is:T0):∀ {ρ:Env} {F:Hp} {fps:Y5},Sim K F H σ ρ fps->∃F' fps',Sim K F' H σ (is.foldl VL.frz1 ρ) fps'/\Evo F H fps.flatten F' H fps'.flatten/\kT ρ (is.foldl VL.frz1 ρ):=by
 induction is with
 | nil=>intro ρ F fps S;exact ⟨F,fps,S,.refl,kT.refl _⟩
 | cons i is ih =>
  intro ρ F fps S
  obtain ⟨F1,fps1,S1,e1,p1⟩:=S.frz1 i
  obtain ⟨F2,fps2,S2,e2,p2⟩:=ih S1
  exact ⟨F2,fps2,S2,e1.trans e2,p1.trans p2⟩
theorem aS6 {is:T0} {g:SemS} (h:sv K W (jE is g) D' σ H):sv K W g D' σ H:=by
 obtain ⟨ρ,F,fps,S,h⟩:=h
 obtain ⟨F1,fps1,S1,e1,p1⟩:=Sim.frzs is S
 exact ⟨_,F1,fps1,S1,dE.lift e1 p1.pins h⟩
def gC (i:Nat):SemS:=fun ρ=>match ρ[i]? with
 | some (.val d)=>.ret d (ρ.set i .un) | some (.pin d)=>if d.calm then .ret d ρ else .bad | _=>.bad
theorem aNl {i:Nat} (h:sv K W (gC i) D' σ H):aSc (tU i) D' σ H:=by
 obtain ⟨ρ,F,fps,S,h⟩:=h
 unfold gC at h
 cases e:ρ[i]? with
 | none=>rw [e] at h;exact h.elim
 | some s =>
  rw [e] at h
  cases s with
  | un=>exact h.elim
  | pin d =>
   have h:dE K W F H fps.flatten ρ σ D' (if d.calm=true then .ret d ρ else .bad):=h
   by_cases hc:d.calm=true
   ·rw [if_pos hc] at h
    obtain ⟨v,fp,h1,h2,h3⟩:=S.at_ i _ d e rfl
    have:=Own.dU d hc h3
    subst this
    exact ⟨v,h1,h v σ F H fps [] .refl S (gG.refl _ _) h3 List.nodup_nil fun b hb=>by cases hb⟩
   ·rw [if_neg hc] at h;exact h.elim
  | val d =>
   obtain ⟨v,fp,h1,h2,h3⟩:=S.at_ i _ d e rfl
   have hz:∀b∈fp,b∈fps.flatten:=fun b hb=>List.mem_flatten.mpr ⟨_,List.mem_of_getElem? h2,hb⟩
   have hlt:i < ρ.length:=(List.getElem?_eq_some_iff.mp e).1
   have hsub:∀b∈(fps.set i []).flatten,b∈fps.flatten/\b ∉ fp:=by
    intro b hb
    refine ⟨(bL hb).elim id (fun q=>by cases q),fun q=>?_⟩
    obtain ⟨l,hl,hbl⟩:=List.mem_flatten.mp hb
    obtain ⟨j,hj⟩:=List.mem_iff_getElem?.mp hl
    by_cases hij:i=j
    ·subst hij
     rw [List.getElem?_set_self (List.getElem?_eq_some_iff.mp h2).1] at hj;cases hj;cases hbl
    ·rw [List.getElem?_set_ne hij] at hj
     exact apart S.nd h2 hj hij q hbl
   refine ⟨v,h1,h v σ F H (fps.set i []) fp ⟨Same.refl _,fun _ _ e _=>e,fun _ e=>e,fun _ _ e=>.inl e,fun b hb=>.inl (hsub b hb).1⟩ ⟨S.same,by simp [S.ls],by simp [S.lf],fun j s c e1 e2=>?_,eJ S.nd h2 List.nodup_nil (fun b hb=>by cases hb),fun b hb=>S.zone b (hsub b hb).1⟩ (fun j c e1=>?_) h3 (S.sub h2) fun b hb=>⟨fun q=>(hsub b q).2 hb,.inl (hz b hb)⟩⟩
   ·by_cases hij:i=j
    ·subst hij
     rw [List.getElem?_set_self hlt] at e1;cases e1;cases e2
    ·rw [List.getElem?_set_ne hij] at e1
     obtain ⟨w,f,q1,q2,q3⟩:=S.at_ j s c e1 e2
     exact ⟨w,f,q1,by rw [List.getElem?_set_ne hij];exact q2,q3⟩
   ·have hij:i ≠ j:=by rintro rfl;rw [e] at e1;cases e1
    exact ⟨⟨c,by rw [List.getElem?_set_ne hij];exact e1⟩,rfl⟩
def pT (i:Nat) (op:Int->Int->Int) (f:aR):SemS:=fun ρ=>match getD ρ i with
 | some (.int a)=>(match f ρ with
  | .ok (.int b,_)=>if free ρ i then .next (ρ.set i (.val (.int (op a b)))) else .bad
  | .ok _=>.bad | .exc _=>.bad | .bad=>.bad)
 | _=>.bad
theorem aTb {i:Nat} {op:Int->Int->Int} {f:aR} (h:sv K W (pT i op f) D' σ H):aYd i (tv K f) (ipI op) D' σ H:=by
 obtain ⟨ρ,F,fps,S,h⟩:=h
 unfold pT at h
 cases eg:getD ρ i with
 | none=>rw [eg] at h;exact h.elim
 | some d =>
  rw [eg] at h
  cases d<;>try exact h.elim
  rename_i a
  obtain ⟨v,fp,h1,h2,h3⟩:=S.get eg
  unfold Own at h3
  refine ⟨v,h1,ρ,F,fps,S,?_⟩
  dsimp only at h
  cases ef:f ρ with
  | exc _=>rw [ef] at h;exact h.elim
  | bad=>rw [ef] at h;exact h.elim
  | ok y =>
   rw [ef] at h
   obtain ⟨y,by'⟩:=y
   cases y<;>try exact h.elim
   rename_i b
   intro u F1 H1 fu g1 o1 n1 k1
   unfold Own at o1
   refine ⟨a,b,h3.1,o1.1,?_⟩
   have h:dE K W F H fps.flatten ρ σ D' (if free ρ i=true then .next (ρ.set i (.val (.int (op a b)))) else .bad):=h
   by_cases hc:free ρ i=true
   ·rw [if_pos hc] at h
    have S1:=(S.grow g1).store (i:=i) (gI (K:=K) (F:=F1) (H:=H1) (d:=.int (op a b)) rfl) List.nodup_nil fun b hb=>by cases hb
    exact h _ F1 H1 _ (aCx (g1.evo (Z:=fps.flatten)) fun b hb=>by cases hb) S1 (jU hc)
   ·rw [if_neg hc] at h;exact h.elim
end
end VL
end
section
namespace VL
open PySem L2
section
variable {K:FG} {W:XW} {F H F' H' F1 H1:Hp} {Z Z' Z1:Y2} {σ σ1:St} {ρ ρ1:Env} {D':Ends}
abbrev Fn:=List D->R (D×List D)
def kB (K:FG) (F H:Hp) (ds:List D) (vs:List V) (fps:Y5):Prop :=
 ds.length=vs.length/\fps.length=ds.length/\∀(i:Nat) (d:D),ds[i]?=some d->∃v fp,vs[i]?=some v/\fps[i]?=some fp/\Own K F H d v fp
def aPi (K:FG) (F H:Hp) (vs:List V) (Z:Y2) (Q:VK) (x:D×List D):Prop :=
 ∀r F' H' fps' fr,Evo F H Z F' H' fps'.flatten->Same F' H'->kB K F' H' x.2 vs fps'->fps'.flatten.Nodup->Own K F' H' x.1 r fr->fr.Nodup->(∀b∈fr,b ∉ fps'.flatten/\(b∈Z\/H b=none))->Q r H'
def qN (K:FG) (c:Str) (C:Addr):Prop:=PySem.W.nsIn K mainGlobals c=some (some (.ref C))
def FX (K:FG) (F H:Hp) (Z:Y2) (E:XK) (c:Str):Prop :=
 ∀F' H' Z',Evo F H Z F' H' Z'->Same F' H'->∀C,qN K c C->E (.ref C) none H'
def wOf (K:FG) (E:XK):XW:=fun c _ H'=>∀C,qN K c C->E (.ref C) none H'
def spV (K:FG) (n:Nat) (fn:Fn):Sp:=fun vs H Q E=>vs.length=n/\∃F ds fps,Same F H/\kB K F H ds vs fps/\fps.flatten.Nodup/\(∀b∈fps.flatten,F b=none/\H b ≠ none)/\(fn ds).hx (aPi K F H vs fps.flatten Q) (FX K F H fps.flatten E)
def entry (n:Nat) (ds:List D):Env:=ds.map (fun d=>if d.calm then Slot.val d else .pin d)++List.replicate (n - ds.length) .un
def outs:List D->Env->List D
 | [],_=>[]
 | d::ds,s::ρ=>(if d.calm then d else match s with | .pin d'=>d' | _=>d)::outs ds ρ
 | d::ds,[]=>d::outs ds []
def fnOf (n:Nat) (body:SemS):Fn:=fun ds=>match body (entry n ds) with
 | .ret d ρ'=>.ok (d,outs ds ρ') | .next ρ'=>.ok (.non,outs ds ρ') | .exc c _=>.exc c | _=>.bad
theorem rV:∀(ds:List D) (ρ:Env) (i:Nat) (d:D),(outs ds ρ)[i]?=some d->∃c,ds[i]?=some c/\d=(if c.calm then c else match ρ[i]? with | some (.pin d')=>d' | _=>c)
 | [],_,_,_,e=>by simp [outs] at e
 | c::ds,s::ρ,0,d,e=>by
  simp [outs] at e
  refine ⟨c,rfl,?_⟩
  subst e
  cases c.calm<;>cases s<;>rfl
 | c::ds,s::ρ,i+1,d,e=>by
  simp [outs] at e
  obtain ⟨c',h1,h2⟩:=rV ds ρ i d e
  exact ⟨c',by simpa using h1,by simpa using h2⟩
 | c::ds,[],0,d,e=>by
  simp [outs] at e
  refine ⟨c,rfl,?_⟩
  subst e
  cases c.calm<;>rfl
 | c::ds,[],i+1,d,e=>by
  simp [outs] at e
  obtain ⟨c',h1,h2⟩:=rV ds [] i d e
  exact ⟨c',by simpa using h1,by simpa using h2⟩
theorem pD:∀(ds:List D) (ρ:Env),(outs ds ρ).length=ds.length
 | [],_=>rfl
 | d::ds,s::ρ=>by simp [outs,pD ds ρ]
 | d::ds,[]=>by simp [outs,pD ds []]
theorem entry_get {n:Nat} {ds:List D} {i:Nat} {s:Slot} {d:D} (e:(entry n ds)[i]?=some s) (e2:s.d?=some d):ds[i]?=some d/\(s=if d.calm then Slot.val d else .pin d):=by
 unfold entry at e
 by_cases hi:i<ds.length
 ·rw [List.getElem?_append_left (by simpa using hi),List.getElem?_map] at e
  rw [List.getElem?_eq_getElem hi] at e ⊢
  have e:(if (ds[i]).calm=true then Slot.val ds[i] else .pin ds[i])=s:=Option.some.inj e
  subst e
  cases hc:(ds[i]).calm
  ·rw [hc] at e2;cases e2;exact ⟨rfl,by rw [hc]⟩
  ·rw [hc] at e2;cases e2;exact ⟨rfl,by rw [hc]⟩
 ·rw [List.getElem?_append_right (by simpa using hi),List.getElem?_replicate] at e
  split at e
  ·cases e;cases e2
  ·cases e
theorem kB.sim {n:Nat} {N:List Str} {ds:List D} {vs:List V} {fps:Y5} (hN:N.length=n) (hn:vs.length<=n) (hs:Same F H) (o:kB K F H ds vs fps) (nd:fps.flatten.Nodup) (zo:∀b∈fps.flatten,F b=none/\H b ≠ none) :
  Sim K F H (L2.start N vs) (entry n ds) (fps++List.replicate (n - ds.length) []):=by
 obtain ⟨l1,l2,h⟩:=o
 have hfl:(fps++List.replicate (n - ds.length) ([]:Y2)).flatten=fps.flatten:=by simp
 refine ⟨hs,?_,?_,fun i s d e1 e2=>?_,by rw [hfl];exact nd,fun b hb=>by rw [hfl] at hb;exact zo b hb⟩
 ·unfold L2.start entry;simp;omega
 ·unfold entry;simp;omega
 ·obtain ⟨e3,_⟩:=entry_get e1 e2
  obtain ⟨v,fp,q1,q2,q3⟩:=h i d e3
  have hi:i<vs.length:=(List.getElem?_eq_some_iff.mp q1).1
  refine ⟨v,fp,?_,?_,q3⟩
  ·unfold L2.start
   rw [List.getElem?_append_left (by simpa using hi),List.getElem?_map,q1];rfl
  ·rw [List.getElem?_append_left (by omega)];exact q2
theorem aGx {n:Nat} {N:List Str} {ds:List D} {vs:List V} {fps fps':Y5} {σ':St} {ρ':Env} (hn:vs.length<=n) (o:kB K F H ds vs fps)
  (ev:Evo F H fps.flatten F' H' fps'.flatten) (S:Sim K F' H' σ' ρ' fps') (p:gG (entry n ds) (L2.start N vs) ρ' σ') :
  ∃fps2,kB K F' H' (outs ds ρ') vs fps2/\fps2.flatten.Sublist fps'.flatten:=by
 obtain ⟨l1,l2,h⟩:=o
 have pick:∀(k:Nat),k<=ds.length->∃fps2:Y5,fps2.length=k/\fps2.flatten.Sublist (fps'.take k).flatten/\∀(i:Nat) (c:D),i<k->ds[i]?=some c->fps2[i]?=some (if c.calm then [] else (fps'[i]?).getD []):=by
  intro k
  induction k with
  | zero=>intro _;exact ⟨[],rfl,by simp,fun i c hi=>by omega⟩
  | succ k ih =>
   intro hk
   obtain ⟨f2,e1,e2,e3⟩:=ih (by omega)
   obtain ⟨c,hc⟩:∃c,ds[k]?=some c:=⟨ds[k],by simp⟩
   refine ⟨f2 ++ [if c.calm then [] else (fps'[k]?).getD []],by simp [e1],?_,fun i c' hi hc'=>?_⟩
   ·rw [List.flatten_append,List.take_add_one,List.flatten_append]
    refine List.Sublist.append e2 ?_
    cases hcc:c.calm
    ·cases q:fps'[k]?<;>simp
    ·simp
   ·by_cases hik:i<k
    ·rw [List.getElem?_append_left (by omega)];exact e3 i c' hik hc'
    ·have:i=k:=by omega
     subst this
     rw [hc] at hc';cases hc'
     rw [List.getElem?_append_right (by omega),e1];simp
 obtain ⟨f2,e1,e2,e3⟩:=pick ds.length (Nat.le_refl _)
 refine ⟨f2,⟨by rw [pD];exact l1,by rw [pD];exact e1,fun i d hd=>?_⟩,e2.trans ?_⟩
 ·obtain ⟨c,hc,hd2⟩:=rV ds ρ' i d hd
  obtain ⟨v,fp,q1,q2,q3⟩:=h i c hc
  have hi:i<ds.length:=(List.getElem?_eq_some_iff.mp hc).1
  refine ⟨v,_,q1,e3 i c hi hc,?_⟩
  cases hcc:c.calm with
  | true =>
   rw [hcc] at hd2
   simp only [if_true] at hd2 ⊢
   subst hd2
   have:=Own.dU d hcc q3
   subst this
   exact Own.keep ev.fr d (fun a ha=>by cases ha) q3
  | false =>
   rw [hcc] at hd2
   have en:(entry n ds)[i]?=some (.pin c):=by
    unfold entry
    rw [List.getElem?_append_left (by simpa using hi),List.getElem?_map,hc]
    show some (if c.calm=true then Slot.val c else .pin c)=_
    rw [hcc];rfl
   obtain ⟨⟨d',hp⟩,es⟩:=p i c en
   rw [hp] at hd2
   simp only [Bool.false_eq_true,if_false] at hd2 ⊢
   subst hd2
   obtain ⟨w,f,s1,s2,s3⟩:=S.at_ i _ d hp rfl
   rw [s2]
   have ew:(L2.start N vs)[i]?=some (some v):=by
    unfold L2.start
    have hiv:i<vs.length:=(List.getElem?_eq_some_iff.mp q1).1
    rw [List.getElem?_append_left (by simpa using hiv),List.getElem?_map,q1];rfl
   rw [es,ew] at s1
   cases s1
   exact s3
 ·have e:fps'.flatten=(fps'.take ds.length).flatten++(fps'.drop ds.length).flatten:=by rw [<- List.flatten_append,List.take_append_drop]
  rw [e];exact List.sublist_append_left _ _
theorem zK {n:Nat} {N:List Str} {body:SemS} {vs:List V} {k:Nat} {Q:VK} {E:XK} (hN:N.length=n) (hk:k<=n) (h:spV K k (fnOf n body) vs H Q E):sv K (wOf K E) body { nx:=fun _ H'=>Q .non H',rt:=Q } (L2.start N vs) H:=by
 obtain ⟨lk,F,ds,fps,hs,o,nd,zo,h⟩:=h
 have hn:vs.length<=n:=by omega
 have hfl:(fps++List.replicate (n - ds.length) ([]:Y2)).flatten=fps.flatten:=by simp
 refine ⟨entry n ds,F,_,o.sim hN hn hs nd zo,?_⟩
 rw [hfl]
 unfold fnOf at h
 cases e:body (entry n ds) with
 | next ρ' =>
  rw [e] at h
  intro σ' F' H' fps' ev S p
  obtain ⟨f2,o2,sb⟩:=aGx hn o ev S p
  have hz:∀b∈f2.flatten,b∈fps'.flatten:=fun b hb=>sb.subset hb
  exact h .non F' H' f2 [] ⟨ev.fr,ev.keep,ev.dom,ev.new,fun b hb=>ev.zone b (hz b hb)⟩ S.same o2 (sb.nodup S.nd) (gI rfl) List.nodup_nil fun b hb=>by cases hb
 | ret d ρ' =>
  rw [e] at h
  intro r σ' F' H' fps' fr ev S p od nr kr
  obtain ⟨f2,o2,sb⟩:=aGx hn o ev S p
  have hz:∀b∈f2.flatten,b∈fps'.flatten:=fun b hb=>sb.subset hb
  exact h r F' H' f2 fr ⟨ev.fr,ev.keep,ev.dom,ev.new,fun b hb=>ev.zone b (hz b hb)⟩ S.same o2 (sb.nodup S.nd) od nr fun b hb=>⟨fun z=>(kr b hb).1 (hz b z),(kr b hb).2⟩
 | brk _=>rw [e] at h;exact h.elim
 | cont _=>rw [e] at h;exact h.elim
 | exc c ρ' =>
  rw [e] at h
  exact fun σ' F' H' fps' ev S p=>h F' H' fps'.flatten ev S.same
 | bad=>rw [e] at h;exact h.elim
theorem Args.ice:∀(xs:List (D×Bool)) {vs:List V} {fa:Y2},Args K F H xs vs fa->∃U:Y2,(∀b∈U,F b=none)/\(xs.all aS=true->∀b∈U,b∈fa)/\∀U':Y2,(∀b∈U,b∈U')->(∀b∈U',F b=none)->aJ K (gD F H U') H (D.frzs (xs.map (·.1))) vs []
 | [],vs,fa,h=>by
  unfold Args at h
  refine ⟨[],by simp,by simp,fun U' _ _=>?_⟩
  rw [h.1];exact aJ.nil
 | x::xs,vs,fa,h=>by
  unfold Args at h
  obtain ⟨v,r,fp,f2,e,o,n,t,w⟩:=h
  obtain ⟨U,u1,u2,u3⟩:=Args.ice xs t
  refine ⟨fp++U,fun b hb=>(List.mem_append.mp hb).elim (fun z=>(Own.zone x.1 o b z).1) (u1 b),fun hk b hb=>?_,fun U' s1 s2=>?_⟩
  ·rw [List.all_cons,Bool.and_eq_true] at hk
   have k2:=u2 hk.2
   rcases w with ⟨_,w⟩ | ⟨e2,w⟩
   ·subst w
    exact (List.mem_append.mp hb).elim (fun z=>List.mem_append_left _ z) fun z=>List.mem_append_right _ (k2 b z)
   ·subst w
    have hc:x.1.calm=true:=by have:=hk.1;unfold aS at this;rw [e2] at this;exact this
    rw [Own.dU x.1 hc o] at hb
    exact k2 b hb
  ·rw [e,List.map_cons,D.frzs]
   have a:=Own.freeze s2 x.1 (fun b hb=>s1 b (List.mem_append_left _ hb)) o
   have b:=u3 U' (fun b hb=>s1 b (List.mem_append_right _ hb)) s2
   exact aJ.cons a b
theorem jK {ds:List D} {vs:List V} (o:aJ K F H ds vs []):kB K F H ds vs (List.replicate ds.length []):=by
 refine ⟨aJ.length ds o,by simp,fun i d hd=>?_⟩
 obtain ⟨v,f,q1,q2,q3⟩:=aJ.get ds o hd
 have:f=[]:=List.sublist_nil.mp q3
 subst this
 exact ⟨v,[],q1,by rw [List.getElem?_replicate,if_pos (List.getElem?_eq_some_iff.mp hd).1],q2⟩
def isScal (d:D):Bool:=(fH d).isSome
def aO (fn:Fn) (g:cH):aR:=fun ρ=>(g ρ).bind fun xs=>(fn (D.frzs (xs.map (·.1)))).bind fun y=>if xs.all aS || isScal y.1 then .ok (y.1,true) else .bad
theorem wL {fn:Fn} {g:cH} {n:Nat} {Q:VK} (hl:∀ρ xs,g ρ=.ok xs->xs.length=n) (h:tv K (aO fn g) σ H Q):aAe (spV K n fn) [] E0 (tvA K g) σ H Q:=by
 obtain ⟨ρ,F,fps,S,h⟩:=h
 unfold aO at h
 refine ⟨ρ,F,fps,S,?_⟩
 cases eg:g ρ with
 | exc _=>rw [eg] at h;exact h.elim
 | bad=>rw [eg] at h;exact h.elim
 | ok xs =>
  rw [eg] at h
  have h:=R.aW.mp h
  have h:=R.aW.mp (show ((fn (D.frzs (xs.map (·.1)))).bind _).holds _ from h)
  intro vs F1 H1 fa g1 a1 n1 k1
  obtain ⟨U,u1,u2,u3⟩:=Args.ice xs a1
  have o:=u3 U (fun b hb=>hb) u1
  have len:vs.length=n:=by rw [<- Args.length xs a1];exact hl ρ xs eg
  rw [List.append_nil]
  refine ⟨len,gD F1 H1 U,_,_,oB g1.inn,jK o,by simp,by simp,R.aQm (R.aP h fun y hy r F2 H2 fps2 fr ev hs2 o2 nd2 or nr kr=>?_)⟩
  have same:Same H1 H2:=fun b o e=>ev.keep b o e (by simp)
  by_cases hk:xs.all aS=true
  ·have hfa:=u2 hk
   rw [hk,Bool.true_or,if_pos rfl] at hy
   have gU:Grow F H (gD F1 H1 U) H1:=g1.frz (fun b hb=>k1 b (hfa b hb)) u1
   have g2:Grow (gD F1 H1 U) H1 F2 H2:=⟨ev.fr,same,hs2,fun b o e=>(ev.new b o e).elim .inl fun q=>q.elim .inr fun q=>by simp at q⟩
   refine hy r F2 H2 fr (gU.trans g2) or nr fun _ b hb=>?_
   rcases (kr b hb).2 with q | q
   ·simp at q
   ·exact g1.all.free q
  ·by_cases hsc:isScal y.1=true
   ·rw [hsc,Bool.or_true,if_pos rfl] at hy
    unfold isScal at hsc
    cases es:fH y.1 with
    | none=>rw [es] at hsc;cases hsc
    | some v =>
     obtain ⟨e1,e2⟩:=rF es or
     subst e1
     have gS:Grow F1 H1 F1 H2:=⟨Same.refl _,same,g1.inn.trans same,fun _ _ e=>.inl e⟩
     exact EPost.fD (g1.trans gS) hy es
   ·have:(xs.all aS || isScal y.1)=false:=by
     rw [Bool.eq_false_iff];intro z
     rcases Bool.or_eq_true _ _ ▸ z with z | z
     ·exact hk z
     ·exact hsc z
    rw [this] at hy;exact hy.elim
def wE (K:FG) (W:XW) (σ:St):XK:=fun v _ H'=>∃c C,v=.ref C/\qN K c C/\W c σ H'
def xR (sp:Sp) (E:St->XK) (t:TA):TE:=fun σ H Q=>t σ H fun vs H1=>sp (vs ++ []) H1 Q (E σ)
def bO (fn:Fn) (g:cH):gZ:=fun ρ=>match g ρ with
 | .ok xs=>(match fn (D.frzs (xs.map (·.1))) with
  | .ok y=>if xs.all aS || isScal y.1 then .ok (y.1,true,ρ) else .bad
  | .exc c=>.exc c | .bad=>.bad)
 | _=>.bad
theorem aDa {fn:Fn} {g:cH} {n:Nat} {Q:VK} (hl:∀ρ xs,g ρ=.ok xs->xs.length=n) (h:tx K W (bO fn g) σ H Q):xR (spV K n fn) (wE K W) (tvA K g) σ H Q:=by
 obtain ⟨ρ,F,fps,S,h⟩:=h
 unfold bO at h
 refine ⟨ρ,F,fps,S,?_⟩
 cases eg:g ρ with
 | exc _=>rw [eg] at h;exact h.elim
 | bad=>rw [eg] at h;exact h.elim
 | ok xs =>
  rw [eg] at h
  dsimp only at h
  intro vs F1 H1 fa g1 a1 n1 k1
  obtain ⟨U,u1,u2,u3⟩:=Args.ice xs a1
  have o:=u3 U (fun b hb=>hb) u1
  have len:vs.length=n:=by rw [<- Args.length xs a1];exact hl ρ xs eg
  rw [List.append_nil]
  refine ⟨len,gD F1 H1 U,_,_,oB g1.inn,jK o,by simp,by simp,?_⟩
  cases ef:fn (D.frzs (xs.map (·.1))) with
  | bad=>rw [ef] at h;exact h.elim
  | exc c =>
   rw [ef] at h
   have h:fC K F H fps.flatten ρ σ (W c) ρ:=h
   intro F2 H2 Z2 ev hs2 C hC
   have same:Same H1 H2:=fun b o e=>ev.keep b o e (by simp)
   have gS:Grow F1 H1 F1 H2:=⟨Same.refl _,same,g1.inn.trans same,fun _ _ e=>.inl e⟩
   exact ⟨c,C,rfl,hC,h σ F1 H2 fps (g1.trans gS).evo (S.grow (g1.trans gS)) (gG.refl _ _)⟩
  | ok y =>
   rw [ef] at h
   have h:((if (xs.all aS || isScal y.1)=true then R.ok (y.1,true,ρ) else R.bad):R (D×Bool×Env)).hx (nA K F H fps.flatten ρ σ Q) (fun c=>fC K F H fps.flatten ρ σ (W c) ρ):=h
   intro r F2 H2 fps2 fr ev hs2 o2 nd2 or nr kr
   have same:Same H1 H2:=fun b o e=>ev.keep b o e (by simp)
   by_cases hk:xs.all aS=true
   ·have hfa:=u2 hk
    rw [hk,Bool.true_or,if_pos rfl] at h
    have hy:nA K F H fps.flatten ρ σ Q (y.1,true,ρ):=h
    have gU:Grow F H (gD F1 H1 U) H1:=g1.frz (fun b hb=>k1 b (hfa b hb)) u1
    have g2:Grow (gD F1 H1 U) H1 F2 H2:=⟨ev.fr,same,hs2,fun b o e=>(ev.new b o e).elim .inl fun q=>q.elim .inr fun q=>by simp at q⟩
    have g3:=gU.trans g2
    refine hy r F2 H2 fps fr g3.evo (S.grow g3) (kT.refl _) or nr fun _ b hb=>?_
    have hn:H b=none:=by
     rcases (kr b hb).2 with q | q
     ·simp at q
     ·exact g1.all.free q
    exact ⟨fun hz=>(S.zone b hz).2 hn,.inr hn⟩
   ·by_cases hsc:isScal y.1=true
    ·rw [hsc,Bool.or_true,if_pos rfl] at h
     have hy:nA K F H fps.flatten ρ σ Q (y.1,true,ρ):=h
     unfold isScal at hsc
     cases es:fH y.1 with
     | none=>rw [es] at hsc;cases hsc
     | some v =>
      obtain ⟨e1,e2⟩:=rF es or
      subst e1
      have gS:Grow F1 H1 F1 H2:=⟨Same.refl _,same,g1.inn.trans same,fun _ _ e=>.inl e⟩
      exact hy _ F1 H2 fps [] (g1.trans gS).evo (S.grow (g1.trans gS)) (kT.refl _) (gI es) List.nodup_nil fun _ b hb=>by cases hb
    ·have:(xs.all aS || isScal y.1)=false:=by
      rw [Bool.eq_false_iff];intro z
      rcases Bool.or_eq_true _ _ ▸ z with z | z
      ·exact hk z
      ·exact hsc z
     rw [this] at h;exact h.elim
def nN:T0->TA
 | []=>aBl
 | i::is=>qH (tU i) (nN is)
def cY:T0->Env->Option (List D)
 | [],_=>some []
 | i::is,ρ=>(getD ρ i).bind fun d=>(cY is ρ).map (d::·)
def cA:T0->List D->List D->Env->Env
 | i::is,c::cs,d::ds,ρ=>cA is cs ds (if c.calm then ρ else putD ρ i d)
 | _,_,_,ρ=>ρ
def fI:T0->Bool
 | []=>true
 | i::is=>!is.contains i && fI is
def nP (fn:Fn) (is:T0):gZ:=fun ρ=>match cY is ρ with
 | some ds=>if fI is then (match fn ds with | .ok y=>.ok (y.1,true,cA is ds y.2 ρ) | _=>.bad) else .bad
 | none=>.bad
theorem nodup_of_apart {L:Y5} (h1:∀(i:Nat) (f:Y2),L[i]?=some f->f.Nodup) (h2:∀(i j:Nat) (f g:Y2) (a:Addr),L[i]?=some f->L[j]?=some g->i ≠ j->a∈f->a ∉ g):L.flatten.Nodup:=by
 induction L with
 | nil=>simp
 | cons f r ih =>
  rw [List.flatten_cons]
  refine List.nodup_append.mpr ⟨h1 0 f rfl,ih (fun i g e=>h1 (i+1) g (by simpa using e)) (fun i j p q a e1 e2 ne=>h2 (i+1) (j+1) p q a (by simpa using e1) (by simpa using e2) (by omega)),fun a ha b hb z=>?_⟩
  subst z
  obtain ⟨l,hl,hal⟩:=List.mem_flatten.mp hb
  obtain ⟨j,hj⟩:=List.mem_iff_getElem?.mp hl
  exact h2 0 (j+1) f l a rfl (by simpa using hj) (by omega) ha hal
def eM:T0->List D->Y5->Y5->Y5
 | i::is,c::cs,f::fs,L=>eM is cs fs (if c.calm then L else L.set i f)
 | _,_,_,L=>L
theorem nM {i:Nat} {is:T0} (h:fI (i::is)=true):i ∉ is/\fI is=true:=by
 unfold fI at h
 rw [Bool.and_eq_true,Bool.not_eq_true'] at h
 refine ⟨fun z=>?_,h.2⟩
 have:=List.contains_iff_mem.mpr z
 rw [h.1] at this;cases this
theorem rO:∀(is:T0) {cs ds:List D} {ρ:Env} {j:Nat},j ∉ is->(cA is cs ds ρ)[j]?=ρ[j]?
 | [],_,_,_,_,_=>by unfold cA;rfl
 | i::is,[],_,_,_,_=>by unfold cA;rfl
 | i::is,c::cs,[],_,_,_=>by unfold cA;rfl
 | i::is,c::cs,d::ds,ρ,j,h=>by
  unfold cA
  rw [rO is fun z=>h (List.mem_cons_of_mem _ z)]
  split
  ·rfl
  ·have hij:i ≠ j:=fun z=>h (by rw [z];exact List.mem_cons_self)
   unfold putD
   split
   ·rw [List.getElem?_set_ne hij]
   ·rw [List.getElem?_set_ne hij]
   ·rfl
theorem wC:∀(is:T0) {cs:List D} {fs L:Y5} {j:Nat},j ∉ is->(eM is cs fs L)[j]?=L[j]?
 | [],_,_,_,_,_=>by unfold eM;rfl
 | i::is,[],_,_,_,_=>by unfold eM;rfl
 | i::is,c::cs,[],_,_,_=>by unfold eM;rfl
 | i::is,c::cs,d::ds,ρ,j,h=>by
  unfold eM
  rw [wC is fun z=>h (List.mem_cons_of_mem _ z)]
  split
  ·rfl
  ·have hij:i ≠ j:=fun z=>h (by rw [z];exact List.mem_cons_self)
   rw [List.getElem?_set_ne hij]
theorem lP:∀(is:T0) {cs ds:List D} {ρ:Env},(cA is cs ds ρ).length=ρ.length
 | [],_,_,_=>by unfold cA;rfl
 | i::is,[],_,_=>by unfold cA;rfl
 | i::is,c::cs,[],_=>by unfold cA;rfl
 | i::is,c::cs,d::ds,ρ=>by
  unfold cA
  rw [lP is]
  split
  ·rfl
  ·exact fQ
theorem pY:∀(is:T0) {cs:List D} {fs L:Y5},(eM is cs fs L).length=L.length
 | [],_,_,_=>by unfold eM;rfl
 | i::is,[],_,_=>by unfold eM;rfl
 | i::is,c::cs,[],_=>by unfold eM;rfl
 | i::is,c::cs,d::ds,ρ=>by
  unfold eM
  rw [pY is]
  split
  ·rfl
  ·simp
theorem rZ:∀(is:T0) {cs ds:List D} {fs L:Y5} {ρ:Env} (j:Nat),fI is=true->cs.length=is.length->ds.length=is.length->fs.length=is.length->cY is ρ=some cs->L.length=ρ.length ->
  (∃(k:Nat) (c d:D) (f:Y2) (s:Slot),is[k]?=some j/\cs[k]?=some c/\c.calm=false/\ds[k]?=some d/\fs[k]?=some f/\ρ[j]?=some s/\(cA is cs ds ρ)[j]?=some (match s with | .pin _=>.pin d | _=>.val d)/\(eM is cs fs L)[j]?=some f) \/
  ((∀(k:Nat) (c:D),is[k]?=some j->cs[k]?=some c->c.calm=true)/\(cA is cs ds ρ)[j]?=ρ[j]?/\(eM is cs fs L)[j]?=L[j]?)
 | [],cs,ds,fs,L,ρ,j,_,_,_,_,_,_=>.inr ⟨fun k c e=>by simp at e,by unfold cA;rfl,by unfold eM;rfl⟩
 | i::is,c::cs,d::ds,f::fs,L,ρ,j,hn,h1,h2,h3,hg,hl=>by
  obtain ⟨hi,hn2⟩:=nM hn
  unfold cY at hg
  cases eg:getD ρ i with
  | none=>rw [eg] at hg;cases hg
  | some c' =>
   rw [eg] at hg
   cases eg2:cY is ρ with
   | none=>rw [eg2] at hg;cases hg
   | some cs' =>
    rw [eg2] at hg
    have hg:some (c'::cs')=some (c::cs):=hg
    cases hg
    unfold cA eM
    by_cases hj:i=j
    ·subst hj
     rw [rO is hi,wC is hi]
     cases hc:c.calm with
     | true =>
      refine .inr ⟨fun k b e1 e2=>?_,by simp,by simp⟩
      cases k with
      | zero=>simp at e2;subst e2;exact hc
      | succ k=>exact absurd (List.mem_of_getElem? (by simpa using e1)) hi
     | false =>
      obtain ⟨s,hs⟩:∃s,ρ[i]?=some s:=by
       unfold getD at eg
       cases q:ρ[i]? with
       | none=>rw [q] at eg;cases eg
       | some s=>exact ⟨s,rfl⟩
      have hlt:i < ρ.length:=(List.getElem?_eq_some_iff.mp hs).1
      refine .inl ⟨0,c,d,f,s,rfl,rfl,hc,rfl,rfl,hs,?_,?_⟩
      ·simp only [Bool.false_eq_true,if_false]
       unfold putD
       unfold getD at eg
       rw [hs] at eg ⊢
       cases s with
       | un=>cases eg
       | val _=>exact List.getElem?_set_self hlt
       | pin _=>exact List.getElem?_set_self hlt
      ·simp only [Bool.false_eq_true,if_false]
       exact List.getElem?_set_self (by omega)
    ·have st:∀(ρ2:Env) (L2:Y5),ρ2[j]?=ρ[j]?->L2[j]?=L[j]?->cY is ρ2=some cs->L2.length=ρ2.length ->
       ((∃(k:Nat) (c₁ d₁:D) (f₁:Y2) (s:Slot),(i::is)[k]?=some j/\(c::cs)[k]?=some c₁/\c₁.calm=false/\(d::ds)[k]?=some d₁/\(f::fs)[k]?=some f₁/\ρ[j]?=some s/\(cA is cs ds ρ2)[j]?=some (match s with | .pin _=>.pin d₁ | _=>.val d₁)/\(eM is cs fs L2)[j]?=some f₁) \/
       ((∀(k:Nat) (c₁:D),(i::is)[k]?=some j->(c::cs)[k]?=some c₁->c₁.calm=true)/\(cA is cs ds ρ2)[j]?=ρ[j]?/\(eM is cs fs L2)[j]?=L[j]?)):=by
      intro ρ2 L2 q1 q2 q3 q4
      rcases rZ is (L:=L2) (ds:=ds) (fs:=fs) j hn2 (by simpa using h1) (by simpa using h2) (by simpa using h3) q3 q4 with ⟨k,a1,a2,a3,a4,b1,b2,b3,b4,b5,b6,b7,b8⟩ | ⟨b1,b2,b3⟩
      ·exact .inl ⟨k+1,a1,a2,a3,a4,by simpa using b1,by simpa using b2,b3,by simpa using b4,by simpa using b5,q1 ▸ b6,b7,b8⟩
      ·refine .inr ⟨fun k a e1 e2=>?_,b2.trans q1,b3.trans q2⟩
       cases k with
       | zero=>simp at e1;exact absurd e1 hj
       | succ k=>exact b1 k a (by simpa using e1) (by simpa using e2)
     cases hc:c.calm with
     | true=>simpa only [if_true] using st ρ L rfl rfl eg2 hl
     | false =>
      simp only [Bool.false_eq_true,if_false]
      refine st _ _ ?_ (List.getElem?_set_ne hj) ?_ (by rw [fQ,List.length_set];exact hl)
      ·unfold putD
       split
       ·rw [List.getElem?_set_ne hj]
       ·rw [List.getElem?_set_ne hj]
       ·rfl
      ·rw [<- eg2]
       exact getDs_put is hi
 | _::_,[],_,_,_,_,_,_,h,_,_,_,_=>by simp at h
 | _::_,_::_,[],_,_,_,_,_,_,h,_,_,_=>by simp at h
 | _::_,_::_,_::_,[],_,_,_,_,_,_,h,_,_=>by simp at h
where
 getDs_put:∀(is:T0) {ρ:Env} {i:Nat} {d:D},i ∉ is->cY is (putD ρ i d)=cY is ρ
 | [],_,_,_,_=>rfl
 | k::is,ρ,i,d,h=>by
  unfold cY
  rw [getDs_put is fun z=>h (List.mem_cons_of_mem _ z)]
  have hik:i ≠ k:=fun z=>h (by rw [z];exact List.mem_cons_self)
  have:getD (putD ρ i d) k=getD ρ k:=by
   unfold getD putD
   split
   ·rw [List.getElem?_set_ne hik]
   ·rw [List.getElem?_set_ne hik]
   ·rfl
  rw [this]
end
end VL
end
section
namespace VL
open PySem L2
section
variable {K:FG} {W:XW} {F H F' H' F1 H1:Hp} {Z Z' Z1:Y2} {σ σ1:St} {ρ ρ1:Env} {D':Ends}
theorem mO {fps:Y5} (S:Sim K F H σ ρ fps):∀(is:T0) {ds:List D},cY is ρ=some ds->∃vs:List V,(∀P:List V->Hp->Prop,P vs H->nN is σ H P)/\vs.length=is.length/\ds.length=is.length /\
  (∀(k:Nat) (d:D),ds[k]?=some d->∃i v fp,is[k]?=some i/\vs[k]?=some v/\σ[i]?=some (some v)/\fps[i]?=some fp/\Own K F H d v fp)
 | [],ds,e=>by
  unfold cY at e;cases e
  exact ⟨[],fun P h=>h,rfl,rfl,fun k d e=>by simp at e⟩
 | i::is,ds,e=>by
  unfold cY at e
  cases eg:getD ρ i with
  | none=>rw [eg] at e;cases e
  | some d =>
   rw [eg] at e
   cases eg2:cY is ρ with
   | none=>rw [eg2] at e;cases e
   | some ds2 =>
    rw [eg2] at e
    have e:some (d::ds2)=some ds:=e
    cases e
    obtain ⟨vs,h1,h2,h3,h4⟩:=mO S is eg2
    obtain ⟨v,fp,q1,q2,q3⟩:=S.get eg
    refine ⟨v::vs,fun P h=>⟨v,q1,h1 _ h⟩,by simp [h2],by simp [h3],fun k c ec=>?_⟩
    cases k with
    | zero=>simp at ec;subst ec;exact ⟨i,v,fp,rfl,rfl,q1,q2,q3⟩
    | succ k=>simpa using h4 k c (by simpa using ec)
theorem aFy {fn:Fn} {is:T0} {n:Nat} {Q:VK} (hn:is.length=n) (h:tx K W (nP fn is) σ H Q):aAe (spV K n fn) [] E0 (nN is) σ H Q:=by
 obtain ⟨ρ,F,fps,S,h⟩:=h
 unfold nP at h
 cases eg:cY is ρ with
 | none=>rw [eg] at h;exact h.elim
 | some ds =>
  rw [eg] at h
  have h:(if fI is=true then (match fn ds with | .ok y=>R.ok (y.1,true,cA is ds y.2 ρ) | _=>.bad) else R.bad).hx (nA K F H fps.flatten ρ σ Q) (fun c=>fC K F H fps.flatten ρ σ (W c) ρ):=h
  by_cases hnd:fI is=true
  ·rw [if_pos hnd] at h
   have h:(fn ds).holds fun y=>nA K F H fps.flatten ρ σ Q (y.1,true,cA is ds y.2 ρ):=by
    cases ef:fn ds with
    | ok y=>rw [ef] at h;exact h
    | exc _=>rw [ef] at h;exact h.elim
    | bad=>rw [ef] at h;exact h.elim
   obtain ⟨vs,t1,l1,l2,g⟩:=mO S is eg
   refine t1 _ ?_
   show spV K n fn (vs ++ []) H Q E0
   rw [List.append_nil]
   let fc:Y5:=is.map fun i=>(fps[i]?).getD []
   have fcg:∀(k i:Nat),is[k]?=some i->fc[k]?=some ((fps[i]?).getD []):=fun k i e=>by
    show (is.map _)[k]?=_
    rw [List.getElem?_map,e];rfl
   have isget:∀(k:Nat) (f:Y2),fc[k]?=some f->∃i,is[k]?=some i/\f=(fps[i]?).getD []:=fun k f e=>by
    have e:(is.map fun i=>(fps[i]?).getD [])[k]?=some f:=e
    rw [List.getElem?_map] at e
    cases q:is[k]? with
    | none=>rw [q] at e;cases e
    | some i=>rw [q] at e;exact ⟨i,rfl,(Option.some.inj e).symm⟩
   have nodupget:∀(is:T0),fI is=true->∀(k k' i:Nat),is[k]?=some i->is[k']?=some i->k=k':=by
    intro is
    induction is with
    | nil=>intro _ k k' i e;simp at e
    | cons a r ih =>
     intro hn k k' i e1 e2
     obtain ⟨q1,q2⟩:=nM hn
     cases k with
     | zero =>
      simp at e1;subst e1
      cases k' with
      | zero=>rfl
      | succ k'=>exact absurd (List.mem_of_getElem? (by simpa using e2)) q1
     | succ k =>
      cases k' with
      | zero=>simp at e2;subst e2;exact absurd (List.mem_of_getElem? (by simpa using e1)) q1
      | succ k'=>rw [ih q2 k k' i (by simpa using e1) (by simpa using e2)]
   have infc:∀b∈fc.flatten,∃k i f,is[k]?=some i/\fps[i]?=some f/\b∈f:=fun b hb=>by
    obtain ⟨l,hl,hbl⟩:=List.mem_flatten.mp hb
    obtain ⟨k,hk⟩:=List.mem_iff_getElem?.mp hl
    obtain ⟨i,e1,e2⟩:=isget k l hk
    cases q:fps[i]? with
    | none=>rw [q] at e2;subst e2;cases hbl
    | some f=>rw [q] at e2;subst e2;exact ⟨k,i,_,e1,q,hbl⟩
   have sub:∀b∈fc.flatten,b∈fps.flatten:=fun b hb=>by
    obtain ⟨k,i,f,_,e,hb⟩:=infc b hb
    exact List.mem_flatten.mpr ⟨f,List.mem_of_getElem? e,hb⟩
   have fcn:fc.flatten.Nodup:=by
    refine nodup_of_apart (fun k f e=>?_) fun k k' f f' a e1 e2 ne ha=>?_
    ·obtain ⟨i,_,q⟩:=isget k f e
     cases q2:fps[i]? with
     | none=>rw [q2] at q;subst q;exact List.nodup_nil
     | some g=>rw [q2] at q;subst q;exact S.sub q2
    ·obtain ⟨i,p1,q1⟩:=isget k f e1
     obtain ⟨i',p2,q2⟩:=isget k' f' e2
     have ne2:i ≠ i':=fun z=>ne (nodupget is hnd k k' i p1 (by rw [z];exact p2))
     cases r1:fps[i]? with
     | none=>rw [r1] at q1;subst q1;cases ha
     | some g =>
      rw [r1] at q1;subst q1
      cases r2:fps[i']? with
      | none=>rw [r2] at q2;subst q2;intro z;cases z
      | some g'=>rw [r2] at q2;subst q2;exact apart S.nd r1 r2 ne2 ha
   refine ⟨by omega,F,ds,fc,S.same,⟨by omega,by show (is.map _).length=_;simp [l2],fun k d e=>?_⟩,fcn,fun b hb=>S.zone b (sub b hb),R.aQm (R.aP h fun y hy r F' H' fps' fr ev hs o2 nd2 or nr kr=>?_)⟩
   ·obtain ⟨i,v,fp,q1,q2,q3,q4,q5⟩:=g k d e
    exact ⟨v,fp,q2,by rw [fcg k i q1,q4];rfl,q5⟩
   ·have ly:y.2.length=is.length:=by rw [o2.1,l1]
    have lf':fps'.length=is.length:=by rw [o2.2.1,ly]
    have BG:=fun j=>rZ is (ds:=y.2) (fs:=fps') (L:=fps) j hnd l2 ly lf' eg S.lf
    have away:∀(j:Nat) (f:Y2) (a:Addr),(∀(k:Nat) (c:D),is[k]?=some j->ds[k]?=some c->c.calm=true)->fps[j]?=some f->a∈f->a ∉ fc.flatten:=fun j f a hc hf ha hz=>by
     obtain ⟨k,i,f',e1,e2,hb⟩:=infc a hz
     by_cases hij:i=j
     ·subst hij
      obtain ⟨c,ec⟩:∃c,ds[k]?=some c:=⟨ds[k]'(by rw [l2];exact (List.getElem?_eq_some_iff.mp e1).1),by simp⟩
      obtain ⟨i',v,fp,q1,q2,q3,q4,q5⟩:=g k c ec
      rw [e1] at q1;cases q1
      rw [hf] at q4;cases q4
      rw [Own.dU c (hc k c e1 ec) q5] at ha;cases ha
     ·exact apart S.nd e2 hf hij hb ha
    have still:∀(j:Nat) (f:Y2) (a:Addr),(∀(k:Nat) (c:D),is[k]?=some j->ds[k]?=some c->c.calm=true)->fps[j]?=some f->a∈f->F' a=none/\H' a=H a:=fun j f a hc hf ha=>by
     have hn:=away j f a hc hf ha
     obtain ⟨z1,z2⟩:=S.zone a (List.mem_flatten.mpr ⟨f,List.mem_of_getElem? hf,ha⟩)
     constructor
     ·cases q:F' a with
      | none=>rfl
      | some o =>
       rcases ev.new a o q with w | w | w
       ·rw [z1] at w;cases w
       ·exact absurd w z2
       ·exact absurd w hn
     ·cases q:H a with
      | none=>exact absurd q z2
      | some o=>exact ev.keep a o q hn
    have slotOf:∀(j:Nat) (f:Y2),(eM is ds fps' fps)[j]?=some f->(∃k,is[k]?=some j/\fps'[k]?=some f)\/((∀(k:Nat) (c:D),is[k]?=some j->ds[k]?=some c->c.calm=true)/\fps[j]?=some f):=fun j f e=>by
     rcases BG j with ⟨k,c,d,f',s,b1,b2,b3,b4,b5,b6,b7,b8⟩ | ⟨b1,b2,b3⟩
     ·rw [b8] at e;cases e;exact .inl ⟨k,b1,b5⟩
     ·rw [b3] at e;exact .inr ⟨b1,e⟩
    have inN:∀b∈(eM is ds fps' fps).flatten,b∈fps'.flatten\/∃(j:Nat) (f:Y2),(∀(k:Nat) (c:D),is[k]?=some j->ds[k]?=some c->c.calm=true)/\fps[j]?=some f/\b∈f:=fun b hb=>by
     obtain ⟨l,hl,hbl⟩:=List.mem_flatten.mp hb
     obtain ⟨j,hj⟩:=List.mem_iff_getElem?.mp hl
     rcases slotOf j l hj with ⟨k,_,q⟩ | ⟨q1,q2⟩
     ·exact .inl (List.mem_flatten.mpr ⟨l,List.mem_of_getElem? q,hbl⟩)
     ·exact .inr ⟨j,l,q1,q2,hbl⟩
    have cross:∀(j:Nat) (f:Y2) (a:Addr),(∀(k:Nat) (c:D),is[k]?=some j->ds[k]?=some c->c.calm=true)->fps[j]?=some f->a∈f->(a∈fc.flatten\/H a=none)->False:=fun j f a hc hf ha w=>by
     rcases w with w | w
     ·exact away j f a hc hf ha w
     ·exact (S.zone a (List.mem_flatten.mpr ⟨f,List.mem_of_getElem? hf,ha⟩)).2 w
    refine hy r F' H' (eM is ds fps' fps) fr ⟨ev.fr,fun b o e hb=>ev.keep b o e fun z=>hb (sub b z),ev.dom,fun b o e=>?_,fun b hb=>?_⟩ ⟨hs,by rw [lP];exact S.ls,by rw [pY,lP];exact S.lf,fun j s d e1 e2=>?_,nodup_of_apart (fun j f e=>?_) fun j j' f f' a e1 e2 ne ha=>?_,fun b hb=>?_⟩ (fun j d e=>?_) or nr fun _ b hb=>⟨fun z=>?_,(kr b hb).2.imp_left (sub b)⟩
    ·rcases ev.new b o e with w | w | w
     ·exact .inl w
     ·exact .inr (.inl w)
     ·exact .inr (.inr (sub b w))
    ·rcases inN b hb with w | ⟨j,f,_,w2,w3⟩
     ·exact (ev.zone b w).imp_left (sub b)
     ·exact .inl (List.mem_flatten.mpr ⟨f,List.mem_of_getElem? w2,w3⟩)
    ·rcases BG j with ⟨k,c,d',f',s',b1,b2,b3,b4,b5,b6,b7,b8⟩ | ⟨b1,b2,b3⟩
     ·have e1':(cA is ds y.2 ρ)[j]?=some s:=e1
      rw [b7] at e1'
      have ed:d=d':=by
       have e1':=Option.some.inj e1'
       subst e1'
       cases s'<;>exact (Option.some.inj e2).symm
      subst ed
      obtain ⟨v,fp,q1,q2,q3⟩:=o2.2.2 k d b4
      rw [b5] at q2;cases q2
      obtain ⟨i',v',fp',p1,p2,p3,p4,p5⟩:=g k c b2
      rw [b1] at p1;cases p1
      rw [p2] at q1;cases q1
      exact ⟨_,_,p3,b8,q3⟩
     ·have e1':(cA is ds y.2 ρ)[j]?=some s:=e1
      rw [b2] at e1'
      obtain ⟨v,f,q1,q2,q3⟩:=S.at_ j s d e1' e2
      exact ⟨v,f,q1,by rw [b3];exact q2,Own.keep ev.fr d (fun a ha=>still j f a b1 q2 ha) q3⟩
    ·rcases slotOf j f e with ⟨k,_,q⟩ | ⟨_,q⟩
     ·exact (List.sublist_flatten_of_mem (List.mem_of_getElem? q)).nodup nd2
     ·exact S.sub q
    ·rcases slotOf j f e1 with ⟨k,p,q⟩ | ⟨p,q⟩
     ·rcases slotOf j' f' e2 with ⟨k',p',q'⟩ | ⟨p',q'⟩
      ·have nk:k ≠ k':=fun z=>ne (by subst z;rw [p] at p';exact Option.some.inj p')
       exact apart nd2 q q' nk ha
      ·intro hb
       exact cross j' f' a p' q' hb (ev.zone a (List.mem_flatten.mpr ⟨f,List.mem_of_getElem? q,ha⟩))
     ·rcases slotOf j' f' e2 with ⟨k',p',q'⟩ | ⟨p',q'⟩
      ·intro hb
       exact cross j f a p q ha (ev.zone a (List.mem_flatten.mpr ⟨f',List.mem_of_getElem? q',hb⟩))
      ·exact apart S.nd q q' ne ha
    ·rcases inN b hb with w | ⟨j,f,w1,w2,w3⟩
     ·obtain ⟨l,hl,hbl⟩:=List.mem_flatten.mp w
      obtain ⟨k,hk⟩:=List.mem_iff_getElem?.mp hl
      obtain ⟨d,hd⟩:∃d,y.2[k]?=some d:=⟨y.2[k]'(by rw [<- o2.2.1];exact (List.getElem?_eq_some_iff.mp hk).1),by simp⟩
      obtain ⟨v,fp,q1,q2,q3⟩:=o2.2.2 k d hd
      rw [hk] at q2;cases q2
      obtain ⟨z1,xs,z2⟩:=Own.zone d q3 b hbl
      exact ⟨z1,by rw [z2];simp⟩
     ·obtain ⟨z1,z2⟩:=still j f b w1 w2 w3
      exact ⟨z1,by rw [z2];exact (S.zone b (List.mem_flatten.mpr ⟨f,List.mem_of_getElem? w2,w3⟩)).2⟩
    ·show ∃d',(cA is ds y.2 ρ)[j]?=some (.pin d')
     rcases BG j with ⟨k,c,d',f',s',b1,b2,b3,b4,b5,b6,b7,b8⟩ | ⟨b1,b2,b3⟩
     ·rw [e] at b6;cases b6
      exact ⟨d',b7⟩
     ·exact ⟨d,by rw [b2];exact e⟩
    ·rcases inN b z with w | ⟨j,f,w1,w2,w3⟩
     ·exact (kr b hb).1 w
     ·exact cross j f b w1 w2 w3 (kr b hb).2
  ·rw [if_neg hnd] at h;exact h.elim
end
end VL
end
section
namespace VL
open PySem L2
section
variable {K:FG} {F H F' H' F1 H1:Hp} {σ:St} {Q:VK}
def aO9 (K:FG):R2:=fun x y H Q=>∃l b xs zs,x=.ref l/\y=.ref b/\Rd H l (.lst xs)/\Rd H b (.lst zs)/\xs.length+zs.length<=sizeLine/\∀p,H p=none->Q (.ref p) (upd H p (.lst (xs++zs)))
def aTi:D×Bool->D×Bool->R (D×Bool):=fun x y=>match x.1,y.1 with
 | .lst _ ds,.lst _ es=>if D.bS ds && D.bS es && decide (ds.length+es.length<=1000000) then .ok (.lst true (ds++es),true) else .bad
 | _,_=>.bad
theorem EPost.aVa {F0 H0:Hp} {ds:List D} {xs:List V} {p:Addr} (g:Grow F0 H0 F H) (h:EPost K F0 H0 Q (.lst true ds,true)) (hp:H p=none) (o:aJ K F H ds xs []):Q (.ref p) (upd H p (.lst xs)) :=
 h (.ref p) F _ [p] (g.trans (Grow.one g.inn hp)) (wZ g.inn hp o) (by simp) fun _ b hb=>by
  have:b=p:=by simpa using hb
  subst this;exact g.all.free hp
theorem EPost.bBh {F0 H0:Hp} {ds:List D} {xs:List V} {p:Addr} {b:Bool} (g:Grow F0 H0 F H) (h:EPost K F0 H0 Q (.tup ds,b)) (hp:H p=none) (o:aJ K F H ds xs []):Q (.ref p) (upd H p (.tup xs)):=by
 have g2:Grow F H (upd F p (.tup xs)) (upd H p (.tup xs)):=Grow.both g.inn hp
 refine h (.ref p) _ _ [] (g.trans g2) ?_ List.nodup_nil fun _ b hb=>by cases hb
 unfold Own
 exact ⟨rfl,p,xs,rfl,TqT.of bJ,o.grow g2⟩
theorem aOl:Op2 K aTi (aO9 K):=by
 intro F0 H0 F H x y v u fx fy Q gr o1 n1 k1 o2 n2 k2 h
 obtain ⟨x,bx⟩:=x
 obtain ⟨y,by'⟩:=y
 cases x<;>try exact h.elim
 cases y<;>try exact h.elim
 rename_i o ds o' es
 have h:(if (D.bS ds && D.bS es && decide (ds.length+es.length<=1000000))=true then R.ok (D.lst true (ds++es),true) else R.bad).holds (EPost K F0 H0 Q):=h
 by_cases hc:(D.bS ds && D.bS es && decide (ds.length+es.length<=1000000))=true
 ·rw [if_pos hc] at h
  simp only [Bool.and_eq_true,decide_eq_true_iff] at hc
  obtain ⟨a,xs,fq,e1,q1,r1,_⟩:=Own.aOt gr.inn o1
  obtain ⟨b,zs,fr,e2,q2,r2,_⟩:=Own.aOt gr.inn o2
  have:=aJ.dU ds hc.1.1 r1
  subst this
  have:=aJ.dU es hc.1.2 r2
  subst this
  refine ⟨a,b,xs,zs,e1,e2,q1,q2,?_,fun p hp=>EPost.aVa gr h hp (aJ.append ds r1 r2)⟩
  rw [<- aJ.length ds r1,<- aJ.length es r2];exact iG hc.2
 ·rw [if_neg hc] at h;exact h.elim
def aH1:D×Bool->D×Bool->R (D×Bool):=fun x y=>match x.1,y.1 with
 | .tup (d::ds),.tup es=>if decide (ds.length+1+es.length<=1000000) then .ok (.tup (d::ds++es),true) else .bad
 | _,_=>.bad
theorem aHn:Op2 K aH1 (aPk K):=by
 intro F0 H0 F H x y v u fx fy Q gr o1 n1 k1 o2 n2 k2 h
 obtain ⟨x,bx⟩:=x
 obtain ⟨y,by'⟩:=y
 cases x<;>try exact h.elim
 rename_i ds
 cases ds with
 | nil=>exact h.elim
 | cons d ds =>
  cases y<;>try exact h.elim
  rename_i es
  have h:(if decide (ds.length+1+es.length<=1000000)=true then R.ok (D.tup (d::ds++es),true) else R.bad).holds (EPost K F0 H0 Q):=h
  by_cases hc:decide (ds.length+1+es.length<=1000000)=true
  ·rw [if_pos hc] at h
   rw [decide_eq_true_iff] at hc
   obtain ⟨a,xs,e1,q1,r1,_⟩:=Own.tup gr.inn o1
   obtain ⟨b,zs,e2,q2,r2,_⟩:=Own.tup gr.inn o2
   have l1:=aJ.length _ r1
   have l2:=aJ.length _ r2
   refine ⟨a,b,xs,zs,e1,e2,q1,q2,fun z=>by rw [z] at l1;simp at l1,?_,fun z=>?_,fun _ p hp=>EPost.bBh gr h hp (aJ.append _ r1 r2)⟩
   ·rw [<- l1,<- l2];exact iG (by simpa using hc)
   ·have:es=[]:=by rw [z] at l2;exact List.length_eq_zero_iff.mp l2
    subst this
    have h:EPost K F0 H0 Q (D.tup (d::ds ++ []),true):=h
    rw [List.append_nil] at h
    refine e1 ▸ h v F H [] gr ?_ List.nodup_nil fun _ b hb=>by cases hb
    obtain ⟨_,_,_,_,_,ef⟩:=Own.tup gr.inn o1
    rw [ef] at o1;exact o1
  ·rw [if_neg hc] at h;exact h.elim
theorem aJ.rep {ds:List D} {xs:List V} (o:aJ K F H ds xs []):∀k:Nat,aJ K F H (List.replicate k ds).flatten (List.replicate k xs).flatten []
 | 0=>aJ.nil
 | k+1=>by
  rw [List.replicate_succ,List.replicate_succ,List.flatten_cons,List.flatten_cons]
  exact aJ.append ds o (aJ.rep o k)
def lD:D->Bool
 | .non=>true | _=>false
def jQ (neg:Bool):D×Bool->D×Bool->R (D×Bool):=fun x y=>match y.1 with
 | .non=>.ok (.bl (if neg then !lD x.1 else lD x.1),true) | _=>.bad
theorem aAq {d:D} {v:V} {fp:Y2} (o:Own K F H d v fp):decide (v=.non)=lD d:=by
 cases d<;>unfold Own at o
 ·rw [o.1];rfl
 ·rw [o.1];rfl
 ·rw [o.1];rfl
 ·rw [o.1];rfl
 ·obtain ⟨_,a,xs,e,_⟩:=o;rw [e];rfl
 ·obtain ⟨a,xs,fq,e,_⟩:=o;rw [e];rfl
 ·obtain ⟨a,u,e,_⟩:=o;rw [e];rfl
 ·rw [o.1];rfl
theorem aOr:Op2 K (jQ false) (fun x y H Q=>y=.non/\Q (.bl (decide (x=.non))) H):=by
 intro F0 H0 F H x y v u fx fy Q gr o1 n1 k1 o2 n2 k2 h
 obtain ⟨y,by'⟩:=y
 cases y<;>try exact h.elim
 unfold Own at o2
 rw [aAq o1]
 exact ⟨o2.1,EPost.fD gr h rfl⟩
theorem aAp:Op2 K (jQ true) (fun x y H Q=>y=.non/\Q (.bl (!decide (x=.non))) H):=by
 intro F0 H0 F H x y v u fx fy Q gr o1 n1 k1 o2 n2 k2 h
 obtain ⟨y,by'⟩:=y
 cases y<;>try exact h.elim
 unfold Own at o2
 rw [aAq o1]
 exact ⟨o2.1,EPost.fD gr h rfl⟩
def dZ:List (D×Bool)->R (D×Bool)
 | [(.lst _ ds,_)]=>.ok (.int ds.length,true) | [(.tup ds,_)]=>.ok (.int ds.length,true) | _=>.bad
theorem aJ2:OpA K dZ (fun xs H Q=>∃p ys,xs=[.ref p]/\(SqL K H p ys\/SqT K H p ys)/\Q (.int ys.length) H):=by
 intro F0 H0 F H xs vs fa Q gr a n k h
 match xs,h,a with
 | [(.lst o ds,b)],h,a =>
  unfold Args at a
  obtain ⟨v,r,fp,f2,e,o1,n1,t,w⟩:=a
  unfold Args at t
  obtain ⟨p,ys,fq,e1,q1,r1,_⟩:=Own.lst gr.inn o1
  refine ⟨p,ys,by rw [e,t.1,e1],.inl q1,?_⟩
  rw [<- aJ.length ds r1];exact EPost.fD gr h rfl
 | [(.tup ds,b)],h,a =>
  unfold Args at a
  obtain ⟨v,r,fp,f2,e,o1,n1,t,w⟩:=a
  unfold Args at t
  obtain ⟨p,ys,e1,q1,r1,_⟩:=Own.tup gr.inn o1
  refine ⟨p,ys,by rw [e,t.1,e1],.inr q1,?_⟩
  rw [<- aJ.length ds r1];exact EPost.fD gr h rfl
def zD:D->Bool
 | .non=>false | .bl b=>b | .int i=>i != 0 | .str _=>false | .tup ds=>!ds.isEmpty | .lst _ ds=>!ds.isEmpty | .ext _ _=>false | .fn _=>false
def qE:D->Bool
 | .str _=>false | .ext _ _=>false | .fn _=>false | _=>true
def dS (f:aR):dC:=fun ρ=>(f ρ).bind fun x=>if qE x.1 then .ok (zD x.1) else .bad
theorem aJ.empty {ds:List D} {xs:List V} {fp:Y2} (o:aJ K F H ds xs fp):ds.isEmpty=xs.isEmpty:=by
 have:=aJ.length ds o
 cases ds<;>cases xs<;>simp at this ⊢
theorem aK2 {f:aR} {Q:Bool->Hp->Prop} (h:tvT K (dS f) σ H Q):tv K f σ H fun x H'=>∃k,aRl K x H' k/\Q k H':=by
 obtain ⟨ρ,F,fps,S,h⟩:=h
 refine ⟨ρ,F,fps,S,R.aP (R.aW.mp h) fun x hx v F1 H1 fx g1 o1 n1 k1=>?_⟩
 obtain ⟨x,b⟩:=x
 cases x with
 | str z=>exact hx.elim
 | ext _ _=>exact hx.elim
 | fn _=>exact hx.elim
 | non=>unfold Own at o1;rw [o1.1];exact ⟨false,rfl,hx F1 H1 g1⟩
 | bl b=>unfold Own at o1;rw [o1.1];exact ⟨b,rfl,hx F1 H1 g1⟩
 | int i=>unfold Own at o1;rw [o1.1];exact ⟨_,rfl,hx F1 H1 g1⟩
 | tup ds =>
  obtain ⟨a,xs,e1,q1,r1,_⟩:=Own.tup g1.inn o1
  rw [e1]
  exact ⟨!ds.isEmpty,.inr (.inl ⟨xs,q1,by rw [aJ.empty r1]⟩),hx F1 H1 g1⟩
 | lst o ds =>
  obtain ⟨a,xs,fq,e1,q1,r1,_⟩:=Own.lst g1.inn o1
  rw [e1]
  exact ⟨!ds.isEmpty,.inl ⟨xs,q1,by rw [aJ.empty r1]⟩,hx F1 H1 g1⟩
def yB (p q:Int->Int->Bool) (f g h:aR):aR:=fun ρ=>(f ρ).bind fun x=>(g ρ).bind fun y=>match x.1,y.1 with
 | .int i,.int j=>if p i j then (h ρ).bind fun z=>(match z.1 with | .int k=>.ok (.bl (q j k),true) | _=>.bad) else .ok (.bl false,true)
 | _,_=>.bad
theorem aI6 {p q:Int->Int->Bool} {f g h:aR} (hh:tv K (yB p q f g h) σ H Q):aI1 (rI0 fun i j=>.bl (p i j)) (rI0 fun i j=>.bl (q i j)) (tv K f) (tv K g) (tv K h) σ H Q:=by
 obtain ⟨ρ,F,fps,S,hh⟩:=hh
 refine ⟨ρ,F,fps,S,R.aP (R.aW.mp hh) fun x hx v F1 H1 fx g1 o1 n1 k1=>?_⟩
 refine ⟨ρ,F1,fps,S.grow g1,R.aP (R.aW.mp hx) fun y hy u F2 H2 fy g2 o2 n2 k2=>?_⟩
 obtain ⟨x,bx⟩:=x
 obtain ⟨y,by'⟩:=y
 cases x<;>try exact hy.elim
 cases y<;>try exact hy.elim
 rename_i i j
 unfold Own at o1 o2
 refine ⟨i,j,o1.1,o2.1,p i j,rfl,?_⟩
 have hy:(if p i j=true then (h ρ).bind fun z=>(match z.1 with | .int k=>R.ok (D.bl (q j k),true) | _=>.bad) else .ok (.bl false,true)).holds (EPost K F H Q):=hy
 by_cases hc:p i j=true
 ·rw [if_pos hc] at hy ⊢
  refine ⟨ρ,F2,fps,(S.grow g1).grow g2,R.aP (R.aW.mp hy) fun z hz w F3 H3 fz g3 o3 n3 k3=>?_⟩
  obtain ⟨z,bz⟩:=z
  cases z<;>try exact hz.elim
  rename_i k
  unfold Own at o3
  exact ⟨j,k,o2.1,o3.1,EPost.fD ((g1.trans g2).trans g3) hz rfl⟩
 ·rw [if_neg hc] at hy ⊢
  exact EPost.fD (g1.trans g2) hy rfl
end
end VL
end
section
namespace VL
open PySem PySem.Spec PyProof.Rows L2
def CX1 (P:Program) (w:World):CXT:=fun outer H s E v s'=>∃e C H' B a0,v=.ref e/\s'.os=s.os/\AllBare s'.gens/\Un (frs outer) [] H H' s.heap s'.heap/\HOk P w H' s'.heap/\Heap.FlyingW B outer e (.ref C) a0 s'.heap /\
 (∀b o,s.heap.get? b=some o->b ∉ frs outer->∃o',B.get? b=some o')/\(∀b u,H' b=some u->∃o',B.get? b=some o')/\E (.ref C) none H'
section
variable {P:Program} {w:World} {H H':Hp} {h h0 h1 h2 B:Heap} {fs:Y2}
theorem dR.there {a:Addr} {o:HO} (x:dR P w H h a o):∃ob,h.get? a=some ob:=by
 cases o with
 | lst xs=>obtain ⟨_,_,_,_,e⟩:=x;exact ⟨_,e⟩
 | tup xs=>obtain ⟨_,_,_,o,e,_⟩:=x;exact ⟨_,e⟩
 | dK kvs=>obtain ⟨_,_,_,_,o,_,_,e,_⟩:=x;exact ⟨_,e⟩
 | dT kvs=>obtain ⟨_,_,_,_,o,_,_,e,_⟩:=x;exact ⟨_,e⟩
 | set S n=>obtain ⟨o,_,_,_,e,_⟩:=x;exact ⟨_,e⟩
 | ins C dx fs=>obtain ⟨_,_,_,e,_⟩:=x;exact ⟨_,e⟩
 | own y=>obtain ⟨_,e⟩:=x;exact ⟨_,e⟩
 | xd fs=>obtain ⟨_,⟨_,_,_,e,_⟩,_⟩:=x;exact ⟨_,e⟩
 | rng lo hi=>obtain ⟨_,_,_,e⟩:=x;exact ⟨_,e⟩
 | frz ob u=>obtain ⟨e,_⟩:=x;exact ⟨_,e⟩
 | tbl ps=>exact ⟨_,(show h.get? a=some _ from x)⟩
 | met f y=>exact ⟨_,(show h.get? a=some _ from x)⟩
 | ext φ=>obtain ⟨_,⟨_,e⟩,_⟩:=x;exact ⟨_,e⟩
theorem aGr (U:Un fs [] H H' h0 h1) (hok:HOk P w H' h1) (hS:B.StaysIn h1) (hT:B.StaysIn h2) (hin:∀b o,h0.get? b=some o->b ∉ fs->∃o',B.get? b=some o') (trk:∀b u,H' b=some u->∃o',B.get? b=some o')
  (up:h1.UpToSlots h2) (fr:∀b o,h0.get? b=some o->b∈fs->H b=none/\∀vs,o.data ≠ .fields vs):Un fs [] H H' h0 h2/\HOk P w H' h2:=by
 have inn:∀b o,(∃o',B.get? b=some o')->h1.get? b=some o->h2.get? b=some o:=fun b o ⟨o',q⟩ e=>by
  have z:=hS b o' q
  rw [e] at z;cases z
  exact hT b _ q
 have sl:∀b o,h0.get? b=some o->H b=none->b∈fs->∃sl,h2.get? b=some { o with slots:=sl }:=fun b o e n hb=>by
  obtain ⟨sl,q⟩:=U.slot b o e n hb (by simp)
  obtain ⟨sl',q'⟩:=up b _ q (fr b o e hb).2
  exact ⟨sl',q'⟩
 refine ⟨⟨fun b o e n hb hx=>inn b o (hin b o e hb) (U.keep b o e n hb hx),fun b o e n hb _=>sl b o e n hb,U.free,fun b o e hx=>?_,U.tups,U.frzs,U.tbls⟩,fun a o e=>?_⟩
 ·by_cases hb:b∈fs
  ·obtain ⟨s',q⟩:=sl b o e (fr b o e hb).1 hb
   exact ⟨_,q⟩
  ·obtain ⟨o',q⟩:=hin b o e hb
   exact ⟨o',hT b o' q⟩
 ·refine (hok a o e).stay (fun b u hb q=>inn b u ?_ q) (fun _ q=>q) fun _ _ q=>q
  rcases hb with rfl | hb
  ·exact trk _ _ e
  ·exact trk _ _ hb
end
section
variable {X:Cx} {pins:Y8} {σ:L2.St} {H H':Hp} {s s':Shared} {W:XW}
theorem aOy (I:L2.Inv X pins σ H s):∀b o,X.s₀.heap.get? b=some o->b∈X.fs->X.H₀ b=none/\∀vs,o.data ≠ .fields vs:=fun b o e hb=>by
 obtain ⟨_,o',e',d⟩:=I.ok.funs.mem hb
 rw [e] at e';cases e'
 exact ⟨I.ok.frf b hb,d⟩
theorem aQa (I:L2.Inv X pins σ H s) {b:Addr} {o:Obj} (e:X.s₀.heap.get? b=some o) (hb:b ∉ X.fs):b ∉ frs X.stack:=fun z=>by
 rcases List.mem_cons.mp (I.uH b z) with z | z
 ·exact absurd (Nat.lt_of_lt_of_le (Heap.lt_size e) I.ok.above) (by rw [z];exact Nat.lt_irrefl _)
 ·exact hb z
structure Lk (X:Cx) (W:XW):Prop where
 call:∀(pins:Y8) (σ:L2.St) (H:Hp) (s:Shared) (v:Value) (s':Shared),L2.Inv X pins σ H s->CX1 X.prog X.w X.stack H s (wE X.K W σ) v s'->X.xe v s'
 own:PassesOwn (model X.prog X.w) X.A X.env X.xe
structure LkF (X:Cx) (W:XW):Prop where
 fresh:∀(pins:Y8) (σ:L2.St) (H:Hp) (s:Shared) (h':Heap) (e C:Addr) (c:Str) (args:Y1),L2.Inv X pins σ H s->qN X.K c C->Heap.MadeExcOf s.heap h' e (.ref C) args->W c σ H->X.xe (.ref e) { s with heap:=h' }
end
section
variable {P:Program} {w:World} {K:FG} {mg:Y6} {base:Heap} {N:List Str} {qual:Str} {scope:Scope} {f:Addr} {cd:Value} {A:Around} {outer:List PySem.Env} {s0:Shared} {H0:Hp} {E:XK}
theorem jL:LkF (gE (CX1 P w) P w K mg base N qual scope f cd A outer s0 H0 E) (wOf K E):=by
 refine ⟨fun pins σ H s h' e C c args I hC hx hW=>?_⟩
 have hin:∀env∈(gE (CX1 P w) P w K mg base N qual scope f cd A outer s0 H0 E).stack,∀b,env.frame=some b->b∈frs (gE (CX1 P w) P w K mg base N qual scope f cd A outer s0 H0 E).stack:=fun env he b hb=>List.mem_filterMap.mpr ⟨env,he,hb⟩
 show wpAny _ _ (leaving _ (.ref e)) _ _ _
 refine wpAny_leaves_madeW (base:=PySem.W.hideAll s.heap (frs (gE (CX1 P w) P w K mg base N qual scope f cd A outer s0 H0 E).stack)) (h:=s.heap) (L:=s0.heap.objs.size) I.ok.frames rfl (fun b o q=>PySem.W.of_hideAll _ q) (PySem.W.funFrames_hide I.stack hin) hx fun h2 t x1 x2 x3 x4=>?_
 have up:s.heap.UpToSlots h2:=(Heap.UpToSlots.of_keeps hx.keeps).trans x4
 have hin2:∀b o,s0.heap.get? b=some o->b ∉ frs outer->∃o',(PySem.W.hideAll s.heap (frs (gE (CX1 P w) P w K mg base N qual scope f cd A outer s0 H0 E).stack)).get? b=some o':=fun b o q n=>by
  obtain ⟨o',e'⟩:=I.base.there b o q (by intro z;exact absurd (show b∈([]:Y2) from z) (by simp))
  exact ⟨o',PySem.W.hideAll_get _ e' (aQa I q n)⟩
 have trk:∀b u,H b=some u->∃o',(PySem.W.hideAll s.heap (frs (gE (CX1 P w) P w K mg base N qual scope f cd A outer s0 H0 E).stack)).get? b=some o':=fun b u q=>by
  obtain ⟨ob,e'⟩:=dR.there (I.hok b u q)
  exact ⟨ob,PySem.W.hideAll_get _ e' fun z=>by rw [I.yR b z] at q;cases q⟩
 obtain ⟨u,ok⟩:=aGr (fs:=frs outer) (H:=H0) (h0:=s0.heap) I.base I.hok (fun b o q=>PySem.W.of_hideAll _ q) x1.1 hin2 trk up (aOy I)
 exact ⟨e,C,H,_,_,rfl,I.os,I.bare,u,ok,x1,hin2,trk,hW C hC⟩
theorem bY:Lk (gE (CX1 P w) P w K mg base N qual scope f cd A outer s0 H0 E) (wOf K E):=by
 refine ⟨fun pins σ H s v s' I h=>?_,PassesOwn.leaving⟩
 obtain ⟨e,C,H',B,a0,rfl,os,bare,un,hok,fl,inB,trk,hE⟩:=h
 obtain ⟨c,C',eC,hC,hW⟩:=hE
 cases eC
 have I':L2.Inv (gE (CX1 P w) P w K mg base N qual scope f cd A outer s0 H0 E) pins σ H' s':=I.aDl (ch:=[]) os un hok bare (fun b z=>absurd z (by simp))
 show wpAny _ _ (leaving _ (.ref e)) _ _ _
 refine wpAny_leaves_onW (L:=s0.heap.objs.size) I.ok.frames rfl fl fun h2 x1 x2=>?_
 have hin2:∀b o,s0.heap.get? b=some o->b ∉ frs outer->∃o',B.get? b=some o':=fun b o q n=>by
  obtain ⟨o',e'⟩:=I.base.there b o q (by intro z;exact absurd (show b∈([]:Y2) from z) (by simp))
  exact inB b o' e' (aQa I q n)
 obtain ⟨u,ok⟩:=aGr (fs:=frs outer) (H:=H0) (h0:=s0.heap) I'.base I'.hok fl.1 x1.1 hin2 trk x2 (aOy I)
 exact ⟨e,C,H',B,a0,rfl,I'.os,bare,u,ok,x1,hin2,trk,hW C hC⟩
end
end VL
end
section
namespace VL
open PySem PySem.Spec PyProof.Rows L2
abbrev SE (X:Cx) (e:Expr) (f:aR):Prop:=PE X e (tv X.K f)
abbrev ST (X:Cx) (e:Expr) (f:dC):Prop:=PT X e (tvT X.K f)
abbrev SW (X:Cx) (e:Expr) (f:dC):Prop:=PW X e (tvT X.K f)
abbrev SA (X:Cx) (es:List Expr) (f:cH):Prop:=PA X es (tvA X.K f)
abbrev SI (X:Cx) (tg it:Expr) (f:lN):Prop:=PI X tg it (iv X.K f)
abbrev SX (X:Cx) (W:XW) (e:Expr) (f:gZ):Prop:=PE X e (tx X.K W f)
abbrev SS (X:Cx) (W:XW) (st:Stmt) (g:SemS):Prop:=PS X st (sv X.K W g)
abbrev SSs (X:Cx) (W:XW) (st:List Stmt) (g:SemS):Prop:=PSs X st (sv X.K W g)
section
variable {X:Cx} {W:XW} {e a b c:Expr} {es:List Expr} {st:Stmt} {sts:List Stmt} {pos:Pos}
theorem _root_.L2.PE.imp {t t':TE} (h:PE X e t) (k:∀σ H Q,t' σ H Q->t σ H Q):PE X e t':=fun pins s σ H Q I q=>h pins s σ H Q I (k σ H Q q)
theorem _root_.L2.PT.imp {t t':TT} (h:PT X e t) (k:∀σ H Q,t' σ H Q->t σ H Q):PT X e t':=fun pins s σ H Q I q=>h pins s σ H Q I (k σ H Q q)
theorem _root_.L2.PW.imp {t t':TT} (h:PW X e t) (k:∀σ H Q,t' σ H Q->t σ H Q):PW X e t':=fun w pins s σ H Q I q=>h w pins s σ H Q I (k σ H Q q)
theorem _root_.L2.PA.imp {t t':TA} (h:PA X es t) (k:∀σ H Q,t' σ H Q->t σ H Q):PA X es t':=fun p pins s σ H Q I q=>h p pins s σ H Q I (k σ H Q q)
theorem _root_.L2.PI.imp {tg it:Expr} {t t':TI} (h:PI X tg it t) (k:∀σ H Q,t' σ H Q->t σ H Q):PI X tg it t':=fun pins s σ H Q I q=>h pins s σ H Q I (k σ H Q q)
theorem _root_.L2.PS.imp {t t':TS} (h:PS X st t) (k:∀D σ H,t' D σ H->t D σ H):PS X st t':=fun pins s σ H D I q=>h pins s σ H D I (k D σ H q)
theorem _root_.L2.PSs.imp {t t':TS} (h:PSs X sts t) (k:∀D σ H,t' D σ H->t D σ H):PSs X sts t':=fun pins s σ H D I q=>h pins s σ H D I (k D σ H q)
theorem aB (i:Nat) {x:Str} (hN:X.N[i]?=some x:=by rfl) (hv:Vis X.env.scope x:=by first | exact Or.inl rfl | exact Or.inr (Or.inl rfl) | exact Or.inr (Or.inr rfl)) (hd:(x == ("__debug__" : Str))=false:=by decide)
  (hcd:(x == ("__classdict__" : Str))=false:=by decide):SE X (.Name x pos) (aC i):=(iX hN hv hd hcd).imp fun _ _ _ h=>aS4 h
theorem aD {i j}:SE X (.Constant (.int i) j pos) (vC (.int i)):=aGg.imp fun _ _ _ h=>aGa rfl h
theorem kZ {i j}:SE X (.Constant (.bool i) j pos) (vC (.bl i)):=aXl.imp fun _ _ _ h=>aGa rfl h
theorem fK {j}:SE X (.Constant .none j pos) (vC .non):=aQt.imp fun _ _ _ h=>aGa rfl h
theorem iB {i j}:SE X (.Constant (.str i) j pos) (vC (.str i)):=aJh.imp fun _ _ _ h=>aGa rfl h
theorem aKo {x:Str} {i:Int} {t:Tok} (hm:X.mg x=some (.int i t)) (hg:Gl X x:=by rfl) (hd:(x == ("__debug__" : Str))=false:=by decide):SE X (.Name x pos) (vC (.int i)) :=
 (aNx (v:=.int i) hg hm ⟨t,rfl⟩ hd).imp fun _ _ _ h=>aGa rfl h
theorem vL {op:Operator} {k:D×Bool->D×Bool->R (D×Bool)} {r:R2} {f g:aR} (ho:OpR X (binaryOp op) r) (hk:Op2 X.K k r) (ha:SE X a f) (hb:SE X b g):SE X (.BinOp a op b pos) (v2 k f g) :=
 (aWw ho ha hb).imp fun _ _ _ h=>aCf hk h
abbrev aV8:=kI fun i j=>.int (i+j)
abbrev rT:=kI fun i j=>.int (i - j)
abbrev dQ:=kIc (fun _ j=>decide (0<j)) fun i j=>.int (i % j)
theorem jR {f g:aR} (ha:SE X a f) (hb:SE X b g):SE X (.BinOp a .Sub b pos) (v2 rT f g):=vL aSb (uC fun _ _=>rfl) ha hb
theorem gF {f g:aR} (ha:SE X a f) (hb:SE X b g):SE X (.BinOp a .Mod b pos) (v2 dQ f g):=vL aTe (aA9 (fun _ _=>rfl) fun i j h=>by
 rw [decide_eq_true_iff] at h;exact h) ha hb
theorem aKy:OpR X (binaryOp .Add) (aO9 X.K):=by
 intro pins s σ H x y v u Q I rx ry h
 obtain ⟨l,b,xs,zs,rfl,rfl,hH,hB,hz,q⟩:=h
 cases rx
 cases ry
 obtain ⟨z,its,n,r,e⟩:=hH.ok I.hok
 obtain ⟨z2,its2,n2,r2,e2⟩:=hB.ok I.hok
 have hl:=r.length
 have hl2:=r2.length
 refine PySem.P.add_list e e2 ?_ (by rw [List.size_toArray,List.size_toArray];omega)
 have ea:its.toArray++its2.toArray=(its++its2).toArray:=by simp
 rw [ea]
 exact ⟨.ref _,_,I.aU5 (t':=s.toks) (r.append r2) (by rw [List.length_append];omega),rfl,q _ I.fresh⟩
theorem aQ6 {f:aR} (ha:SE X a f):SE X (.UnaryOp .USub a pos) (v1 (kU fun i=>.int (-i)) f):=(aXw aUn ha).imp fun _ _ _ h=>aYi (aXa fun _=>rfl) h
theorem aB9 {op:CmpOp} {k:D×Bool->D×Bool->R (D×Bool)} {r:R2} {f g:aR} (ho:OpR X (compareOp op) r) (hk:Op2 X.K k r) (ha:SE X a f) (hb:SE X b g) (hm:behindInMarks op b=false):SE X (.Compare a [op] [b] pos) (v2 k f g) :=
 (aLo ho ha hb hm).imp fun _ _ _ h=>aCf hk h
theorem aBi {t t':TE} (k:∀σ H Q,t' σ H Q->t σ H Q) {σ:L2.St} {H:Hp} {Q:Bool->Hp->Prop} (h:aDg t' σ H Q):aDg t σ H Q:=k _ _ _ h
theorem kL {op:CmpOp} {k:D×Bool->D×Bool->R (D×Bool)} {r:R2} {f g:aR} (ho:OpR X (compareOp op) r) (hk:Op2 X.K k r) (ha:SE X a f) (hb:SE X b g) (hm:behindInMarks op b=false):ST X (.Compare a [op] [b] pos) (aN (v2 k f g)) :=
 (aKl ho ha hb hm).imp fun _ _ _ h=>aBi (fun _ _ _ q=>aCf hk q) (aGo h)
abbrev kLt:=kI fun i j=>.bl (decide (i<j))
abbrev kLe:=kI fun i j=>.bl (decide (i<=j))
abbrev kGt:=kI fun i j=>.bl (decide (j<i))
abbrev kGe:=kI fun i j=>.bl (decide (j<=i))
theorem aVo {K:FG}:Op2 K kLt (rI0 fun i j=>.bl (decide (i<j))):=uC fun _ _=>rfl
theorem aWf {K:FG}:Op2 K kLe (rI0 fun i j=>.bl (decide (i<=j))):=uC fun _ _=>rfl
theorem aQi {K:FG}:Op2 K kGt (rI0 fun i j=>.bl (decide (j<i))):=uC fun _ _=>rfl
theorem aXh {K:FG}:Op2 K kGe (rI0 fun i j=>.bl (decide (j<=i))):=uC fun _ _=>rfl
theorem aF8 {op op':CmpOp} {p q:Int->Int->Bool} {f g h:aR} (ho:OpR X (compareOp op) (rI0 fun i j=>.bl (p i j))) (ho':OpR X (compareOp op') (rI0 fun i j=>.bl (q i j))) (ha:SE X a f) (hb:SE X b g) (hc:SE X c h)
  (hm:lastMarks [op,op'] [b,c]=false:=by with_unfolding_all rfl):SE X (.Compare a [op,op'] [b,c] pos) (yB p q f g h):=(aJf ho ho' ha hb hc hm).imp fun _ _ _ h=>aI6 h
theorem eB {f:aR} (ha:SE X a f) (he:∀whole,isTrue a X.env whole=(do let v <- whole;standAt a.pos;holding [v] (truthy v)):=by intro _;rfl):ST X a (dS f):=(aGd ha he).imp fun _ _ _ h=>aK2 h
theorem mH {f:dC} (ha:ST X a f):SW X (.BoolOp .And [a] pos) f:=aJ6 ha
theorem kR {f:dC} (ha:ST X a f):SW X (.BoolOp .Or [a] pos) f:=aR6 ha
theorem kH {f g:dC} {rest:List Expr} (ha:ST X a f) (hb:SW X (.BoolOp .And (b::rest) pos) g):SW X (.BoolOp .And (a::b::rest) pos) (cZ f g):=(aQz ha hb).imp fun _ _ _ h=>aL0 h
theorem mU {f g:dC} {rest:List Expr} (ha:ST X a f) (hb:SW X (.BoolOp .Or (b::rest) pos) g):SW X (.BoolOp .Or (a::b::rest) pos) (gR f g):=(aYa ha hb).imp fun _ _ _ h=>aUy h
theorem nO {f:dC} (h:SW X a f):ST X a f:=h.pt
theorem fJ {f:dC} (ha:ST X a f):ST X (.UnaryOp .Not a pos) (dA f):=(aSn ha).imp fun _ _ _ h=>aNn h
theorem yO {f g:aR} {rest:List Expr} (ha:SE X a f) (hb:SE X (.BoolOp .And (b::rest) pos) g):SE X (.BoolOp .And (a::b::rest) pos) (wY f g):=(aTh ha hb).imp fun _ _ _ h=>aUr h
theorem aXo {f g:aR} {rest:List Expr} (ha:SE X a f) (hb:SE X (.BoolOp .Or (b::rest) pos) g):SE X (.BoolOp .Or (a::b::rest) pos) (vOr f g):=(aXq ha hb).imp fun _ _ _ h=>aXf h
theorem rJ {op} {f:aR} (ha:SE X a f):SE X (.BoolOp op [a] pos) f:=aTc ha
theorem aQy {f:aR} (ha:SE X a f):SE X (.UnaryOp .Not a pos) (v1 aMe f):=(aSm ha).imp fun _ _ _ h=>aR3 h
theorem aVh {t:dC} {f g:aR} (hc:ST X c t) (ha:SE X a f) (hb:SE X b g):SE X (.IfExp c a b pos) (vIf t f g):=(aIt hc ha hb).imp fun _ _ _ h=>aWr h
theorem aH:SA X [] aE:=pV.imp fun _ _ _ h=>aMy h
theorem bZ {f:aR} {g:cH} (ha:SE X e f) (hr:SA X es g) (hs:starEach (e::es) X.env=(false,eval e X.env)::starEach es X.env:=by rfl):SA X (e::es) (aA f g):=(iN ha hr hs).imp fun _ _ _ h=>aF3 h
theorem dF {g:cH} (h:SA X es g):SE X (.List es pos) (cN g):=(aJi h).imp fun _ _ _ h=>aQr h
theorem cE {g:cH} {k} (h:SA X es g):SE X (.Tuple es k pos) (cQ g):=(aQq h).imp fun _ _ _ h=>aQu h
theorem aK {f g:aR} (ha:SE X a f) (hb:SE X b g) (hs:wN b:=by intro _ _;rfl):SE X (.Subscript a b pos) (v2 kIx f g):=(aIk (wQ.or aFm) ha hb hs).imp fun _ _ _ h=>aCf aQp h
theorem zY {id:String} {x:Str} {p:Pos} {k:List (D×Bool)->R (D×Bool)} {r:List V->Hp->VK->Prop} {g:cH} (hc:qI X (.builtin id) r) (hk:OpA X.K k r) (hm:X.mg x=none) (hv:bootBuiltins x=some (.builtin id)) (ha:SA X (e::es) g) (hg:Gl X x:=by rfl)
  (hn:x ≠ "__name__" :=by decide) (hdb:(x == ("__debug__" : Str))=false:=by decide) (he:starEach (e::es) X.env=(false,eval e X.env)::starEach es X.env:=by rfl) (hpl:(backTo pos (starEach es X.env)).any (·.1)=false:=by rfl):SE X (.Call (.Name x p) (e::es) [] pos) (vCB k g) :=
 (aAr hc hg hm hv ha hn hdb he hpl).imp fun _ _ _ h=>aPb hk h
structure Kn (P:Program) (w:World) (K:FG) (mg:Y6) (base:Heap) (k:Nat) (x:Str) (n:Nat) (fn:Fn):Prop where
 ex:∃(f:Addr) (fd:FuncData) (ps:List Str),FnOk P w K mg base (CX1 P w) k f fd ps (spV K n fn)/\mg x=some (.ref f)/\PySem.W.keepIn K (.ref f)=true/\Binds K fd ps []
def lA (n:Nat) (g:cH):Prop:=∀ρ xs,g ρ=.ok xs->xs.length=n
theorem aJr:lA 0 aE:=fun _ _ e=>by cases e;rfl
theorem mE {n:Nat} {f:aR} {g:cH} (h:lA n g):lA (n+1) (aA f g):=fun ρ xs e=>by
 unfold aA at e
 cases ef:f ρ with
 | exc _=>rw [ef] at e;cases e
 | bad=>rw [ef] at e;cases e
 | ok x =>
  rw [ef] at e
  cases eg:g ρ with
  | exc _=>rw [eg] at e;cases e
  | bad=>rw [eg] at e;cases e
  | ok ys =>
   rw [eg] at e
   have e:R.ok (x::ys)=R.ok xs:=e
   cases e
   rw [List.length_cons,h ρ ys eg]
theorem bC {k n:Nat} {x:Str} {fn:Fn} {g:cH} {p:Pos} (F:Kn X.prog X.w X.K X.mg X.base k x n fn) (hr:Room k X.A) (ha:SA X (e::es) g) (hl:lA n g) (hg:Gl X x:=by rfl) (hdb:(x == ("__debug__" : Str))=false:=by decide)
  (he:starEach (e::es) X.env=(false,eval e X.env)::starEach es X.env:=by rfl) (hpl:(backTo pos (starEach es X.env)).any (·.1)=false:=by rfl):SE X (.Call (.Name x p) (e::es) [] pos) (aO fn g):=by
 obtain ⟨f,fd,ps,F,hm,hk,hb⟩:=F.ex
 exact (aCe F hr hg hm hk hb .nil (fun _ _ _ _ _ _ _ h=>by obtain ⟨_,_,_,_,_,_,_,_,_,_,_,_,_,z⟩:=h;exact z.elim) ha hdb he hpl).imp fun _ _ _ h=>wL hl h
theorem aQ {f:aR} (h:SE X e f):SX X W e (xOf f):=L2.PE.imp h fun _ _ _ h=>aH9 h
theorem bP:SSs X W [] aZ:=aN1.imp fun _ _ _ h=>aKi h
theorem aF {f g:SemS} {rest:List Stmt} (h1:SS X W st f) (h2:SSs X W rest g):SSs X W (st::rest) (aI f g):=(aIh h1 h2).imp fun _ _ _ h=>aUh h
theorem aM {f:SemS} (h1:SS X W st f):SSs X W [st] f:=aMg h1
theorem nU (is:T0) {f:SemS} (h:SS X W st f):SS X W st (jE is f):=L2.PS.imp h fun _ _ _ h=>aS6 h
def aZo:SemS:=fun _=>.bad
theorem fF {g:gZ} (h:SX X W e g) (hs:swapsWith e none pos.line X.env=pure false:=by rfl):SS X W (.Expr e pos) (cT g):=(qY h hs).imp fun _ _ _ h=>aMa h
theorem bI {g:gZ} (h:SX X W e g):SS X W (.Return (some e) pos) (bD g):=(aHy h).imp fun _ _ _ h=>aJu h
theorem fU (i:Nat) {x:Str} {p:Pos} (hN:X.N[i]?=some x:=by rfl) (hv:Vis X.env.scope x:=by first | exact Or.inl rfl | exact Or.inr (Or.inl rfl) | exact Or.inr (Or.inr rfl)) (hd:(x == ("__debug__" : Str))=false:=by decide)
  (hcd:(x == ("__classdict__" : Str))=false:=by decide):SS X W (.Return (some (.Name x p)) pos) (gC i):=(aHy (iX hN hv hd hcd)).imp fun _ _ _ h=>aNl h
theorem cI {t:dC} {f g:SemS} {xs ys:List Stmt} (hc:ST X c t) (ha:SSs X W xs f) (hb:SSs X W ys g):SS X W (.If c xs ys pos) (sIf t f g):=(aV2 hc ha hb).imp fun _ _ _ h=>aWe h
theorem aY (i:Nat) {x:Str} {g:gZ} {pos':Pos} (nd:X.N.Nodup) (h:SX X W e g) (hi:X.N[i]?=some x:=by rfl) (hx:Loc X.env.scope x:=by first | exact Or.inl rfl | exact Or.inr rfl) (hs:swapsWith e (some (.Name x pos')) pos.line X.env=pure false:=by rfl)
  (hf:X.fn x=true\/X.env.scope.names.lookup x=some .local:=by first | exact .inl rfl | exact .inr rfl):SS X W (.Assign [.Name x pos'] e pos) (aX i g):=(aTj nd hi hx h hs hf).imp fun _ _ _ h=>aIe h
theorem dH (i:Nat) {x:Str} (nd:X.N.Nodup) (hi:X.N[i]?=some x:=by rfl) (hx:Loc X.env.scope x:=by first | exact Or.inl rfl | exact Or.inr rfl) (hf:X.fn x=true\/X.env.scope.names.lookup x=some .local:=by first | exact .inl rfl | exact .inr rfl):PG X (.Name x pos) (qO i):=aLr nd hi hx hf
theorem eE {i:Nat} {is:T0} (h1:PG X e (qO i)) (h2:PGs X es (lB is)) (hs:(assignEach (e::es) X.env).map (·.2)=assign e X.env::(assignEach es X.env).map (·.2):=by rfl):PGs X (e::es) (lB (i::is)):=aGi h1 h2 hs
theorem kW:PGs X [] (lB []):=aMv
theorem iU {is:T0} {g:gZ} {k n:Nat} {tp:Pos} (hc:X.calm=true) (h:SX X W e g) (hg:PGs X es (lB is)) (hn':is.length=n) (hn:(assignEach es X.env).length=n:=by rfl) (hst:(assignEach es X.env).findIdx? (·.1)=none:=by rfl)
  (hs:swapsWithSole [.Tuple es k tp] e pos.line X.env=pure false:=by rfl) (hw:swappedStores [.Tuple es k tp] e X.env=pure none:=by rfl) (h1:(assignEach [.Tuple es k tp] X.env).map (·.2)=[assign (.Tuple es k tp) X.env]:=by rfl) :
  SS X W (.Assign [.Tuple es k tp] e pos) (bM is g):=(aG4 h (nD hc hg hn hst) hs hw h1).imp fun _ _ _ h=>aEu hn' h
theorem nL (i:Nat) {x:Str} {f g:aR} {p tp:Pos} (hi:SE X b g) (he:SE X e f) (hN:X.N[i]?=some x:=by rfl) (hv:Vis X.env.scope x:=by first | exact Or.inl rfl | exact Or.inr (Or.inl rfl) | exact Or.inr (Or.inr rfl)) (hd:(x == ("__debug__" : Str))=false:=by decide)
  (hcd:(x == ("__classdict__" : Str))=false:=by decide)
  (ha:∀v,assign (.Subscript (.Name x p) b tp) X.env v=(do
   let ov <- holding [v] (eval (.Name x p) X.env)
   let iv <- holding [v,ov] (eval b X.env)
   standAt tp
   holding [v,ov,iv] (setItem ov iv v)
   release [v,ov,iv] []):=by intro _;rfl)
  (hs:swapsWithSole [.Subscript (.Name x p) b tp] e pos.line X.env=pure false:=by rfl) (hw:swappedStores [.Subscript (.Name x p) b tp] e X.env=pure none:=by rfl) (h1:(assignEach [.Subscript (.Name x p) b tp] X.env).map (·.2)=[assign (.Subscript (.Name x p) b tp) X.env]:=by rfl) :
  SS X W (.Assign [.Subscript (.Name x p) b tp] e pos) (fO i g f):=(aG4 he (aSy (iX hN hv hd hcd) hi set_list ha) hs hw h1).imp fun _ _ _ h=>aB0 h
theorem wR (i:Nat) {x:Str} {f:aR} {op:Operator} {o:Int->Int->Int} {pos':Pos} (nd:X.N.Nodup) (ho:PIp X op (ipI o)) (he:SE X e f) (hi:X.N[i]?=some x:=by rfl) (hx:Loc X.env.scope x:=by first | exact Or.inl rfl | exact Or.inr rfl)
  (hf:X.fn x=true\/X.env.scope.names.lookup x=some .local:=by first | exact .inl rfl | exact .inr rfl):SS X W (.AugAssign (.Name x pos') op e pos) (pT i o f):=(aSz nd hi hx he ho hf).imp fun _ _ _ h=>aTb h
theorem hV (n:Nat) {t:dC} {f:SemS} {xs:List Stmt} (hp:PassesOwn (model X.prog X.w) X.A X.env X.xe) (hc:ST X c t) (hb:SSs X W xs f):SS X W (.While c xs [] pos) (cV t f n):=(aHc hp hc hb).imp fun _ _ _ h=>aIx h
theorem gJ {tg it:Expr} {f:lN} {set:D->Env->Option Env} {g:TG} {b':SemS} {xs:List Stmt} (hp:PassesOwn (model X.prog X.w) X.A X.env X.xe) (hc:X.calm=true) (hi:SI X tg it f) (hg:PG X tg g) (ht:Tgt X.K set g) (hb:SSs X W xs b')
  (hs:∀x,foldedSetIterable it X.env x=pure x:=by intro _;rfl):SS X W (.For tg it xs [] pos) (iC f set b'):=(aTl hp hc hi hg hb hs).imp fun _ _ _ h=>aTz ht h
theorem gA {tg:Expr} {g:cH} {p:Pos} (hm:X.mg "range" = none) (ha:SA X [a] g) (hg:Gl X "range" :=by rfl) (hs:starEach [a] X.env=[(false,eval a X.env)]:=by rfl):SI X tg (.Call (.Name "range" p) [a] [] pos) (iR1 g) :=
 (aEj hg hm ha hs).imp fun _ _ _ h=>aDm h
theorem aDz {tg:Expr} {g:cH} {p:Pos} (hm:X.mg "range" = none) (ha:SA X [a,b] g) (hg:Gl X "range" :=by rfl) (hs:starEach [a,b] X.env=[(false,eval a X.env),(false,eval b X.env)]:=by rfl) (hs2:starEach [b] X.env=[(false,eval b X.env)]:=by rfl):SI X tg (.Call (.Name "range" p) [a,b] [] pos) (iR2 g) :=
 (aD3 hg hm ha hs hs2).imp fun _ _ _ h=>aD6 h
end
end VL
end
section
namespace VL
open PySem PySem.Spec PyProof.Rows L2
def Ite (K:FG) (a:Addr):It :=
 ⟨fun i H=>∃xs x,SqL K H a xs/\xs[i]?=some x,fun i H x H'=>∃p y,H p=none/\x=.ref p/\(∀xs,SqL K H a xs->xs[i]?=some y)/\H'=upd H p (.tup [.int i,y]),fun i H=>∃xs,SqL K H a xs/\xs.length<=i⟩
section
variable {X:Cx} {pins:Y8} {σ:L2.St} {H:Hp} {s:Shared}
theorem aHz {e it:Addr} {h':Heap} {t':Nat} {xs:List V} {its:Y1} (I:L2.Inv X pins σ H s) (he:rW X pins H e) (hi:rW X pins H it) (k:∀b o,b ≠ e->b ≠ it->s.heap.get? b=some o->h'.get? b=some o)
  (he':∃o,h'.get? e=some o) (hi':∃o,h'.get? it=some o) (r:Vals xs its) (hz:xs.length<=sizeLine) (hp:IsTup h' s.heap.objs.size its.toArray):L2.Inv X pins σ (upd H s.heap.objs.size (.tup xs)) { s with heap:=h',toks:=t' }:=by
 have fr:=I.fresh
 have U:Un (frs X.stack) [e,it] H (upd H s.heap.objs.size (.tup xs)) s.heap h':=by
  refine ⟨fun b o q _ _ hx=>k b o (fun z=>hx (by simp [z])) (fun z=>hx (by simp [z])) q,fun b o q _ _ hx=>⟨o.slots,k b o (fun z=>hx (by simp [z])) (fun z=>hx (by simp [z])) q⟩,fun b o q n _=>by rw [aU (Nat.ne_of_lt (Heap.lt_size q))];exact n,
   fun b o q hx=>⟨o,k b o (fun z=>hx (by simp [z])) (fun z=>hx (by simp [z])) q⟩,fun b ys q=>by rw [aU (bX q fr)];exact q,fun b o u q=>by rw [aU (bX q fr)];exact q,fun b ps q=>⟨#[],by rw [aU (bX q fr),q];simp⟩⟩
 refine I.aDl (s':={ s with heap:=h',toks:=t' }) rfl U (fun b u q=>?_) I.bare fun b hb=>?_
 ·by_cases hb:b=s.heap.objs.size
  ·subst hb;rw [bJ] at q;cases q
   exact ⟨hz,its,r,hp⟩
  ·rw [aU hb] at q
   refine (I.hok b u q).stay (fun c v hc q'=>k c v ?_ ?_ q') (fun c q'=>by rw [aU (bX q' fr)];exact q') fun c ys q'=>by rw [aU (bX q' fr)];exact q'
   ·rintro rfl
    rcases hc with rfl | hc
    ·rw [he.1] at q;cases q
    ·rw [he.1] at hc;cases hc
   ·rintro rfl
    rcases hc with rfl | hc
    ·rw [hi.1] at q;cases q
    ·rw [hi.1] at hc;cases hc
 ·have:b=e\/b=it:=by simpa using hb
  rcases this with rfl | rfl
  ·exact ⟨he.2.2.2.1,he.2.1,he.2.2.2.2.1,he.2.2.2.2.2⟩
  ·exact ⟨hi.2.2.2.1,hi.2.1,hi.2.2.2.2.1,hi.2.2.2.2.2⟩
theorem aEg {P:Program} {w:World} {K:FG} {elts:List Expr} {k:Nat} {tp:Pos} (a e it:Addr) (hei:e ≠ it):Turn P w K (.Tuple elts k tp) (Ite K a) [e,it] e (fun i h=>(∃old,IsEnum h e it i old)/\h.IsListIter it a i) where
 mem:=by simp
 obj:=fun i h st b hb=>by
  obtain ⟨⟨old,he⟩,o,ho,c,d⟩:=st
  have:b=e\/b=it:=by simpa using hb
  rcases this with rfl | rfl
  ·exact ⟨_,he,fun v z=>by
    have z':Data.fields _=Data.cell v:=z
    cases z'⟩
  ·exact ⟨o,ho,fun v z=>by rw [d] at z;cases z⟩
 keep:=fun i h h' st kk=>by
  obtain ⟨⟨old,he⟩,hit⟩:=st
  exact ⟨⟨old,kk e (by simp) _ he⟩,hit.at fun o x=>kk it (by simp) o x⟩
 item:=by
  intro X hP hw hK hc i pins s σ H E I hf st hg
  subst hP hw hK
  obtain ⟨xs,x,hq,hx⟩:=hg
  obtain ⟨its,rv,p,hz⟩:=I.list hq
  obtain ⟨u,hu,ru⟩:=rv.get hx
  obtain ⟨⟨old,he⟩,hit⟩:=st
  have fe:=hf e (by simp)
  have fi:=hf it (by simp)
  refine wpAny_pyNext_enum_item he hit p.isList (x:=u) (by simpa using hu) hei fun h' heo hit' ht hsz hk=>⟨_,rfl,?_⟩
  refine wpAny_letOwnedTupleGo_enum heo fun h2 he2 hs2=>?_
  have hs2:Heap.SameBut e h' h2:=hs2
  have hel:e<s.heap.objs.size:=Heap.lt_size he
  have hil:it<s.heap.objs.size:=by obtain ⟨o,ho,_⟩:=hit;exact Heap.lt_size ho
  have hit2:h2.IsListIter it a (i+1):=hit'.at fun o y=>(hs2.2 it hei.symm).trans y
  have I2:=aHz (h':=h2) (t':=s.toks+1) (xs:=[.int i,x]) (its:=[.int i s.toks,u]) I fe fi (fun b o n1 n2 q=>(hs2.2 b n1).trans (hk b o n1 n2 q)) ⟨_,he2⟩ (let ⟨o,ho,_⟩:=hit2;⟨o,ho⟩) (.cons ⟨_,rfl⟩ (.cons ru .nil)) (by show 2<=sizeLine;decide)
   ⟨_,(hs2.2 _ (Nat.ne_of_gt hel)).trans ht,rfl,_,rfl⟩
  refine ⟨.ref s.heap.objs.size,_,I2,rfl,⟨s.heap.objs.size,x,I.fresh,rfl,fun ys hy=>by rw [I.aA0 hy hq];exact hx,rfl⟩,⟨⟨u,by simpa using he2⟩,hit2⟩,fun b hb=>?_⟩
  have:b=e\/b=it:=by simpa using hb
  rcases this with rfl | rfl
  ·rw [aU (Nat.ne_of_lt hel)];exact fe.1
  ·rw [aU (Nat.ne_of_lt hil)];exact fi.1
 done:=by
  intro X hP hw hK hc i pins s σ H E I hf st hg
  subst hP hw hK
  obtain ⟨xs,hq,hx⟩:=hg
  obtain ⟨its,rv,p,hz⟩:=I.list hq
  obtain ⟨⟨old,he⟩,hit⟩:=st
  obtain ⟨f0,f1,f2,f3,f4,f5⟩:=hf it (by simp)
  have hl:=rv.length
  exact wpAny_pyNext_enum_end (I.ok.hd hc) he hit p.isList (by simp;omega) fun h' eb=>⟨rfl,I.turned (t':=s.toks) (fun b o hb e=>eb b o hb e) f0 f1 f3 f4 f5⟩
 self:=fun _ _ _ _ _ st h=>by
  obtain ⟨⟨old,he⟩,_⟩:=st
  exact wpAny_pyIter_enum he h
def aPe (K:FG) (ta:TA):TI:=fun σ H R=>ta σ H fun vs H1=>∃a xs,vs=[.ref a]/\Rd H1 a (.lst xs)/\R (Ite K a) H1
theorem aLs {a:Expr} {ta:TA} {p pos tp:Pos} {elts:List Expr} {k:Nat} (hg:Gl X "enumerate") (hm:X.mg "enumerate" = none) (ha:PA X [a] ta) (hs:starEach [a] X.env=[(false,eval a X.env)]:=by rfl):PI X (.Tuple elts k tp) (.Call (.Name "enumerate" p) [a] [] pos) (aPe X.K ta):=by
 intro pins s σ H R I h
 refine Call_ (pO I hg hm boot_enumerate (PyProof.Rows.callWith_type1 (thn (ha pos pins s σ H _ I h) fun us s1 ⟨vs,H1,I1,r1,q1⟩=>?_) hs rfl))
 obtain ⟨l,xs,e,hr,q⟩:=q1
 subst e
 cases r1 with
 | cons r rr =>
  cases rr
  cases r
  obtain ⟨z,its,n,rv,e⟩:=hr.ok I1.hok
  refine call_enumerate_1 e fun h' he hit hsz hk=>?_
  refine wpAny_pyIter_enum he ?_
  have I2:L2.Inv X pins σ H1 { s1 with heap:=h' }:=I1.kept (t':=s1.toks) hk
  refine ⟨s1.heap.objs.size+1,[s1.heap.objs.size+1,s1.heap.objs.size],_,_,H1,rfl,I2,aEg l _ _ (Nat.succ_ne_self _),⟨⟨_,he⟩,hit⟩,fun b hb=>?_,q⟩
  have hb':b=s1.heap.objs.size+1\/b=s1.heap.objs.size:=by simpa using hb
  have hle:s1.heap.objs.size<=b:=by
   rcases hb' with rfl | rfl
   ·exact Nat.le_succ _
   ·exact Nat.le_refl _
  exact I1.aJy hle (I1.hok.fresh hle)
end
section
variable {K:FG} {F H:Hp} {σ:L2.St}
def qG (ds:List D):List D:=ds.zipIdx.map fun p=>.tup [.int (p.2:Nat),p.1]
end
end VL
end
section
namespace VL
open PySem PySem.Spec PyProof.Rows L2
section
variable {X:Cx} {pins:Y8} {σ:L2.St} {H:Hp} {s:Shared}
end
section
variable {K:FG} {F H:Hp} {σ:L2.St}
def yJ (x:D×Bool):R (List D):=match x.1 with
 | .lst _ ds=>if aS x then .ok (D.frzs ds) else .bad
 | _=>.bad
def kG (f:aR):lN:=fun ρ=>(f ρ).bind fun x=>(yJ x).bind fun ds=>.ok (qG ds)
def aXx (f:aR):lN:=fun ρ=>(f ρ).bind fun x=>yJ x
theorem icy {F0 H0:Hp} {x:D×Bool} {v:V} {fx:Y2} {ds:List D} (g:Grow F0 H0 F H) (o:Own K F H x.1 v fx) (k:x.2=true->∀b∈fx,H0 b=none) (e:yJ x=.ok ds) :
  ∃a xs F',v=.ref a/\Grow F0 H0 F' H/\Same F F'/\(∀b u,F' b=some u->F b=some u\/b∈fx)/\Rd F' a (.lst xs)/\aJ K F' H ds xs []:=by
 unfold yJ at e
 split at e
 ·rename_i w es hx
  by_cases hk:aS x=true
  ·rw [if_pos hk] at e;cases e
   have kf:=oS hk o k
   have zo:∀b∈fx,F b=none:=fun b hb=>(Own.zone x.1 o b hb).1
   have of_:=Own.freeze (fp:=fx) zo x.1 (fun b hb=>hb) o
   rw [hx] at of_
   unfold D.frz Own at of_
   obtain ⟨a,xs,fq,ev,r,q⟩:=of_
   rcases q with ⟨q,_⟩ | ⟨_,q,q2,_⟩
   ·cases q
   ·subst q2
    refine ⟨a,xs,gD F H fx,ev,g.frz kf zo,eT zo,fun b u q=>?_,q,r⟩
    unfold gD at q
    split at q
    ·exact .inr (by assumption)
    ·exact .inl q
  ·rw [if_neg hk] at e;cases e
 ·cases e
theorem R.pF {α:Type} {x:R α} {P:α->Prop} (h:x.holds P):∃a,x=.ok a/\P a:=by
 cases x with
 | ok a=>exact ⟨a,rfl,h⟩
 | exc _=>exact h.elim
 | bad=>exact h.elim
theorem aE8 {F:Hp} {ds:List D} {a:Addr} {xs:List V} (q:Rd F a (.lst xs)) (r:aJ K F H ds xs []):wO K F ds (Itl K a):=by
 have q:SqL K F a xs:=.inl q
 refine ⟨fun i H' hs hl=>⟨xs,hs.seq q,by rw [<- aJ.length ds r];exact hl⟩,fun i d hd F' H' s1 s2=>?_⟩
 obtain ⟨u,f,q1,q2,q3⟩:=aJ.get ds r hd
 refine ⟨⟨xs,u,(s1.trans s2).seq q,q1⟩,fun y H2 hy=>?_⟩
 obtain ⟨e,hy⟩:=hy
 subst e
 have ey:=hy xs ((s1.trans s2).seq q)
 rw [q1] at ey;cases ey
 have:f=[]:=List.sublist_nil.mp q3
 subst this
 exact ⟨F',Grow.refl s2,Own.keep s1 d (fun a ha=>by cases ha) q2⟩
theorem aEb {F:Hp} {ds:List D} {a:Addr} {ys:List V} (q:Rd F a (.lst ys)) (rr:aJ K F H ds ys []):wO K F (qG ds) (Ite K a):=by
 refine ⟨fun i H' hs hl=>?_,fun i d hd F' H' s1 s2=>?_⟩
 ·refine ⟨ys,.inl (Same.rd hs q),?_⟩
  rw [<- aJ.length ds rr]
  unfold qG at hl
  simpa using hl
 ·unfold qG at hd
  rw [List.getElem?_map,List.getElem?_zipIdx] at hd
  cases ed:ds[i]? with
  | none=>rw [ed] at hd;cases hd
  | some d0 =>
   rw [ed] at hd
   have hd:D.tup [.int ((0+i:Nat):Int),d0]=d:=Option.some.inj hd
   subst hd
   obtain ⟨u,f,q1,q2,q3⟩:=aJ.get ds rr ed
   have:f=[]:=List.sublist_nil.mp q3
   subst this
   refine ⟨⟨ys,u,.inl (Same.rd (s1.trans s2) q),q1⟩,fun x H2 hy=>?_⟩
   obtain ⟨p,y,hp,ex,hy,eH⟩:=hy
   subst ex;subst eH
   have ey:=hy ys (.inl (Same.rd (s1.trans s2) q))
   rw [q1] at ey;cases ey
   have g2:Grow F' H' (upd F' p (.tup [.int (i:Int),u])) (upd H' p (.tup [.int (i:Int),u])):=Grow.both s2 hp
   refine ⟨_,g2,?_⟩
   unfold Own
   refine ⟨rfl,p,[.int (i:Int),u],rfl,TqT.of bJ,?_⟩
   have o1:Own K (upd F' p (.tup [.int (i:Int),u])) (upd H' p (.tup [.int (i:Int),u])) (.int ((0+i:Nat):Int)) (.int (i:Int)) []:=gI (by rw [Nat.zero_add];rfl)
   exact aJ.cons o1 (aJ.one ((Own.keep s1 d0 (fun a ha=>by cases ha) q2).grow g2))
theorem aU4 {f:aR} {R':It->Hp->Prop} (h:iv K (kG f) σ H R'):aPe K (qH (tv K f) aBl) σ H R':=by
 obtain ⟨ρ,F,fps,S,h⟩:=h
 refine ⟨ρ,F,fps,S,R.aP (R.aW.mp h) fun x hx v F1 H1 fx g1 o1 n1 k1=>?_⟩
 obtain ⟨ds,ed,hy⟩:=R.pF (R.aW.mp hx)
 obtain ⟨a,xs,Fa,ea,ga,sa,na,ra,oa⟩:=icy g1 o1 k1 ed
 subst ea
 exact ⟨a,xs,rfl,Same.rd ga.inn ra,hy _ Fa H1 ga (aEb (H:=H1) ra oa)⟩
theorem aTk {f:aR} {R':It->Hp->Prop} (h:iv K (aXx f) σ H R'):aIp K (tv K f) σ H R':=by
 obtain ⟨ρ,F,fps,S,h⟩:=h
 refine ⟨ρ,F,fps,S,R.aP (R.aW.mp h) fun x hx v F1 H1 fx g1 o1 n1 k1=>?_⟩
 obtain ⟨ds,ed,hy⟩:=R.pF hx
 obtain ⟨a,xs,Fa,ea,ga,sa,na,ra,oa⟩:=icy g1 o1 k1 ed
 subst ea
 exact ⟨a,rfl,⟨xs,.inl (Same.rd ga.inn ra)⟩,hy _ Fa H1 ga (aE8 (H:=H1) ra oa)⟩
def aBy (x:D×Bool):R (List D):=match x.1 with
 | .lst _ ds=>if aS x then .ok (D.frzs ds) else .bad
 | .tup ds=>.ok ds
 | _=>.bad
def jH (f:aR):lN:=fun ρ=>(f ρ).bind aBy
theorem aRi {f:aR} {R':It->Hp->Prop} (h:iv K (jH f) σ H R'):aIp K (tv K f) σ H R'\/aRx K (tv K f) σ H R':=by
 obtain ⟨ρ,F,fps,S,h⟩:=h
 unfold jH at h
 obtain ⟨x,ex,hx⟩:=R.pF (R.aW.mp h)
 obtain ⟨ds,ed,hd⟩:=R.pF hx
 unfold aBy at ed
 split at ed
 ·rename_i o es hx'
  refine .inl (aTk ⟨ρ,F,fps,S,?_⟩)
  unfold aXx
  rw [ex]
  show (yJ x).holds _
  unfold yJ
  rw [hx']
  dsimp only
  rw [ed];exact hd
 ·rename_i es hx'
  cases ed
  refine .inr (aSs ⟨ρ,F,fps,S,?_⟩)
  unfold aQk
  rw [ex]
  show (match x.1 with | .tup ds=>R.ok ds | _=>.bad).holds _
  rw [hx'];exact hd
 ·cases ed
end
end VL
end
section
namespace VL
open PySem PySem.Spec PyProof.Rows L2
mutual
def D.py:D->PyData
 | .non=>.none | .bl b=>.bool b | .int i=>.int i | .str x=>.str x
 | .tup ds=>.tuple (D.pys ds)
 | .lst _ ds=>.list (D.pys ds)
 | .ext _ _=>.none
 | .fn _=>.none
def D.pys:List D->List PyData
 | []=>[]
 | d::ds=>d.py::D.pys ds
end
mutual
def D.plain:D->Bool
 | .tup ds=>D.uG ds
 | .lst _ ds=>D.uG ds
 | .ext _ _=>false
 | .fn _=>false
 | _=>true
def D.uG:List D->Bool
 | []=>true
 | d::ds=>d.plain && D.uG ds
end
section
variable {X:Cx} {pins:Y8} {σ:L2.St} {F H:Hp} {s:Shared}
mutual
theorem jY (I:L2.Inv X pins σ H s) (hs:Same F H):∀(d:D) {v:V} {fp:Y2} {u:Value},d.plain=true->Own X.K F H d v fp->RelV v u->∃as,Reads s.heap u d.py as
 | .non,v,fp,u,_,o,r=>by unfold Own at o;rw [o.1] at r;cases r;exact ⟨_,.none⟩
 | .bl b,v,fp,u,_,o,r=>by unfold Own at o;rw [o.1] at r;cases r;exact ⟨_,.bool b⟩
 | .int i,v,fp,u,_,o,r=>by unfold Own at o;rw [o.1] at r;obtain ⟨t,rfl⟩:=r;exact ⟨_,.int i t⟩
 | .str x,v,fp,u,_,o,r=>by unfold Own at o;rw [o.1] at r;obtain ⟨t,rfl⟩:=r;exact ⟨_,.str x t⟩
 | .ext _ _,_,_,_,hp,_,_=>by simp [D.plain] at hp
 | .fn _,_,_,_,hp,_,_=>by simp [D.plain] at hp
 | .tup ds,v,fp,u,hp,o,r=>by
  unfold Own at o
  obtain ⟨_,a,xs,e,q,rr⟩:=o
  rw [e] at r;cases r
  obtain ⟨its,rv,⟨ob,h1,h2,n,h3⟩,_⟩:=I.tuple (Same.aA1 hs q)
  obtain ⟨as,h4⟩:=nB I hs ds (by simpa [D.plain] using hp) rr rv
  exact ⟨_,.tuple h1 h2 h3 (by simpa using h4)⟩
 | .lst w ds,v,fp,u,hp,o,r=>by
  obtain ⟨a,xs,fq,e,q,rr,_⟩:=Own.lst hs o
  rw [e] at r;cases r
  obtain ⟨its,rv,⟨ob,n,h1,h2,_,h3⟩,_⟩:=I.list q
  obtain ⟨as,h4⟩:=nB I hs ds (by simpa [D.plain] using hp) rr rv
  exact ⟨_,.list h1 h2 h3 (by simpa using h4)⟩
theorem nB (I:L2.Inv X pins σ H s) (hs:Same F H):∀(ds:List D) {vs:List V} {fp:Y2} {us:Y1},D.uG ds=true->aJ X.K F H ds vs fp->Vals vs us->∃as,ReadsAll s.heap us (D.pys ds) as
 | [],vs,fp,us,_,o,r=>by unfold aJ at o;rw [o.1] at r;cases r;exact ⟨_,.nil⟩
 | d::ds,vs,fp,us,hp,o,r=>by
  simp only [D.uG,Bool.and_eq_true] at hp
  unfold aJ at o
  obtain ⟨v,vr,f1,f2,e,o1,o2,_⟩:=o
  rw [e] at r
  cases r with
  | cons r1 r2 =>
   obtain ⟨a1,q1⟩:=jY I hs d hp.1 o1 r1
   obtain ⟨a2,q2⟩:=nB I hs ds hp.2 o2 r2
   exact ⟨_,.cons q1 q2⟩
end
end
def eqD (x y:D):Bool:=PyData.eqv x.py y.py
def aEp (x y:D):Bool:=x.plain && y.plain && (x.py.canLay0 && y.py.canLay0 && decide (min x.py.depth y.py.depth<=100))
def aRm (K:FG) (neg:Bool):R2:=fun v u H Q=>∃F x y fx fy,Same F H/\Own K F H x v fx/\Own K F H y u fy/\aEp x y=true/\Q (.bl (if neg then !eqD x y else eqD x y)) H
def kEq (neg:Bool):D×Bool->D×Bool->R (D×Bool):=fun x y=>if aEp x.1 y.1 then .ok (.bl (if neg then !eqD x.1 y.1 else eqD x.1 y.1),true) else .bad
theorem aBx {K:FG} {neg:Bool}:Op2 K (kEq neg) (aRm K neg):=by
 intro F0 H0 F H x y v u fx fy Q gr o1 n1 k1 o2 n2 k2 h
 unfold kEq at h
 by_cases hc:aEp x.1 y.1=true
 ·rw [if_pos hc] at h
  exact ⟨F,x.1,y.1,fx,fy,gr.inn,o1,o2,hc,EPost.fD gr h rfl⟩
 ·rw [if_neg hc] at h;exact h.elim
section
variable {X:Cx} {k:Nat}
theorem aCl (hr:Room k X.A) {n:Nat} (h:n<=100):X.A.units+1+n<cLine:=by have:=hr.un;omega
theorem aF2 (hr:Room k X.A):OpR X (compareOp .Eq) (aRm X.K false):=by
 intro pins s σ H v u vv uu Q I rx ry h
 obtain ⟨F,x,y,fx,fy,hs,o1,o2,hc,q⟩:=h
 unfold aEp at hc
 simp only [Bool.and_eq_true,decide_eq_true_iff] at hc
 obtain ⟨_,r1⟩:=jY I hs x hc.1.1 o1 rx
 obtain ⟨_,r2⟩:=jY I hs y hc.1.2 o2 ry
 exact PySem.SeqAt.compareEq_reads r1 r2 hc.2.1.1 hc.2.1.2 (by have:=aCl hr hc.2.2;omega) ⟨.bl _,H,I,rfl,q⟩
theorem aSq (hr:Room k X.A):OpR X (compareOp .NotEq) (aRm X.K true):=by
 intro pins s σ H v u vv uu Q I rx ry h
 obtain ⟨F,x,y,fx,fy,hs,o1,o2,hc,q⟩:=h
 unfold aEp at hc
 simp only [Bool.and_eq_true,decide_eq_true_iff] at hc
 obtain ⟨_,r1⟩:=jY I hs x hc.1.1 o1 rx
 obtain ⟨_,r2⟩:=jY I hs y hc.1.2 o2 ry
 exact PySem.SeqAt.compareNe_reads r1 r2 hc.2.1.1 hc.2.1.2 (by have:=aCl hr hc.2.2;omega) ⟨.bl _,H,I,rfl,q⟩
end
end VL
end
section
namespace VL
open PySem PySem.Spec PyProof.Rows L2
def aMh (T:String) (d:D):Bool:=match d with
 | .non=>false | .bl _=>T == "bool" || T == "int" | .int _=>T == "int" | .str _=>T == "str" | .tup _=>T == "tuple" | .lst _ _=>T == "list" | .ext _ _=>false | .fn _=>false
def xY:D->Bool
 | .ext _ _=>false | .fn _=>false | _=>true
def rB:List String:=["bool", "int", "str", "tuple", "list"]
section
variable {X:Cx}
theorem aSx {K:FG} {T:String} (hT:T∈rB):PySem.W.kitOne K (.type "NoneType") (.type T)=some false/\PySem.W.kitOne K (.type "bool") (.type T)=some (T == "bool" || T == "int")/\PySem.W.kitOne K (.type "int") (.type T)=some (T == "int") /\
  PySem.W.kitOne K (.type "str") (.type T)=some (T == "str")/\PySem.W.kitOne K (.type "tuple") (.type T)=some (T == "tuple")/\PySem.W.kitOne K (.type "list") (.type T)=some (T == "list"):=by
 have h:T = "bool" \/T = "int" \/T = "str" \/T = "tuple" \/T = "list" :=by simpa [rB] using hT
 rcases h with rfl | rfl | rfl | rfl | rfl<;>refine ⟨?_,?_,?_,?_,?_,?_⟩<;>first | rfl | decide +kernel | kernel_rfl
theorem aGj {T:String} (hT:T∈rB):qI X (.builtin "isinstance") (fun vs H Q=>∃F d v fp,Same F H/\vs=[v,.ty T]/\Own X.K F H d v fp/\xY d=true/\Q (.bl (aMh T d)) H):=by
 intro pins s σ H vs us Q I r h
 obtain ⟨F,d,v,fp,hs,e,o,hne,q⟩:=h
 subst e
 obtain ⟨u,u2,rfl,r1,r2⟩:=r.two
 cases r2
 obtain ⟨k1,k2,k3,k4,k5,k6⟩:=aSx (K:=X.K) hT
 have fin:∀b tk,aMh T d=b->EP X pins σ Q (.bool b) { s with toks:=tk }:=fun b tk e=>⟨.bl b,H,I.tok _,rfl,e ▸ q⟩
 cases d with
 | non=>unfold Own at o;rw [o.1] at r1;exact iR I r1 (.non) k1 fun tk=>fin _ tk rfl
 | bl b=>unfold Own at o;rw [o.1] at r1;exact iR I r1 (.bl b) k2 fun tk=>fin _ tk rfl
 | int b=>unfold Own at o;rw [o.1] at r1;exact iR I r1 (.int b) k3 fun tk=>fin _ tk rfl
 | str b=>unfold Own at o;rw [o.1] at r1;exact iR I r1 (.str b) k4 fun tk=>fin _ tk rfl
 | tup ds =>
  unfold Own at o
  obtain ⟨_,a,xs,e,hy,_⟩:=o
  rw [e] at r1
  cases (show u=Value.ref a from r1)
  obtain ⟨its,rv,⟨ob,h1,h2,_⟩,_⟩:=I.tuple (Same.aA1 hs hy)
  exact PySem.W.kia_one PySem.W.kitx_tuple I.kIn ⟨ob,h1,h2⟩ k5 (fun z=>nomatch z) fun tk=>fin _ tk rfl
 | ext _ _=>cases hne
 | fn _=>cases hne
 | lst w ds =>
  obtain ⟨a,xs,fq,e,q1,_⟩:=Own.aOt hs o
  rw [e] at r1
  rcases q1 with q1 | ⟨ob,q1⟩
  ·exact iR I r1 (.lst q1) k6 fun tk=>fin _ tk rfl
  ·exact iR I r1 (.frz q1) k6 fun tk=>fin _ tk rfl
def nR (T:String):D×Bool->R (D×Bool):=fun x=>if xY x.1 then .ok (.bl (aMh T x.1),true) else .bad
theorem nQ {T:Str} {T':String} {a:Expr} {f:aR} {p q pos:Pos} (hT:T'∈rB) (ha:SE X a f) (hm:X.mg "isinstance" = none) (hm2:X.mg T=none) (hv:bootBuiltins T=some (.type T')) (hg:Gl X "isinstance" :=by rfl) (hg2:Gl X T:=by rfl) (hn:T ≠ "__name__" :=by decide) (hd:(T == ("__debug__" : Str))=false:=by decide)
  (hs1:starEach [a,.Name T q] X.env=(false,eval a X.env)::starEach [.Name T q] X.env:=by rfl) (hs2:starEach [.Name T q] X.env=(false,eval (.Name T q) X.env)::starEach [] X.env:=by rfl)
  (hpl:(backTo pos (starEach [.Name T q] X.env)).any (·.1)=false:=by rfl):SE X (.Call (.Name "isinstance" p) [a,.Name T q] [] pos) (v1 (nR T') f) :=
 (aAr (aGj hT) hg hm PyProof.Rows.boot_isinstance (iN ha (iN (aNj (v:=.ty T') hg2 hm2 hv rfl hn hd) pV hs2) hs1) (by decide) (by decide) hs1 hpl).imp fun σ H Q h=>by
  obtain ⟨ρ,F,fps,S,h⟩:=h
  refine ⟨ρ,F,fps,S,R.aP (R.aW.mp h) fun x hx v F1 H1 fx g1 o1 n1 k1=>?_⟩
  unfold nR at hx
  by_cases hc:xY x.1=true
  ·rw [if_pos hc] at hx
   exact ⟨F1,x.1,v,fx,g1.inn,rfl,o1,hc,EPost.fD g1 hx rfl⟩
  ·rw [if_neg hc] at hx;exact hx.elim
def eU:List D->Option (Y0)
 | []=>some []
 | .int i::ds=>(eU ds).map (i::·)
 | _=>none
theorem fY {K:FG} {F H:Hp}:∀(ds:List D) {ns:Y0} {xs:List V} {fp:Y2},eU ds=some ns->aJ K F H ds xs fp->xs=ns.map V.int
 | [],ns,xs,fp,e,o=>by unfold eU at e;cases e;unfold aJ at o;exact o.1
 | d::ds,ns,xs,fp,e,o=>by
  cases d<;>try (unfold eU at e;cases e;done)
  rename_i i
  unfold eU at e
  cases q:eU ds with
  | none=>rw [q] at e;cases e
  | some ms =>
   rw [q] at e
   have e:some (i::ms)=some ns:=e
   cases e
   unfold aJ at o
   obtain ⟨v,r,f1,f2,e1,o1,o2,_⟩:=o
   unfold Own at o1
   rw [e1,o1.1,fY ds q o2];rfl
theorem aD5 (hc:X.calm=true):qI X (.builtin "sum") (fun xs H Q=>∃(p:Addr) (ns:Y0),xs=[.ref p]/\SqL X.K H p (ns.map V.int)/\Q (.int ns.sum) H):=by
 intro pins s σ H xs us Q I r h
 obtain ⟨p,ns,rfl,hq,q⟩:=h
 obtain ⟨u,rfl,ru⟩:=vals1 r
 cases ru
 obtain ⟨its,rv,pl,_⟩:=I.list hq
 have hi:IntsAre its ns:=intsAre_of rv
 obtain ⟨ys,hx⟩:=hi.allInts.items
 have hl':s.heap.IsList p (intItems ys):=hx ▸ pl.isList
 refine sum_intListG (I.ok.hd hc) hl' fun h' tk t' hk=>?_
 have e1:ns=ys.toList.map (·.1):=by
  rw [<- nums_intItems,<- hx]
  exact (show numsOf its.toArray.toList=ns from hi.numsOf).symm
 have e2:preSum (numAt ys) ys.size=ns.sum:=by
  rw [preSum_eq,List.take_of_length_le (by simp),e1]
 rw [e2]
 exact ⟨.int _,H,I.kept hk,⟨_,rfl⟩,q⟩
def aTs:List (D×Bool)->R (D×Bool)
 | [(.lst _ ds,_)]=>(match eU ds with | some ns=>.ok (.int ns.sum,true) | none=>.bad) | _=>.bad
theorem aNr {K:FG}:OpA K aTs (fun xs H Q=>∃(p:Addr) (ns:Y0),xs=[.ref p]/\SqL K H p (ns.map V.int)/\Q (.int ns.sum) H):=by
 intro F0 H0 F H xs vs fa Q gr a n k h
 match xs,h,a with
 | [(.lst o ds,b)],h,a =>
  unfold Args at a
  obtain ⟨v,r,fp,f2,e,o1,n1,t,w⟩:=a
  unfold Args at t
  obtain ⟨p,ys,fq,e1,q1,r1,_⟩:=Own.lst gr.inn o1
  have h:(match eU ds with | some ns=>R.ok (D.int ns.sum,true) | none=>R.bad).holds (EPost K F0 H0 Q):=h
  cases q:eU ds with
  | none=>rw [q] at h;exact h.elim
  | some ns =>
   rw [q] at h
   rw [fY ds q r1] at q1
   exact ⟨p,ns,by rw [e,t.1,e1],q1,EPost.fD gr h rfl⟩
theorem aEf (hc:X.calm=true):qI X (.builtin "min") (fun xs H Q=>∃(p:Addr) (ns:Y0) (m:Int),xs=[.ref p]/\SqL X.K H p (ns.map V.int)/\ns.min?=some m/\Q (.int m) H):=by
 intro pins s σ H xs us Q I r h
 obtain ⟨p,ns,m,rfl,hq,hm,q⟩:=h
 obtain ⟨u,rfl,ru⟩:=vals1 r
 cases ru
 obtain ⟨its,rv,pl,_⟩:=I.list hq
 have hi:IntsAre its ns:=intsAre_of rv
 obtain ⟨ys,hx⟩:=hi.allInts.items
 have hl':s.heap.IsList p (intItems ys):=hx ▸ pl.isList
 have e1:ns=ys.toList.map (·.1):=by
  rw [<- nums_intItems,<- hx]
  exact (show numsOf its.toArray.toList=ns from hi.numsOf).symm
 have hne:0<ns.length:=by
  cases ns with
  | nil=>cases hm
  | cons _ _=>simp
 have hsz:0<ys.size:=by
  have h3:=hne;rw [e1,List.length_map,Array.length_toList] at h3;exact h3
 refine min_intList (I.ok.hd hc) hl' hsz fun v h' tk hv hk=>?_
 obtain ⟨t,rfl⟩:=intItems_at hv
 obtain ⟨h1,h2⟩:=argBest_lt (numAt ys) (ys.size - 1)
 have hm2:numAt ys (argBest (fun i j=>decide (numAt ys i<numAt ys j)) (ys.size - 1))=m:=by
  have hmm:=List.min?_eq_some_iff.mp hm
  refine Int.le_antisymm ?_ ?_
  ·obtain ⟨j,hj,ej⟩:=mem_getD (e1 ▸ hmm.1)
   rw [List.length_map,Array.length_toList] at hj
   rw [<- ej,<- numAt_eq]
   exact h2 j (by omega)
  ·refine hmm.2 _ ?_
   rw [e1,numAt_eq];exact getD_mem (by rw [List.length_map,Array.length_toList];omega)
 rw [hm2]
 exact ⟨.int _,H,I.kept hk,⟨_,rfl⟩,q⟩
def aGc:List (D×Bool)->R (D×Bool)
 | [(.lst _ ds,_)]=>(match (eU ds).bind List.min? with | some m=>.ok (.int m,true) | none=>.bad)
 | _=>.bad
theorem aJ1 {K:FG}:OpA K aGc (fun xs H Q=>∃(p:Addr) (ns:Y0) (m:Int),xs=[.ref p]/\SqL K H p (ns.map V.int)/\ns.min?=some m/\Q (.int m) H):=by
 intro F0 H0 F H xs vs fa Q gr a n k h
 match xs,h,a with
 | [(.lst o ds,b)],h,a =>
  unfold Args at a
  obtain ⟨v,r,fp,f2,e,o1,n1,t,w⟩:=a
  unfold Args at t
  obtain ⟨p,ys,fq,e1,q1,r1,_⟩:=Own.lst gr.inn o1
  have h:(match (eU ds).bind List.min? with | some m=>R.ok (D.int m,true) | none=>R.bad).holds (EPost K F0 H0 Q):=h
  cases q:eU ds with
  | none=>rw [q] at h;exact h.elim
  | some ns =>
   rw [q] at h
   rw [fY ds q r1] at q1
   dsimp only [Option.bind] at h
   cases qm:ns.min? with
   | none=>rw [qm] at h;exact h.elim
   | some m=>rw [qm] at h;exact ⟨p,ns,m,by rw [e,t.1,e1],q1,qm,EPost.fD gr h rfl⟩
def k2i (g:Int->Int->Int):List (D×Bool)->R (D×Bool)
 | [(.int i,_),(.int j,_)]=>.ok (.int (g i j),true) | _=>.bad
theorem aUb {K:FG} {g:Int->Int->Int}:OpA K (k2i g) (fun xs H Q=>∃i j,xs=[.int i,.int j]/\Q (.int (g i j)) H):=by
 intro F0 H0 F H xs vs fa Q gr a n k h
 match xs,h,a with
 | [(.int i,b),(.int j,b')],h,a =>
  unfold Args at a
  obtain ⟨v,r,fp,f2,e,o1,n1,t,w⟩:=a
  unfold Args at t
  obtain ⟨v',r',fp',f2',e',o1',n1',t',w'⟩:=t
  unfold Args at t'
  unfold Own at o1 o1'
  exact ⟨i,j,by rw [e,e',t'.1,o1.1,o1'.1],EPost.fD gr h rfl⟩
end
end VL
end
section
namespace VL
open PySem L2
section
variable {K:FG} {F H F' H' F1 H1:Hp} {σ σ1:St} {ρ ρ1:Env} {Q:VK}
def tV (ρ:Env) (j:Nat):Slot:=match getD ρ j with | some d=>.val d.frz | none=>.un
def qJ (ρ:Env) (j:Nat):Bool:=match getD ρ j with | some d=>d.calm | none=>true
def yX (set:D->Env->Option Env) (c:dC) (e:aR):List D->Env->R (List D)
 | [],_=>.ok []
 | d::ds,ρ=>match set d ρ with
  | none=>.bad
  | some ρ1=>(c ρ1).bind fun b=>if b=true then (e ρ1).bind fun x=>if aS x then (yX set c e ds ρ1).bind fun r=>.ok (x.1::r) else .bad else yX set c e ds ρ1
def dN (f:lN) (nt:Nat) (js:T0) (set:D->Env->Option Env) (c:dC) (e:aR):aR:=fun ρ=>(f ρ).bind fun ds =>
 if decide (ds.length<=1000000) then (yX set c e ds (List.replicate nt .un++js.map (tV ρ))).bind fun xs=>if js.all (qJ ρ) || xs.all isScal then .ok (.lst true xs,true) else .bad else .bad
theorem lR {fps:Y5} (S:Sim K F H σ ρ fps):∀(js:T0),∃U:Y2,(∀b∈U,F b=none)/\(js.all (qJ ρ)=true->U=[]) /\
  ∀U':Y2,(∀b∈U,b∈U')->(∀b∈U',F b=none)->∀(k:Nat) (d:D),(js.map (tV ρ))[k]?=some (.val d)->∃v,(js.map fun j=>(σ[j]?).join)[k]?=some (some v)/\Own K (gD F H U') H d v []
 | []=>⟨[],by simp,fun _=>rfl,fun _ _ _ k d e=>by simp at e⟩
 | j::js=>by
  obtain ⟨U,u1,u2,u3⟩:=lR S js
  cases eg:getD ρ j with
  | none =>
   refine ⟨U,u1,fun h=>u2 (by rw [List.all_cons,Bool.and_eq_true] at h;exact h.2),fun U' s1 s2 k d e=>?_⟩
   cases k with
   | zero =>
    have e:tV ρ j=.val d:=by simpa using e
    unfold tV at e
    rw [eg] at e;cases e
   | succ k=>simpa using u3 U' s1 s2 k d (by simpa using e)
  | some d0 =>
   obtain ⟨v,fp,h1,h2,h3⟩:=S.get eg
   have hz:∀b∈fp,b∈fps.flatten:=fun b hb=>List.mem_flatten.mpr ⟨_,List.mem_of_getElem? h2,hb⟩
   refine ⟨fp++U,fun b hb=>(List.mem_append.mp hb).elim (fun q=>(S.zone b (hz b q)).1) (u1 b),fun h=>?_,fun U' s1 s2 k d e=>?_⟩
   ·rw [List.all_cons,Bool.and_eq_true] at h
    have hc:d0.calm=true:=by have:=h.1;unfold qJ at this;rw [eg] at this;exact this
    rw [Own.dU d0 hc h3,u2 h.2];rfl
   ·cases k with
    | zero =>
     have e:tV ρ j=.val d:=by simpa using e
     unfold tV at e
     rw [eg] at e;cases e
     exact ⟨v,by simp [h1],Own.freeze s2 d0 (fun b hb=>s1 b (List.mem_append_left _ hb)) h3⟩
    | succ k=>simpa using u3 U' (fun b hb=>s1 b (List.mem_append_right _ hb)) s2 k d (by simpa using e)
theorem Sim.other {fps:Y5} {a:Addr} {o:HO} (S:Sim K F H σ ρ fps) (fa:F a=none) (ha:a ∉ fps.flatten):Sim K F (upd H a o) σ ρ fps:=by
 refine ⟨fun b u e=>?_,S.ls,S.lf,fun i s d e1 e2=>?_,S.nd,fun b hb=>?_⟩
 ·rw [aU (bX e fa)];exact S.same b u e
 ·obtain ⟨v,fp,h1,h2,h3⟩:=S.at_ i s d e1 e2
  exact ⟨v,fp,h1,h2,h3.other fun z=>ha (List.mem_flatten.mpr ⟨fp,List.mem_of_getElem? h2,z⟩)⟩
 ·refine ⟨(S.zone b hb).1,?_⟩
  have hne:b ≠ a:=fun z=>ha (z ▸ hb)
  rw [aU hne];exact (S.zone b hb).2
structure CSt (K:FG) (FB H1:Hp) (acc:Addr) (F' H':Hp) (σ':St) (ρ':Env) (done:List D):Prop where
 fr:Same FB F'
 all:∀b o,H1 b=some o->H' b=some o
 new:∀b o,F' b=some o->FB b=some o\/H1 b=none
 sim:∃fps',Sim K F' H' σ' ρ' fps'/\fps'.flatten=[]
 acc_:F' acc=none
 own:∃xs fa,H' acc=some (.lst xs)/\aJ K F' H' done xs fa/\(acc::fa).Nodup/\∀b∈fa,H1 b=none
theorem CSt.grow {FB H1 F2 H2:Hp} {acc:Addr} {σ':St} {ρ':Env} {done:List D} (c:CSt K FB H1 acc F' H' σ' ρ' done) (g:Grow F' H' F2 H2):CSt K FB H1 acc F2 H2 σ' ρ' done:=by
 obtain ⟨fps',S,e⟩:=c.sim
 obtain ⟨xs,fa,a1,a2,a3,a4⟩:=c.own
 refine ⟨c.fr.trans g.fr,fun b o q=>g.all b o (c.all b o q),fun b o q=>?_,⟨fps',S.grow g,e⟩,?_,⟨xs,fa,g.all _ _ a1,a2.grow g,a3,a4⟩⟩
 ·rcases g.new b o q with z | z
  ·exact c.new b o z
  ·refine .inr ?_
   cases q2:H1 b with
   | none=>rfl
   | some u=>rw [c.all b u q2] at z;cases z
 ·cases q:F2 acc with
  | none=>rfl
  | some o =>
   rcases g.new acc o q with z | z
   ·rw [c.acc_] at z;cases z
   ·rw [a1] at z;cases z
theorem CSt.push {FB H1:Hp} {acc:Addr} {σ':St} {ρ':Env} {done:List D} {x:D} {v:V} {fx:Y2} (c:CSt K FB H1 acc F' H' σ' ρ' done) (hacc:H1 acc=none) (o:Own K F' H' x v fx) (n:fx.Nodup) {Hm:Hp} (hm:∀b∈fx,Hm b=none) (hsub:∀b o,H1 b=some o->∃o',Hm b=some o') (hdone:∃xs fa,H' acc=some (.lst xs)/\aJ K F' H' done xs fa/\(acc::fa).Nodup/\(∀b∈fa,H1 b=none)/\∀b∈acc::fa,Hm b ≠ none) :
  ∃xs,H' acc=some (.lst xs)/\xs.length=done.length/\CSt K FB H1 acc F' (upd H' acc (.lst (xs ++ [v]))) σ' ρ' (done ++ [x]):=by
 obtain ⟨fps',S,e⟩:=c.sim
 obtain ⟨xs,fa,a1,a2,a3,a4,hd⟩:=hdone
 have nx:∀b∈acc::fa,b ∉ fx:=fun b hb z=>hd b hb (hm b z)
 have nacc:=List.nodup_cons.mp a3
 refine ⟨xs,a1,(aJ.length done a2).symm,c.fr,fun b u q=>?_,c.new,⟨fps',S.other c.acc_ (by rw [e];simp),e⟩,c.acc_,⟨xs ++ [v],fa++fx,bJ,aJ.append done (a2.other nacc.1) (aJ.one (o.other (nx acc List.mem_cons_self))),?_,fun b hb=>?_⟩⟩
 ·rw [aU (bX q hacc)];exact c.all b u q
 ·refine List.nodup_cons.mpr ⟨fun z=>(List.mem_append.mp z).elim nacc.1 (nx acc List.mem_cons_self),List.nodup_append.mpr ⟨nacc.2,n,fun p hp q hq z=>?_⟩⟩
  subst z
  exact nx p (List.mem_cons_of_mem _ hp) hq
 ·rcases List.mem_append.mp hb with hb | hb
  ·exact a4 b hb
  ·cases q:H1 b with
   | none=>rfl
   | some u =>
    obtain ⟨o',z⟩:=hsub b u q
    rw [hm b hb] at z;cases z
theorem aDf {f:lN} {nt:Nat} {js:T0} {set:D->Env->Option Env} {g:TG} {c:dC} {e:aR} (ht:Tgt K set g) (h:tv K (dN f nt js set c e) σ H Q):aCr (iv K f) nt js g (tvT K c) (tv K e) σ H Q:=by
 obtain ⟨ρ,F,fps,S,h⟩:=h
 refine ⟨ρ,F,fps,S,R.aP (R.aW.mp h) fun ds hds J F1 H1 g1 hJ acc hacc=>?_⟩
 by_cases hsz:decide (ds.length<=1000000)=true
 ·rw [if_pos hsz] at hds
  rw [decide_eq_true_iff] at hsz
  have hds:=R.aW.mp hds
  have S1:=S.grow g1
  obtain ⟨U,u1,u2,u3⟩:=lR S1 js
  have own0:=u3 U (fun b hb=>hb) u1
  let FB:=gD F1 H1 U
  have sB:Same F1 FB:=eT u1
  have inB:Same FB H1:=oB g1.inn
  let H1':=upd H1 acc (.lst [])
  have gB:Grow FB H1 FB H1':=Grow.one inB hacc
  let σ0:St:=List.replicate nt none++js.map fun j=>(σ[j]?).join
  let ρ0:Env:=List.replicate nt .un++js.map (tV ρ)
  have C0:CSt K FB H1 acc FB H1' σ0 ρ0 []:=by
   refine ⟨Same.refl _,fun b o q=>by show upd H1 acc _ b=_;rw [aU (bX q hacc)];exact q,fun b o q=>.inl q,⟨List.replicate ρ0.length [],⟨gB.inn,?_,by simp,fun i s d e1 e2=>?_,by simp,fun a ha=>by simp at ha⟩,by simp⟩,inB.free hacc,⟨[],[],bJ,aJ.nil,by simp,fun b hb=>by cases hb⟩⟩
   ·show (List.replicate nt none++js.map _).length=(List.replicate nt Slot.un++js.map _).length
    simp
   ·have e1:(List.replicate nt Slot.un++js.map (tV ρ))[i]?=some s:=e1
    by_cases hi:i<nt
    ·rw [List.getElem?_append_left (by simpa using hi),List.getElem?_replicate,if_pos hi] at e1
     cases e1;cases e2
    ·rw [List.getElem?_append_right (by simpa using hi),List.length_replicate] at e1
     have es:s=.val d:=by
      rw [List.getElem?_map] at e1
      cases ej:js[i - nt]? with
      | none=>rw [ej] at e1;cases e1
      | some j =>
       rw [ej] at e1
       have e1:tV ρ j=s:=Option.some.inj e1
       unfold tV at e1
       cases eg:getD ρ j with
       | none=>rw [eg] at e1;subst e1;cases e2
       | some d0=>rw [eg] at e1;subst e1;cases e2;rfl
     subst es
     obtain ⟨v,q1,q2⟩:=own0 (i - nt) d e1
     refine ⟨v,[],?_,?_,q2.grow gB⟩
     ·show (List.replicate nt none++js.map fun j=>(σ[j]?).join)[i]?=_
      rw [List.getElem?_append_right (by simpa using hi),List.length_replicate];exact q1
     ·have hl:i < ρ0.length:=by
       have:=(List.getElem?_eq_some_iff.mp e1).1
       show i<(List.replicate nt Slot.un++js.map (tV ρ)).length
       simp at this ⊢;omega
      rw [List.getElem?_replicate,if_pos hl]
  refine ⟨fun i m σ' H'=>i<=ds.length/\m=ds.length - i/\∃ρ' F' done,CSt K FB H1 acc F' H' σ' ρ' done/\done.length<=i /\
    (yX set c e (ds.drop i) ρ').holds (fun rest=>(if js.all (qJ ρ) || (done++rest).all isScal then R.ok (D.lst true (done++rest),true) else R.bad).holds (EPost K F H Q)),
   ⟨ds.length,Nat.zero_le _,rfl,ρ0,FB,[],C0,Nat.le_refl _,hds⟩,?_⟩
  rintro i m σ' H' ⟨hi,rfl,ρ',F',done,C,hdl,hrest⟩
  obtain ⟨fps',S',e'⟩:=C.sim
  by_cases hlt:i<ds.length
  ·refine .inr ?_
   obtain ⟨d,hd⟩:∃d,ds[i]?=some d:=⟨ds[i],by simp [hlt]⟩
   have hdrop:ds.drop i=d::ds.drop (i+1):=by
    rw [List.drop_eq_getElem_cons hlt]
    congr 1
    rw [List.getElem?_eq_getElem hlt] at hd;exact Option.some.inj hd
   rw [hdrop] at hrest
   obtain ⟨go,yl⟩:=hJ.2 i d hd F' H' (sB.trans C.fr) S'.same
   refine ⟨go,fun x H2 hy=>?_⟩
   obtain ⟨F2,g2,o2⟩:=yl x H2 hy
   have C2:=C.grow g2
   unfold yX at hrest
   cases es:set d ρ' with
   | none=>rw [es] at hrest;exact hrest.elim
   | some ρ2 =>
    rw [es] at hrest
    have hrest:=R.aW.mp hrest
    refine ht F2 H2 d x ρ' ρ2 σ' fps' _ (S'.grow g2) o2 es fun σ2 fps2 S2 p2 k2=>?_
    have e2':fps2.flatten=[]:=by
     cases q:fps2.flatten with
     | nil=>rfl
     | cons b l=>have:=k2 b (by rw [q];exact List.mem_cons_self);rw [e'] at this;cases this
    have C2':CSt K FB H1 acc F2 H2 σ2 ρ2 done:=⟨C2.fr,C2.all,C2.new,⟨fps2,S2,e2'⟩,C2.acc_,C2.own⟩
    refine ⟨ρ2,F2,fps2,S2,R.aP hrest fun b hb F3 H3 g3=>?_⟩
    have C3:=C2'.grow g3
    cases b with
    | false =>
     rw [if_neg Bool.false_ne_true] at hb
     show if false=true then _ else _
     rw [if_neg Bool.false_ne_true]
     exact ⟨ds.length - (i+1),by omega,by omega,rfl,ρ2,F3,done,C3,by omega,hb⟩
    | true =>
     rw [if_pos rfl] at hb
     show if true=true then _ else _
     rw [if_pos rfl]
     obtain ⟨fps3,S3,e3'⟩:=C3.sim
     refine ⟨ρ2,F3,fps3,S3,R.aP (R.aW.mp hb) fun y hy v F4 H4 fy g4 o4 n4 k4=>?_⟩
     by_cases hk:aS y=true
     ·rw [if_pos hk] at hy
      have hy:=R.aW.mp hy
      have k5:=oS hk o4 k4
      have C4:=C3.grow g4
      obtain ⟨xs,a1,a2,C5⟩:=C4.push hacc o4 n4 (Hm:=H3) k5 (fun b o q=>⟨o,C3.all b o q⟩) (by
       obtain ⟨ys,fa',b1,b2,b3,b4⟩:=C3.own
       refine ⟨ys,fa',g4.all _ _ b1,b2.grow g4,b3,b4,fun b hb=>?_⟩
       rcases List.mem_cons.mp hb with rfl | hb
       ·rw [b1];simp
       ·obtain ⟨_,zs,z⟩:=aJ.zone done b2 b hb
        rw [z];simp)
      refine ⟨xs,a1,oK (by omega),ds.length - (i+1),by omega,by omega,rfl,ρ2,F4,done ++ [y.1],C5,by simp;omega,R.aP hy fun r hr=>?_⟩
      have hr:(if js.all (qJ ρ) || (done++y.1::r).all isScal then R.ok (D.lst true (done++y.1::r),true) else R.bad).holds (EPost K F H Q):=hr
      rw [show done ++ [y.1]++r=done++y.1::r by simp]
      exact hr
     ·rw [if_neg hk] at hy;exact hy.elim
  ·have hil:i=ds.length:=by omega
   refine .inl ⟨hJ.1 i H' (sB.trans (C.fr.trans S'.same)) (by omega),?_⟩
   rw [List.drop_eq_nil_of_le (by omega)] at hrest
   have hrest:(if js.all (qJ ρ) || (done ++ []).all isScal then R.ok (D.lst true (done ++ []),true) else R.bad).holds (EPost K F H Q):=hrest
   rw [List.append_nil] at hrest
   obtain ⟨xs,fa,a1,a2,a3,a4⟩:=C.own
   have hall:Same H H':=g1.all.trans C.all
   have frsh:∀b∈acc::fa,H b=none:=fun b hb=>by
    rcases List.mem_cons.mp hb with rfl | hb
    ·exact g1.all.free hacc
    ·exact g1.all.free (a4 b hb)
   by_cases hcap:js.all (qJ ρ)=true
   ·rw [hcap,Bool.true_or,if_pos rfl] at hrest
    have hU:=u2 hcap
    subst hU
    have eFB:∀b,FB b=F1 b:=fun b=>by show gD F1 H1 [] b=F1 b;unfold gD;simp
    refine hrest (.ref acc) F' H' (acc::fa) ⟨g1.fr.trans (sB.trans C.fr),hall,S'.same,fun b o q=>?_⟩ (Own.closed a2 C.acc_ a1) a3 fun _ b hb=>frsh b hb
    rcases C.new b o q with z | z
    ·rw [eFB] at z;exact g1.new b o z
    ·exact .inr (g1.all.free z)
   ·by_cases hsc:done.all isScal=true
    ·rw [hsc,Bool.or_true,if_pos rfl] at hrest
     have hfa:fa=[]:=by
      refine aJ.dU done ?_ a2
      rw [D.uI]
      rw [List.all_eq_true] at hsc ⊢
      intro x hx
      have:=hsc x hx
      unfold isScal at this
      cases x<;>first | rfl | (simp [fH] at this)
     subst hfa
     have o1:aJ K F1 H' done xs []:=by
      refine aJ.of_get done (aJ.length done a2) fun k d v e1 e2=>?_
      have hd:isScal d=true:=by rw [List.all_eq_true] at hsc;exact hsc d (List.mem_of_getElem? e1)
      unfold isScal at hd
      cases q:fH d with
      | none=>rw [q] at hd;cases hd
      | some w =>
       have:=rF q (aJ.aYl a2 e1 e2)
       rw [this.1];exact gI q
     refine hrest (.ref acc) F1 H' [acc] ⟨g1.fr,hall,(sB.trans C.fr).trans S'.same,fun b o q=>g1.new b o q⟩ (Own.closed o1 (g1.inn.free hacc) a1) a3 fun _ b hb=>frsh b hb
    ·have:(js.all (qJ ρ) || done.all isScal)=false:=by
      rw [Bool.eq_false_iff];intro z
      rcases Bool.or_eq_true _ _ ▸ z with z | z
      ·exact hcap z
      ·exact hsc z
     rw [this] at hrest;exact hrest.elim
 ·rw [if_neg hsz] at hds;exact hds.elim
end
end VL
end
section
namespace VL
open PySem PySem.Spec PyProof.Rows L2
abbrev mR:=Env->Option Nat
def aO2 (F H:Hp) (Q:VK) (n:Nat):Prop:=∀(z:Str) F' H',Grow F H F' H'->z.length<=n->Q (.str z) H'
def tz (K:FG) (f:mR):TE:=fun σ H Q=>∃ρ F fps,Sim K F H σ ρ fps/\∃n,f ρ=some n/\aO2 F H Q n
abbrev SZ (X:Cx) (e:Expr) (f:mR):Prop:=PE X e (tz X.K f)
def SZs (X:Cx) (es:List Expr) (f:mR):Prop:=∀(pins:Y8) (s:Shared) (σ:L2.St) (H:Hp) (acc:Str) (Q:VK),L2.Inv X pins σ H s ->
 (∃ρ F fps,Sim X.K F H σ ρ fps/\∃n,f ρ=some n/\acc.length+n<=1000000/\aO2 F H Q (acc.length+n)) ->
 Joins (model X.prog X.w) X.A X.xe (evalEach es X.env) acc (fun out s1=>out.length<=sizeLine/\EP X pins σ Q (.str out s1.toks) { s1 with toks:=s1.toks+1 }) s
section
variable {X:Cx} {W:XW} {e v1 v2:Expr} {es:List Expr} {pos:Pos}
theorem eZ {i j}:SZ X (.Constant (.str i) j pos) (fun _=>some i.length):=aJh.imp fun σ H Q h=>by
 obtain ⟨ρ,F,fps,S,n,en,h⟩:=h
 cases en
 exact h i F H (Grow.refl S.same) (Nat.le_refl _)
def mT (g:aR):mR:=fun ρ=>match g ρ with | .ok (.int a,_)=>if a.natAbs<=100000 then some 100002 else none | _=>none
def aTa (g:aR):mR:=fun ρ=>match g ρ with | .ok (.str x,_)=>if x.length<=100000 then some x.length else none | _=>none
theorem aDt {a:Int} (h:a.natAbs<=100000):a.natAbs.log2<1920:=by
 by_cases h0:a.natAbs=0
 ·rw [h0];decide
 ·exact (Nat.log2_lt h0).mpr (Nat.lt_of_le_of_lt h (Nat.lt_of_lt_of_le (by decide:100000<2 ^ 17) (Nat.pow_le_pow_right (by decide) (by decide))))
theorem iO {g:aR} (h:SE X e g):SZ X (.FormattedValue e (-1) none pos) (mT g):=by
 intro pins s σ H Q I q
 obtain ⟨ρ,F,fps,S,n,en,q⟩:=q
 unfold mT at en
 refine FormattedValue_plain (thn (h pins s σ H (fun v H'=>∃a,v=.int a/\a.natAbs<=100000/\∀z:Str,z.length<=100002->Q (.str z) H') I ⟨ρ,F,fps,S,?_⟩) fun u s1 ⟨v,H1,I1,r,a,ev,ha,hq⟩=>?_)
 ·cases eg:g ρ with
  | exc _=>rw [eg] at en;cases en
  | bad=>rw [eg] at en;cases en
  | ok x =>
   rw [eg] at en
   obtain ⟨x,b⟩:=x
   cases x<;>try cases en
   rename_i a
   dsimp only at en
   by_cases ha:a.natAbs<=100000
   ·rw [if_pos ha] at en;cases en
    intro v F1 H1 fx g1 o1 n1 k1
    unfold Own at o1
    exact ⟨a,o1.1,ha,fun z hz=>q z F1 H1 g1 hz⟩
   ·rw [if_neg ha] at en;cases en
 ·subst ev
  obtain ⟨t,rfl⟩:=r
  have hl:((Str.ofString (toString a)).length:Int)<=a.natAbs+2:=len_str_of_int a
  exact formatField_int_small (aDt ha) ⟨.str (Str.ofString (toString a)),H1,I1.tok _,⟨_,rfl⟩,hq _ (by omega)⟩
theorem aOf {g:aR} (h:SE X e g):SZ X (.FormattedValue e (-1) none pos) (aTa g):=by
 intro pins s σ H Q I q
 obtain ⟨ρ,F,fps,S,n,en,q⟩:=q
 unfold aTa at en
 refine FormattedValue_plain (thn (h pins s σ H (fun v H'=>∃a,v=.str a/\a.length<=100000/\Q (.str a) H') I ⟨ρ,F,fps,S,?_⟩) fun u s1 ⟨v,H1,I1,r,a,ev,ha,hq⟩=>?_)
 ·cases eg:g ρ with
  | exc _=>rw [eg] at en;cases en
  | bad=>rw [eg] at en;cases en
  | ok x =>
   rw [eg] at en
   obtain ⟨x,b⟩:=x
   cases x<;>try cases en
   rename_i a
   dsimp only at en
   by_cases ha:a.length<=100000
   ·rw [if_pos ha] at en;cases en
    intro v F1 H1 fx g1 o1 n1 k1
    unfold Own at o1
    exact ⟨a,o1.1,ha,q a F1 H1 g1 (Nat.le_refl _)⟩
   ·rw [if_neg ha] at en;cases en
 ·subst ev
  obtain ⟨t,rfl⟩:=r
  exact formatField_str (fun t' tk=>⟨.str a,H1,I1.tok _,⟨_,rfl⟩,hq⟩) (iG (by omega))
theorem kS:SZs X [] (fun _=>some 0):=by
 intro pins s σ H acc Q I q
 obtain ⟨ρ,F,fps,S,n,en,hn,q⟩:=q
 cases en
 exact ⟨iG hn,.str acc,H,I.tok _,⟨_,rfl⟩,q acc F H (Grow.refl S.same) (Nat.le_refl _)⟩
def fA (f g:mR):mR:=fun ρ=>(f ρ).bind fun a=>(g ρ).map fun b=>a+b
theorem bU {f g:mR} (h1:SZ X e f) (h2:SZs X es g) (he:evalEach (e::es) X.env=eval e X.env::evalEach es X.env:=by rfl):SZs X (e::es) (fA f g):=by
 intro pins s σ H acc Q I q
 obtain ⟨ρ,F,fps,S,n,en,hn,q⟩:=q
 unfold fA at en
 cases ef:f ρ with
 | none=>rw [ef] at en;cases en
 | some a =>
  rw [ef] at en
  cases eg:g ρ with
  | none=>rw [eg] at en;cases en
  | some b =>
   rw [eg] at en
   have en:some (a+b)=some n:=en
   cases en
   rw [he]
   refine thn (h1 pins s σ H (fun v H'=>∃z:Str,v=.str z/\z.length<=a/\∃F',Grow F H F' H') I ⟨ρ,F,fps,S,a,ef,fun z F' H' g1 hz=>⟨z,rfl,hz,F',g1⟩⟩) fun u s1 ⟨v,H1,I1,r,z,ev,hz,F1,g1⟩=>?_
   subst ev
   obtain ⟨t,rfl⟩:=r
   have hl:(acc++z).length=acc.length+z.length:=strLen_append _ _
   refine ⟨z,t,rfl,iG (by omega),h2 pins s1 σ H1 (acc++z) Q I1 ⟨ρ,F1,fps,S.grow g1,b,eg,by omega,fun y F' H' g2 hy=>q y F' H' (g1.trans g2) (by omega)⟩⟩
def zTop (f:mR):mR:=fun ρ=>(f ρ).bind fun n=>if n<=1000000 then some n else none
theorem kO {f:mR} (h:SZs X (v1::v2::es) f):SZ X (.JoinedStr (v1::v2::es) pos) (zTop f):=by
 intro pins s σ H Q I q
 obtain ⟨ρ,F,fps,S,n,en,q⟩:=q
 unfold zTop at en
 cases ef:f ρ with
 | none=>rw [ef] at en;cases en
 | some a =>
  rw [ef] at en
  dsimp only [Option.bind] at en
  by_cases ha:a<=1000000
  ·rw [if_pos ha] at en;cases en
   have e0:(Str.empty).length=0:=rfl
   refine PySem.wpAny_JoinedStr (h pins s σ H Str.empty Q I ⟨ρ,F,fps,S,n,ef,by rw [e0];omega,?_⟩)
   rw [e0,Nat.zero_add];exact q
  ·rw [if_neg ha] at en;cases en
def eX (c:Str) (f:mR):SemS:=fun ρ=>match f ρ with | some _=>.exc c ρ | none=>.bad
def bmV:Y1:=[.type "ValueError",.type "Exception",.type "BaseException",.type "object"]
theorem fN {c:Str} {C:Addr} {f:mR} {np cpos:Pos} (L:LkF X W) (hcalm:X.calm=true) (hC:qN X.K c C) (hx:PySem.W.excIn X.K C bmV "ValueError.__new__" = true) (hm:X.mg c=some (.ref C)) (ha:SZ X e f) (hg:Gl X c:=by rfl) (hd:(c == ("__debug__" : Str))=false:=by decide)
  (he:starEach [e] X.env=(false,eval e X.env)::starEach [] X.env:=by rfl) (hpl:(backTo cpos (starEach [e] X.env)).any (·.1)=false:=by rfl) :
  SS X W (.Raise (some (.Call (.Name c np) [e] [] cpos)) none pos) (eX c f):=by
 intro pins s σ H D I h
 obtain ⟨ρ,F,fps,S,h⟩:=h
 unfold eX at h
 cases ef:f ρ with
 | none=>rw [ef] at h;exact h.elim
 | some n =>
  rw [ef] at h
  have h:fC X.K F H fps.flatten ρ σ (W c) ρ:=h
  have O:∃bm N nm q bs hdct sn sub ab col dd k0 k1 k2 k3 k5 mN,X.base.get? C=some (excClassObj nm q C N bs bm hdct sn sub ab col dd k0 k1 k2 k3 k5 "ValueError.__new__")/\X.base.Ns N mN/\mN "__init__" = none/\OwnTail X.base bmV bm:=by
   have KX:=I.ok.mod.kin
   have q:=hx
   unfold PySem.W.excIn at q
   split at q
   ·rename_i dd cd sl ho
    split at q
    ·rename_i C' bm k0 k1 k2 k3 n k5 hm hs
     simp only [Bool.and_eq_true,beq_iff_eq,Bool.not_eq_true'] at q
     obtain ⟨⟨⟨⟨⟨rfl,rfl⟩,hdel⟩,ht⟩,hok⟩,hni⟩:=q
     obtain ⟨nm,bs,mro,ns,qn,hd,sn,sub,ab,col,del⟩:=cd
     dsimp only at hm hdel hok hni
     subst hm hdel
     have hsl:sl = #[k0,k1,k2,k3,some (.builtin "ValueError.__new__"),k5]:=by
      obtain ⟨l⟩:=sl
      simp only at hs
      rw [hs]
     subst hsl
     exact ⟨bm,ns,nm,qn,bs,hd,sn,sub,ab,col,dd,k0,k1,k2,k3,k5,_,KX _ _ ho,.of_isNs (PySem.W.isNs_of_in KX hok),PySem.W.nsMap_none_of_in KX hok hni,PySem.W.tail_of_in KX ht⟩
    ·cases q
   ·cases q
  obtain ⟨bm,Nn,nm,q,bs,hdct,sn,sub,ab,col,dd,k0,k1,k2,k3,k5,mN,o1,o2,o3,o4⟩:=O
  refine wpAny_Raise_call_subT (C:=C) (nm:=nm) (q:=q) (N:=Nn) (bs:=bs) (bm:=bm) (hdct:=hdct) (sn:=sn) (sub:=sub) (ab:=ab) (col:=col) (dd:=dd) (k0:=k0) (k1:=k1) (k2:=k2) (k3:=k3) (k5:=k5)
   PySem.F.excBase_ValueError (mN:=mN) (o4.hasType PySem.F.excBase_ValueError.hasBase) (I.ok.hd hcalm) hpl o3 (kM I hg hm ⟨rfl,?_⟩ hd)
  rw [he]
  show wpAny _ _ (evalArgs _ true ((false,eval e X.env)::backTo cpos (starEach [] X.env)) []) _ _ s
  exact Calls.evalArgs_plain (Calls.spliced_cons (thn (ha pins s σ H (fun v H'=>∃F',Grow F H F' H') I ⟨ρ,F,fps,S,n,ef,fun z F' H' g1 _=>⟨F',g1⟩⟩) fun u s1 ⟨v,H1,I1,r,F1,g1⟩=>Calls.spliced_nil ⟨rfl,by show 1<=sizeLine;decide,I1.bk _ _ o1,o2.keeps I1.bk,o4.keeps I1.bk,fun h' e' hx=>L.fresh pins σ H1 s1 h' e' C c _ I1 hC hx (h σ F1 H1 fps g1.evo (S.grow g1) (gG.refl _ _))⟩))
end
end VL
end
section
namespace VL
open PySem PySem.Spec PyProof.Rows L2
section
variable {X:Cx} {pins pins':Y8} {σ:L2.St} {H H':Hp} {s s':Shared} {W:XW}
end
section
variable {X:Cx} {W:XW} {pos hpos np:Pos}
end
end VL
end
section
namespace VL
open PySem PySem.Spec PyProof.Rows L2
section
variable {X:Cx} {W:XW} {e a b c:Expr} {es:List Expr} {st:Stmt} {pos:Pos}
def fits (i:Int):Bool:=decide (-(2 ^ 200)<i) && decide (i<2 ^ 200)
theorem aIz {i:Int} (h:fits i=true):i.natAbs<2 ^ 200:=by
 unfold fits at h
 rw [Bool.and_eq_true,decide_eq_true_iff,decide_eq_true_iff] at h
 have e:(2:Int) ^ 200=((2 ^ 200:Nat):Int):=by norm_cast
 rw [e] at h
 omega
theorem aAm {i:Int} (h:fits i=true):i.natAbs.log2<200:=by
 by_cases h0:i.natAbs=0
 ·rw [h0];decide
 ·exact (Nat.log2_lt h0).mpr (aIz h)
def aX8 (i j:Int):Prop:=0<j/\fits j=true
theorem aFo:OpR X (binaryOp .FloorDiv) (rI aX8 fun i j=>.int (i / j)):=opI fun i j _ _ _ _ _ hc q=>by
 have h1:(0:Int)<j:=hc.1
 exact floordiv_int (by omega) (by rw [Int.fdiv_eq_ediv_of_nonneg i (by omega)];exact q) (.inl (PyProof.noPylong_of_log2 (Nat.lt_trans (aAm hc.2) (by decide))))
abbrev kY:=kIc (fun _ j=>decide (0<j) && fits j) fun i j=>.int (i / j)
theorem mI {f g:aR} (ha:SE X a f) (hb:SE X b g):SE X (.BinOp a .FloorDiv b pos) (v2 kY f g):=vL aFo (aA9 (fun _ _=>rfl) fun i j h=>by
 rw [Bool.and_eq_true,decide_eq_true_iff] at h;exact h) ha hb
theorem Op2.or {K:FG} {k k1 k2:D×Bool->D×Bool->R (D×Bool)} {r1 r2:R2} (h1:Op2 K k1 r1) (h2:Op2 K k2 r2) (hk:∀x y,k x y=k1 x y\/k x y=k2 x y):Op2 K k (fun x y H Q=>r1 x y H Q\/r2 x y H Q):=by
 intro F0 H0 F H x y v u fx fy Q gr o1 n1 q1 o2 n2 q2 h
 rcases hk x y with e | e
 ·rw [e] at h;exact .inl (h1 F0 H0 F H x y v u fx fy Q gr o1 n1 q1 o2 n2 q2 h)
 ·rw [e] at h;exact .inr (h2 F0 H0 F H x y v u fx fy Q gr o1 n1 q1 o2 n2 q2 h)
def bB:D×Bool->D×Bool->R (D×Bool):=fun x y=>match x.1 with
 | .int _=>aV8 x y | .lst _ _=>aTi x y | .tup _=>aH1 x y | _=>.bad
theorem aHo (x y:D×Bool):bB x y=aV8 x y\/(bB x y=aTi x y\/bB x y=aH1 x y):=by
 obtain ⟨x,bx⟩:=x
 cases x<;>first | exact .inl rfl | exact .inr (.inl rfl) | exact .inr (.inr rfl)
theorem Op2.eqv {K:FG} {k k1 k2 k3:D×Bool->D×Bool->R (D×Bool)} {r1 r2 r3:R2} (h1:Op2 K k1 r1) (h2:Op2 K k2 r2) (h3:Op2 K k3 r3) (hk:∀x y,k x y=k1 x y\/(k x y=k2 x y\/k x y=k3 x y)):Op2 K k (fun x y H Q=>r1 x y H Q\/(r2 x y H Q\/r3 x y H Q)):=by
 intro F0 H0 F H x y v u fx fy Q gr o1 n1 q1 o2 n2 q2 h
 rcases hk x y with e | e | e
 ·rw [e] at h;exact .inl (h1 F0 H0 F H x y v u fx fy Q gr o1 n1 q1 o2 n2 q2 h)
 ·rw [e] at h;exact .inr (.inl (h2 F0 H0 F H x y v u fx fy Q gr o1 n1 q1 o2 n2 q2 h))
 ·rw [e] at h;exact .inr (.inr (h3 F0 H0 F H x y v u fx fy Q gr o1 n1 q1 o2 n2 q2 h))
theorem bN {f g:aR} (ha:SE X a f) (hb:SE X b g):SE X (.BinOp a .Add b pos) (v2 bB f g) :=
 vL (aS5.or (aKy.or aM4)) (Op2.eqv (uC fun _ _=>rfl) aOl aHn aHo) ha hb
def aQh (i j:Int):Prop:=fits i=true/\fits j=true
theorem intBits_le {i:Int} (h:fits i=true):Builtin.Int.intBits i<=2 ^ 20:=by
 unfold Builtin.Int.intBits
 have:=aAm h
 split<;>omega
theorem aKm:OpR X (binaryOp .Mult) (rI aQh fun i j=>.int (i * j)):=opI fun i j _ _ _ _ _ hc q=>mul_int q (.of_bits (intBits_le hc.1) (intBits_le hc.2))
abbrev aO5:=kIc (fun i j=>fits i && fits j) fun i j=>.int (i * j)
theorem aF9 {K:FG}:Op2 K aO5 (rI aQh fun i j=>.int (i * j)):=aA9 (fun _ _=>rfl) fun i j h=>by
 rw [Bool.and_eq_true] at h;exact h
def aPd:D×Bool->D×Bool->R (D×Bool):=fun x y=>match x.1,y.1 with
 | .lst true ds,.int k=>if D.bS ds && decide (k<1000000) && decide (-1000000<k) && decide (ds.length * k.toNat<=1000000) then .ok (.lst true (List.replicate k.toNat ds).flatten,true) else .bad
 | _,_=>.bad
theorem aJc {K:FG}:Op2 K aPd aWb:=by
 intro F0 H0 F H x y v u fx fy Q gr o1 n1 k1 o2 n2 k2 h
 obtain ⟨x,bx⟩:=x
 obtain ⟨y,by'⟩:=y
 cases x<;>try exact h.elim
 rename_i o ds
 cases o
 ·cases y<;>exact h.elim
 ·cases y<;>try exact h.elim
  rename_i k
  have h:(if (D.bS ds && decide (k<1000000) && decide (-1000000<k) && decide (ds.length * k.toNat<=1000000))=true then R.ok (D.lst true (List.replicate k.toNat ds).flatten,true) else R.bad).holds (EPost K F0 H0 Q):=h
  by_cases hc:(D.bS ds && decide (k<1000000) && decide (-1000000<k) && decide (ds.length * k.toNat<=1000000))=true
  ·rw [if_pos hc] at h
   simp only [Bool.and_eq_true,decide_eq_true_iff] at hc
   obtain ⟨a,xs,fq,e1,r1,q0,q1,_⟩:=Own.opened o1
   unfold Own at o2
   have:=aJ.dU ds hc.1.1.1 r1
   subst this
   refine ⟨a,k,xs,e1,o2.1,q1,by omega,by omega,?_,fun p hp=>EPost.aVa gr h hp (aJ.rep r1 _)⟩
   rw [<- aJ.length ds r1];exact iG hc.2
  ·rw [if_neg hc] at h;exact h.elim
def fL:D×Bool->D×Bool->R (D×Bool):=fun x y=>match x.1 with
 | .int _=>aO5 x y | .lst _ _=>aPd x y | _=>.bad
theorem eN {f g:aR} (ha:SE X a f) (hb:SE X b g):SE X (.BinOp a .Mult b pos) (v2 fL f g) :=
 vL (aKm.or aSv) (Op2.or aF9 aJc fun x y=>by
  obtain ⟨x,bx⟩:=x
  cases x<;>first | exact .inl rfl | exact .inr rfl) ha hb
theorem aGs {k:Nat} {f g:aR} (hr:Room k X.A) (ha:SE X a f) (hb:SE X b g):SE X (.Compare a [.Eq] [b] pos) (v2 (kEq false) f g):=aB9 (aF2 hr) aBx ha hb (iD _)
theorem oH {k:Nat} {f g:aR} (hr:Room k X.A) (ha:SE X a f) (hb:SE X b g):ST X (.Compare a [.Eq] [b] pos) (aN (v2 (kEq false) f g)):=kL (aF2 hr) aBx ha hb (iD _)
theorem lC {k:Nat} {f g:aR} (hr:Room k X.A) (ha:SE X a f) (hb:SE X b g):ST X (.Compare a [.NotEq] [b] pos) (aN (v2 (kEq true) f g)):=kL (aSq hr) aBx ha hb (iD _)
theorem aKh {f g:aR} (ha:SE X a f) (hb:SE X b g):SE X (.Compare a [.IsNot] [b] pos) (v2 (jQ true) f g):=aB9 aC5 aAp ha hb (iD _)
theorem aRe {f g:aR} (ha:SE X a f) (hb:SE X b g):ST X (.Compare a [.Is] [b] pos) (aN (v2 (jQ false) f g)):=kL aSh aOr ha hb (iD _)
theorem oD {f g:aR} (ha:SE X a f) (hb:SE X b g):ST X (.Compare a [.IsNot] [b] pos) (aN (v2 (jQ true) f g)):=kL aC5 aAp ha hb (iD _)
theorem aWx {f g:aR} (ha:SE X a f) (hb:SE X b g):SE X (.Compare a [.Gt] [b] pos) (v2 kGt f g):=aB9 aPw aQi ha hb (iD _)
theorem aAl {f g:aR} (ha:SE X a f) (hb:SE X b g):ST X (.Compare a [.Lt] [b] pos) (aN (v2 kLt f g)):=kL aVz aVo ha hb (iD _)
theorem aWz {f g:aR} (ha:SE X a f) (hb:SE X b g):ST X (.Compare a [.LtE] [b] pos) (aN (v2 kLe f g)):=kL aGt aWf ha hb (iD _)
theorem kX {f g:aR} (ha:SE X a f) (hb:SE X b g):ST X (.Compare a [.Gt] [b] pos) (aN (v2 kGt f g)):=kL aPw aQi ha hb (iD _)
theorem aOz {f g:aR} (ha:SE X a f) (hb:SE X b g):ST X (.Compare a [.GtE] [b] pos) (aN (v2 kGe f g)):=kL aXu aXh ha hb (iD _)
theorem fZ (i:Nat) {x:Str} {f:aR} {p ap cp pos':Pos} (he:SE X e f) (hN:X.N[i]?=some x:=by rfl) (hv:Vis X.env.scope x:=by first | exact Or.inl rfl | exact Or.inr (Or.inl rfl) | exact Or.inr (Or.inr rfl)) (hd:(x == ("__debug__" : Str))=false:=by decide)
  (hcd:(x == ("__classdict__" : Str))=false:=by decide) (hs:swapsWith (.Call (.Attribute (.Name x p) "append" ap) [e] [] cp) none pos'.line X.env=pure false:=by rfl)
  (hbase:attributeBase (.Name x p) "append" X.env (eval (.Name x p) X.env)=eval (.Name x p) X.env:=by rfl)
  (hfew:((backTo cp (starEach [e] X.env)).all (fun x=>!x.1) && (backToKw cp (keywordEach [] X.env)).all (fun x=>x.1.isSome)
   && decide (([e]:List Expr).length+([]:List Keyword).length+(if ([]:List Keyword).isEmpty then 0 else 1)<30))=true:=by rfl)
  (hline:(ap.endLine == cp.line)=true:=by rfl) (hst:starEach [e] X.env=(false,eval e X.env)::starEach [] X.env:=by rfl) (hplain:(backTo cp (starEach [] X.env)).any (·.1)=false:=by rfl) :
  SS X W (.Expr (.Call (.Attribute (.Name x p) "append" ap) [e] [] cp) pos') (cR i f) :=
 (qY (aP3 PySem.F.plainAttrs_list PySem.F.slot_list_append PySem.F.type_list_append pJ (iX hN hv hd hcd) (iN he pV hst) hbase hfew hline hst hplain) hs).imp fun _ _ _ h=>aDo h
theorem aKk {elt iter tg:Expr} {ifs:List Expr} {scope:Scope} {f:lN} {N:List Str} {nt:Nat} {js:T0} {set:D->Env->Option Env} {g:TG} {tc:dC} {te:aR}
  (hc:X.calm=true) (hi:SI X tg iter f) (ht:Tgt X.K set g) (hkind:scope.kind=.function) (hcell:∀y∈scope.names,y.2 ≠ .cell) (hnames:∀y∈scope.names,y.2=.local->scope.names.lookup y.1=some .local)
  (hfr:∀y∈scope.names,y.2=.free->X.env.kindOf y.1=some .cell\/X.env.kindOf y.1=some .free)
  (hlen:nt+js.length=N.length)
  (hjs:∀(k:Nat) (j:Nat),js[k]?=some j->∃x,N[nt+k]?=some x/\X.N[j]?=some x/\scope.names.lookup x=some .free)
  (hb:∀cl s3 H3 fp,PG (blk X scope cl N s3 H3 fp) tg g/\PTs (blk X scope cl N s3 H3 fp) ifs (tvT X.K tc)/\SE (blk X scope cl N s3 H3 fp) elt te)
  (hs:∀x,foldedSetIterable iter X.env x=pure x:=by intro _;rfl):SE X (.ListComp elt [⟨tg,iter,ifs,0⟩] scope pos) (dN f nt js set tc te) :=
 (aK7 hc hi hkind hcell hnames hfr hlen hjs hb hs).imp fun _ _ _ h=>aDf ht h
def eW:dC:=fun _=>.ok true
theorem uN {Y:Cx}:PTs Y [] (tvT Y.K eW):=fun pins s σ H Q I h=>aNb pins s σ H Q I (by
 obtain ⟨ρ,F,fps,S,h⟩:=h
 exact h F H (Grow.refl S.same))
theorem bA4 {Y:Cx} {c:Expr} {t:dC} (h:ST Y c t):PTs Y [c] (tvT Y.K t):=aK5 h
theorem fV {f:aR} {p:Pos} (hm:X.mg "len" = none) (ha:SE X a f) (hg:Gl X "len" :=by rfl) (hs:starEach [a] X.env=(false,eval a X.env)::starEach [] X.env:=by rfl):SE X (.Call (.Name "len" p) [a] [] pos) (vCB dZ (aA f aE)) :=
 zY xA aJ2 hm PySem.boot_len (bZ ha aH hs) hg (by decide) (by decide) hs
theorem aSf {f:aR} {p:Pos} (hc:X.calm=true) (hm:X.mg "sum" = none) (ha:SE X a f) (hg:Gl X "sum" :=by rfl) (hs:starEach [a] X.env=(false,eval a X.env)::starEach [] X.env:=by rfl) (hv:bootBuiltins "sum" = some (.builtin "sum"):=by decide +kernel):SE X (.Call (.Name "sum" p) [a] [] pos) (vCB aTs (aA f aE)) :=
 zY (aD5 hc) aNr hm hv (bZ ha aH hs) hg (by decide) (by decide) hs
theorem aTf {f:aR} {p:Pos} (hc:X.calm=true) (hm:X.mg "min" = none) (ha:SE X a f) (hg:Gl X "min" :=by rfl) (hs:starEach [a] X.env=(false,eval a X.env)::starEach [] X.env:=by rfl) (hv:bootBuiltins "min" = some (.builtin "min"):=by decide +kernel):SE X (.Call (.Name "min" p) [a] [] pos) (vCB aGc (aA f aE)) :=
 zY (aEf hc) aJ1 hm hv (bZ ha aH hs) hg (by decide) (by decide) hs
theorem aCn {f g:aR} {p:Pos} (hc:X.calm=true) (hm:X.mg "max" = none) (ha:SE X a f) (hb:SE X b g) (hg:Gl X "max" :=by rfl) (hs:starEach [a,b] X.env=(false,eval a X.env)::starEach [b] X.env:=by rfl) (hs2:starEach [b] X.env=(false,eval b X.env)::starEach [] X.env:=by rfl) (hv:bootBuiltins "max" = some (.builtin "max"):=by decide +kernel)
  (hpl:(backTo pos (starEach [b] X.env)).any (·.1)=false:=by rfl):SE X (.Call (.Name "max" p) [a,b] [] pos) (vCB (k2i fun i j=>if j > i then j else i) (aA f (aA g aE))) :=
 zY (aEv hc) aUb hm hv (bZ ha (bZ hb aH hs2) hs) hg (by decide) (by decide) hs hpl
def kQ:List D->Option (List Bool)
 | []=>some []
 | .bl i::ds=>(kQ ds).map (i::·)
 | _=>none
theorem qF {K:FG} {F H:Hp}:∀(ds:List D) {ns:List Bool} {xs:List V} {fp:Y2},kQ ds=some ns->aJ K F H ds xs fp->xs=ns.map V.bl
 | [],ns,xs,fp,e,o=>by unfold kQ at e;cases e;unfold aJ at o;exact o.1
 | d::ds,ns,xs,fp,e,o=>by
  cases d<;>try (unfold kQ at e;cases e;done)
  rename_i i
  unfold kQ at e
  cases q:kQ ds with
  | none=>rw [q] at e;cases e
  | some ms =>
   rw [q] at e
   have e:some (i::ms)=some ns:=e
   cases e
   unfold aJ at o
   obtain ⟨v,r,f1,f2,e1,o1,o2,_⟩:=o
   unfold Own at o1
   rw [e1,o1.1,qF ds q o2];rfl
theorem _root_.L2.PI.or {tg it:Expr} {t t':TI} (h:PI X tg it t) (h':PI X tg it t'):PI X tg it (fun σ H R=>t σ H R\/t' σ H R):=by
 intro pins s σ H R I q
 rcases q with q | q
 ·exact h pins s σ H R I q
 ·exact h' pins s σ H R I q
theorem jT {tg:Expr} {f:aR} (h:SE X e f):SI X tg e (jH f):=((aOd h).or (aRk h)).imp fun _ _ _ h=>aRi h
theorem lZ {f:aR} {p tp:Pos} {elts:List Expr} {k:Nat} (hm:X.mg "enumerate" = none) (ha:SE X a f) (hg:Gl X "enumerate" :=by rfl) (hs:starEach [a] X.env=[(false,eval a X.env)]:=by rfl) (hs1:starEach [a] X.env=(false,eval a X.env)::starEach [] X.env:=by rfl):SI X (.Tuple elts k tp) (.Call (.Name "enumerate" p) [a] [] pos) (kG f) :=
 (aLs hg hm (iN ha pV hs1) hs).imp fun _ _ _ h=>aU4 h
end
end VL
end
section
namespace VL
open PySem PySem.Spec PyProof.Rows L2
structure FnAt (K:FG) (x:Str) (st:Stmt):Prop where
 ex:∃(f:Addr) (fd:FuncData),PySem.W.nsIn K mainGlobals x=some (some (.ref f))/\Fun K x x st f fd
theorem bF {K:FG} {x:Str} {st:Stmt} {f:Addr} {oc:Value} {od an:Option Addr} {osl:Array (Option Value)} {kV doc pm cdv ct:Value} (a:PySem.W.nsIn K mainGlobals x=some (some (.ref f))) (l:K.lookup f=some ⟨oc,od,.func (PySem.W.fnOf x x (eK st) (cL st) (aG st) .none kV doc pm an cdv ct),osl⟩)
  (c:PySem.W.codeIn K cdv x=true) (k:PySem.W.keepIn K (.ref f)=true):FnAt K x st:=⟨f,_,a,aUe l c k⟩
section
variable {P:Program} {w:World} {K:FG} {mg:Y6} {base:Heap}
theorem cS {x:Str} {st:Stmt} {N ps:List Str} {k n np:Nat} {body:SemS} (F:FnAt K x st) (kb:K.In base) (nb:base.Ns mainGlobals mg) (S:FnScope N ps (aG st)) (hN:N.length=n) (hnp:ps.length=np) (hk:np<=n)
  (hb:∀(kV doc pm:Value) (an:Option Addr) (cdv ct:Value) (us:Y1),us.length=ps.length->bindArgs (PySem.W.fnOf x x (eK st) (cL st) (aG st) .none kV doc pm an cdv ct) ⟨us,[]⟩=pure (ps.zip us))
  (hbody:∀(f:Addr) (cdv:Value) (A:Around) (outer:List PySem.Env) (s:Shared) (H:Hp) (E:XK),Room k (A.deeper (envOfC x (aG st) s.heap.objs.size f cdv)) ->
   SSs (gE (CX1 P w) P w K mg base N x (aG st) f cdv A outer s H E) (wOf K E) (cL st) body):Kn P w K mg base (k+1) x np (fnOf n body):=by
 obtain ⟨f,fd,hf,F⟩:=F.ex
 refine ⟨f,fd,ps,?_,PySem.W.mg_of kb nb hf,F.kp,F.binds hb⟩
 obtain ⟨oc,od,kV,doc,pm,an,cdv,ct,osl,rfl,lk,hcd⟩:=F.ex
 refine aI4 lk hcd S (fun vs H Q E h=>h.1.trans hnp.symm) fun A outer s H vs Q E hr hsp=>?_
 exact ⟨_,hbody f cdv A outer s H E hr,zK hN hk hsp⟩
theorem Kn.mono {j k:Nat} {x:Str} {n:Nat} {fn:Fn} (h:Kn P w K mg base j x n fn) (hk:j<=k):Kn P w K mg base k x n fn:=by
 obtain ⟨f,fd,ps,F,r⟩:=h.ex
 exact ⟨f,fd,ps,F.mono hk,r⟩
end
def xP (scope sc:Scope) (N XN:List Str) (nt:Nat) (js:T0):Bool :=
 (scope.kind == .function) && (scope.names.all fun y=>y.2 != .cell) && (scope.names.all fun y=>y.2 != .local || scope.names.lookup y.1 == some .local) &&
 (scope.names.all fun y=>y.2 != .free || (sc.names.lookup y.1 == some .cell || sc.names.lookup y.1 == some .free)) && (nt+js.length == N.length) &&
 (js.zipIdx.all fun p=>match N[nt+p.2]?,XN[p.1]? with | some x,some y=>x == y && scope.names.lookup x == some .free | _,_=>false)
section
variable {X:Cx} {pos:Pos}
theorem kC {elt iter tg:Expr} {ifs:List Expr} {scope:Scope} {f:lN} (sc:Scope) (XN N:List Str) (nt:Nat) (js:T0) {set:D->Env->Option Env} {g:TG} {tc:dC} {te:aR}
  (hc:X.calm=true) (hsc:X.env.scope=sc) (hXN:X.N=XN) (hi:SI X tg iter f) (ht:Tgt X.K set g) (hok:xP scope sc N XN nt js=true)
  (hb:∀cl s3 H3 fp,PG (blk X scope cl N s3 H3 fp) tg g/\PTs (blk X scope cl N s3 H3 fp) ifs (tvT X.K tc)/\SE (blk X scope cl N s3 H3 fp) elt te)
  (hs:∀x,foldedSetIterable iter X.env x=pure x:=by intro _;rfl):SE X (.ListComp elt [⟨tg,iter,ifs,0⟩] scope pos) (dN f nt js set tc te):=by
 subst hsc;subst hXN
 unfold xP at hok
 simp only [Bool.and_eq_true,List.all_eq_true,Bool.or_eq_true,bne_iff_ne,beq_iff_eq,ne_eq] at hok
 obtain ⟨⟨⟨⟨⟨h1,h2⟩,h3⟩,h4⟩,h5⟩,h6⟩:=hok
 refine aKk hc hi ht h1 h2 (fun y hy e=>(h3 y hy).resolve_left fun z=>z e) (fun y hy e=>(h4 y hy).resolve_left fun z=>z e) h5 (fun k j e=>?_) hb hs
 have hm:(j,k)∈js.zipIdx:=by
  rw [List.mem_iff_getElem?]
  exact ⟨k,by rw [List.getElem?_zipIdx,e];simp⟩
 have:=h6 (j,k) hm
 dsimp only at this
 split at this
 ·rename_i x y e1 e2
  rw [Bool.and_eq_true,beq_iff_eq,beq_iff_eq] at this
  exact ⟨x,e1,by rw [e2,this.1],this.2⟩
 ·cases this
theorem hO (i:Nat) {y:Str} {py spos:Pos} {W:XW} {elt iter tg:Expr} {ifs:List Expr} {scope:Scope} {f:lN} (nd:X.N.Nodup) (sc:Scope) (XN N:List Str) (nt:Nat) (js:T0) {set:D->Env->Option Env} {g:TG} {tc:dC} {te:aR}
  (hc:X.calm=true) (hsc:X.env.scope=sc) (hXN:X.N=XN) (hi:SI X tg iter f) (ht:Tgt X.K set g) (hok:xP scope sc N XN nt js=true)
  (hb:∀cl s3 H3 fp,PG (blk X scope cl N s3 H3 fp) tg g/\PTs (blk X scope cl N s3 H3 fp) ifs (tvT X.K tc)/\SE (blk X scope cl N s3 H3 fp) elt te)
  (hi0:X.N[i]?=some y:=by rfl) (hx:X.env.scope.names.lookup y=some .local:=by rfl) (hsw:swapsWith (.ListComp elt [⟨tg,iter,ifs,0⟩] scope pos) (some (.Name y py)) spos.line X.env=pure true:=by rfl)
  (hs:∀x,foldedSetIterable iter X.env x=pure x:=by intro _;rfl):SS X W (.Assign [.Name y py] (.ListComp elt [⟨tg,iter,ifs,0⟩] scope pos) spos) (aX i (xOf (dN f nt js set tc te))):=by
 subst hsc;subst hXN
 unfold xP at hok
 simp only [Bool.and_eq_true,List.all_eq_true,Bool.or_eq_true,bne_iff_ne,beq_iff_eq,ne_eq] at hok
 obtain ⟨⟨⟨⟨⟨h1,h2⟩,h3⟩,h4⟩,h5⟩,h6⟩:=hok
 refine (aBo nd hi0 hx hsw hc hi h1 h2 (fun y hy e=>(h3 y hy).resolve_left fun z=>z e) (fun y hy e=>(h4 y hy).resolve_left fun z=>z e) h5 (fun k j e=>?_) hb hs).imp fun _ _ _ h=>aDf ht (aH9 (aIe h))
 have hm:(j,k)∈js.zipIdx:=by
  rw [List.mem_iff_getElem?]
  exact ⟨k,by rw [List.getElem?_zipIdx,e];simp⟩
 have:=h6 (j,k) hm
 dsimp only at this
 split at this
 ·rename_i x y e1 e2
  rw [Bool.and_eq_true,beq_iff_eq,beq_iff_eq] at this
  exact ⟨x,e1,by rw [e2,this.1],this.2⟩
 ·cases this
end
end VL
end
section
namespace VL
open PySem PySem.Spec PyProof.Rows L2
structure CallV (X:Cx) (a:Addr) (n:Nat) (fn:Fn):Prop where
 fnat:∀(pins:Y8) (σ:L2.St) (H:Hp) (s:Shared),Inv X pins σ H s->PySem.W.FnAt a s.heap
 run:∀(pins:Y8) (σ:L2.St) (H:Hp) (s:Shared) (us:Y1) (vs:List V) (Q:VK),Inv X pins σ H s->Vals vs us->spV X.K n fn vs H Q E0 ->
  wpAny (model X.prog X.w) X.A (call (.ref a) us) (EP X pins σ Q) X.xe s
def aG8 (L:List (Addr×Fn)) (K:FG) (n i:Nat) (t:TA):TE:=fun σ H Q=>∃a fn,σ[i]?=some (some (.ref a))/\L.lookup a=some fn/\aAe (spV K n fn) [] E0 t σ H Q
section
variable {X:Cx} {L:List (Addr×Fn)} {n i:Nat} {x:Str} {p pos:Pos} {e:Expr} {es:List Expr} {t:TA}
theorem aFv (hL:∀a fn,L.lookup a=some fn->CallV X a n fn) (ha:PA X (e::es) t) (hN:X.N[i]?=some x) (hv:Vis X.env.scope x) (hd:(x == ("__debug__" : Str))=false) (hcd:(x == ("__classdict__" : Str))=false)
  (he:starEach (e::es) X.env=(false,eval e X.env)::starEach es X.env) (hpl:(backTo pos (starEach es X.env)).any (·.1)=false):PE X (.Call (.Name x p) (e::es) [] pos) (aG8 L X.K n i t):=by
 intro pins s σ H Q I h
 obtain ⟨a,fn,ea,el,h⟩:=h
 have C:=hL a fn el
 refine wpAny_Call_Name_kw (wpAny_mono (iX (pos:=p) hN hv hd hcd pins s σ H (fun v H'=>v=.ref a/\H'=H) I ⟨_,ea,rfl,rfl⟩) (fun u s1 hq=>?_) fun _ _ z=>z)
 obtain ⟨v,H',I1,r1,e1,e2⟩:=hq
 subst e1;subst e2
 obtain rfl:u=Value.ref a:=r1
 refine PySem.W.callWith_F (C.fnat _ _ _ _ I1) (thn (ha pos pins s1 σ _ _ I1 h) fun us s2 ⟨vs,H1,I2,r,q⟩=>⟨C.fnat _ _ _ _ I2,?_⟩) he hpl
 have q:spV X.K n fn (vs ++ []) H1 Q E0:=q
 rw [List.append_nil] at q
 exact C.run pins σ H1 s2 us vs Q I2 r q
def iV (L:List (Addr×Fn)) (i:Nat) (g:cH):aR:=fun ρ=>match getD ρ i with
 | some (.fn a)=>(match L.lookup a with | some fn=>aO fn g ρ | none=>.bad)
 | _=>.bad
theorem aGm {K:FG} {σ:L2.St} {H:Hp} {Q:VK} {g:cH} (hl:lA n g) (h:tv K (iV L i g) σ H Q):aG8 L K n i (tvA K g) σ H Q:=by
 obtain ⟨ρ,F,fps,S,h⟩:=h
 unfold iV at h
 split at h
 ·rename_i a ea
  split at h
  ·rename_i fn el
   have ev:σ[i]?=some (some (.ref a)):=by
    unfold getD at ea
    cases q:ρ[i]? with
    | none=>rw [q] at ea;cases ea
    | some sl =>
     rw [q] at ea
     have ea:sl.d?=some (.fn a):=ea
     obtain ⟨v,fp,h1,h2,h3⟩:=S.at_ i sl _ q ea
     unfold Own at h3
     rw [h1,h3.1]
   exact ⟨a,fn,ev,el,wL hl ⟨ρ,F,fps,S,h⟩⟩
  ·exact h.elim
 ·exact h.elim
theorem aIn {g:cH} (hL:∀a fn,L.lookup a=some fn->CallV X a n fn) (ha:SA X (e::es) g) (hl:lA n g) (hN:X.N[i]?=some x:=by rfl) (hv:Vis X.env.scope x:=by first | exact Or.inl rfl | exact Or.inr (Or.inl rfl) | exact Or.inr (Or.inr rfl)) (hd:(x == ("__debug__" : Str))=false:=by decide) (hcd:(x == ("__classdict__" : Str))=false:=by decide)
  (he:starEach (e::es) X.env=(false,eval e X.env)::starEach es X.env:=by rfl) (hpl:(backTo pos (starEach es X.env)).any (·.1)=false:=by rfl):SE X (.Call (.Name x p) (e::es) [] pos) (iV L i g) :=
 (aFv hL ha hN hv hd hcd he hpl).imp fun _ _ _ h=>aGm hl h
end
structure CloScope (p:Str) (fs:List Str) (sc:Scope):Prop where
 kind:sc.kind=.function
 co:sc.isCoroutine=false
 gen:sc.isGenerator=false
 nd:(p::fs).Nodup
 par:sc.names.lookup p=some .local
 fre:∀x,sc.names.lookup x=some .free->x∈fs
 nocell:∀y∈sc.names,y.2 ≠ .cell
 isf:∀x∈fs,sc.names.lookup x=some .free
structure CloAt (cl:List (Str×Addr)) (fs:List Str) (cs:List V) (fr:Y2) (H:Hp) (h:Heap):Prop where
 len:cs.length=fs.length
 key:∀x c,cl.lookup x=some c->x∈fs
 inj:∀x y c,cl.lookup x=some c->cl.lookup y=some c->x=y
 at_:∀(i:Nat) (x:Str) (v:V),fs[i]?=some x->cs[i]?=some v->∃c u,cl.lookup x=some c/\RelV v u/\h.IsCell c (some u)/\H c=none/\c ∉ fr
def cxX (CX:CXT) (P:Program) (w:World) (K:FG) (mg:Y6) (base:Heap) (N:List Str) (qual:Str) (scope:Scope) (f:Addr) (cd:Value) (cl:List (Str×Addr)) (A:Around) (outer:List PySem.Env) (s:Shared) (H:Hp) (E:XK):Cx where
 prog:=P
 w:=w
 K:=K
 mg:=mg
 base:=base
 A:=A.deeper (PySem.W.envX qual scope s.heap.objs.size f cd cl)
 N:=N
 s₀:=s
 H₀:=H
 env:=PySem.W.envX qual scope s.heap.objs.size f cd cl
 outer:=outer
 stack:=PySem.W.envX qual scope s.heap.objs.size f cd cl::outer
 ex:=[]
 calm:=true
 fn:=fun _=>false
 pn:=[]
 xe:=fun e s'=>wpAny (model P w) (A.deeper (PySem.W.envX qual scope s.heap.objs.size f cd cl)) (leaving (PySem.W.envX qual scope s.heap.objs.size f cd cl) e) (fun _ s''=>CX outer H s E e s'') (fun e' s''=>CX outer H s E e' s'') s'
section
variable {CX:CXT} {P:Program} {w:World} {K:FG} {mg:Y6} {base:Heap} {name qual p:Str} {fs:List Str} {scope:Scope} {f:Addr} {cd:Value} {cl:List (Str×Addr)} {A:Around} {outer:List PySem.Env} {s:Shared} {H:Hp} {E:XK} {u:Value} {v:V} {cs:List V}
theorem aLp {h1:Heap} {tk:Tok} (S:CloScope p fs scope) (hd:A.handled=none) (e0:Env0 P w K mg base A outer s H) (r:RelV v u) {fr:Y2} (C:CloAt cl fs cs fr H s.heap)
  (hns:h1.Ns s.heap.objs.size (fun x=>[(p,u)].reverse.lookup x)) (hk:∀b o,s.heap.get? b=some o->h1.get? b=some o) :
  Inv (cxX CX P w K mg base (p::fs) qual scope f cd cl A outer s H E) [] (start (p::fs) (v::cs)) H { s with heap:=h1,toks:=tk }:=by
 have noA:∀b:Addr,b ∉ (cxX CX P w K mg base (p::fs) qual scope f cd cl A outer s H E).ex:=fun b z=>absurd (show b∈([]:Y2) from z) (by simp)
 have fine:∀x c,cl.lookup x=some c->∃u,s.heap.IsCell c (some u)/\H c=none:=fun x c e=>by
  obtain ⟨i,hi⟩:=List.getElem?_of_mem (C.key x c e)
  have hl:=C.len
  have hi':i<cs.length:=by
   rw [hl]
   by_cases z:i<fs.length
   ·exact z
   ·rw [List.getElem?_eq_none (by omega)] at hi;cases hi
  obtain ⟨c',u,e1,e2,e3,e4,_⟩:=C.at_ i x cs[i] hi (List.getElem?_eq_getElem hi')
  rw [e] at e1;cases e1
  exact ⟨u,e3,e4⟩
 have keepC:∀c w,s.heap.IsCell c w->h1.IsCell c w:=fun c w ⟨o,h2,h3⟩=>⟨o,hk _ _ h2,h3⟩
 refine ⟨⟨e0.mod,S.kind,rfl,rfl,Nat.le_refl _,fun y z c h1 h2=>C.inj y z c h1 h2,fun y hy=>?_,fun y c z _=>Bool.noConfusion (show false=true from z),fun _=>hd,Around.frames_deeper e0.frames,.inr ⟨rfl,rfl⟩,fun b z=>absurd z (noA b),e0.bs,e0.bsz,fun b _ _=>noA b,fun b z=>absurd z (noA b),e0.funs,e0.frf⟩,
  rfl,e0.bare,Un.kept hk,⟨_,hns,fun i y v' h1 h2 h3=>?_⟩,fun y c h=>?_,e0.hok.fresh (Nat.le_refl _),fun y c h=>(by obtain ⟨_,_,z2⟩:=fine y c h;exact z2),fun p hp=>absurd (show p∈([]:Y8) from hp) (by simp),e0.hok.kept hk,?_⟩
 ·have hy:scope.names.lookup y=some .cell\/scope.names.lookup y=some .free:=hy
  rcases hy with hy | hy
  ·exact absurd rfl (S.nocell _ (PySem.mem_of_lookup hy))
  ·obtain ⟨i,hi⟩:=List.getElem?_of_mem (S.fre y hy)
   have hi':i<cs.length:=by
    rw [C.len]
    by_cases z:i<fs.length
    ·exact z
    ·rw [List.getElem?_eq_none (by omega)] at hi;cases hi
   obtain ⟨c,u,e1,_⟩:=C.at_ i y cs[i] hi (List.getElem?_eq_getElem hi')
   exact ⟨c,e1⟩
 ·have hlen:=C.len
  have hst:start (p::fs) (v::cs)=(v::cs).map some:=by unfold L2.start;simp [hlen]
  rw [hst] at h2
  have h1:(p::fs)[i]?=some y:=h1
  cases i with
  | zero =>
   have h1:p=y:=by simpa using h1
   have h2:v=v':=by simpa using h2
   subst h1;subst h2
   exact ⟨u,r,.inl ⟨S.par,by simp⟩⟩
  | succ i =>
   have h1:fs[i]?=some y:=by simpa using h1
   have h2:cs[i]?=some v':=by simpa using h2
   obtain ⟨c,u',e1,e2,e3,_⟩:=C.at_ i y v' h1 h2
   exact ⟨u',e2,.inr ⟨.inr (S.isf y (List.mem_of_getElem? h1)),c,e1,keepC _ _ e3⟩⟩
 ·obtain ⟨u',e3,_⟩:=fine y c h
  exact ⟨_,keepC _ _ e3⟩
 ·unfold L2.start
  show _=(p::fs).length
  have:=C.len
  simp [this]
end
end VL
end
section
namespace VL
open PySem PySem.Spec PyProof.Rows L2
def fW (lR:List D) (fn:Fn):Fn:=fun ds=>(fn (ds++lR)).bind fun y=>.ok (y.1,y.2.take ds.length)
theorem aEe {α:Type} (n:Nat) (ls:List (List α)):((ls.take n).flatten).Sublist ls.flatten:=by
 have e:ls.flatten=(ls.take n).flatten++(ls.drop n).flatten:=by rw [<- List.flatten_append,List.take_append_drop]
 rw [e];exact List.sublist_append_left _ _
theorem aMj {K:FG} {n:Nat} {fn:Fn} {lR:List D} {cs vs:List V} {H:Hp} {Q:VK} {E:XK} (hc:lR.map fH=cs.map some) (h:spV K n (fW lR fn) vs H Q E):spV K (n+cs.length) fn (vs++cs) H Q E:=by
 obtain ⟨hl,F,ds,fps,hs,o,nd,zo,h⟩:=h
 have hlc:lR.length=cs.length:=by have:=congrArg List.length hc;simpa using this
 have hfl:(fps++List.replicate lR.length ([]:Y2)).flatten=fps.flatten:=by simp
 have hsc:∀(F H:Hp) (i:Nat) (d:D),lR[i]?=some d->∃v,cs[i]?=some v/\Own K F H d v []:=fun F H i d e=>by
  have e1:(lR.map fH)[i]?=some (fH d):=by rw [List.getElem?_map,e];rfl
  rw [hc,List.getElem?_map] at e1
  cases q:cs[i]? with
  | none=>rw [q] at e1;cases e1
  | some v =>
   rw [q] at e1
   have e1:some (some v)=some (fH d):=e1
   exact ⟨v,rfl,gI (Option.some.inj e1).symm⟩
 refine ⟨by rw [List.length_append,hl],F,ds++lR,fps++List.replicate lR.length [],hs,⟨?_,?_,fun i d e=>?_⟩,by rw [hfl];exact nd,by rw [hfl];exact zo,?_⟩
 ·rw [List.length_append,List.length_append,o.1,hlc]
 ·rw [List.length_append,List.length_append,o.2.1,List.length_replicate]
 ·by_cases hi:i<ds.length
  ·rw [List.getElem?_append_left hi] at e
   obtain ⟨v,fp,q1,q2,q3⟩:=o.2.2 i d e
   exact ⟨v,fp,by rw [List.getElem?_append_left (by rw [<- o.1];exact hi)];exact q1,by rw [List.getElem?_append_left (by rw [o.2.1];exact hi)];exact q2,q3⟩
  ·rw [List.getElem?_append_right (by omega)] at e
   obtain ⟨v,q1,q2⟩:=hsc F H _ d e
   have hi2:=(List.getElem?_eq_some_iff.mp e).1
   refine ⟨v,[],by rw [List.getElem?_append_right (by rw [<- o.1];omega),<- o.1];exact q1,?_,q2⟩
   rw [List.getElem?_append_right (by rw [o.2.1];omega),o.2.1,List.getElem?_replicate,if_pos hi2]
 ·rw [hfl]
  unfold fW at h
  cases ef:fn (ds++lR) with
  | bad=>rw [ef] at h;exact h.elim
  | exc c=>rw [ef] at h;exact h
  | ok y =>
   rw [ef] at h
   have h:aPi K F H vs fps.flatten Q (y.1,y.2.take ds.length):=h
   intro r F' H' fps' fr ev hs' o' nd' or nr kr
   have hlen:y.2.length=ds.length+cs.length:=by rw [o'.1,List.length_append,o.1]
   have sub:=aEe ds.length fps'
   refine h r F' H' (fps'.take ds.length) fr ⟨ev.fr,ev.keep,ev.dom,ev.new,fun b hb=>ev.zone b (sub.subset hb)⟩ hs' ⟨?_,?_,fun i d e=>?_⟩ (sub.nodup nd') or nr fun b hb=>⟨fun z=>(kr b hb).1 (sub.subset z),(kr b hb).2⟩
   ·show (y.2.take ds.length).length=_
    rw [List.length_take,hlen,<- o.1];omega
   ·show _=(y.2.take ds.length).length
    rw [List.length_take,List.length_take,o'.2.1]
   ·have e:(y.2.take ds.length)[i]?=some d:=e
    have hi:i<ds.length:=by
     have:=(List.getElem?_eq_some_iff.mp e).1
     rw [List.length_take] at this;omega
    rw [List.getElem?_take_of_lt hi] at e
    obtain ⟨v,fp,q1,q2,q3⟩:=o'.2.2 i d e
    exact ⟨v,fp,by rw [List.getElem?_append_left (by rw [<- o.1];exact hi)] at q1;exact q1,by rw [List.getElem?_take_of_lt hi];exact q2,q3⟩
section
variable {P:Program} {w:World} {K:FG} {mg:Y6} {base:Heap} {name qual p:Str} {fs:List Str} {params:Arguments} {body:List Stmt} {scope:Scope} {k n:Nat} {sem:SemS}
structure CloTx (P:Program) (w:World) (K:FG) (mg:Y6) (base:Heap) (k:Nat) (name qual p:Str) (fs:List Str) (params:Arguments) (body:List Stmt) (scope:Scope) (fn:Fn):Prop where
 sc:CloScope p fs scope
 bind:∀(cl:List (Str×Addr)) (doc pm cdv ctv u:Value),bindArgs (PySem.W.fnX name qual params body scope cl .none .none doc pm none cdv ctv) ⟨[u],[]⟩=pure [(p,u)]
 sem:∃n sem,fn=fnOf n sem/\(p::fs).length=n/\∀(f:Addr) (cdv:Value) (cl:List (Str×Addr)) (A:Around) (outer:List PySem.Env) (s:Shared) (H:Hp) (E:XK),Room k (A.deeper (PySem.W.envX qual scope s.heap.objs.size f cdv cl)) ->
   SSs (cxX (CX1 P w) P w K mg base (p::fs) qual scope f cdv cl A outer s H E) (wOf K E) body sem
theorem aM8 {fn:Fn} (T:CloTx P w K mg base k name qual p fs params body scope fn) {A:Around} {outer:List PySem.Env} {s:Shared} {H:Hp} {f:Addr} {fo:Obj} {cl:List (Str×Addr)} {doc pm cdv ctv u:Value} {v:V} {cs:List V} {fr:Y2} {Q:VK} {E:XK}
  (hr:Room (k+1) A) (e0:Env0 P w K mg base A outer s H) (ho:s.heap.get? f=some fo) (hd:fo.data=.func (PySem.W.fnX name qual params body scope cl .none .none doc pm none cdv ctv)) (hcd:s.heap.CodeRec cdv qual) (C:CloAt cl fs cs fr H s.heap) (r:RelV v u)
  (hsp:spV K (1+cs.length) fn (v::cs) H Q E):codeAny (model P w) A (.call (.ref f) ⟨[u],[]⟩) (CR (CX1 P w) outer P w H s Q E) s:=by
 obtain ⟨n,sem,rfl,hN,hbody⟩:=T.sem
 have S:=T.sc
 have lim:s.heap.NoLimit:=e0.mod.nolimit.keeps fun b o e=>(e0.bs b o e).1
 refine codeAny_call_def hr.depth ho hd lim hcd rfl (.of_eq (T.bind cl doc pm cdv ctv u)) S.nocell (fun y hy=>?_) (fun h1 hns hk=>?_) S.co S.gen S.kind
 ·obtain rfl:y=(p,u):=List.mem_singleton.mp hy
  exact S.par
 ·have I:Inv (cxX (CX1 P w) P w K mg base (p::fs) qual scope f cdv cl A outer s H E) [] (L2.start (p::fs) (v::cs)) H { s with heap:=h1,toks:=s.toks + [(p,u)].length }:=aLp S hr.hd e0 r C hns hk
  have hlen:1+cs.length<=n:=by rw [<- hN,C.len];simp;omega
  have hq:=zK (N:=p::fs) hN hlen hsp
  refine wpAny_mono (hbody f cdv cl A outer s H E (hr.deeper _) [] _ (L2.start (p::fs) (v::cs)) H _ I hq) (fun fl s' hs=>?_) fun e s' hs=>hs
  have fin:∀ {σ':L2.St} {H':Hp} {v:V} {u:Value},Inv (cxX (CX1 P w) P w K mg base (p::fs) qual scope f cdv cl A outer s H E) [] σ' H' s'->RelV v u->Q v H'->CE outer P w H s Q u s' :=
   fun {σ' H' v u} J rv q=>⟨v,H',J.os,J.bare,J.base,J.hok,rv,q⟩
  cases fl with
  | ret u =>
   obtain ⟨v,σ',H',J,rv,q⟩:=hs
   exact fin J rv q
  | next =>
   obtain ⟨σ',H',J,q⟩:=hs
   exact fin (v:=V.non) (u:=Value.none) J rfl q
  | brk =>
   obtain ⟨_,_,_,q⟩:=hs
   exact False.elim q
  | cont =>
   obtain ⟨_,_,_,q⟩:=hs
   exact False.elim q
structure CloIn (name qual:Str) (params:Arguments) (body:List Stmt) (scope:Scope) (fs:List Str) (cs:List V) (a:Addr) (fr:Y2) (H:Hp) (h:Heap):Prop where
 ex:∃(doc pm ctv:Value) (cl:List (Str×Addr)) (c:Addr) (o:Obj) (vs:Array Value) (t:Tok),
  h.get? a=some { cls:=.type "function",data:=.func (PySem.W.fnX name qual params body scope cl .none .none doc pm none (.ref c) ctv) }/\H a=none/\a ∉ fr /\
  ((h.get? c=some o/\H c=none/\c ∉ fr)\/∃u,H c=some (.frz o u))/\o.data=.fields vs/\vs[1]?=some (.str qual t)/\CloAt cl fs cs fr H h
theorem CloAt.keep {cl:List (Str×Addr)} {cs:List V} {fr:Y2} {H H':Hp} {h h':Heap} (C:CloAt cl fs cs fr H h) (un:Un fr [] H H' h h'):CloAt cl fs cs fr H' h' :=
 ⟨C.len,C.key,C.inj,fun i x v e1 e2=>by
  obtain ⟨c,u,q1,q2,⟨o,q3,q3'⟩,q4,q5⟩:=C.at_ i x v e1 e2
  exact ⟨c,u,q1,q2,⟨o,un.keep c o q3 q4 q5 (by simp),q3'⟩,un.free c o q3 q4 (by simp),q5⟩⟩
theorem CloIn.keep {cs:List V} {a:Addr} {fr:Y2} {H H':Hp} {h h':Heap} (C:CloIn name qual params body scope fs cs a fr H h) (un:Un fr [] H H' h h'):CloIn name qual params body scope fs cs a fr H' h':=by
 obtain ⟨doc,pm,ctv,cl,c,o,vs,t,e1,e2,e3,e4,e5,e6,e9⟩:=C.ex
 refine ⟨doc,pm,ctv,cl,c,o,vs,t,un.keep _ _ e1 e2 e3 (by simp),un.free _ _ e1 e2 (by simp),e3,?_,e5,e6,e9.keep un⟩
 rcases e4 with ⟨e4,e7,e8⟩ | ⟨u,e4⟩
 ·exact .inl ⟨un.keep _ _ e4 e7 e8 (by simp),un.free _ _ e4 e7 (by simp),e8⟩
 ·exact .inr ⟨u,un.frzs _ _ _ e4⟩
theorem pG {X:Cx} {fn:Fn} {lR:List D} {cs:List V} {a:Addr} (T:CloTx X.prog X.w X.K X.mg X.base k name qual p fs params body scope fn) (hc:lR.map fH=cs.map some) (hr:Room (k+1) X.A) (hex:X.ex=[]) (C:CloIn name qual params body scope fs cs a X.fs X.H₀ X.s₀.heap) :
  CallV X a 1 (fW lR fn):=by
 have now:∀ {pins:Y8} {σ:L2.St} {H:Hp} {s:Shared},Inv X pins σ H s->CloIn name qual params body scope fs cs a X.fs H s.heap:=fun {pins σ H s} I=>by
  have:=I.base
  rw [hex] at this
  exact C.keep this
 constructor
 ·intro pins σ H s I
  obtain ⟨doc,pm,ctv,cl,c,o,vs,t,e1,_⟩:=(now I).ex
  exact ⟨_,_,_,_,e1⟩
 ·intro pins σ H s us vs Q I r h
  have hl:=h.1
  have h2:=aMj hc h
  obtain ⟨v,rfl⟩:=List.length_eq_one_iff.mp hl
  cases r with
  | cons r1 t' =>
  cases t'
  obtain ⟨doc,pm,ctv,cl,c,o,ws,t,e1,e2,e3,e4',e5,e6,e9⟩:=(now I).ex
  have e4:s.heap.get? c=some o:=by
   rcases e4' with ⟨e4,_⟩ | ⟨u,e4⟩
   ·exact e4
   ·exact (I.hok c _ e4).1
  refine wpAny_call (codeAny_mono (aM8 T hr I.aOs e1 rfl ⟨c,o,ws,t,rfl,e4,e5,e6⟩ e9 r1 h2) fun r s' hq=>?_)
  cases r with
  | error e =>
   have hq:CX1 X.prog X.w X.stack H s E0 e s':=hq
   obtain ⟨_,_,_,_,_,_,_,_,_,_,_,_,_,z⟩:=hq
   exact z.elim
  | ok fl =>
   cases fl with
   | ret u=>exact I.after hq
   | next=>exact False.elim hq
   | brk=>exact False.elim hq
   | cont=>exact False.elim hq
end
end VL
end
section
namespace VL
open PySem PySem.Spec PyProof.Rows L2
theorem aQo {X:Cx} {pins:Y8} {σ:L2.St} {H:Hp} {s:Shared} {name qual:Str} {params:Arguments} {body:List Stmt} {scope:Scope} {pos:Pos} {i:Nat} {c Pl:Addr} {ps:Array Value} {clos:List (Str×Addr)} {Q:Flow->Shared->Prop}
  (I:Inv X pins σ H s) (hN:X.N.Nodup) (hi:X.N[i]?=some name) (hloc:X.env.scope.names.lookup name=some .local) (hcl:closureFor scope X.env=pure clos) (hcode:X.env.code=.ref c) (C:PySem.W.CodeHd X.base c Pl)
  (hP:H Pl=some (.tbl ps)) (ht:TriplesOk ps.toList) (hnf:codeAmong pos ps.toList=none) (B:X.base.BuiltinsAt X.mg Pl) (hd0:params.defaults=[]) (hk0:params.kw_defaults=[]) (ha:annTrees params none X.env=[]) (hq:qualnameIn X.env name name=qual)
  (h:∀f c' oc vs t ctv doc pm s',Inv X ((f,PySem.W.fnMade name qual params body scope clos doc pm c' ctv)::pins) (σ.set i (some (.ref f))) (upd (upd H Pl (.tbl (ps ++ #[rawInt pos.line,rawInt pos.col,.ref c']))) c' (.frz oc (.own 0))) s' ->
   oc.data=.fields vs->vs[1]?=some (.str qual t)->s.heap.objs.size<=f->H c'=none->Q .next s') :
  wpAny (model X.prog X.w) X.A (exec (.FunctionDef name params body [] none [] scope none name pos) X.env) Q X.xe s:=by
 refine PySem.W.nestDef_K hd0 hk0 ha ?_
 rw [hq]
 have hgs:s.heap.Ns mainGlobals X.mg:=I.mod.glob.keeps I.bk
 have hPs:s.heap.get? Pl=some (PySem.W.tabObj ps):=I.hok Pl _ hP
 have hgP:mainGlobals ≠ Pl:=fun q=>by
  obtain ⟨o,es,ep,e,hd,_⟩:=hgs
  rw [q,hPs] at e;cases e;cases hd
 refine PySem.W.makeFunction_K (mg:=X.mg) hcl I.ok.glob hgs hcode (C.keeps I.bk) hPs ht hnf hgP (B.keeps I.bk) fun c' ctv doc h' tk hx hge hlt hrec htb=>?_
 obtain ⟨c₂,oc,vs,t,e2,hoc,hd,hv⟩:=hrec
 cases e2
 have k2:∀b o,b ≠ Pl->s.heap.get? b=some o->(h'.push (PySem.W.fnMade name qual params body scope clos doc ((X.mg "__name__").getD .none) c' ctv)).get? b=some o:=fun b o hb e=>Heap.get?_push_of_some _ (hx b o hb e)
 have hP2:(h'.push (PySem.W.fnMade name qual params body scope clos doc ((X.mg "__name__").getD .none) c' ctv)).get? Pl=some (PySem.W.tabObj (ps ++ #[rawInt pos.line,rawInt pos.col,.ref c'])):=Heap.get?_push_of_some _ htb
 have hsz:s.heap.objs.size<=h'.objs.size:=Nat.le_of_lt (Nat.lt_of_le_of_lt hge hlt)
 have tr:∀b,H b=none->b ≠ Pl:=fun b e z=>by rw [z,hP] at e;cases e
 have hoc':(h'.push (PySem.W.fnMade name qual params body scope clos doc ((X.mg "__name__").getD .none) c' ctv)).get? c'=some oc:=Heap.get?_push_of_some _ hoc
 have frC:H c'=none:=I.hok.fresh hge
 have nPc:c' ≠ Pl:=fun z=>by rw [z,hP] at frC;cases frC
 have old:∀b o,s.heap.get? b=some o->b ≠ c':=fun b o e z=>by
  have:=Heap.lt_size e
  rw [z] at this
  exact absurd (Nat.lt_of_lt_of_le this hge) (Nat.lt_irrefl _)
 have trk:∀b u,H b=some u->b ≠ c':=fun b u e z=>by rw [z,frC] at e;cases e
 have un:Un X.fs [] H (upd (upd H Pl (.tbl (ps ++ #[rawInt pos.line,rawInt pos.col,.ref c']))) c' (.frz oc (.own 0))) s.heap (h'.push (PySem.W.fnMade name qual params body scope clos doc ((X.mg "__name__").getD .none) c' ctv)):=by
  refine ⟨fun b o e n _ _=>k2 b o (tr b n) e,fun b o e n _ _=>⟨o.slots,k2 b o (tr b n) e⟩,fun b o e n _=>by rw [aU (old b o e),aU (tr b n)];exact n,fun b o e _=>?_,fun b xs e=>?_,fun b o u e=>?_,fun b qs e=>?_⟩
  ·by_cases hb:b=Pl
   ·subst hb;exact ⟨_,hP2⟩
   ·exact ⟨o,k2 b o hb e⟩
  ·rw [aU (trk b _ e),aU (rQ e hP (by simp))];exact e
  ·rw [aU (trk b _ e),aU (rQ e hP (by simp))];exact e
  ·rw [aU (trk b _ e)]
   by_cases hb:b=Pl
   ·subst hb
    rw [hP] at e;cases e
    exact ⟨_,bJ⟩
   ·rw [aU hb];exact ⟨#[],by rw [e];simp⟩
 have hok:HOk X.prog X.w (upd (upd H Pl (.tbl (ps ++ #[rawInt pos.line,rawInt pos.col,.ref c']))) c' (.frz oc (.own 0))) (h'.push (PySem.W.fnMade name qual params body scope clos doc ((X.mg "__name__").getD .none) c' ctv)):=fun b u e=>by
  by_cases hc:b=c'
  ·subst hc
   rw [bJ] at e;cases e
   exact ⟨hoc',oc,hoc'⟩
  rw [aU hc] at e
  by_cases hb:b=Pl
  ·subst hb
   rw [bJ] at e;cases e
   exact hP2
  ·rw [aU hb] at e
   refine (I.hok b u e).stay (fun d v hd q=>k2 d v ?_ q) (fun d q=>?_) fun d xs q=>?_
   ·rcases hd with rfl | hd
    ·exact hb
    ·exact rQ hd hP (by simp)
   ·rw [aU (trk d _ q),aU (rQ q hP (by simp))];exact q
   ·rw [aU (trk d _ q),aU (rQ q hP (by simp))];exact q
 have I2:=I.un (t':=tk) un hok
 have frF:H h'.objs.size=none:=I.hok.fresh hsz
 have neF:h'.objs.size ≠ c':=fun z=>by rw [z] at hlt;exact absurd hlt (Nat.lt_irrefl _)
 have neL:∀b,s.heap.objs.size<=b->b ≠ X.env.locals:=fun b hb=>Nat.ne_of_gt (Nat.lt_of_lt_of_le I.lt hb)
 have I3:Inv X ((h'.objs.size,PySem.W.fnMade name qual params body scope clos doc ((X.mg "__name__").getD .none) c' ctv)::pins) σ (upd (upd H Pl (.tbl (ps ++ #[rawInt pos.line,rawInt pos.col,.ref c']))) c' (.frz oc (.own 0))) { s with heap:=h'.push (PySem.W.fnMade name qual params body scope clos doc ((X.mg "__name__").getD .none) c' ctv),toks:=tk }:=by
  refine I2.mP fun p hp=>?_
  rcases List.mem_cons.mp hp with rfl | hp
  ·exact ⟨Heap.get?_push_size _ rfl,by rw [aU neF,aU (tr _ frF)];exact frF,neL _ hsz,I.aU9 hsz,fun v z=>by cases z⟩
  ·exact I2.pin p (List.mem_append_right _ hp)
 refine lH I3 hN hi (.inl hloc) (v:=.ref h'.objs.size) rfl (fun s' I4=>?_) (.inr hloc)
 exact h _ c' oc vs t ctv doc _ s' I4 hd hv hsz frC
theorem aLm {X:Cx} {pins:Y8} {σ:L2.St} {H:Hp} {s:Shared} {name qual:Str} {params:Arguments} {body:List Stmt} {scope:Scope} {pos:Pos} {i:Nat} {c c' Pl:Addr} {ps:Array Value} {clos:List (Str×Addr)} {Q:Flow->Shared->Prop}
  (I:Inv X pins σ H s) (hN:X.N.Nodup) (hi:X.N[i]?=some name) (hloc:X.env.scope.names.lookup name=some .local) (hcl:closureFor scope X.env=pure clos) (hcode:X.env.code=.ref c) (C:PySem.W.CodeHd X.base c Pl)
  (hP:H Pl=some (.tbl ps)) (ht:TriplesOk ps.toList) (hf:codeAmong pos ps.toList=some (.ref c')) (B:X.base.BuiltinsAt X.mg Pl) (hd0:params.defaults=[]) (hk0:params.kw_defaults=[]) (ha:annTrees params none X.env=[]) (hq:qualnameIn X.env name name=qual)
  (h:∀f ctv doc pm s',Inv X ((f,PySem.W.fnMade name qual params body scope clos doc pm c' ctv)::pins) (σ.set i (some (.ref f))) H s'->s.heap.objs.size<=f->Q .next s') :
  wpAny (model X.prog X.w) X.A (exec (.FunctionDef name params body [] none [] scope none name pos) X.env) Q X.xe s:=by
 refine PySem.W.nestDef_K hd0 hk0 ha ?_
 rw [hq]
 have hgs:s.heap.Ns mainGlobals X.mg:=I.mod.glob.keeps I.bk
 have hPs:s.heap.get? Pl=some (PySem.W.tabObj ps):=I.hok Pl _ hP
 refine PySem.W.makeFunction_hit (mg:=X.mg) hcl I.ok.glob hgs hcode (C.keeps I.bk) hPs ht hf (B.keeps I.bk) fun ctv doc h' tk hx hsz=>?_
 have k2:∀b o,s.heap.get? b=some o->(h'.push (PySem.W.fnMade name qual params body scope clos doc ((X.mg "__name__").getD .none) c' ctv)).get? b=some o:=fun b o e=>Heap.get?_push_of_some _ (hx b o e)
 have I2:=I.un (t':=tk) (Un.kept k2) (I.hok.kept k2)
 have frF:H h'.objs.size=none:=I.hok.fresh hsz
 have neL:∀b,s.heap.objs.size<=b->b ≠ X.env.locals:=fun b hb=>Nat.ne_of_gt (Nat.lt_of_lt_of_le I.lt hb)
 have I3:Inv X ((h'.objs.size,PySem.W.fnMade name qual params body scope clos doc ((X.mg "__name__").getD .none) c' ctv)::pins) σ H { s with heap:=h'.push (PySem.W.fnMade name qual params body scope clos doc ((X.mg "__name__").getD .none) c' ctv),toks:=tk }:=by
  refine I2.mP fun p hp=>?_
  rcases List.mem_cons.mp hp with rfl | hp
  ·exact ⟨Heap.get?_push_size _ rfl,frF,neL _ hsz,I.aU9 hsz,fun v z=>by cases z⟩
  ·exact I2.pin p (List.mem_append_right _ hp)
 refine lH I3 hN hi (.inl hloc) (v:=.ref h'.objs.size) rfl (fun s' I4=>?_) (.inr hloc)
 exact h _ ctv doc _ s' I4 hsz
end VL
end
section
namespace VL
open PySem PySem.Spec PyProof.Rows L2
theorem aW1 {CX:CXT} {P:Program} {w:World} {K:FG} {mg:Y6} {base:Heap} {k:Nat} {f:Addr} {name qual:Str} {params:Arguments} {body:List Stmt} {scope:Scope} {dV kV doc pm cdv ct oc:Value} {an od:Option Addr}
  {osl:Array (Option Value)} {N ps:List Str} (lk:K.lookup f=some ⟨oc,od,.func (PySem.W.fnOf name qual params body scope dV kV doc pm an cdv ct),osl⟩) (hcd:PySem.W.codeIn K cdv qual=true) (S:FnScope N ps scope)
  {A:Around} {outer:List PySem.Env} {s:Shared} {H:Hp} {args:PySem.Args} {us:Y1} {vs:List V} {Q:VK} {E:XK} (hl:vs.length=ps.length) (hr:Room (k+1) A) (e0:Env0 P w K mg base A outer s H) (hb:BindsTo s (PySem.W.fnOf name qual params body scope dV kV doc pm an cdv ct) args (ps.zip us)) (r:Vals vs us)
  (hbody:Room k (A.deeper (envOfC qual scope s.heap.objs.size f cdv))->∃t,PSs (gE CX P w K mg base N qual scope f cdv A outer s H E) body t/\t { nx:=fun _ H'=>Q .non H',rt:=Q } (start N vs) H) :
  codeAny (model P w) A (.call (.ref f) args) (CR CX outer P w H s Q E) s:=by
 have KX:K.In s.heap:=e0.mod.kin.keeps fun b o e=>(e0.bs b o e).1
 have lim:s.heap.NoLimit:=e0.mod.nolimit.keeps fun b o e=>(e0.bs b o e).1
 have hkind:∀y∈ps.zip us,scope.names.lookup y.1=some .local\/(scope.names.lookup y.1=some .cell/\((cellsFrom (s.heap.objs.size+1) scope.names []).lookup y.1).isSome=true):=fun ⟨n,v⟩ hy=>by
  rcases S.par n (List.of_mem_zip hy).1 with q | q
  ·exact .inl q
  ·exact .inr ⟨q,PySem.W.cellsFrom_some _ _ _ (.inl q)⟩
 refine codeAny_call_function hr.depth (KX _ _ lk) rfl S.co S.gen rfl (PySem.W.codeRec_of KX hcd) (hb _ _ _ _ ?_)
 refine wpAny_newFunctionEnv_cells S.kind hkind fun env he s1 x=>?_
 subst he
 refine ⟨lim.keeps x.toInCall.keep,codeAny_func ?_⟩
 obtain ⟨t,ht,hq⟩:=hbody (hr.deeper _)
 have I:Inv (gE CX P w K mg base N qual scope f cdv A outer s H E) [] (start N vs) H s1:=vW S hr.hd e0 hl r x
 refine wpAny_mono (ht [] s1 (start N vs) H _ I hq) (fun fl s' hs=>?_) fun e s' hs=>hs
 have fin:∀ {σ':L2.St} {H':Hp} {v:V} {u:Value},Inv (gE CX P w K mg base N qual scope f cdv A outer s H E) [] σ' H' s'->RelV v u->Q v H'->CE outer P w H s Q u s' :=
  fun {σ' H' v u} J rv q=>⟨v,H',J.os,J.bare,J.base,J.hok,rv,q⟩
 cases fl with
 | ret u =>
  obtain ⟨v,σ',H',J,rv,q⟩:=hs
  exact fin J rv q
 | next =>
  obtain ⟨σ',H',J,q⟩:=hs
  exact fin (v:=V.non) (u:=Value.none) J rfl q
 | brk =>
  obtain ⟨_,_,_,q⟩:=hs
  exact False.elim q
 | cont =>
  obtain ⟨_,_,_,q⟩:=hs
  exact False.elim q
theorem aJp {X:Cx} {f:Addr} {fd:FuncData} {ps:List Str} {k n:Nat} {fn:Fn} (F:FnOk X.prog X.w X.K X.mg X.base (CX1 X.prog X.w) k f fd ps (spV X.K n fn)) (hr:Room k X.A) (hb:Binds X.K fd ps []) (hf:∃oc od fd sl,X.K.lookup f=some ⟨oc,od,.func fd,sl⟩):CallV X f n fn:=by
 constructor
 ·intro pins σ H s I
  obtain ⟨oc,od,fd,sl,e⟩:=hf
  exact ⟨oc,od,fd,sl,I.kIn _ _ e⟩
 ·intro pins σ H s us vs Q I r h
  exact aF0 (E:=E0) F hr hb .nil (fun _ _ _ _ _ _ _ h=>by obtain ⟨_,_,_,_,_,_,_,_,_,_,_,_,_,z⟩:=h;exact z.elim) I r (by rw [List.append_nil];exact h)
structure Made (name qual:Str) (params:Arguments) (body:List Stmt) (scope:Scope) (clos:List (Str×Addr)) (f:Addr) (pins:Y8) (H:Hp):Prop where
 ex:∃(doc pm ctv:Value) (c':Addr) (oc:Obj) (u:HO) (vs:Array Value) (t:Tok),(f,PySem.W.fnMade name qual params body scope clos doc pm c' ctv)∈pins/\H c'=some (.frz oc u)/\oc.data=.fields vs/\vs[1]?=some (.str qual t)
theorem Made.more {name qual:Str} {params:Arguments} {body:List Stmt} {scope:Scope} {clos:List (Str×Addr)} {f:Addr} {pins more:Y8} {H H':Hp} (M:Made name qual params body scope clos f pins H) (h:∀p∈pins,p∈more) (hs:∀b o u,H b=some (.frz o u)->H' b=some (.frz o u)):Made name qual params body scope clos f more H':=by
 obtain ⟨doc,pm,ctv,c',oc,u,vs,t,e1,e2,e3,e4⟩:=M.ex
 exact ⟨doc,pm,ctv,c',oc,u,vs,t,h _ e1,hs _ _ _ e2,e3,e4⟩
structure Caps (X:Cx) (clos:List (Str×Addr)) (fs:List Str) (js:T0):Prop where
 len:js.length=fs.length
 at_:∀(i j:Nat),js[i]?=some j->∃x c,fs[i]?=some x/\X.N[j]?=some x/\clos.lookup x=some c/\X.env.cells.lookup x=some c/\X.env.scope.names.lookup x=some .cell
 key:∀x c,clos.lookup x=some c->x∈fs/\X.env.cells.lookup x=some c
theorem tK {X:Cx} {pins:Y8} {σ:L2.St} {H:Hp} {s:Shared} {name qual:Str} {params:Arguments} {body:List Stmt} {scope:Scope} {clos:List (Str×Addr)} {f:Addr} {fs:List Str} {js:T0} {cs:List V}
  (I:Inv X pins σ H s) (M:Made name qual params body scope clos f pins H) (C:Caps X clos fs js) (hfn:∀x,X.fn x=true) (hc:∀(i j:Nat),js[i]?=some j->∃v,cs[i]?=some v/\σ[j]?=some (some v)) (hl:cs.length=fs.length) :
  CloIn name qual params body scope fs cs f (frs X.stack) H s.heap:=by
 obtain ⟨doc,pm,ctv,c',oc,uo,vs,t,e1,e2,e3,e4⟩:=M.ex
 obtain ⟨p1,p2,p3,p4,_⟩:=I.pin _ (List.mem_append_right _ e1)
 have out:∀b,b ≠ X.env.locals->b ∉ X.fs->b ∉ frs X.stack:=fun b h1 h2 hb=>by
  rcases List.mem_cons.mp (I.uH b hb) with e | hb
  ·exact h1 e
  ·exact h2 hb
 refine ⟨doc,pm,ctv,clos,c',oc,vs,t,p1,p2,out _ p3 p4,.inr ⟨uo,e2⟩,e3,e4,hl,fun x c e=>(C.key x c e).1,fun x y c h1 h2=>I.ok.inj x y c (C.key x c h1).2 (C.key y c h2).2,fun i x v h1 h2=>?_⟩
 have hi:i<js.length:=by
  rw [C.len];exact (List.getElem?_eq_some_iff.mp h1).1
 obtain ⟨x',c,a1,a2,a3,a4,a5⟩:=C.at_ i js[i] (List.getElem?_eq_getElem hi)
 rw [h1] at a1;cases a1
 obtain ⟨v',b1,b2⟩:=hc i js[i] (List.getElem?_eq_getElem hi)
 rw [h2] at b1;cases b1
 obtain ⟨m,_,hm⟩:=I.loc
 obtain ⟨u,r,lk⟩:=hm js[i] x v a2 b2 (.inr (.inl a5))
 refine ⟨c,u,a3,r,?_,I.freeC x c a4,out _ (I.cne x c a4) fun z=>?_⟩
 ·rcases lk with ⟨z,_⟩ | ⟨_,c2,z1,z2⟩
  ·have z:X.env.scope.names.lookup x=some .local:=z
   rw [a5] at z;cases z
  ·rw [a4] at z1;cases z1;exact z2
 ·have:=I.ok.cab x c (hfn x) a4
  obtain ⟨_,o,ho,_⟩:=I.ok.funs.mem z
  exact absurd (Nat.lt_of_lt_of_le (Heap.lt_size ho) this) (Nat.lt_irrefl _)
end VL
end
section
namespace VL
open PySem PySem.Spec PyProof.Rows L2
structure StepFn (P:Program) (w:World) (K:FG) (mg:Y6) (base:Heap) (k:Nat) (x:Str) (n:Nat) (bG:List (Addr×Fn)->SemS):Prop where
 ex:∃f,mg x=some (.ref f)/\PySem.W.keepIn K (.ref f)=true/\∀(L:List (Addr×Fn)) (A:Around) (outer:List PySem.Env) (s:Shared) (H:Hp) (us:Y1) (vs:List V) (Q:VK) (E:XK),Room (k+1) A->Env0 P w K mg base A outer s H->Vals vs us ->
  (∀X':Cx,X'.prog=P->X'.w=w->X'.K=K->X'.mg=mg->X'.base=base->X'.ex=[]->X'.outer=outer->X'.H₀=H->X'.s₀=s->Room k X'.A->∀a fn,L.lookup a=some fn->CallV X' a 1 fn) ->
  spV K 2 (fnOf n (bG L)) vs H Q E->codeAny (model P w) A (.call (.ref f) ⟨us,[]⟩) (CR (CX1 P w) outer P w H s Q E) s
theorem aD8 {P:Program} {w:World} {K:FG} {mg:Y6} {base:Heap} {x:Str} {st:Stmt} {N ps:List Str} {k n:Nat} {bG:List (Addr×Fn)->SemS} (F:FnAt K x st) (kb:K.In base) (nb:base.Ns mainGlobals mg) (S:FnScope N ps (aG st)) (hN:N.length=n) (hnp:ps.length=2) (hk:2<=n)
  (hb:∀(kV doc pm:Value) (an:Option Addr) (cdv ct:Value) (us:Y1),us.length=ps.length->bindArgs (PySem.W.fnOf x x (eK st) (cL st) (aG st) .none kV doc pm an cdv ct) ⟨us,[]⟩=pure (ps.zip us))
  (hbody:∀(L:List (Addr×Fn)) (f:Addr) (cdv:Value) (A:Around) (outer:List PySem.Env) (s:Shared) (H:Hp) (E:XK),Room k (A.deeper (envOfC x (aG st) s.heap.objs.size f cdv)) ->
   (∀a fn,L.lookup a=some fn->CallV (gE (CX1 P w) P w K mg base N x (aG st) f cdv A outer s H E) a 1 fn) ->
   SSs (gE (CX1 P w) P w K mg base N x (aG st) f cdv A outer s H E) (wOf K E) (cL st) (bG L)):StepFn P w K mg base k x n bG:=by
 obtain ⟨f,fd,hf,F⟩:=F.ex
 have bi:=F.binds hb
 refine ⟨f,PySem.W.mg_of kb nb hf,F.kp,fun L A outer s H us vs Q E hr e0 r hL hsp=>?_⟩
 obtain ⟨oc,od,kV,doc,pm,an,cdv,ct,osl,rfl,lk,hcd⟩:=F.ex
 have hl:vs.length=ps.length:=hsp.1.trans hnp.symm
 have lu:us.length=ps.length:=by rw [<- r.length];exact hl
 have KX:K.In s.heap:=e0.mod.kin.keeps fun b o e=>(e0.bs b o e).1
 have hbt:=bi s us KX (by rw [List.append_nil];exact lu)
 rw [List.append_nil] at hbt
 refine aW1 lk hcd S hl hr e0 hbt r fun hr2=>?_
 exact ⟨_,hbody L f cdv A outer s H E hr2 (hL _ rfl rfl rfl rfl rfl rfl rfl rfl rfl hr2),zK hN (by rw [<- hnp];omega) (k:=2) hsp⟩
theorem aG6 {K:FG} {g:cH} {σ:L2.St} {H:Hp} {Q:List V->Hp->Prop} (h:tvA K g σ H Q):tvA K g σ H fun vs H1=>Same H H1/\Q vs H1:=by
 obtain ⟨ρ,F,fps,S,h⟩:=h
 exact ⟨ρ,F,fps,S,R.aP h fun xs hx vs F1 H1 fa g1 a1 n1 k1=>⟨g1.all,hx vs F1 H1 fa g1 a1 n1 k1⟩⟩
theorem vP {X:Cx} {k n:Nat} {x:Str} {bG:List (Addr×Fn)->SemS} (G:StepFn X.prog X.w X.K X.mg X.base k x n bG) (hr:Room (k+1) X.A) {pins:Y8} {σ:L2.St} {H:Hp} {s:Shared} {L:List (Addr×Fn)} {W:XW} {D':Ends} {e:Expr} {es:List Expr} {g:cH} {p pos pos':Pos}
  (I:Inv X pins σ H s) (hL:∀(H':Hp) (s':Shared),Same H H'->Inv X pins σ H' s'->∀X':Cx,X'.prog=X.prog->X'.w=X.w->X'.K=X.K->X'.mg=X.mg->X'.base=X.base->X'.ex=[]->X'.outer=X.stack->X'.H₀=H'->X'.s₀=s'->Room k X'.A->∀a fn,L.lookup a=some fn->CallV X' a 1 fn)
  (ha:SA X (e::es) g) (hl:lA 2 g) (h:sv X.K W (bD (xOf (aO (fnOf n (bG L)) g))) D' σ H) (hg:Gl X x) (hdb:(x == ("__debug__" : Str))=false) (he:starEach (e::es) X.env=(false,eval e X.env)::starEach es X.env) (hpl:(backTo pos (starEach es X.env)).any (·.1)=false) :
  wpAny (model X.prog X.w) X.A (exec (.Return (some (.Call (.Name x p) (e::es) [] pos)) pos') X.env) (SP X pins D') X.xe s:=by
 obtain ⟨f,hm,hk,run⟩:=G.ex
 have h2:aAe (spV X.K 2 (fnOf n (bG L))) [] E0 (tvA X.K g) σ H D'.rt:=wL hl (aH9 (aJu h))
 refine wpAny_Return_some (thn (Q:=EP X pins σ D'.rt) ?_ fun v s1 ⟨x,H1,I1,r1,q1⟩=>⟨x,σ,H1,I1,r1,q1⟩)
 refine wpAny_Call_Name_kw (kM I hg hm ?_ hdb)
 refine PySem.W.callWith_K (h₀:=X.base) I.ok.mod.kin hk (thn (ha pos pins s σ H _ I (aG6 h2)) fun us s1 ⟨vs,H1,I1,r,hsm,q⟩=>⟨I1.kIn,?_⟩) he hpl
 have q:spV X.K 2 (fnOf n (bG L)) (vs ++ []) H1 D'.rt E0:=q
 rw [List.append_nil] at q
 refine wpAny_call (codeAny_mono (run L X.A X.stack s1 H1 us vs D'.rt E0 hr I1.aOs r (hL H1 s1 hsm I1) q) fun r s' hq=>?_)
 cases r with
 | error e =>
  have hq:CX1 X.prog X.w X.stack H1 s1 E0 e s':=hq
  obtain ⟨_,_,_,_,_,_,_,_,_,_,_,_,_,z⟩:=hq
  exact z.elim
 | ok fl =>
  cases fl with
  | ret u=>exact I1.after hq
  | next=>exact False.elim hq
  | brk=>exact False.elim hq
  | cont=>exact False.elim hq
section
variable {K:FG} {F H:Hp} {σ:L2.St} {ρ:Env} {fps:Y5}
theorem Sim.aYk (S:Sim K F H σ ρ fps) {i:Nat} {d d':D} {v:V} {fp fp':Y2} {a:Addr} {u:HO} (e:getD ρ i=some d) (es:σ[i]?=some (some v)) (ef:fps[i]?=some fp)
  (ha:a∈fp) (o:Own K F (upd H a u) d' v fp') (n:fp'.Nodup) (dj:∀b∈fp',b∈fp\/(b ∉ fps.flatten)) :
  Sim K F (upd H a u) σ (putD ρ i d') (fps.set i fp'):=by
 have hz:a∈fps.flatten:=List.mem_flatten.mpr ⟨fp,List.mem_of_getElem? ef,ha⟩
 have fa:=(S.zone a hz).1
 refine ⟨fun b u q=>?_,by rw [fQ];exact S.ls,by rw [fQ,List.length_set];exact S.lf,fun j s c e1 e2=>?_,eJ S.nd ef n dj,fun b hb=>?_⟩
 ·rw [aU (bX q fa)];exact S.same b u q
 ·rcases sQ e1 e2 (by rw [e];rfl) with ⟨rfl,rfl⟩ | ⟨hj,e3⟩
  ·exact ⟨v,fp',es,List.getElem?_set_self (List.getElem?_eq_some_iff.mp ef).1,o⟩
  ·obtain ⟨w,f,h1,h2,h3⟩:=S.at_ j s c e3 e2
   exact ⟨w,f,h1,by rw [List.getElem?_set_ne hj];exact h2,h3.other (apart S.nd ef h2 hj ha)⟩
 ·rcases bL hb with h | h
  ·refine ⟨(S.zone b h).1,?_⟩
   by_cases hba:b=a
   ·subst hba;rw [bJ];simp
   ·rw [aU hba];exact (S.zone b h).2
  ·obtain ⟨q1,ys,q2⟩:=Own.zone d' o b h
   exact ⟨q1,by rw [q2];simp⟩
theorem Sim.unset (S:Sim K F H σ ρ fps) (i:Nat):Sim K F H σ (ρ.set i .un) fps:=by
 refine ⟨S.same,by simp [S.ls],by simp [S.lf],fun j s c e1 e2=>?_,S.nd,S.zone⟩
 by_cases hj:i=j
 ·subst hj
  have hi:i < ρ.length:=by
   rcases Nat.lt_or_ge i ρ.length with h | h
   ·exact h
   ·rw [List.getElem?_eq_none_iff.mpr (by simpa using h)] at e1;cases e1
  rw [List.getElem?_set_self hi] at e1
  cases e1;cases e2
 ·rw [List.getElem?_set_ne hj] at e1
  exact S.at_ j s c e1 e2
theorem aEk {i:Nat} {d:D} {j:Nat} (ne:i ≠ j):free (ρ.set i (.val d)) j=free ρ j:=by
 unfold free;rw [List.getElem?_set_ne ne]
theorem aFk {Z:Y2} {P:VK} {d:D} {i1 i2:Nat} {d1 d2:D} (ne:i1 ≠ i2) (h:jV K F H Z ρ σ P d ((ρ.set i1 .un).set i2 .un)) (e1:ρ[i1]?=some (.val d1)) (e2:ρ[i2]?=some (.val d2)):jV K F H Z ρ σ P d ρ:=by
 intro r σ' F' H' fps' fr ev S p o n k
 refine h r σ' F' H' fps' fr ev ((S.unset i1).unset i2) (fun j c e=>?_) o n k
 obtain ⟨⟨d',q1⟩,q2⟩:=p j c e
 have n1:i1 ≠ j:=by rintro rfl;rw [e1] at e;cases e
 have n2:i2 ≠ j:=by rintro rfl;rw [e2] at e;cases e
 exact ⟨⟨d',by rw [List.getElem?_set_ne n2,List.getElem?_set_ne n1];exact q1⟩,q2⟩
end
end VL
end
section
namespace VL
open PySem PySem.Spec PyProof.Rows L2
structure DefTx (X:Cx) (name qual:Str) (params:Arguments) (body:List Stmt) (scope:Scope) (i:Nat) (js:T0) (k:Nat) (fn:Fn):Prop where
 hi:X.N[i]?=some name
 loc:X.env.scope.names.lookup name=some .local
 clo:∃clos fs p,closureFor scope X.env=pure clos/\Caps X clos fs js/\CloTx X.prog X.w X.K X.mg X.base k name qual p fs params body scope fn
 d0:params.defaults=[]
 k0:params.kw_defaults=[]
 ann:annTrees params none X.env=[]
 qual:qualnameIn X.env name name=qual
structure MkTx (X:Cx) (x:Str):Prop where
 ex:∃c P,PySem.W.tabIn X.K x=some (c,P)/\X.env.code=.ref c/\PySem.W.CodeHd X.base c P/\X.base.BuiltinsAt X.mg P
 fn:∀y,X.fn y=true
 nd:X.N.Nodup
theorem kN {K:FG} {F H:Hp} {σ:L2.St} {ρ:Env} {fps:Y5} (S:Sim K F H σ ρ fps):∀(js:T0) {ds:List D},cY js ρ=some ds->ds.all isScal=true ->
  ∃cs:List V,ds.map fH=cs.map some/\cs.length=js.length/\∀(i j:Nat),js[i]?=some j->∃v,cs[i]?=some v/\σ[j]?=some (some v)
 | [],ds,e,_=>by
  unfold cY at e;cases e
  exact ⟨[],rfl,rfl,fun i j e=>by simp at e⟩
 | k::js,ds,e,h=>by
  unfold cY at e
  cases eg:getD ρ k with
  | none=>rw [eg] at e;cases e
  | some d =>
   rw [eg] at e
   cases eg2:cY js ρ with
   | none=>rw [eg2] at e;cases e
   | some ds2 =>
    rw [eg2] at e
    have e:some (d::ds2)=some ds:=e
    cases e
    rw [List.all_cons,Bool.and_eq_true] at h
    obtain ⟨cs,h1,h2,h3⟩:=kN S js eg2 h.2
    obtain ⟨v,fp,q1,q2,q3⟩:=S.get eg
    have hs:=h.1
    unfold isScal at hs
    cases es:fH d with
    | none=>rw [es] at hs;cases hs
    | some u =>
     obtain ⟨e1,e2⟩:=rF es q3
     subst e1
     refine ⟨v::cs,by rw [List.map_cons,List.map_cons,es,h1],by simp [h2],fun i j e=>?_⟩
     cases i with
     | zero=>simp at e;subst e;exact ⟨v,rfl,q1⟩
     | succ i=>simpa using h3 i j (by simpa using e)
theorem aGf {K:FG} {F H:Hp} {t:Tg} {v:V} {fp:Y2} (h:Own K F H (.ext true t) v fp):∃a u,v=.ref a/\TgO K F a t u/\F a=none/\H a=some u/\fp=[a]:=by
 unfold Own at h
 obtain ⟨a,u,ev,tg,w⟩:=h
 rcases w with ⟨_,w1,w2,w3⟩ | ⟨w,_⟩
 ·exact ⟨a,u,ev,tg,w1,w2,w3⟩
 ·cases w
theorem List.iA {α:Type} {l:List α} {i:Nat} {a:α} (h:l[i]?=some a):l.set i a=l:=by
 apply List.ext_getElem?
 intro j
 rw [List.getElem?_set]
 by_cases hj:i=j
 ·subst hj
  rw [if_pos rfl,if_pos (List.getElem?_eq_some_iff.mp h).1,h]
 ·rw [if_neg hj]
section
variable {X:Cx} {x xg name1 qual1 name2 qual2:Str} {params1 params2:Arguments} {body1 body2:List Stmt} {scope1 scope2:Scope} {pos1 pos2 pos pos' p:Pos} {gi i1 i2 k n:Nat} {js1 js2:T0} {fn1 fn2:Fn} {bG:List (Addr×Fn)->SemS} {e:Expr} {es:List Expr} {g:cH} {W:XW}
theorem lL {clos:List (Str×Addr)} {fs:List Str} {js:T0} {i j m:Nat} {name:Str} (C:Caps X clos fs js) (nd:X.N.Nodup) (hi:X.N[i]?=some name) (loc:X.env.scope.names.lookup name=some .local) (e:js[m]?=some j):i ≠ j:=by
 rintro rfl
 obtain ⟨y,c,h1,h2,h3,h4,h5⟩:=C.at_ m i e
 rw [hi] at h2;cases h2
 rw [loc] at h5;cases h5
theorem aGq {H:Hp} {a b:Addr} {o u:HO} (h:a ≠ b):upd (upd H a o) b u=upd (upd H b u) a o:=by
 funext c
 by_cases h1:c=a
 ·subst h1;rw [aU h,bJ,bJ]
 ·by_cases h2:c=b
  ·subst h2;rw [bJ,aU h1,bJ]
  ·rw [aU h2,aU h1,aU h1,aU h2]
def atP (pos:Pos) (p:Pos):Bool:=p.line == pos.line && p.col == pos.col
def aG2 (pos:Pos) (qual:Str) (l:List (Pos×Str)):Option (List (Pos×Str)):=match l.find? fun e=>atP pos e.1 with
 | some e=>if e.2=qual then some l else none
 | none=>some (l ++ [(pos,qual)])
theorem pX (pos:Pos):∀m:List (Pos×Addr),codeAmong pos (triples m)=(m.find? fun e=>atP pos e.1).map fun e=>.ref e.2
 | []=>rfl
 | (q,c)::r=>by
  have hb:(((q.line:Nat):Int) == ((pos.line:Nat):Int) && ((q.col:Nat):Int) == ((pos.col:Nat):Int))=atP pos q:=by
   unfold atP
   congr 1
   ·rw [Bool.eq_iff_iff,beq_iff_eq,beq_iff_eq];omega
   ·rw [Bool.eq_iff_iff,beq_iff_eq,beq_iff_eq];omega
  show (if (((q.line:Nat):Int) == ((pos.line:Nat):Int) && ((q.col:Nat):Int) == ((pos.col:Nat):Int))=true then some (Value.ref c) else codeAmong pos (triples r))=_
  rw [hb,List.find?_cons]
  cases h:atP pos q with
  | true=>rfl
  | false=>rw [if_neg Bool.false_ne_true];exact pX pos r
theorem nV:∀m:List (Pos×Addr),TriplesOk (triples m)
 | []=>trivial
 | (q,c)::r=>by show TriplesOk (triples r);exact nV r
theorem yV {F:Hp} {P:Pos->Bool}:∀ {l:List (Pos×Str)} {m:List (Pos×Addr)},m.map (·.1)=l.map (·.1)->(∀(i:Nat) (p p':Pos) (q:Str) (c:Addr),l[i]?=some (p,q)->m[i]?=some (p',c)->aBj F c q) ->
  (∀e,(l.find? fun e=>P e.1)=some e->∃c,(m.find? fun e=>P e.1)=some (e.1,c)/\aBj F c e.2)/\((l.find? fun e=>P e.1)=none->(m.find? fun e=>P e.1)=none)
 | [],m,h,_=>by
  have:m=[]:=by simpa using h
  subst this
  exact ⟨fun e z=>(by cases z),fun _=>rfl⟩
 | (p,q)::l,m,h,hc=>by
  cases m with
  | nil=>simp at h
  | cons y m =>
   obtain ⟨p',c⟩:=y
   rw [List.map_cons,List.map_cons] at h
   obtain ⟨h1,h2⟩:=List.cons.inj h
   have h1:p'=p:=h1
   subst h1
   obtain ⟨r1,r2⟩:=yV (P:=P) h2 fun i p1 p2 q1 c1 e1 e2=>hc (i+1) p1 p2 q1 c1 (by simpa using e1) (by simpa using e2)
   rw [List.find?_cons,List.find?_cons]
   cases hp:P p' with
   | true=>exact ⟨fun e z=>(by cases z;exact ⟨c,rfl,hc 0 p' p' q c rfl rfl⟩),fun z=>(by cases z)⟩
   | false=>exact ⟨r1,r2⟩
theorem aRn {pos:Pos} {pins:Y8} {σ:L2.St} {H F:Hp} {s:Shared} {ρ:Env} {fps:Y5} {l l':List (Pos×Str)} {Q:Flow->Shared->Prop} (M:MkTx X x) (T:DefTx X name1 qual1 params1 body1 scope1 i1 js1 k fn1) (I:Inv X pins σ H s) (S:Sim X.K F H σ ρ fps)
  (eg:getD ρ gi=some (.ext true (.tab x l))) (hl:aG2 pos qual1 l=some l') (hf:free (putD ρ gi (.ext true (.tab x l'))) i1=true)
  (h:∀(f:Addr) (obj:Obj) (cl:List (Str×Addr)) (fs:List Str) (p:Str) (F' H':Hp) (fps':Y5) (s':Shared),Inv X ((f,obj)::pins) (σ.set i1 (some (.ref f))) H' s'->Caps X cl fs js1->CloTx X.prog X.w X.K X.mg X.base k name1 qual1 p fs params1 body1 scope1 fn1 ->
   Made name1 qual1 params1 body1 scope1 cl f ((f,obj)::pins) H'->Sim X.K F' H' (σ.set i1 (some (.ref f))) ((putD ρ gi (.ext true (.tab x l'))).set i1 (.val (.fn f))) fps'->Evo F H fps.flatten F' H' fps'.flatten->gG ρ σ ((putD ρ gi (.ext true (.tab x l'))).set i1 (.val (.fn f))) (σ.set i1 (some (.ref f))) ->
   s.heap.objs.size<=f->f<s'.heap.objs.size->(∀b o u,H b=some (.frz o u)->H' b=some (.frz o u))->Q .next s') :
  wpAny (model X.prog X.w) X.A (exec (.FunctionDef name1 params1 body1 [] none [] scope1 none name1 pos) X.env) Q X.xe s:=by
 obtain ⟨c,P,ht,hcode,hC,hB⟩:=M.ex
 obtain ⟨cl,fs,p,hc1,C1,X1⟩:=T.clo
 obtain ⟨v,fp,q1,q2,q3⟩:=S.get eg
 obtain ⟨a,u,ev,tg,w1,w2,w3⟩:=aGf q3
 have tg:aLi X.K F a x l u:=tg
 obtain ⟨⟨c',hc'⟩,m,eu,hm,hcf⟩:=tg
 rw [ht] at hc';cases hc'
 subst ev;subst w3;subst eu
 obtain ⟨r1,r2⟩:=yV (P:=atP pos) hm hcf
 have of:∀(F H:Hp) (f:Addr),Own X.K F H (.fn f) (.ref f) []:=fun F H f=>by unfold Own;exact ⟨rfl,rfl⟩
 have lt:∀ {f:Addr} {obj:Obj} {σ':L2.St} {H':Hp} {s':Shared},Inv X ((f,obj)::pins) σ' H' s'->f<s'.heap.objs.size:=fun {f obj σ' H' s'} J=>Heap.lt_size (J.pin (f,obj) (List.mem_append_right _ (by simp))).1
 have zin:∀b∈[P],b∈fps.flatten:=fun b hb=>List.mem_flatten.mpr ⟨_,List.mem_of_getElem? q2,hb⟩
 unfold aG2 at hl
 split at hl
 ·
  rename_i e ee
  by_cases hq:e.2=qual1
  case neg=>rw [if_neg hq] at hl;cases hl
  rw [if_pos hq] at hl;cases hl
  obtain ⟨cc,hmf,oc,uo,vs,t,k1,k2,k3⟩:=r1 e ee
  rw [hq] at k3
  have hfd:codeAmong pos ((triples m).toArray).toList=some (.ref cc):=by
   show codeAmong pos (triples m)=_
   rw [pX,hmf];rfl
  refine aLm I M.nd T.hi T.loc hc1 hcode hC w2 (nV m) hfd hB T.d0 T.k0 T.ann T.qual fun f ctv doc pm s' J hge=>?_
  have hput:putD ρ gi (.ext true (.tab x l))=ρ:=by
   have eg2:=eg
   unfold getD at eg2
   unfold putD
   cases qq:ρ[gi]? with
   | none=>rfl
   | some sl =>
    rw [qq] at eg2
    have eg2:sl.d?=some (.ext true (.tab x l)):=eg2
    cases sl with
    | un=>rfl
    | val d0=>cases eg2;exact List.iA qq
    | pin d0=>cases eg2;exact List.iA qq
  rw [hput] at hf
  have S2:=S.store (i:=i1) (of F H f) List.nodup_nil (by simp)
  refine h f _ cl fs p F H _ s' J C1 X1 ⟨doc,pm,ctv,cc,oc,uo,vs,t,by simp,S.same _ _ k1,k2,k3⟩ (by rw [hput];exact S2) ?_ (by rw [hput];exact jU hf) hge (lt J) fun _ _ _ z=>z
  exact ⟨Same.refl _,fun _ _ e _=>e,fun _ e=>e,fun _ _ e=>.inl e,fun b hb=>by
   rcases bL hb with hb | hb
   ·exact .inl hb
   ·cases hb⟩
 ·
  rename_i ee
  cases hl
  have hnf:codeAmong pos ((triples m).toArray).toList=none:=by
   show codeAmong pos (triples m)=_
   rw [pX,r2 ee];rfl
  refine aQo I M.nd T.hi T.loc hc1 hcode hC w2 (nV m) hnf hB T.d0 T.k0 T.ann T.qual fun f cc oc vs t ctv doc pm s' J k2 k3 hge frC=>?_
  have nPc:cc ≠ P:=fun z=>by rw [z,w2] at frC;cases frC
  have g1:Grow F H (upd F cc (.frz oc (.own 0))) (upd H cc (.frz oc (.own 0))):=Grow.both S.same frC
  have S1:=S.grow g1
  have et:(triples m).toArray ++ #[rawInt pos.line,rawInt pos.col,.ref cc]=(triples (m ++ [(pos,cc)])).toArray:=by
   rw [triples_append];simp
  rw [et,aGq nPc.symm] at J
  have o:Own X.K (upd F cc (.frz oc (.own 0))) (upd (upd H cc (.frz oc (.own 0))) P (.tbl (triples (m ++ [(pos,cc)])).toArray)) (.ext true (.tab x (l ++ [(pos,qual1)]))) (.ref P) [P]:=by
   unfold Own
   refine ⟨P,.tbl (triples (m ++ [(pos,cc)])).toArray,rfl,⟨⟨c,ht⟩,m ++ [(pos,cc)],rfl,by rw [List.map_append,List.map_append,hm];rfl,fun i p1 p2 q c1 e1 e2=>?_⟩,.inl ⟨rfl,by rw [aU nPc.symm];exact w1,bJ,rfl⟩⟩
   have hlen:m.length=l.length:=by have:=congrArg List.length hm;simpa using this
   by_cases hi:i<l.length
   ·rw [List.getElem?_append_left hi] at e1
    rw [List.getElem?_append_left (by omega)] at e2
    obtain ⟨oc',u',vs',t',z1,z2⟩:=hcf i p1 p2 q c1 e1 e2
    exact ⟨oc',u',vs',t',g1.fr _ _ z1,z2⟩
   ·rw [List.getElem?_append_right (by omega)] at e1
    rw [List.getElem?_append_right (by omega)] at e2
    have hi2:i - l.length=0:=by
     have:=(List.getElem?_eq_some_iff.mp e1).1
     simp at this;omega
    rw [hi2] at e1
    rw [hlen,hi2] at e2
    cases e1;cases e2
    exact ⟨oc,.own 0,vs,t,bJ,k2,k3⟩
  have S2:=S1.aYk (u:=.tbl (triples (m ++ [(pos,cc)])).toArray) eg q1 q2 List.mem_cons_self o (by simp) fun b hb=>.inl hb
  have S3:=S2.store (i:=i1) (of _ _ f) List.nodup_nil (by simp)
  refine h f _ cl fs p _ _ _ s' J C1 X1 ⟨doc,pm,ctv,cc,oc,.own 0,vs,t,by simp,by rw [aU nPc,bJ],k2,k3⟩ S3 (g1.evo.trans (xQ (zin P (by simp)) fun b hb=>?_)) ((oP.pins).trans (jU hf)) hge (lt J) fun b ob ub z=>?_
  ·rcases bL hb with hb | hb
   ·rcases bL hb with hb | hb
    ·exact hb
    ·exact zin b hb
   ·cases hb
  ·have n1:b ≠ P:=fun q=>by rw [q,w2] at z;cases z
   have n2:b ≠ cc:=fun q=>by rw [q,frC] at z;cases z
   rw [aU n1,aU n2];exact z
end
end VL
end
section
namespace VL
open PySem PySem.Spec PyProof.Rows L2
theorem aVl {ρ:Env} {gi:Nat} {d:D} (e:getD ρ gi=some d):∃kk:D->Slot,(∀e,(kk e).d?=some e)/\ρ[gi]?=some (kk d)/\∀(ρ':Env) (e e':D),ρ'[gi]?=some (kk e)->putD ρ' gi e'=ρ'.set gi (kk e'):=by
 unfold getD at e
 cases q:ρ[gi]? with
 | none=>rw [q] at e;cases e
 | some sl =>
  rw [q] at e
  have e:sl.d?=some d:=e
  cases sl with
  | un=>cases e
  | val d0=>cases e;exact ⟨.val,fun _=>rfl,rfl,fun ρ' a b h=>by unfold putD;rw [h]⟩
  | pin d0=>cases e;exact ⟨.pin,fun _=>rfl,rfl,fun ρ' a b h=>by unfold putD;rw [h]⟩
theorem aHv {ρ:Env} {gi i:Nat} {d d1 d2:D} {v:Slot} (e:getD ρ gi=some d) (ne:gi ≠ i):getD ((putD ρ gi d1).set i v) gi=some d1/\putD ((putD ρ gi d1).set i v) gi d2=(putD ρ gi d2).set i v:=by
 obtain ⟨kk,k1,k2,k3⟩:=aVl e
 have lt:=(List.getElem?_eq_some_iff.mp k2).1
 rw [k3 ρ d d1 k2,k3 ρ d d2 k2]
 have g:((ρ.set gi (kk d1)).set i v)[gi]?=some (kk d1):=by rw [List.getElem?_set_ne ne.symm,List.getElem?_set_self lt]
 refine ⟨by unfold getD;rw [g];exact k1 d1,?_⟩
 rw [k3 _ d1 d2 g,List.set_comm v (kk d2) ne.symm,List.set_set]
section
variable {X:Cx} {x xg name1 qual1 name2 qual2:Str} {params1 params2:Arguments} {body1 body2:List Stmt} {scope1 scope2:Scope} {pos1 pos2 pos pos' p:Pos} {gi i1 i2 k n:Nat} {js1 js2:T0} {fn1 fn2:Fn} {bG:List (Addr×Fn)->SemS} {e:Expr} {es:List Expr} {g:cH} {W:XW}
def xV (x:Str) (gi i1 i2:Nat) (js1 js2:T0) (p1:Pos) (q1:Str) (p2:Pos) (q2:Str) (G:List D->List D->R D):SemS:=fun ρ=>match getD ρ gi,cY js1 ρ,cY js2 ρ with
 | some (.ext true (.tab y l)),some c1,some c2=>(match aG2 p1 q1 l with
  | some l1=>(match aG2 p2 q2 l1 with
   | some l2=>if (decide (y=x) && free (putD ρ gi (.ext true (.tab x l1))) i1 && free (putD ρ gi (.ext true (.tab x l2))) i2 && c1.all isScal && c2.all isScal)=true then
    (match G c1 c2 with | .ok d=>if d.calm then .ret d (((putD ρ gi (.ext true (.tab x l2))).set i1 .un).set i2 .un) else .bad | _=>.bad) else .bad
   | none=>.bad)
  | none=>.bad)
 | _,_,_=>.bad
theorem yU {G:List D->List D->R D} {d0:D} (M:MkTx X x) (T1:DefTx X name1 qual1 params1 body1 scope1 i1 js1 k fn1) (T2:DefTx X name2 qual2 params2 body2 scope2 i2 js2 k fn2) (hne:i1 ≠ i2) (hg1:gi ≠ i1) (hg2:gi ≠ i2)
  (GT:StepFn X.prog X.w X.K X.mg X.base (k+1) xg n bG) (hr:Room (k+2) X.A) (ha:SA X (e::es) g) (hl:lA 2 g)
  (hgA:∀(ρ:Env) (f1 f2:Addr),ρ[i1]?=some (.val (.fn f1))->ρ[i2]?=some (.val (.fn f2))->g ρ=.ok [(d0,true),(.lst true [.fn f1,.fn f2],true)])
  (hG:∀(c1 c2:List D) (d:D) (f1 f2:Addr),G c1 c2=.ok d->f1 ≠ f2->∃os,fnOf n (bG [(f1,fW c1 fn1),(f2,fW c2 fn2)]) [d0.frz,.lst false [.fn f1,.fn f2]]=.ok (d,os))
  (hg:Gl X xg:=by rfl) (hdb:(xg == ("__debug__" : Str))=false:=by decide) (he:starEach (e::es) X.env=(false,eval e X.env)::starEach es X.env:=by rfl) (hpl:(backTo pos (starEach es X.env)).any (·.1)=false:=by rfl) :
  SSs X W [.FunctionDef name1 params1 body1 [] none [] scope1 none name1 pos1,.FunctionDef name2 params2 body2 [] none [] scope2 none name2 pos2,.Return (some (.Call (.Name xg p) (e::es) [] pos)) pos'] (xV x gi i1 i2 js1 js2 pos1 qual1 pos2 qual2 G):=by
 intro pins s σ H D' I h
 obtain ⟨ρ,F,fps,S,h⟩:=h
 unfold xV at h
 split at h
 case h_2=>exact h.elim
 rename_i y l c1 c2 eg e1 e2
 split at h
 case h_2=>exact h.elim
 rename_i l1 hl1
 split at h
 case h_2=>exact h.elim
 rename_i l2 hl2
 by_cases hc:(decide (y=x) && free (putD ρ gi (.ext true (.tab x l1))) i1 && free (putD ρ gi (.ext true (.tab x l2))) i2 && c1.all isScal && c2.all isScal)=true
 case neg=>rw [if_neg hc] at h;exact h.elim
 rw [if_pos hc] at h
 simp only [Bool.and_eq_true,decide_eq_true_iff] at hc
 obtain ⟨⟨⟨⟨hy,f1⟩,f2⟩,sc1⟩,sc2⟩:=hc
 subst hy
 split at h
 case h_2=>exact h.elim
 rename_i d eG
 by_cases hcalm:d.calm=true
 case neg=>rw [if_neg hcalm] at h;exact h.elim
 rw [if_pos hcalm] at h
 have h:jV X.K F H fps.flatten ρ σ D'.rt d (((putD ρ gi (.ext true (.tab y l2))).set i1 .un).set i2 .un):=h
 obtain ⟨cs1,a1,n1,b1⟩:=kN S js1 e1 sc1
 obtain ⟨cs2,a2,n2,b2⟩:=kN S js2 e2 sc2
 refine wpAny_execs_cons (thn (aRn (Q:=fun fl s1=>fl=Flow.next/\wpAny (model X.prog X.w) X.A (execs [.FunctionDef name2 params2 body2 [] none [] scope2 none name2 pos2,.Return (some (.Call (.Name xg p) (e::es) [] pos)) pos'] X.env) (SP X pins D') X.xe s1) M T1 I S eg hl1 f1 fun g1 o1 cl1 fs1 p1 F1 H1 fps1 s1 I1 C1 X1 M1 S1 ev1 pn1 ge1 lt1 sf1=>⟨rfl,?_⟩) fun fl s1 q=>?_)
 case refine_2=>obtain ⟨rfl,q⟩:=q;exact q
 obtain ⟨eg2,ep2⟩:=aHv (d1:=.ext true (.tab y l1)) (d2:=.ext true (.tab y l2)) (v:=.val (.fn g1)) eg hg1
 have f2':free (putD ((putD ρ gi (.ext true (.tab y l1))).set i1 (.val (.fn g1))) gi (.ext true (.tab y l2))) i2=true:=by
  rw [ep2,aEk hne];exact f2
 refine wpAny_execs_cons (thn (aRn (Q:=fun fl s2=>fl=Flow.next/\wpAny (model X.prog X.w) X.A (execs [.Return (some (.Call (.Name xg p) (e::es) [] pos)) pos'] X.env) (SP X pins D') X.xe s2) M T2 I1 S1 eg2 hl2 f2' fun g2 o2 cl2 fs2 p2 F2 H2 fps2 s2 I2 C2 X2 M2 S2 ev2 pn2 ge2 lt2 sf2=>⟨rfl,?_⟩) fun fl s2 q=>?_)
 case refine_2=>obtain ⟨rfl,q⟩:=q;exact q
 rw [ep2] at S2 pn2
 have hne12:g1 ≠ g2:=fun z=>by
  have ge2:s1.heap.objs.size<=g2:=ge2
  rw [<- z] at ge2
  exact absurd (Nat.lt_of_lt_of_le lt1 ge2) (Nat.lt_irrefl _)
 have lti:∀ {ρ:Env} {i:Nat},free ρ i=true->i < ρ.length:=fun {ρ i} h=>by
  unfold free at h
  cases q:ρ[i]? with
  | none=>rw [q] at h;cases h
  | some _=>exact (List.getElem?_eq_some_iff.mp q).1
 have len1:(putD ρ gi (.ext true (.tab y l1))).length=(putD ρ gi (.ext true (.tab y l2))).length:=by rw [fQ,fQ]
 have r1:(((putD ρ gi (.ext true (.tab y l2))).set i1 (.val (.fn g1))).set i2 (.val (.fn g2)))[i1]?=some (.val (.fn g1)):=by
  rw [List.getElem?_set_ne hne.symm,List.getElem?_set_self (by rw [<- len1];exact lti f1)]
 have r2:(((putD ρ gi (.ext true (.tab y l2))).set i1 (.val (.fn g1))).set i2 (.val (.fn g2)))[i2]?=some (.val (.fn g2)) :=
  List.getElem?_set_self (by rw [List.length_set];exact lti f2)
 obtain ⟨os,hfn⟩:=hG c1 c2 d g1 g2 eG hne12
 have hret:sv X.K W (bD (xOf (aO (fnOf n (bG [(g1,fW c1 fn1),(g2,fW c2 fn2)])) g))) D' ((σ.set i1 (some (.ref g1))).set i2 (some (.ref g2))) H2:=by
  refine ⟨_,F2,fps2,S2,?_⟩
  have ev:aO (fnOf n (bG [(g1,fW c1 fn1),(g2,fW c2 fn2)])) g (((putD ρ gi (.ext true (.tab y l2))).set i1 (.val (.fn g1))).set i2 (.val (.fn g2)))=.ok (d,true):=by
   unfold aO
   rw [hgA _ g1 g2 r1 r2]
   show ((fnOf n (bG [(g1,fW c1 fn1),(g2,fW c2 fn2)])) [d0.frz,.lst false [.fn g1,.fn g2]]).bind _=_
   rw [hfn];rfl
  have:bD (xOf (aO (fnOf n (bG [(g1,fW c1 fn1),(g2,fW c2 fn2)])) g)) (((putD ρ gi (.ext true (.tab y l2))).set i1 (.val (.fn g1))).set i2 (.val (.fn g2)))=.ret d (((putD ρ gi (.ext true (.tab y l2))).set i1 (.val (.fn g1))).set i2 (.val (.fn g2))):=by
   unfold bD xOf
   rw [ev];rfl
  rw [this]
  refine aFk hne ?_ r1 r2
  have h':(((((putD ρ gi (.ext true (.tab y l2))).set i1 (.val (.fn g1))).set i2 (.val (.fn g2))).set i1 .un).set i2 .un)=(((putD ρ gi (.ext true (.tab y l2))).set i1 .un).set i2 .un):=by
   rw [List.set_comm (Slot.val (D.fn g2)) Slot.un hne.symm,List.set_set,List.set_set]
  rw [h']
  exact jV.lift (ev1.trans ev2) (pn1.trans pn2) h
 have M1':=M1.more (more:=(g2,o2)::(g1,o1)::pins) (fun p hp=>List.mem_cons_of_mem _ hp) sf2
 refine wpAny_execs_cons (thn (vP (L:=[(g1,fW c1 fn1),(g2,fW c2 fn2)]) GT hr I2 (fun H' s' sm I' X' x1 x2 x3 x4 x5 x6 x7 x8 x9 hr' a fn hla=>?_) ha hl hret hg hdb he hpl) fun fl s3 q=>?_)
 ·have sg:∀(j:Nat) (v:V),j ≠ i1->j ≠ i2->σ[j]?=some (some v)->((σ.set i1 (some (.ref g1))).set i2 (some (.ref g2)))[j]?=some (some v):=fun j v n1 n2 e=>by
   rw [List.getElem?_set_ne n2.symm,List.getElem?_set_ne n1.symm];exact e
  have K1:=tK (fs:=fs1) (js:=js1) (cs:=cs1) I' (M1'.more (fun p hp=>hp) fun b o u z=>sm _ _ z) C1 M.fn (fun i j e=>by
   obtain ⟨v,q1,q2⟩:=b1 i j e
   exact ⟨v,q1,sg j v (lL C1 M.nd T1.hi T1.loc e).symm (lL C1 M.nd T2.hi T2.loc e).symm q2⟩) (by rw [n1,C1.len])
  have K2:=tK (fs:=fs2) (js:=js2) (cs:=cs2) I' (M2.more (fun p hp=>hp) fun b o u z=>sm _ _ z) C2 M.fn (fun i j e=>by
   obtain ⟨v,q1,q2⟩:=b2 i j e
   exact ⟨v,q1,sg j v (lL C2 M.nd T1.hi T1.loc e).symm (lL C2 M.nd T2.hi T2.loc e).symm q2⟩) (by rw [n2,C2.len])
  have fsE:X'.fs=frs X.stack:=by show frs X'.outer=_;rw [x7]
  rw [<- fsE] at K1 K2
  subst x8;subst x9
  rw [<- x1,<- x2,<- x3,<- x4,<- x5] at X1 X2
  rw [List.lookup_cons] at hla
  cases ea:a == g1 with
  | true =>
   rw [ea] at hla;cases hla
   rw [eq_of_beq ea]
   exact pG X1 a1 hr' x6 K1
  | false =>
   rw [ea] at hla
   dsimp only at hla
   rw [List.lookup_cons] at hla
   cases ea2:a == g2 with
   | true =>
    rw [ea2] at hla;cases hla
    rw [eq_of_beq ea2]
    exact pG X2 a2 hr' x6 K2
   | false=>rw [ea2] at hla;cases hla
 ·have back:∀ {σ':L2.St} {H':Hp},Inv X ((g2,o2)::(g1,o1)::pins) σ' H' s3->Inv X pins σ' H' s3:=fun J=>J.mP fun p hp=>J.pin p (List.mem_append_right _ (by simp [hp]))
  cases fl with
  | ret u =>
   obtain ⟨v,σ',H',J,rv,q⟩:=q
   exact ⟨v,σ',H',back J,rv,q⟩
  | next =>
   obtain ⟨σ',H',J,q⟩:=q
   exact wpAny_execs_nil ⟨σ',H',back J,q⟩
  | brk =>
   obtain ⟨σ',H',J,q⟩:=q
   exact ⟨σ',H',back J,q⟩
  | cont =>
   obtain ⟨σ',H',J,q⟩:=q
   exact ⟨σ',H',back J,q⟩
end
structure FnV (P:Program) (w:World) (K:FG) (mg:Y6) (base:Heap) (k:Nat) (x:Str) (a:Addr) (n:Nat) (fn:Fn):Prop where
 mgx:mg x=some (.ref a)
 ex:∃(fd:FuncData) (ps:List Str),FnOk P w K mg base (CX1 P w) k a fd ps (spV K n fn)/\Binds K fd ps []
 lk:∃oc od fd sl,K.lookup a=some ⟨oc,od,.func fd,sl⟩
theorem aT5 {P:Program} {w:World} {K:FG} {mg:Y6} {base:Heap} {x:Str} {st:Stmt} {k n:Nat} {fn:Fn} (F:FnAt K x st) (kb:K.In base) (nb:base.Ns mainGlobals mg) (G:Kn P w K mg base k x n fn):∃a,FnV P w K mg base k x a n fn:=by
 obtain ⟨f,fd,hf,F⟩:=F.ex
 obtain ⟨f',fd',ps,F',hm,_,hb⟩:=G.ex
 have e:=PySem.W.mg_of kb nb hf
 rw [hm] at e;cases e
 obtain ⟨oc,od,kV,doc,pm,an,cdv,ct,osl,rfl,lk,hcd⟩:=F.ex
 exact ⟨f,hm,⟨fd',ps,F',hb⟩,oc,od,_,osl,lk⟩
theorem aFn {X:Cx} {x:Str} {f:Addr} {p:Pos} (hg:Gl X x) (hm:X.mg x=some (.ref f)) (hdb:(x == ("__debug__" : Str))=false):PE X (.Name x p) (tC (.ref f)):=by
 intro pins s σ H Q I h
 exact kM I hg hm ⟨.ref f,H,I,rfl,h⟩ hdb
theorem aRv {X:Cx} {k n:Nat} {x:Str} {a:Addr} {fn:Fn} {p:Pos} (V:FnV X.prog X.w X.K X.mg X.base k x a n fn) (hg:Gl X x:=by rfl) (hdb:(x == ("__debug__" : Str))=false:=by decide):SE X (.Name x p) (vC (.fn a)) :=
 L2.PE.imp (aFn hg V.mgx hdb) fun σ H Q h=>by
  obtain ⟨ρ,F,fps,S,h⟩:=h
  exact h (.ref a) F H [] (Grow.refl S.same) (by unfold Own;exact ⟨rfl,rfl⟩) List.nodup_nil fun _ b hb=>by cases hb
section
variable {K:FG} {F H:Hp} {σ:L2.St} {ρ:Env} {fps:Y5}
theorem aD2 {Z:Y2} {P:VK} {d:D} {i1:Nat} {d1:D} (h:jV K F H Z ρ σ P d (ρ.set i1 .un)) (e1:ρ[i1]?=some (.val d1)):jV K F H Z ρ σ P d ρ:=by
 intro r σ' F' H' fps' fr ev S p o n k
 refine h r σ' F' H' fps' fr ev (S.unset i1) (fun j c e=>?_) o n k
 obtain ⟨⟨d',q1⟩,q2⟩:=p j c e
 have n1:i1 ≠ j:=by rintro rfl;rw [e1] at e;cases e
 exact ⟨⟨d',by rw [List.getElem?_set_ne n1];exact q1⟩,q2⟩
end
section
variable {X:Cx} {x xg xq name1 qual1:Str} {params1:Arguments} {body1:List Stmt} {scope1:Scope} {pos1 pos pos' p:Pos} {gi i1 k n:Nat} {js1:T0} {fn1 fn2:Fn} {bG:List (Addr×Fn)->SemS} {e:Expr} {es:List Expr} {g:cH} {W:XW} {fq:Addr}
def aA4 (x:Str) (gi i1:Nat) (js1:T0) (p1:Pos) (q1:Str) (G:List D->R D):SemS:=fun ρ=>match getD ρ gi,cY js1 ρ with
 | some (.ext true (.tab y l)),some c1=>(match aG2 p1 q1 l with
  | some l1=>if (decide (y=x) && free (putD ρ gi (.ext true (.tab x l1))) i1 && c1.all isScal)=true then
   (match G c1 with | .ok d=>if d.calm then .ret d ((putD ρ gi (.ext true (.tab x l1))).set i1 .un) else .bad | _=>.bad) else .bad
  | none=>.bad)
 | _,_=>.bad
theorem aHa {G:List D->R D} {d0:D} (M:MkTx X x) (T1:DefTx X name1 qual1 params1 body1 scope1 i1 js1 k fn1) (VQ:FnV X.prog X.w X.K X.mg X.base (k+1) xq fq 1 fn2)
  (GT:StepFn X.prog X.w X.K X.mg X.base (k+1) xg n bG) (hr:Room (k+2) X.A) (ha:SA X (e::es) g) (hl:lA 2 g)
  (hgA:∀(ρ:Env) (f1:Addr),ρ[i1]?=some (.val (.fn f1))->g ρ=.ok [(d0,true),(.lst true [.fn f1,.fn fq],true)])
  (hG:∀(c1:List D) (d:D) (f1:Addr),G c1=.ok d->f1 ≠ fq->∃os,fnOf n (bG [(f1,fW c1 fn1),(fq,fn2)]) [d0.frz,.lst false [.fn f1,.fn fq]]=.ok (d,os))
  (hg:Gl X xg:=by rfl) (hdb:(xg == ("__debug__" : Str))=false:=by decide) (he:starEach (e::es) X.env=(false,eval e X.env)::starEach es X.env:=by rfl) (hpl:(backTo pos (starEach es X.env)).any (·.1)=false:=by rfl) :
  SSs X W [.FunctionDef name1 params1 body1 [] none [] scope1 none name1 pos1,.Return (some (.Call (.Name xg p) (e::es) [] pos)) pos'] (aA4 x gi i1 js1 pos1 qual1 G):=by
 intro pins s σ H D' I h
 obtain ⟨ρ,F,fps,S,h⟩:=h
 unfold aA4 at h
 split at h
 case h_2=>exact h.elim
 rename_i y l c1 eg e1
 split at h
 case h_2=>exact h.elim
 rename_i l1 hl1
 by_cases hc:(decide (y=x) && free (putD ρ gi (.ext true (.tab x l1))) i1 && c1.all isScal)=true
 case neg=>rw [if_neg hc] at h;exact h.elim
 rw [if_pos hc] at h
 simp only [Bool.and_eq_true,decide_eq_true_iff] at hc
 obtain ⟨⟨hy,f1⟩,sc1⟩:=hc
 subst hy
 split at h
 case h_2=>exact h.elim
 rename_i d eG
 by_cases hcalm:d.calm=true
 case neg=>rw [if_neg hcalm] at h;exact h.elim
 rw [if_pos hcalm] at h
 have h:jV X.K F H fps.flatten ρ σ D'.rt d ((putD ρ gi (.ext true (.tab y l1))).set i1 .un):=h
 obtain ⟨cs1,a1,n1,b1⟩:=kN S js1 e1 sc1
 refine wpAny_execs_cons (thn (aRn (Q:=fun fl s1=>fl=Flow.next/\wpAny (model X.prog X.w) X.A (execs [.Return (some (.Call (.Name xg p) (e::es) [] pos)) pos'] X.env) (SP X pins D') X.xe s1) M T1 I S eg hl1 f1 fun g1 o1 cl1 fs1 p1 F1 H1 fps1 s1 I1 C1 X1 M1 S1 ev1 pn1 ge1 lt1 sf1=>⟨rfl,?_⟩) fun fl s1 q=>?_)
 case refine_2=>obtain ⟨rfl,q⟩:=q;exact q
 have hne12:g1 ≠ fq:=fun z=>by
  obtain ⟨oc,od,fd,sl,lk⟩:=VQ.lk
  have:=Heap.lt_size (I.kIn _ _ lk)
  rw [<- z] at this
  exact absurd (Nat.lt_of_lt_of_le this ge1) (Nat.lt_irrefl _)
 have lti:i1<(putD ρ gi (.ext true (.tab y l1))).length:=by
  unfold free at f1
  cases q:(putD ρ gi (.ext true (.tab y l1)))[i1]? with
  | none=>rw [q] at f1;cases f1
  | some _=>exact (List.getElem?_eq_some_iff.mp q).1
 have r1:((putD ρ gi (.ext true (.tab y l1))).set i1 (.val (.fn g1)))[i1]?=some (.val (.fn g1)):=List.getElem?_set_self lti
 obtain ⟨os,hfn⟩:=hG c1 d g1 eG hne12
 have hret:sv X.K W (bD (xOf (aO (fnOf n (bG [(g1,fW c1 fn1),(fq,fn2)])) g))) D' (σ.set i1 (some (.ref g1))) H1:=by
  refine ⟨_,F1,fps1,S1,?_⟩
  have ev:aO (fnOf n (bG [(g1,fW c1 fn1),(fq,fn2)])) g ((putD ρ gi (.ext true (.tab y l1))).set i1 (.val (.fn g1)))=.ok (d,true):=by
   unfold aO
   rw [hgA _ g1 r1]
   show ((fnOf n (bG [(g1,fW c1 fn1),(fq,fn2)])) [d0.frz,.lst false [.fn g1,.fn fq]]).bind _=_
   rw [hfn];rfl
  have:bD (xOf (aO (fnOf n (bG [(g1,fW c1 fn1),(fq,fn2)])) g)) ((putD ρ gi (.ext true (.tab y l1))).set i1 (.val (.fn g1)))=.ret d ((putD ρ gi (.ext true (.tab y l1))).set i1 (.val (.fn g1))):=by
   unfold bD xOf
   rw [ev];rfl
  rw [this]
  refine aD2 ?_ r1
  rw [List.set_set]
  exact jV.lift ev1 pn1 h
 refine wpAny_execs_cons (thn (vP (L:=[(g1,fW c1 fn1),(fq,fn2)]) GT hr I1 (fun H' s' sm I' X' x1 x2 x3 x4 x5 x6 x7 x8 x9 hr' a fn hla=>?_) ha hl hret hg hdb he hpl) fun fl s3 q=>?_)
 ·have sg:∀(j:Nat) (v:V),j ≠ i1->σ[j]?=some (some v)->(σ.set i1 (some (.ref g1)))[j]?=some (some v):=fun j v n1 e=>by
   rw [List.getElem?_set_ne n1.symm];exact e
  have K1:=tK (fs:=fs1) (js:=js1) (cs:=cs1) I' (M1.more (fun p hp=>hp) fun b o u z=>sm _ _ z) C1 M.fn (fun i j e=>by
   obtain ⟨v,q1,q2⟩:=b1 i j e
   exact ⟨v,q1,sg j v (lL C1 M.nd T1.hi T1.loc e).symm q2⟩) (by rw [n1,C1.len])
  have fsE:X'.fs=frs X.stack:=by show frs X'.outer=_;rw [x7]
  rw [<- fsE] at K1
  subst x8;subst x9
  rw [<- x1,<- x2,<- x3,<- x4,<- x5] at X1
  obtain ⟨fd,ps,VF,hb⟩:=VQ.ex
  have lk:=VQ.lk
  rw [<- x1,<- x2,<- x3,<- x4,<- x5] at VF
  rw [<- x3] at hb lk
  rw [List.lookup_cons] at hla
  cases ea:a == g1 with
  | true =>
   rw [ea] at hla;cases hla
   rw [eq_of_beq ea]
   exact pG X1 a1 hr' x6 K1
  | false =>
   rw [ea] at hla
   dsimp only at hla
   rw [List.lookup_cons] at hla
   cases ea2:a == fq with
   | true =>
    rw [ea2] at hla;cases hla
    rw [eq_of_beq ea2]
    exact aJp VF hr' hb lk
   | false=>rw [ea2] at hla;cases hla
 ·have back:∀ {σ':L2.St} {H':Hp},Inv X ((g1,o1)::pins) σ' H' s3->Inv X pins σ' H' s3:=fun J=>J.mP fun p hp=>J.pin p (List.mem_append_right _ (by simp [hp]))
  cases fl with
  | ret u =>
   obtain ⟨v,σ',H',J,rv,q⟩:=q
   exact ⟨v,σ',H',back J,rv,q⟩
  | next =>
   obtain ⟨σ',H',J,q⟩:=q
   exact wpAny_execs_nil ⟨σ',H',back J,q⟩
  | brk =>
   obtain ⟨σ',H',J,q⟩:=q
   exact ⟨σ',H',back J,q⟩
  | cont =>
   obtain ⟨σ',H',J,q⟩:=q
   exact ⟨σ',H',back J,q⟩
end
end VL
end
section
namespace VL
open PySem PySem.Spec PyProof.Rows L2
open Sem (wp)
section
variable {prog:Program} {w:World} {A:Around} {E:Y9} {s:Shared}
end
section
variable {prog:Program} {w:World} {A:Around} {E:Y9} {s:Shared}
end
end VL
namespace VL
open PySem PySem.Spec PyProof.Rows L2
section
variable {X:Cx} {pins:Y8} {σ:L2.St} {H:Hp} {s:Shared}
end
section
variable {K:FG} {F H:Hp} {σ:L2.St}
end
end VL
end
section
namespace VL
open PySem PySem.Spec PyProof.Rows L2
open Sem (wp)
section
variable {X:Cx} {a b e:Expr} {pos:Pos}
theorem any_range {ns:List Bool}:((List.range ns.length).any fun i=>ns.getD i false)=ns.any id:=by
 induction ns with
 | nil=>rfl
 | cons n r ih =>
  rw [List.length_cons,List.range_succ_eq_map,List.any_cons,List.any_map,List.any_cons,<- ih]
  rfl
theorem aE3 (hc:X.calm=true):qI X (.builtin "any") (fun xs H Q=>∃(p:Addr) (ns:List Bool),xs=[.ref p]/\SqL X.K H p (ns.map V.bl)/\Q (.bl (ns.any id)) H):=by
 intro pins s σ H xs us Q I r h
 obtain ⟨p,ns,rfl,hq,q⟩:=h
 obtain ⟨u,rfl,ru⟩:=vals1 r
 cases ru
 obtain ⟨its,rv,pl,_⟩:=I.list hq
 have hl:=rv.length
 rw [List.length_map] at hl
 refine call_any_walk (wpAny_pyIter_list pl.isList ?_)
 have hne:p ≠ s.heap.objs.size:=fun z=>by
  obtain ⟨o,ho,_⟩:=pl.isList
  exact absurd (Heap.lt_size ho) (by rw [z];exact Nat.lt_irrefl _)
 refine ⟨s.heap.objs.size,_,_,its.toArray.size,_,_,fun i=>ns.getD i false,rfl,Walks.list (A:=X.A.in1) (show X.A.in1.handled=none from I.ok.hd hc) s.heap.objs.size p hne its.toArray,⟨⟨_,Heap.get?_push_size _ rfl,rfl,rfl⟩,pl.isList.push _⟩,fun i v s' Q' E' hP hQ=>?_,fun h' tk hk=>?_⟩
 ·have hP:its[i]?=some v:=by simpa using hP
  have hi:i<ns.length:=by rw [hl];exact (List.getElem?_eq_some_iff.mp hP).1
  obtain ⟨u',e',ru'⟩:=rv.get (i:=i) (x:=V.bl ns[i]) (by rw [List.getElem?_map,List.getElem?_eq_getElem hi];rfl)
  rw [hP] at e';cases e'
  cases ru'
  have:ns.getD i false=ns[i]:=by simp [List.getD,List.getElem?_eq_getElem hi]
  have hQ:Q' (ns.getD i false) s':=hQ
  rw [this] at hQ
  exact wpAny_truthy_bool hQ
 ·rw [List.size_toArray,<- hl,any_range]
  refine ⟨.bl _,H,?_,rfl,q⟩
  refine I.kept (t':=tk) fun b o e=>hk b o (fun z=>?_) (Heap.get?_push_of_some _ e)
  have z':b=s.heap.objs.size:=by simpa using z
  exact absurd (Heap.lt_size e) (by rw [z'];exact Nat.lt_irrefl _)
def rS:List (D×Bool)->R (D×Bool)
 | [(.lst _ ds,_)]=>(match kQ ds with | some ns=>.ok (.bl (ns.any id),true) | none=>.bad) | _=>.bad
theorem aLx {K:FG}:OpA K rS (fun xs H Q=>∃(p:Addr) (ns:List Bool),xs=[.ref p]/\SqL K H p (ns.map V.bl)/\Q (.bl (ns.any id)) H):=by
 intro F0 H0 F H xs vs fa Q gr a n k h
 match xs,h,a with
 | [(.lst o ds,b)],h,a =>
  unfold Args at a
  obtain ⟨v,r,fp,f2,e,o1,n1,t,w⟩:=a
  unfold Args at t
  obtain ⟨p,ys,fq,e1,q1,r1,_⟩:=Own.lst gr.inn o1
  have h:(match kQ ds with | some ns=>R.ok (D.bl (ns.any id),true) | none=>R.bad).holds (EPost K F0 H0 Q):=h
  cases q:kQ ds with
  | none=>rw [q] at h;exact h.elim
  | some ns =>
   rw [q] at h
   rw [qF ds q r1] at q1
   exact ⟨p,ns,by rw [e,t.1,e1],q1,EPost.fD gr h rfl⟩
theorem aU1 {f:aR} {p:Pos} (hc:X.calm=true) (hm:X.mg "any" = none) (ha:SE X a f) (hg:Gl X "any" :=by rfl) (hs:starEach [a] X.env=(false,eval a X.env)::starEach [] X.env:=by rfl) (hv:bootBuiltins "any" = some (.builtin "any"):=by decide +kernel):SE X (.Call (.Name "any" p) [a] [] pos) (vCB rS (aA f aE)) :=
 zY (aE3 hc) aLx hm hv (bZ ha aH hs) hg (by decide) (by decide) hs
def bBw:List (D×Bool)->R (D×Bool)
 | [(.int i,_)]=>.ok (.int i,true) | [(.bl b,_)]=>.ok (.int (if b then 1 else 0),true) | _=>.bad
end
end VL
end
section
namespace VL
open PySem PySem.Spec PyProof.Rows L2
section
variable {X:Cx} {W:XW} {e a b:Expr} {es:List Expr} {pos:Pos}
theorem aCo {CX:CXT} {k:Nat} {f:Addr} {fd:FuncData} {ps:List Str} {sp:Sp} {dvs:List V} {ds:Y1} {E:XK} {pins:Y8} {σ:L2.St} {H:Hp} {s:Shared} {Q:VK} {us:Y1} {vs:List V} (F:FnOk X.prog X.w X.K X.mg X.base CX k f fd ps sp) (hr:Room k X.A) (hb:Binds X.K fd ps ds) (hd:Vals dvs ds)
  (hx:∀e s',CX X.stack H s E e s'->X.xe e s') (I:L2.Inv X pins σ H s) (r:Vals vs us) (h:sp (vs++dvs) H Q E):wpAny (model X.prog X.w) X.A (call (.ref f) us) (EP X pins σ Q) X.xe s:=by
 have r2:Vals (vs++dvs) (us++ds):=r.append hd
 have hl:(us++ds).length=ps.length:=by rw [<- r2.length];exact F.len _ _ _ _ h
 refine wpAny_call (codeAny_mono (F.run X.A X.stack s H ⟨us,[]⟩ (us++ds) (vs++dvs) Q E hr I.aOs (hb s us I.kIn hl) r2 h) fun r s' hq=>?_)
 cases r with
 | error e=>exact hx e s' hq
 | ok fl =>
  cases fl with
  | ret u=>exact I.after hq
  | next=>exact False.elim hq
  | brk=>exact False.elim hq
  | cont=>exact False.elim hq
theorem aH4 {k n:Nat} {x:Str} {fn:Fn} {ta:TA} {p:Pos} (L:Lk X W) (F:Kn X.prog X.w X.K X.mg X.base k x n fn) (hr:Room k X.A) (ha:PA X (e::es) ta) (hg:Gl X x:=by rfl) (hdb:(x == ("__debug__" : Str))=false:=by decide)
  (he:starEach (e::es) X.env=(false,eval e X.env)::starEach es X.env:=by rfl) (hpl:(backTo pos (starEach es X.env)).any (·.1)=false:=by rfl):PE X (.Call (.Name x p) (e::es) [] pos) (xR (spV X.K n fn) (wE X.K W) ta):=by
 obtain ⟨f,fd,ps,F,hm,hk,hb⟩:=F.ex
 intro pins s σ H Q I h
 refine wpAny_Call_Name_kw (kM I hg hm ?_ hdb)
 refine PySem.W.callWith_K (h₀:=X.base) I.ok.mod.kin hk (thn (ha pos pins s σ H _ I h) fun us s1 ⟨vs,H1,I1,r,q⟩=>⟨I1.kIn,?_⟩) he hpl
 exact aCo F hr hb .nil (fun e s' hq=>L.call pins σ H1 s1 e s' I1 hq) I1 r q
theorem dD {k n:Nat} {x:Str} {fn:Fn} {g:cH} {p:Pos} (L:Lk X W) (F:Kn X.prog X.w X.K X.mg X.base k x n fn) (hr:Room k X.A) (ha:SA X (e::es) g) (hl:lA n g) (hg:Gl X x:=by rfl) (hdb:(x == ("__debug__" : Str))=false:=by decide)
  (he:starEach (e::es) X.env=(false,eval e X.env)::starEach es X.env:=by rfl) (hpl:(backTo pos (starEach es X.env)).any (·.1)=false:=by rfl):SX X W (.Call (.Name x p) (e::es) [] pos) (bO fn g) :=
 (aH4 L F hr ha hg hdb he hpl).imp fun _ _ _ h=>aDa hl h
end
section
variable {K:FG} {W:XW} {F H:Hp} {σ:L2.St} {ρ:Env} {D':Ends}
end
section
variable {X:Cx} {W:XW} {e a:Expr} {es:List Expr} {pos:Pos}
end
end VL
end
section
namespace VL
open PySem PySem.Spec PyProof.Rows L2
section
variable {K:FG} {W:XW} {F H F' H' F1 H1:Hp} {Z Z' Z1:Y2} {σ σ1:L2.St} {ρ ρ1:Env} {D':Ends}
theorem lend {is:T0} {ds:List D} {fps:Y5} (S:Sim K F H σ ρ fps) (hnd:fI is=true) (eg:cY is ρ=some ds):∃(vs:List V) (fc:Y5),kB K F H ds vs fc/\fc.flatten.Nodup/\(∀b∈fc.flatten,b∈fps.flatten)/\vs.length=is.length /\
  ∀(ys:List D) (F' H':Hp) (fps':Y5) (fr:Y2),Evo F H fc.flatten F' H' fps'.flatten->Same F' H'->kB K F' H' ys vs fps'->fps'.flatten.Nodup->(∀b∈fr,b ∉ fps'.flatten/\(b∈fc.flatten\/H b=none)) ->
   Evo F H fps.flatten F' H' (eM is ds fps' fps).flatten/\Sim K F' H' σ (cA is ds ys ρ) (eM is ds fps' fps)/\kT ρ (cA is ds ys ρ)/\∀b∈fr,b ∉ (eM is ds fps' fps).flatten/\(b∈fps.flatten\/H b=none):=by
 obtain ⟨vs,t1,l1,l2,g⟩:=mO S is eg
 let fc:Y5:=is.map fun i=>(fps[i]?).getD []
 have fcg:∀(k i:Nat),is[k]?=some i->fc[k]?=some ((fps[i]?).getD []):=fun k i e=>by
  show (is.map _)[k]?=_
  rw [List.getElem?_map,e];rfl
 have isget:∀(k:Nat) (f:Y2),fc[k]?=some f->∃i,is[k]?=some i/\f=(fps[i]?).getD []:=fun k f e=>by
  have e:(is.map fun i=>(fps[i]?).getD [])[k]?=some f:=e
  rw [List.getElem?_map] at e
  cases q:is[k]? with
  | none=>rw [q] at e;cases e
  | some i=>rw [q] at e;exact ⟨i,rfl,(Option.some.inj e).symm⟩
 have nodupget:∀(is:T0),fI is=true->∀(k k' i:Nat),is[k]?=some i->is[k']?=some i->k=k':=by
  intro is
  induction is with
  | nil=>intro _ k k' i e;simp at e
  | cons a r ih =>
   intro hn k k' i e1 e2
   obtain ⟨q1,q2⟩:=nM hn
   cases k with
   | zero =>
    simp at e1;subst e1
    cases k' with
    | zero=>rfl
    | succ k'=>exact absurd (List.mem_of_getElem? (by simpa using e2)) q1
   | succ k =>
    cases k' with
    | zero=>simp at e2;subst e2;exact absurd (List.mem_of_getElem? (by simpa using e1)) q1
    | succ k'=>rw [ih q2 k k' i (by simpa using e1) (by simpa using e2)]
 have infc:∀b∈fc.flatten,∃k i f,is[k]?=some i/\fps[i]?=some f/\b∈f:=fun b hb=>by
  obtain ⟨l,hl,hbl⟩:=List.mem_flatten.mp hb
  obtain ⟨k,hk⟩:=List.mem_iff_getElem?.mp hl
  obtain ⟨i,e1,e2⟩:=isget k l hk
  cases q:fps[i]? with
  | none=>rw [q] at e2;subst e2;cases hbl
  | some f=>rw [q] at e2;subst e2;exact ⟨k,i,_,e1,q,hbl⟩
 have sub:∀b∈fc.flatten,b∈fps.flatten:=fun b hb=>by
  obtain ⟨k,i,f,_,e,hb⟩:=infc b hb
  exact List.mem_flatten.mpr ⟨f,List.mem_of_getElem? e,hb⟩
 have fcn:fc.flatten.Nodup:=by
  refine nodup_of_apart (fun k f e=>?_) fun k k' f f' a e1 e2 ne ha=>?_
  ·obtain ⟨i,_,q⟩:=isget k f e
   cases q2:fps[i]? with
   | none=>rw [q2] at q;subst q;exact List.nodup_nil
   | some g=>rw [q2] at q;subst q;exact S.sub q2
  ·obtain ⟨i,p1,q1⟩:=isget k f e1
   obtain ⟨i',p2,q2⟩:=isget k' f' e2
   have ne2:i ≠ i':=fun z=>ne (nodupget is hnd k k' i p1 (by rw [z];exact p2))
   cases r1:fps[i]? with
   | none=>rw [r1] at q1;subst q1;cases ha
   | some g =>
    rw [r1] at q1;subst q1
    cases r2:fps[i']? with
    | none=>rw [r2] at q2;subst q2;intro z;cases z
    | some g'=>rw [r2] at q2;subst q2;exact apart S.nd r1 r2 ne2 ha
 refine ⟨vs,fc,⟨by omega,by show (is.map _).length=_;simp [l2],fun k d e=>?_⟩,fcn,sub,l1,fun ys F' H' fps' fr ev hs o2 nd2 kr=>?_⟩
 ·obtain ⟨i,v,fp,q1,q2,q3,q4,q5⟩:=g k d e
  exact ⟨v,fp,q2,by rw [fcg k i q1,q4];rfl,q5⟩
 have ly:ys.length=is.length:=by rw [o2.1,l1]
 have lf':fps'.length=is.length:=by rw [o2.2.1,ly]
 have BG:=fun j=>rZ is (ds:=ys) (fs:=fps') (L:=fps) j hnd l2 ly lf' eg S.lf
 have away:∀(j:Nat) (f:Y2) (a:Addr),(∀(k:Nat) (c:D),is[k]?=some j->ds[k]?=some c->c.calm=true)->fps[j]?=some f->a∈f->a ∉ fc.flatten:=fun j f a hc hf ha hz=>by
  obtain ⟨k,i,f',e1,e2,hb⟩:=infc a hz
  by_cases hij:i=j
  ·subst hij
   obtain ⟨c,ec⟩:∃c,ds[k]?=some c:=⟨ds[k]'(by rw [l2];exact (List.getElem?_eq_some_iff.mp e1).1),by simp⟩
   obtain ⟨i',v,fp,q1,q2,q3,q4,q5⟩:=g k c ec
   rw [e1] at q1;cases q1
   rw [hf] at q4;cases q4
   rw [Own.dU c (hc k c e1 ec) q5] at ha;cases ha
  ·exact apart S.nd e2 hf hij hb ha
 have still:∀(j:Nat) (f:Y2) (a:Addr),(∀(k:Nat) (c:D),is[k]?=some j->ds[k]?=some c->c.calm=true)->fps[j]?=some f->a∈f->F' a=none/\H' a=H a:=fun j f a hc hf ha=>by
  have hn:=away j f a hc hf ha
  obtain ⟨z1,z2⟩:=S.zone a (List.mem_flatten.mpr ⟨f,List.mem_of_getElem? hf,ha⟩)
  constructor
  ·cases q:F' a with
   | none=>rfl
   | some o =>
    rcases ev.new a o q with w | w | w
    ·rw [z1] at w;cases w
    ·exact absurd w z2
    ·exact absurd w hn
  ·cases q:H a with
   | none=>exact absurd q z2
   | some o=>exact ev.keep a o q hn
 have slotOf:∀(j:Nat) (f:Y2),(eM is ds fps' fps)[j]?=some f->(∃k,is[k]?=some j/\fps'[k]?=some f)\/((∀(k:Nat) (c:D),is[k]?=some j->ds[k]?=some c->c.calm=true)/\fps[j]?=some f):=fun j f e=>by
  rcases BG j with ⟨k,c,d,f',s,b1,b2,b3,b4,b5,b6,b7,b8⟩ | ⟨b1,b2,b3⟩
  ·rw [b8] at e;cases e;exact .inl ⟨k,b1,b5⟩
  ·rw [b3] at e;exact .inr ⟨b1,e⟩
 have inN:∀b∈(eM is ds fps' fps).flatten,b∈fps'.flatten\/∃(j:Nat) (f:Y2),(∀(k:Nat) (c:D),is[k]?=some j->ds[k]?=some c->c.calm=true)/\fps[j]?=some f/\b∈f:=fun b hb=>by
  obtain ⟨l,hl,hbl⟩:=List.mem_flatten.mp hb
  obtain ⟨j,hj⟩:=List.mem_iff_getElem?.mp hl
  rcases slotOf j l hj with ⟨k,_,q⟩ | ⟨q1,q2⟩
  ·exact .inl (List.mem_flatten.mpr ⟨l,List.mem_of_getElem? q,hbl⟩)
  ·exact .inr ⟨j,l,q1,q2,hbl⟩
 have cross:∀(j:Nat) (f:Y2) (a:Addr),(∀(k:Nat) (c:D),is[k]?=some j->ds[k]?=some c->c.calm=true)->fps[j]?=some f->a∈f->(a∈fc.flatten\/H a=none)->False:=fun j f a hc hf ha w=>by
  rcases w with w | w
  ·exact away j f a hc hf ha w
  ·exact (S.zone a (List.mem_flatten.mpr ⟨f,List.mem_of_getElem? hf,ha⟩)).2 w
 refine ⟨⟨ev.fr,fun b o e hb=>ev.keep b o e fun z=>hb (sub b z),ev.dom,fun b o e=>?_,fun b hb=>?_⟩,⟨hs,by rw [lP];exact S.ls,by rw [pY,lP];exact S.lf,fun j s d e1 e2=>?_,nodup_of_apart (fun j f e=>?_) fun j j' f f' a e1 e2 ne ha=>?_,fun b hb=>?_⟩,(fun j d e=>?_),fun b hb=>⟨fun z=>?_,(kr b hb).2.imp_left (sub b)⟩⟩
 ·rcases ev.new b o e with w | w | w
  ·exact .inl w
  ·exact .inr (.inl w)
  ·exact .inr (.inr (sub b w))
 ·rcases inN b hb with w | ⟨j,f,_,w2,w3⟩
  ·exact (ev.zone b w).imp_left (sub b)
  ·exact .inl (List.mem_flatten.mpr ⟨f,List.mem_of_getElem? w2,w3⟩)
 ·rcases BG j with ⟨k,c,d',f',s',b1,b2,b3,b4,b5,b6,b7,b8⟩ | ⟨b1,b2,b3⟩
  ·have e1':(cA is ds ys ρ)[j]?=some s:=e1
   rw [b7] at e1'
   have ed:d=d':=by
    have e1':=Option.some.inj e1'
    subst e1'
    cases s'<;>exact (Option.some.inj e2).symm
   subst ed
   obtain ⟨v,fp,q1,q2,q3⟩:=o2.2.2 k d b4
   rw [b5] at q2;cases q2
   obtain ⟨i',v',fp',p1,p2,p3,p4,p5⟩:=g k c b2
   rw [b1] at p1;cases p1
   rw [p2] at q1;cases q1
   exact ⟨_,_,p3,b8,q3⟩
  ·have e1':(cA is ds ys ρ)[j]?=some s:=e1
   rw [b2] at e1'
   obtain ⟨v,f,q1,q2,q3⟩:=S.at_ j s d e1' e2
   exact ⟨v,f,q1,by rw [b3];exact q2,Own.keep ev.fr d (fun a ha=>still j f a b1 q2 ha) q3⟩
 ·rcases slotOf j f e with ⟨k,_,q⟩ | ⟨_,q⟩
  ·exact (List.sublist_flatten_of_mem (List.mem_of_getElem? q)).nodup nd2
  ·exact S.sub q
 ·rcases slotOf j f e1 with ⟨k,p,q⟩ | ⟨p,q⟩
  ·rcases slotOf j' f' e2 with ⟨k',p',q'⟩ | ⟨p',q'⟩
   ·have nk:k ≠ k':=fun z=>ne (by subst z;rw [p] at p';exact Option.some.inj p')
    exact apart nd2 q q' nk ha
   ·intro hb
    exact cross j' f' a p' q' hb (ev.zone a (List.mem_flatten.mpr ⟨f,List.mem_of_getElem? q,ha⟩))
  ·rcases slotOf j' f' e2 with ⟨k',p',q'⟩ | ⟨p',q'⟩
   ·intro hb
    exact cross j f a p q ha (ev.zone a (List.mem_flatten.mpr ⟨f',List.mem_of_getElem? q',hb⟩))
   ·exact apart S.nd q q' ne ha
 ·rcases inN b hb with w | ⟨j,f,w1,w2,w3⟩
  ·obtain ⟨l,hl,hbl⟩:=List.mem_flatten.mp w
   obtain ⟨k,hk⟩:=List.mem_iff_getElem?.mp hl
   obtain ⟨d,hd⟩:∃d,ys[k]?=some d:=⟨ys[k]'(by rw [<- o2.2.1];exact (List.getElem?_eq_some_iff.mp hk).1),by simp⟩
   obtain ⟨v,fp,q1,q2,q3⟩:=o2.2.2 k d hd
   rw [hk] at q2;cases q2
   obtain ⟨z1,xs,z2⟩:=Own.zone d q3 b hbl
   exact ⟨z1,by rw [z2];simp⟩
  ·obtain ⟨z1,z2⟩:=still j f b w1 w2 w3
   exact ⟨z1,by rw [z2];exact (S.zone b (List.mem_flatten.mpr ⟨f,List.mem_of_getElem? w2,w3⟩)).2⟩
 ·show ∃d',(cA is ds ys ρ)[j]?=some (.pin d')
  rcases BG j with ⟨k,c,d',f',s',b1,b2,b3,b4,b5,b6,b7,b8⟩ | ⟨b1,b2,b3⟩
  ·rw [e] at b6;cases b6
   exact ⟨d',b7⟩
  ·exact ⟨d,by rw [b2];exact e⟩
 ·rcases inN b z with w | ⟨j,f,w1,w2,w3⟩
  ·exact (kr b hb).1 w
  ·exact cross j f b w1 w2 w3 (kr b hb).2
end
end VL
end
section
namespace VL
open PySem PySem.Spec PyProof.Rows L2
def rL (K:FG) (x:Str):V:=match PySem.W.tabIn K x with | some (_,a)=>.ref a | none=>.non
def jB:List Str->List D->Bool
 | [],[]=>true
 | x::xs,.ext _ (.tab y _)::ds=>decide (y=x) && jB xs ds
 | _,_=>false
theorem rR:∀ {gx:List Str} {ds:List D},jB gx ds=true->ds.length=gx.length
 | [],[],_=>rfl
 | [],_::_,h=>by simp [jB] at h
 | x::xs,[],h=>by simp [jB] at h
 | x::xs,d::ds,h=>by
  cases d with
  | ext o t =>
   cases t with
   | tab y k =>
    have h:(decide (y=x) && jB xs ds)=true:=h
    rw [Bool.and_eq_true] at h
    simp [rR h.2]
   | exc _=>cases h
   | dK _=>cases h
   | dT _=>cases h
  | non=>cases h
  | bl _=>cases h
  | int _=>cases h
  | str _=>cases h
  | tup _=>cases h
  | lst _ _=>cases h
  | fn _=>cases h
theorem aKg {K:FG} {F H:Hp} {o:Bool} {y:Str} {k:List (Pos×Str)} {v:V} {fp:Y2} (h:Own K F H (.ext o (.tab y k)) v fp):v=rL K y:=by
 unfold Own at h
 obtain ⟨a,u,ev,tg,_⟩:=h
 have tg:aLi K F a y k u:=tg
 obtain ⟨⟨c,hc⟩,_⟩:=tg
 unfold rL
 rw [ev,hc]
theorem yZ {K:FG}:∀ {gx:List Str} {ds:List D},jB gx ds=true->∀(i:Nat) (d:D),ds[i]?=some d->∃o y k,gx[i]?=some y/\d=.ext o (.tab y k)
 | [],[],_,i,d,e=>by simp at e
 | [],_::_,h,_,_,_=>by simp [jB] at h
 | x::xs,[],h,_,_,_=>by simp [jB] at h
 | x::xs,c::ds,h,i,d,e=>by
  cases c with
  | ext o t =>
   cases t with
   | tab y k =>
    have h:(decide (y=x) && jB xs ds)=true:=h
    rw [Bool.and_eq_true,decide_eq_true_iff] at h
    obtain ⟨h1,h2⟩:=h
    subst h1
    cases i with
    | zero=>simp at e;subst e;exact ⟨o,y,k,rfl,rfl⟩
    | succ i=>simpa using yZ (K:=K) h2 i d (by simpa using e)
   | exc _=>cases h
   | dK _=>cases h
   | dT _=>cases h
  | non=>cases h
  | bl _=>cases h
  | int _=>cases h
  | str _=>cases h
  | tup _=>cases h
  | lst _ _=>cases h
  | fn _=>cases h
section
variable {K:FG} {W:XW} {F H F' H' F1 H1:Hp} {σ:L2.St} {ρ:Env} {D':Ends}
theorem kB.gh {gx:List Str} {ds:List D} {vs:List V} {fps:Y5} (o:kB K F H ds vs fps) (h:jB gx ds=true):vs=gx.map (rL K):=by
 apply List.ext_getElem?
 intro i
 have l1:=o.1
 have l2:=rR h
 rcases Nat.lt_or_ge i ds.length with hi | hi
 ·obtain ⟨v,fp,q1,q2,q3⟩:=o.2.2 i ds[i] (List.getElem?_eq_getElem hi)
  obtain ⟨ob,y,k,e1,e2⟩:=yZ (K:=K) h i ds[i] (List.getElem?_eq_getElem hi)
  rw [e2] at q3
  rw [q1,List.getElem?_map,e1,aKg q3];rfl
 ·rw [List.getElem?_eq_none (by omega),List.getElem?_eq_none (by rw [List.length_map];omega)]
theorem kB.app {ds es:List D} {vs us:List V} {f g:Y5} (a:kB K F H ds vs f) (b:kB K F H es us g):kB K F H (ds++es) (vs++us) (f++g):=by
 refine ⟨by rw [List.length_append,List.length_append,a.1,b.1],by rw [List.length_append,List.length_append,a.2.1,b.2.1],fun i d e=>?_⟩
 by_cases hi:i<ds.length
 ·rw [List.getElem?_append_left hi] at e
  obtain ⟨v,fp,q1,q2,q3⟩:=a.2.2 i d e
  exact ⟨v,fp,by rw [List.getElem?_append_left (by rw [<- a.1];exact hi)];exact q1,by rw [List.getElem?_append_left (by rw [a.2.1];exact hi)];exact q2,q3⟩
 ·rw [List.getElem?_append_right (by omega)] at e
  obtain ⟨v,fp,q1,q2,q3⟩:=b.2.2 _ d e
  exact ⟨v,fp,by rw [List.getElem?_append_right (by rw [<- a.1];omega),<- a.1];exact q1,by rw [List.getElem?_append_right (by rw [a.2.1];omega),a.2.1];exact q2,q3⟩
theorem kB.drop {ds:List D} {vs us:List V} {f:Y5} {n:Nat} (o:kB K F H ds (vs++us) f) (hn:vs.length=n):kB K F H (ds.drop n) us (f.drop n):=by
 have l:=o.1
 rw [List.length_append] at l
 refine ⟨by rw [List.length_drop];omega,by rw [List.length_drop,List.length_drop,o.2.1],fun i d e=>?_⟩
 rw [List.getElem?_drop] at e
 obtain ⟨v,fp,q1,q2,q3⟩:=o.2.2 _ d e
 exact ⟨v,fp,by rw [List.getElem?_append_right (by omega)] at q1;rw [<- q1];congr 1;omega,by rw [List.getElem?_drop];exact q2,q3⟩
theorem aDu {α:Type} (n:Nat) (ls:List (List α)):((ls.drop n).flatten).Sublist ls.flatten:=by
 have e:ls.flatten=(ls.take n).flatten++(ls.drop n).flatten:=by rw [<- List.flatten_append,List.take_append_drop]
 rw [e];exact List.sublist_append_right _ _
def aGh (g:cH) (js:T0) (gx:List Str):cH:=fun ρ=>(g ρ).bind fun xs=>match cY js ρ with
 | some gds=>if jB gx gds then .ok (xs++gds.map fun d=>(d,false)) else .bad
 | none=>.bad
theorem Args.app:∀(xs:List (D×Bool)) {ys:List (D×Bool)} {vs us:List V} {f g:Y2},Args K F H xs vs f->Args K F H ys us g->Args K F H (xs++ys) (vs++us) (f++g)
 | [],ys,vs,us,f,g,h,k=>by unfold Args at h;rw [h.1,h.2];exact k
 | x::xs,ys,vs,us,f,g,h,k=>by
  unfold Args at h
  obtain ⟨v,r,fp,f2,e,o,n,t,w⟩:=h
  subst e
  show Args K F H (x::(xs++ys)) _ _
  unfold Args
  refine ⟨v,r++us,fp,f2++g,rfl,o,n,Args.app xs t k,?_⟩
  rcases w with ⟨e,w⟩ | ⟨e,w⟩
  ·exact .inl ⟨e,by rw [w,List.append_assoc]⟩
  ·exact .inr ⟨e,by rw [w]⟩
theorem Args.read:∀(ds:List D) {vs:List V} {fps:Y5},kB K F H ds vs fps->(∀f∈fps,f.Nodup)->Args K F H (ds.map fun d=>(d,false)) vs []
 | [],vs,fps,o,_=>by
  unfold Args
  have:=o.1
  exact ⟨List.length_eq_zero_iff.mp (by simpa using this.symm),rfl⟩
 | d::ds,vs,fps,o,hn=>by
  obtain ⟨v,fp,q1,q2,q3⟩:=o.2.2 0 d rfl
  have l1:=o.1
  have l2:=o.2.1
  cases vs with
  | nil=>simp at q1
  | cons v' vs =>
   cases fps with
   | nil=>simp at q2
   | cons fp' fps =>
    simp at q1 q2;subst q1;subst q2
    rw [List.map_cons]
    unfold Args
    refine ⟨v',vs,fp',[],rfl,q3,hn _ List.mem_cons_self,Args.read ds ⟨by simpa using l1,by simpa using l2,fun i d' e=>?_⟩ (fun f hf=>hn f (List.mem_cons_of_mem _ hf)),.inr ⟨rfl,rfl⟩⟩
    simpa using o.2.2 (i+1) d' (by simpa using e)
theorem aR7 {g:cH} {js:T0} {gx:List Str} {Q Q':List V->Hp->Prop} (h:tvA K (aGh g js gx) σ H Q') (k:∀vs H1,Q' (vs++gx.map (rL K)) H1->Q vs H1):tvA K g σ H Q:=by
 obtain ⟨ρ,F,fps,S,h⟩:=h
 refine ⟨ρ,F,fps,S,?_⟩
 unfold aGh at h
 cases eg:g ρ with
 | exc _=>rw [eg] at h;exact h.elim
 | bad=>rw [eg] at h;exact h.elim
 | ok xs =>
  rw [eg] at h
  have h:((match cY js ρ with | some gds=>if jB gx gds=true then R.ok (xs++gds.map fun d=>(d,false)) else .bad | none=>.bad):R (List (D×Bool))).holds (zN K F H Q'):=h
  cases ed:cY js ρ with
  | none=>rw [ed] at h;exact h.elim
  | some gds =>
   rw [ed] at h
   have h:(if jB gx gds=true then R.ok (xs++gds.map fun d=>(d,false)) else .bad:R (List (D×Bool))).holds (zN K F H Q'):=h
   by_cases hk:jB gx gds=true
   ·rw [if_pos hk] at h
    have h:zN K F H Q' (xs++gds.map fun d=>(d,false)):=h
    intro vs F1 H1 fa g1 a1 n1 k1
    have S1:=S.grow g1
    obtain ⟨gv,_,_,_,hg⟩:=mO S1 js ed
    have oL:kB K F1 H1 gds gv (js.map fun i=>(fps[i]?).getD []):=⟨by omega,by rw [List.length_map];omega,fun i d e=>by
     obtain ⟨j,v,fp,q1,q2,q3,q4,q5⟩:=hg i d e
     exact ⟨v,fp,q2,by rw [List.getElem?_map,q1];simp [q4],q5⟩⟩
    have egv:=oL.gh hk
    subst egv
    refine k vs H1 (h _ F1 H1 fa g1 ?_ n1 k1)
    have:=Args.app xs a1 (Args.read gds oL fun f hf=>?_)
    ·rw [List.append_nil] at this;exact this
    ·obtain ⟨i,_,rfl⟩:=List.mem_map.mp hf
     cases q:fps[i]? with
     | none=>exact List.nodup_nil
     | some f=>exact S.sub q
   ·rw [if_neg hk] at h;exact h.elim
def spG (K:FG) (n:Nat) (gx:List Str) (fn:Fn):Sp:=fun vs H Q E=>vs.length=n/\spV K (n+gx.length) fn (vs++gx.map (rL K)) H Q E
theorem aN6 {n:Nat} {g:cH} {js:T0} {gx:List Str} (hl:lA n g):lA (n+gx.length) (aGh g js gx):=fun ρ xs e=>by
 unfold aGh at e
 cases eg:g ρ with
 | exc _=>rw [eg] at e;cases e
 | bad=>rw [eg] at e;cases e
 | ok ys =>
  rw [eg] at e
  have e:(match cY js ρ with | some gds=>if jB gx gds=true then R.ok (ys++gds.map fun d=>(d,false)) else .bad | none=>.bad)=R.ok xs:=e
  split at e
  ·rename_i gds ed
   by_cases hk:jB gx gds=true
   ·rw [if_pos hk] at e;cases e
    simp [hl ρ ys eg,rR hk]
   ·rw [if_neg hk] at e;cases e
  ·cases e
theorem aS0 {n:Nat} {gx:List Str} {fn:Fn} {vs:List V} {Q:VK} {E:XK} (h:spV K (n+gx.length) fn ((vs++gx.map (rL K)) ++ []) H Q E):spG K n gx fn (vs ++ []) H Q E:=by
 rw [List.append_nil] at h ⊢
 have:=h.1
 simp at this
 exact ⟨this,h⟩
def bT (fn:Fn) (g:cH) (js:T0) (gx:List Str):gZ:=fun ρ=>match g ρ,cY js ρ with
 | .ok xs,some gds=>if (jB gx gds && fI js && D.bS (xs.map (·.1)))=true then
   (match fn (xs.map (·.1)++D.frzs gds) with
    | .exc c=>.exc c
    | _=>(match fn (xs.map (·.1)++gds) with | .ok y=>.ok (y.1,true,cA js gds (y.2.drop xs.length) ρ) | _=>.bad)) else .bad
 | _,_=>.bad
theorem aHw {fn:Fn} {g:cH} {n:Nat} {js:T0} {gx:List Str} {Q:VK} (hl:lA n g) (h:tx K W (bT fn g js gx) σ H Q):xR (spG K n gx fn) (wE K W) (tvA K g) σ H Q:=by
 obtain ⟨ρ,F,fps,S,h⟩:=h
 unfold bT at h
 split at h
 case h_2=>exact h.elim
 rename_i xs gds eg ed
 by_cases hc:(jB gx gds && fI js && D.bS (xs.map (·.1)))=true
 case neg=>rw [if_neg hc] at h;exact h.elim
 rw [if_pos hc] at h
 rw [Bool.and_eq_true,Bool.and_eq_true] at hc
 obtain ⟨⟨hk,hnd⟩,hcalm⟩:=hc
 split at h
 ·rename_i c ef
  have h2:tx K W (bO fn (aGh g js gx)) σ H Q:=by
   refine ⟨ρ,F,fps,S,?_⟩
   unfold bO aGh
   rw [eg]
   show ((match (match cY js ρ with | some gds=>if jB gx gds=true then R.ok (xs++gds.map fun d=>(d,false)) else .bad | none=>.bad:R (List (D×Bool))) with
    | .ok xs=>(match fn (D.frzs (xs.map (·.1))) with | .ok y=>if (xs.all aS || isScal y.1)=true then R.ok (y.1,true,ρ) else .bad | .exc c=>.exc c | .bad=>.bad) | _=>.bad):R (D×Bool×Env)).hx _ _
   rw [ed]
   show ((match (if jB gx gds=true then R.ok (xs++gds.map fun d=>(d,false)) else .bad:R (List (D×Bool))) with
    | .ok xs=>(match fn (D.frzs (xs.map (·.1))) with | .ok y=>if (xs.all aS || isScal y.1)=true then R.ok (y.1,true,ρ) else .bad | .exc c=>.exc c | .bad=>.bad) | _=>.bad):R (D×Bool×Env)).hx _ _
   rw [if_pos hk]
   show ((match fn (D.frzs ((xs++gds.map fun d=>(d,false)).map (·.1))) with | .ok y=>if ((xs++gds.map fun d=>(d,false)).all aS || isScal y.1)=true then R.ok (y.1,true,ρ) else .bad | .exc c=>.exc c | .bad=>.bad):R (D×Bool×Env)).hx _ _
   have e3:D.frzs ((xs++gds.map fun d=>(d,false)).map (·.1))=xs.map (·.1)++D.frzs gds:=by
    rw [D.rH,List.map_append,List.map_append,<- D.rH,D.frzs_calm _ hcalm,List.map_map,D.rH]
    congr 1
    simp
   rw [e3,ef]
   exact h
  have h3:=aDa (aN6 (js:=js) (gx:=gx) hl) h2
  exact aR7 h3 fun vs H1 q=>aS0 q
 ·split at h
  case h_2=>exact h.elim
  rename_i y ef
  have hy:nA K F H fps.flatten ρ σ Q (y.1,true,cA js gds (y.2.drop xs.length) ρ):=h
  refine ⟨ρ,F,fps,S,?_⟩
  rw [eg]
  intro vs F1 H1 fa g1 a1 n1 k1
  have S1:=S.grow g1
  obtain ⟨gv,fc,oL,ndc,subc,lv,back⟩:=lend S1 hnd ed
  have egv:=oL.gh hk
  subst egv
  have hkp:xs.all aS=true:=by
   rw [List.all_eq_true]
   intro x hx
   rw [D.uI,List.all_eq_true] at hcalm
   unfold aS
   rw [hcalm x.1 (List.mem_map_of_mem hx),Bool.or_true]
  have oA0:=Args.aJz xs hkp a1
  have efa:fa=[]:=aJ.dU _ hcalm oA0
  subst efa
  have oA:=jK oA0
  have lvs:vs.length=xs.length:=(Args.length xs a1).symm
  have lxs:=hl ρ xs eg
  have flat:(List.replicate (xs.map (·.1)).length ([]:Y2)++fc).flatten=fc.flatten:=by simp
  rw [List.append_nil]
  refine ⟨by rw [lvs,lxs],by rw [List.length_append,List.length_map,lvs,lxs],F1,_,_,S1.same,oA.app oL,by rw [flat];exact ndc,fun b hb=>S1.zone b (subc b (by rw [flat] at hb;exact hb)),?_⟩
  rw [flat,ef]
  intro r F' H' fps' fr ev hs o2 nd2 or nr kr
  have sub:=aDu xs.length fps'
  obtain ⟨e1,S2,p2,k2⟩:=back (y.2.drop xs.length) F' H' (fps'.drop xs.length) fr ⟨ev.fr,ev.keep,ev.dom,ev.new,fun b hb=>ev.zone b (sub.subset hb)⟩ hs (o2.drop lvs) (sub.nodup nd2) fun b hb=>⟨fun z=>(kr b hb).1 (sub.subset z),(kr b hb).2⟩
  exact hy r F' H' _ fr (g1.evo.trans e1) S2 p2 or nr fun _ b hb=>⟨(k2 b hb).1,(k2 b hb).2.imp_right g1.all.free⟩
end
structure KnG (P:Program) (w:World) (K:FG) (mg:Y6) (base:Heap) (k:Nat) (x:Str) (n:Nat) (gx:List Str) (fn:Fn):Prop where
 ex:∃(f:Addr) (fd:FuncData) (ps:List Str),FnOk P w K mg base (CX1 P w) k f fd ps (spG K n gx fn)/\mg x=some (.ref f)/\PySem.W.keepIn K (.ref f)=true/\Binds K fd ps []
section
variable {X:Cx} {W:XW} {e a b:Expr} {es:List Expr} {pos:Pos}
theorem kA (js:T0) {k n:Nat} {x:Str} {gx:List Str} {fn:Fn} {g:cH} {p:Pos} (L:Lk X W) (F:KnG X.prog X.w X.K X.mg X.base k x n gx fn) (hr:Room k X.A) (ha:SA X (e::es) g) (hl:lA n g) (hg:Gl X x:=by rfl) (hdb:(x == ("__debug__" : Str))=false:=by decide)
  (he:starEach (e::es) X.env=(false,eval e X.env)::starEach es X.env:=by rfl) (hpl:(backTo pos (starEach es X.env)).any (·.1)=false:=by rfl):SX X W (.Call (.Name x p) (e::es) [] pos) (bT fn g js gx):=by
 obtain ⟨f,fd,ps,F,hm,hk,hb⟩:=F.ex
 have:PE X (.Call (.Name x p) (e::es) [] pos) (xR (spG X.K n gx fn) (wE X.K W) (tvA X.K g)):=by
  intro pins s σ H Q I h
  refine wpAny_Call_Name_kw (kM I hg hm ?_ hdb)
  refine PySem.W.callWith_K (h₀:=X.base) I.ok.mod.kin hk (thn (ha pos pins s σ H _ I h) fun us s1 ⟨vs,H1,I1,r,q⟩=>⟨I1.kIn,?_⟩) he hpl
  exact aCo F hr hb .nil (fun e s' hq=>L.call pins σ H1 s1 e s' I1 hq) I1 r q
 exact this.imp fun _ _ _ h=>aHw hl h
end
section
variable {P:Program} {w:World} {K:FG} {mg:Y6} {base:Heap}
theorem aGp {X:Cx} {pins:Y8} {H:Hp} {s:Shared} {vs gs:List V} (I:L2.Inv X pins (L2.start X.N vs) H s) (hl:vs.length+gs.length<=X.N.length) (hv:∀(i:Nat) (y:Str),vs.length<=i->i<vs.length+gs.length->X.N[i]?=some y->¬ Vis X.env.scope y):L2.Inv X pins (L2.start X.N (vs++gs)) H s:=by
 obtain ⟨m,hm,hl2⟩:=I.loc
 refine ⟨I.ok,I.os,I.bare,I.base,⟨m,hm,fun i y v e1 e2 e3=>?_⟩,I.cell,I.free,I.freeC,I.pin,I.hok,?_⟩
 ·have hi:i<vs.length:=by
   rcases Nat.lt_or_ge i vs.length with h | h
   ·exact h
   ·rcases Nat.lt_or_ge i (vs.length+gs.length) with h2 | h2
    ·exact absurd e3 (hv i y h h2 e1)
    ·unfold L2.start at e2
     rw [List.getElem?_append_right (by simp;omega),List.getElem?_replicate] at e2
     split at e2
     ·cases e2
     ·cases e2
  refine hl2 i y v e1 ?_ e3
  unfold L2.start at e2 ⊢
  rw [List.getElem?_append_left (by simp;omega),List.map_append,List.getElem?_append_left (by simp;omega)] at e2
  rw [List.getElem?_append_left (by simp;omega)];exact e2
 ·have:=I.len
  unfold L2.start at this ⊢
  simp at this ⊢
  omega
theorem xI {x:Str} {st:Stmt} {N ps:List Str} {k n np:Nat} {gx:List Str} {body:SemS} (F:FnAt K x st) (kb:K.In base) (nb:base.Ns mainGlobals mg) (S:FnScope N ps (aG st)) (hN:N.length=n) (hnp:ps.length=np) (hk:np+gx.length<=n) (hv:∀(i:Nat) (y:Str),np<=i->i<np+gx.length->N[i]?=some y->¬ Vis (aG st) y)
  (hb:∀(kV doc pm:Value) (an:Option Addr) (cdv ct:Value) (us:Y1),us.length=ps.length->bindArgs (PySem.W.fnOf x x (eK st) (cL st) (aG st) .none kV doc pm an cdv ct) ⟨us,[]⟩=pure (ps.zip us))
  (hbody:∀(f:Addr) (cdv:Value) (A:Around) (outer:List PySem.Env) (s:Shared) (H:Hp) (E:XK),(∀c P,PySem.W.tabIn K x=some (c,P)->cdv=.ref c)->Room k (A.deeper (envOfC x (aG st) s.heap.objs.size f cdv)) ->
   SSs (gE (CX1 P w) P w K mg base N x (aG st) f cdv A outer s H E) (wOf K E) (cL st) body):KnG P w K mg base (k+1) x np gx (fnOf n body):=by
 obtain ⟨f,fd,hf,F⟩:=F.ex
 refine ⟨f,fd,ps,?_,PySem.W.mg_of kb nb hf,F.kp,F.binds hb⟩
 obtain ⟨oc,od,kV,doc,pm,an,cdv,ct,osl,rfl,lk,hcd⟩:=F.ex
 have hcode:∀c P,PySem.W.tabIn K x=some (c,P)->cdv=.ref c:=fun c P e=>by
  unfold PySem.W.tabIn at e
  rw [hf] at e
  dsimp only at e
  rw [lk] at e
  dsimp only at e
  split at e
  ·split at e
   ·split at e
    ·cases e;first | rfl | assumption
    ·cases e
   ·cases e
  ·cases e
 refine aI4 lk hcd S (fun vs H Q E h=>h.1.trans hnp.symm) fun A outer s H vs Q E hr hsp=>?_
 refine ⟨fun D σ H'=>σ=L2.start N vs/\sv K (wOf K E) body D (L2.start N (vs++gx.map (rL K))) H',fun pins s' σ H' D I h=>?_,rfl,zK hN hk hsp.2⟩
 obtain ⟨rfl,h⟩:=h
 have lv:vs.length=np:=hsp.1
 exact hbody f cdv A outer s H E hcode hr pins s' _ H' D (aGp (X:=gE (CX1 P w) P w K mg base N x (aG st) f cdv A outer s H E) I (by show vs.length+_<=N.length;simp;omega) fun i y h1 h2 e=>hv i y (by omega) (by simp at h2;omega) e) h
end
end VL
end
section
namespace VL
open PySem PySem.Spec PyProof.Rows L2
section
variable {P:Program} {w:World} {K:FG} {mg:Y6} {h:Heap}
end
def aH2 (o:Obj):Bool:=match o.data,o.cls with
 | .seq _ _,.type t=>t == "list"
 | _,_=>false
def oG (K:FG):Bool:=K.all fun q=>!aH2 q.2
theorem aI2:∀ {K:FG} {a:Addr} {o:Obj},K.lookup a=some o->(a,o)∈K
 | [],_,_,e=>by cases e
 | (b,u)::K,a,o,e=>by
  rw [List.lookup_cons] at e
  cases q:a == b with
  | true =>
   rw [q] at e
   have hb:a=b:=by simpa using q
   cases e;rw [hb];exact List.mem_cons_self
  | false=>rw [q] at e;exact List.mem_cons_of_mem _ (aI2 e)
theorem aBr {K:FG} (h:oG K=true) {a:Addr} {o:Obj} (e:K.lookup a=some o):aH2 o=false:=by
 unfold oG at h
 rw [List.all_eq_true] at h
 have:=h (a,o) (aI2 e)
 simpa using this
theorem sT {K:FG} {F H:Hp}:∀ns:Y0,aJ K F H (ns.map D.int) (ns.map V.int) []
 | []=>⟨rfl,rfl⟩
 | n::ns=>⟨.int n,ns.map V.int,[],[],rfl,⟨rfl,rfl⟩,sT ns,rfl⟩
theorem aJj {P:Program} {w:World} {H:Hp} {s:Shared} {e:Value} {s':Shared} (h:CX1 P w [] H s (fun _ _ _=>False) e s'):False:=by
 obtain ⟨_,_,_,_,_,_,_,_,_,_,_,_,_,z⟩:=h
 exact z
end VL
end
section
namespace VL
open PySem PySem.Spec PyProof.Rows L2
theorem aFc {P:Program} {w:World} {K:FG} {mg mb:Y6} {CX:CXT} {k:Nat} {fa a:Addr} {fd:FuncData} {x:Str} {sp:Sp} {s₁:Shared} {vs:Y1} {ns:Y0} {tabs:List (Addr×Addr)}
  (KX:K.In s₁.heap) (hns:s₁.heap.Ns mainGlobals mg) (hb:s₁.heap.Ns builtinsNs mb) (hbb:∀x:Str,x ≠ "__name__" ->mb x=bootBuiltins x) (hlim:s₁.heap.NoLimit) (hg:s₁.gens = #[])
  (hbm:∃bm ob,mg "__builtins__" = some (.ref bm)/\bm ≠ builtinsNs/\s₁.heap.get? bm=some ob/\ob.cls=.type "module" /\ob.dict=some builtinsNs/\ob.data=.plain)
  (ha:s₁.heap.get? a=some { cls:=.type "list",data:=.seq vs.toArray }) (hi:IntsAre vs ns) (hl:ns.length<=sizeLine) (hr:Room k callerA)
  (hT:PySem.W.TabsAt tabs s₁.heap) (hnt:PySem.W.noTabs K=true) (hnl:oG K=true)
  (F:∀base:Heap,K.In base->base.Ns mainGlobals mg->(∀q∈tabs,PySem.W.CodeHd base q.1 q.2/\base.BuiltinsAt mg q.2)->FnOk P w K mg base CX k fa fd [x] sp) (hbind:∀(s:Shared) (u:Value),BindsTo s fd ⟨[u],[]⟩ [(x,u)])
  (hsp:∀H:Hp,Rd H a (.lst (ns.map V.int))->(∀q∈tabs,H q.2=some (.tbl #[]))->a ∉ tabs.map (·.2)->sp [.ref a] H (fun v _=>v=.bl true) fun _ _ _=>False)
  (hCX:∀H e s',CX [] H s₁ (fun _ _ _=>False) e s'->False) :
  codeAny (model P w) callerA (.call (.ref fa) ⟨[.ref a],[]⟩) (fun r s'=>r=.ok (.ret (.bool true))/\OldK s₁.heap s'.heap/\s'.os=s₁.os/\AllBare s'.gens) s₁:=by
 have rv:=wB hi
 have lenV:=hi.length
 have aT:a ∉ tabs.map (·.2):=fun z=>by
  obtain ⟨q,hq,e⟩:=List.mem_map.mp z
  have:=(hT q hq).2
  rw [e,ha] at this;cases this
 let H:Hp:=fun b=>if b=a then some (.frz { cls:=.type "list",data:=.seq vs.toArray } (.lst (ns.map V.int))) else if b∈tabs.map (·.2) then some (.tbl #[]) else none
 have Ha:H a=some (.frz { cls:=.type "list",data:=.seq vs.toArray } (.lst (ns.map V.int))):=if_pos rfl
 have Ht:∀q∈tabs,H q.2=some (.tbl #[]):=fun q hq=>by
  have hm:q.2∈tabs.map (·.2):=List.mem_map_of_mem hq
  have hne:q.2 ≠ a:=fun z=>aT (z ▸ hm)
  show (if q.2=a then _ else if q.2∈tabs.map (·.2) then _ else _)=_
  rw [if_neg hne,if_pos hm]
 have Hc:∀b u,H b=some u->(b=a/\u=.frz { cls:=.type "list",data:=.seq vs.toArray } (.lst (ns.map V.int)))\/((∃c,(c,b)∈tabs)/\u=.tbl #[]):=fun b u e=>by
  have e:(if b=a then some (HO.frz { cls:=.type "list",data:=.seq vs.toArray } (.lst (ns.map V.int))) else if b∈tabs.map (·.2) then some (.tbl #[]) else none)=some u:=e
  by_cases hb:b=a
  ·rw [if_pos hb] at e;cases e;exact .inl ⟨hb,rfl⟩
  ·rw [if_neg hb] at e
   by_cases hm:b∈tabs.map (·.2)
   ·rw [if_pos hm] at e;cases e
    obtain ⟨q,hq,rfl⟩:=List.mem_map.mp hm
    exact .inr ⟨⟨q.1,hq⟩,rfl⟩
   ·rw [if_neg hm] at e;cases e
 have hok:HOk P w H s₁.heap:=fun b u e=>by
  rcases Hc b u e with ⟨rfl,rfl⟩ | ⟨⟨c,hq⟩,rfl⟩
  ·exact ⟨ha,by rw [List.length_map];exact hl,vs,_,rv,ha⟩
  ·exact (hT _ hq).2
 have free:∀ {b:Addr} {o:Obj},s₁.heap.get? b=some o->o.cls ≠ .none->aH2 o=false->H b=none:=fun {b o} e h1 h2=>by
  cases q:H b with
  | none=>rfl
  | some u =>
   rcases Hc b u q with ⟨rfl,_⟩ | ⟨⟨c,hq⟩,_⟩
   ·rw [ha] at e;cases e;cases h2
   ·have:=(hT _ hq).2
    rw [e] at this;cases this;exact absurd rfl h1
 have base_of:∀ {b:Addr} {o:Obj},s₁.heap.get? b=some o->H b=none->(sA s₁.heap H).get? b=some o:=fun e n=>aHk e n
 have noA:∀ {b:Addr} {o:Obj} {es:Array DictEntry} {ep:Nat},s₁.heap.get? b=some o->o.data=.dict es ep->H b=none:=fun {b o es ep} e d=>by
  cases q:H b with
  | none=>rfl
  | some u =>
   rcases Hc b u q with ⟨rfl,_⟩ | ⟨⟨c,hq⟩,_⟩
   ·rw [ha] at e;cases e
    have d':Data.seq vs.toArray _=Data.dict es ep:=d
    cases d'
   ·have:=(hT _ hq).2
    rw [e] at this;cases this;cases d
 have nsK:∀ {b:Addr} {m:Y6},s₁.heap.Ns b m->(sA s₁.heap H).Ns b m:=fun {b m} ⟨o,es,ep,e,d,r⟩=>⟨o,es,ep,base_of e (noA e d),d,r⟩
 have hKb:K.In (sA s₁.heap H):=fun b o e=>base_of (KX b o e) (by
  cases q:H b with
  | none=>rfl
  | some u =>
   rcases Hc b u q with ⟨rfl,_⟩ | ⟨⟨c,hq⟩,_⟩
   ·have e1:=KX _ _ e
    rw [ha] at e1;cases e1
    have:=aBr hnl e
    cases this
   ·have e1:=KX _ _ e
    have:=(hT _ hq).2
    rw [e1] at this;cases this
    have h2:=List.all_eq_true.mp hnt _ (PySem.W.mem_of_lookupK e)
    cases h2)
 have hM:Mod K mg (sA s₁.heap H):=⟨hKb,nsK hns,⟨mb,nsK hb,hbb⟩,let ⟨mc,h1,h2⟩:=hlim;⟨mc,nsK h1,h2⟩⟩
 have e0:Env0 P w K mg (sA s₁.heap H) callerA [] s₁ H:=⟨rfl,hM,fun b o e=>aLw e,Nat.le_of_eq (aDp _ _),trivial,fun b hb=>absurd (show b∈([]:Y2) from hb) (by simp),hok,.of_eq hg⟩
 have hBT:∀q∈tabs,PySem.W.CodeHd (sA s₁.heap H) q.1 q.2/\(sA s₁.heap H).BuiltinsAt mg q.2:=fun q hq=>by
  obtain ⟨o,ws,file,tf,flags,tg,inF,text,tt,e1,r1,r2,r3,r4,r5,r6,r7,r8,hne⟩:=(hT q hq).1
  obtain ⟨bm,ob,b1,b2,b3,b4,b5,b6⟩:=hbm
  refine ⟨⟨o,ws,file,tf,flags,tg,inF,text,tt,base_of e1 (free e1 (by rw [r1];simp) ?_),r1,r2,r3,r4,r5,r6,r7,r8,hne⟩,bm,ob,b1,b2,fun z=>?_,fun z=>?_,base_of b3 (free b3 (by rw [b4];simp) ?_),b4,b5,b6⟩
  ·unfold aH2;rw [r1];split<;>simp_all
  ·obtain ⟨o',es,ep,e,hd,_⟩:=hns
   rw [z,e] at b3;cases b3
   rw [hd] at b6;cases b6
  ·have:=(hT q hq).2
   rw [<- z,b3] at this;cases this;cases b4
  ·unfold aH2;rw [b4];split<;>simp_all
 refine codeAny_mono ((F _ hKb (nsK hns) hBT).run callerA [] s₁ H ⟨[.ref a],[]⟩ [.ref a] [.ref a] _ _ hr e0 (hbind s₁ (.ref a)) (.cons rfl .nil) (hsp H (.inr ⟨_,Ha⟩) Ht aT)) fun r s' h=>?_
 cases r with
 | error e=>exact (hCX H e s' h).elim
 | ok fl =>
  cases fl with
  | next=>exact False.elim h
  | brk=>exact False.elim h
  | cont=>exact False.elim h
  | ret u =>
   obtain ⟨v,H',os,bare,un,hok',r',q⟩:=h
   have q':v=.bl true:=q
   subst q'
   obtain rfl:u=Value.bool true:=r'
   refine ⟨rfl,⟨fun b o e=>?_,fun b o e=>?_⟩,os,bare⟩
   ·cases q:H b with
    | none=>exact .inl (un.keep b o e q (by intro z;exact absurd (show b∈([]:Y2) from z) (by simp)) (by simp))
    | some u =>
     rcases Hc b u q with ⟨rfl,rfl⟩ | ⟨⟨c,hq⟩,rfl⟩
     ·have z2:=un.frzs _ _ _ q
      obtain ⟨e1,_⟩:=hok _ _ q
      obtain ⟨e2,_⟩:=hok' _ _ z2
      rw [e] at e1;cases e1
      exact .inl e2
     ·obtain ⟨more,z2⟩:=un.tbls _ _ q
      have e2:s'.heap.get? b=some (PySem.W.tabObj (#[]++more)):=hok' _ _ z2
      have e1:=(hT _ hq).2
      rw [e] at e1;cases e1
      exact .inr (.inl ⟨((hT _ hq).1.tab (hT _ hq).2).isCodeTable,rfl,#[],more,rfl,e2⟩)
   ·exact un.there b o e (by simp)
theorem aS3 {l:PySem.W.OpenLaw} {n k:Nat} {q:Program} {loose:List Str} {XP:(Str->Option Value)->Heap->Prop} {YP:World->Heap->Prop} {d:DefRec} {K:Params->FG} {CX:World->CXT} {sp:World->Sp} {x:Str} {tabs:List (Addr×Addr)}
  (hn:l.most=some n) (hn2:n<=sizeLine) (hdf:d.params.defaults=[]) (hr:Room k callerA)
  (hY:∀(w:World) (h:Heap),YP w h->(K w.params).In h/\∀q∈tabs,h.get? q.2=some (PySem.W.tabObj #[]))
  (hC:∀p:Params,∀q∈tabs,PySem.W.codeHdIn (K p) q.1 q.2=true) (hnt:∀p:Params,PySem.W.noTabs (K p)=true) (hnl:∀p:Params,oG (K p)=true)
  (F:∀(w:World) (mg:Y6) (fa:Addr) (h:Heap),(K w.params).In h->h.Ns mainGlobals mg->mg d.name=some (.ref fa) ->
   ∃fd:FuncData,(∀(s:Shared) (u:Value),BindsTo s fd ⟨[u],[]⟩ [(x,u)]) /\
    ∀base:Heap,(K w.params).In base->base.Ns mainGlobals mg->(∀q∈tabs,PySem.W.CodeHd base q.1 q.2/\base.BuiltinsAt mg q.2)->FnOk l.prog w (K w.params) mg base (CX w) k fa fd [x] (sp w))
  (hsp:∀(w:World) (H:Hp) (a:Addr) (ns:Y0),ns.length<=n->Rd H a (.lst (ns.map V.int))->(∀q∈tabs,H q.2=some (.tbl #[]))->a ∉ tabs.map (·.2)->sp w [.ref a] H (fun v _=>v=.bl true) fun _ _ _=>False)
  (hCX:∀(w:World) (H:Hp) (s:Shared) (e:Value) (s':Shared),CX w [] H s (fun _ _ _=>False) e s'->False) :
  PySem.W.WalkO q loose XP YP l.row.toRowW d [] (fun f vs=>PySem.call f vs):=by
 refine Att.attach_call hn hdf fun w s₀ s₁ mg mb fa o pm cd doc a vs ns G Y ho hd hcd hmg hobj hints hlen hg=>?_
 obtain ⟨KX,hT⟩:=hY w _ Y
 obtain ⟨fd,hb,hF⟩:=F w mg fa _ KX G.T.g hmg
 exact aFc KX G.T.g G.T.b G.T.builtins G.T.nolimit hg G.T.bmain hobj hints (Nat.le_trans hlen hn2) hr (fun q hq=>⟨PySem.W.codeHd_of_K KX (hC _ q hq),hT q hq⟩) (hnt _) (hnl _) hF hb (fun H h1 h2 h3=>hsp w H a ns hlen h1 h2 h3) fun H e s'=>hCX w H s₁ e s'
theorem aJw {K:FG} {fn:Fn} {ns:Y0} {gx:List Str} {tabs:List (Addr×Addr)} (hg:gx.map (PySem.W.tabIn K)=tabs.map some) (hnd:(tabs.map (·.2)).Nodup)
  (hf:∃os,fn (.lst false (ns.map D.int)::gx.map fun x=>.ext true (.tab x []))=.ok (.bl true,os)) {H:Hp} {a:Addr} (s:Rd H a (.lst (ns.map V.int))) (hH:∀q∈tabs,H q.2=some (.tbl #[])) (haT:a ∉ tabs.map (·.2)):spG K 1 gx fn [.ref a] H (fun v _=>v=.bl true) fun _ _ _=>False:=by
 obtain ⟨os,hf⟩:=hf
 have lg:gx.length=tabs.length:=by have:=congrArg List.length hg;simpa using this
 let F:Hp:=fun b=>if b∈tabs.map (·.2) then none else H b
 have Fsame:Same F H:=fun b u e=>by
  have e:(if b∈tabs.map (·.2) then none else H b)=some u:=e
  by_cases hb:b∈tabs.map (·.2)
  ·rw [if_pos hb] at e;cases e
  ·rw [if_neg hb] at e;exact e
 have Fn:∀b∈tabs.map (·.2),F b=none:=fun b hb=>if_pos hb
 have Fa:Rd F a (.lst (ns.map V.int)):=by
  have:F a=H a:=if_neg haT
  unfold Rd at s ⊢
  rw [this];exact s
 have gi:∀(i:Nat) (y:Str),gx[i]?=some y->∃q,tabs[i]?=some q/\PySem.W.tabIn K y=some q:=fun i y e=>by
  have:(gx.map (PySem.W.tabIn K))[i]?=(tabs.map some)[i]?:=by rw [hg]
  rw [List.getElem?_map,List.getElem?_map,e] at this
  cases q:tabs[i]? with
  | none=>rw [q] at this;cases this
  | some z=>rw [q] at this;exact ⟨z,rfl,Option.some.inj this⟩
 have fl:([]::tabs.map fun q=>[q.2]).flatten=tabs.map (·.2):=by
  rw [List.flatten_cons,List.nil_append]
  clear hg hnd hH haT lg F Fsame Fn Fa gi
  induction tabs with
  | nil=>rfl
  | cons q r ih=>rw [List.map_cons,List.flatten_cons,ih];rfl
 refine ⟨rfl,by simp;omega,F,.lst false (ns.map D.int)::gx.map (fun x=>.ext true (.tab x [])),[]::tabs.map (fun q=>[q.2]),Fsame,⟨by simp,by simp [lg],fun i d e=>?_⟩,by rw [fl];exact hnd,fun b hb=>?_,?_⟩
 ·cases i with
  | zero =>
   have e:D.lst false (ns.map D.int)=d:=by simpa using e
   subst e
   refine ⟨.ref a,[],rfl,rfl,?_⟩
   unfold Own
   exact ⟨a,ns.map V.int,[],rfl,sT ns,.inr ⟨rfl,Fa,rfl,rfl⟩⟩
  | succ i =>
   have e:(gx.map (fun x=>D.ext true (.tab x [])))[i]?=some d:=by simpa using e
   rw [List.getElem?_map] at e
   cases eq:gx[i]? with
   | none=>rw [eq] at e;cases e
   | some y =>
    rw [eq] at e
    have e:=Option.some.inj e
    subst e
    obtain ⟨q,q1,q2⟩:=gi i y eq
    have hq:q∈tabs:=List.mem_of_getElem? q1
    refine ⟨rL K y,[q.2],?_,?_,?_⟩
    ·show (gx.map (rL K))[i]?=_
     rw [List.getElem?_map,eq];rfl
    ·show (tabs.map fun q=>[q.2])[i]?=_
     rw [List.getElem?_map,q1];rfl
    ·unfold Own
     refine ⟨q.2,.tbl #[],by unfold rL;rw [q2],⟨⟨q.1,by rw [q2]⟩,[],rfl,rfl,fun i p p' q c e1 _=>by simp at e1⟩,.inl ⟨rfl,Fn _ (List.mem_map_of_mem hq),hH q hq,rfl⟩⟩
 ·rw [fl] at hb
  obtain ⟨q,hq,rfl⟩:=List.mem_map.mp hb
  exact ⟨Fn _ hb,by rw [hH q hq];simp⟩
 ·rw [hf]
  intro r F' H' fps' fr _ _ _ _ o _ _
  unfold Own at o
  exact o.1
end VL
end
section
namespace VL
open PySem PySem.Spec PyProof.Rows L2
def aRf (o:Obj):Bool:=match o.cls,o.data with
 | .type "tuple",.seq its _=>(match its.toList with | .int _ _::_=>true | _=>false)
 | _,_=>false
def fX (K:FG):Bool:=K.all fun q=>!aRf q.2
theorem aDv {K:FG} (h:fX K=true) {a:Addr} {o:Obj} (e:K.lookup a=some o):aRf o=false:=by
 unfold fX at h
 have:=List.all_eq_true.mp h _ (PySem.W.mem_of_lookupK e)
 simpa using this
def intsOf:List D->Option (Y0)
 | []=>some []
 | .int i::ds=>(intsOf ds).map (i::·)
 | _::_=>none
def vG:Y0->List Key:=List.map Sum.inl
section
variable {K:FG} {W:XW} {F H F' H' F1 H1:Hp} {Z:Y2} {σ:L2.St} {ρ:Env} {D':Ends}
theorem sP:∀ {ds:List D} {is:Y0} {xs:List V} {fp:Y2},intsOf ds=some is->aJ K F H ds xs fp->xs=(vG is).map kV
 | [],is,xs,fp,e,h=>by
  unfold intsOf at e;cases e
  unfold aJ at h
  exact h.1
 | .int i::ds,is,xs,fp,e,h=>by
  unfold intsOf at e
  cases q:intsOf ds with
  | none=>rw [q] at e;cases e
  | some js =>
   rw [q] at e
   have e:some (i::js)=some is:=e
   cases e
   unfold aJ at h
   obtain ⟨v,r,f1,f2,e1,h1,h2,e2⟩:=h
   unfold Own at h1
   rw [e1,h1.1,sP q h2];rfl
 | .non::_,_,_,_,e,_=>by cases e
 | .bl _::_,_,_,_,e,_=>by cases e
 | .str _::_,_,_,_,e,_=>by cases e
 | .tup _::_,_,_,_,e,_=>by cases e
 | .lst _ _::_,_,_,_,e,_=>by cases e
 | .ext _ _::_,_,_,_,e,_=>by cases e
 | .fn _::_,_,_,_,e,_=>by cases e
theorem xE (hK:fX K=true) {ds:List D} {is:Y0} {v:V} {fp:Y2} (hs:Same F H) (e:intsOf ds=some is) (hne:is ≠ []) (h:Own K F H (.tup ds) v fp):∃b,v=.ref b/\H b=some (.tup ((vG is).map kV)):=by
 unfold Own at h
 obtain ⟨_,a,xs,e1,q,r⟩:=h
 have ex:=sP e r
 subst ex
 rcases q with q | ⟨o,its,n,q1,q2,q3,_,q5⟩
 ·exact ⟨a,e1,hs _ _ q⟩
 ·have:=aDv hK q1
  unfold aRf at this
  rw [q2,q3] at this
  cases is with
  | nil=>exact absurd rfl hne
  | cons i is =>
   cases hl:its.toList with
   | nil=>rw [hl] at q5;cases q5
   | cons u us =>
    rw [hl] at q5
    have q5:Vals (V.int i::(vG is).map kV) (u::us):=q5
    cases q5 with
    | cons r1 _ =>
     obtain ⟨t,rfl⟩:=r1
     simp [hl] at this
def dG {κ:Type} [DecidableEq κ] (kvs:List (κ×Int)) (k:κ):Option Int:=(kvs.find? fun kv=>decide (kv.1=k)).map (·.2)
def dP {κ:Type} [DecidableEq κ] (kvs:List (κ×Int)) (k:κ) (n:Int):List (κ×Int) :=
 if (kvs.any fun kv=>decide (kv.1=k))=true then kvs.map (fun kv=>if kv.1=k then (kv.1,n) else kv) else kvs ++ [(k,n)]
theorem aA7 {κ:Type} [DecidableEq κ] (k:κ):∀kvs:List (κ×Int),uD (kvs.map fun p=>(p.1,V.int p.2)) k=(dG kvs k).map V.int
 | []=>rfl
 | p::r=>by
  rw [List.map_cons]
  by_cases e:p.1=k
  ·rw [oY (p:=(p.1,V.int p.2)) e];simp [dG,List.find?_cons,e]
  ·rw [oV (p:=(p.1,V.int p.2)) e,aA7 k r];simp [dG,List.find?_cons,e]
theorem aIq {κ:Type} [DecidableEq κ] (kvs:List (κ×Int)) (k:κ) (n:Int):putK (kvs.map fun p=>(p.1,V.int p.2)) k (.int n)=(dP kvs k n).map fun p=>(p.1,V.int p.2):=by
 unfold putK dP
 have:((kvs.map fun p=>(p.1,V.int p.2)).any fun kv=>decide (kv.1=k))=kvs.any fun kv=>decide (kv.1=k):=by rw [List.any_map];rfl
 rw [this]
 by_cases h:(kvs.any fun kv=>decide (kv.1=k))=true
 ·rw [if_pos h,if_pos h,List.map_map,List.map_map]
  congr 1
  funext p
  show (if p.1=k then (p.1,V.int n) else (p.1,V.int p.2))=(fun p:κ×Int=>(p.1,V.int p.2)) (if p.1=k then (p.1,n) else p)
  by_cases e:p.1=k
  ·rw [if_pos e,if_pos e]
  ·rw [if_neg e,if_neg e]
 ·rw [if_neg h,if_neg h,List.map_append];rfl
def aDx (t:Tg) (d:D):Option (Option Int):=match t,d with
 | .dK kvs,.int i=>some (dG kvs (.inl i))
 | .dT kvs,.tup ds=>(match intsOf ds with | some (i::is)=>some (dG kvs (vG (i::is))) | _=>none)
 | _,_=>none
def aTr (t:Tg) (d:D) (n:Int):Option Tg:=match t,d with
 | .dK kvs,.int i=>if kvs.length<1000000 then some (.dK (dP kvs (.inl i) n)) else none
 | .dT kvs,.tup ds=>(match intsOf ds with | some (i::is)=>if kvs.length<1000000 then some (.dT (dP kvs (vG (i::is)) n)) else none | _=>none)
 | _,_=>none
theorem xS {o:Bool} {t:Tg} {v:V} {fp:Y2} (h:Own K F H (.ext true t) v fp):∃a u,v=.ref a/\TgO K F a t u/\F a=none/\H a=some u/\fp=[a]:=by
 unfold Own at h
 obtain ⟨a,u,ev,tg,w⟩:=h
 rcases w with ⟨_,w1,w2,w3⟩ | ⟨w,_⟩
 ·exact ⟨a,u,ev,tg,w1,w2,w3⟩
 ·cases w
theorem aCj (hK:fX K=true) (hs:Same F H) {t:Tg} {d:D} {r:Option Int} {a:Addr} {u:HO} {v:V} {fp:Y2} (e:aDx t d=some r) (tg:TgO K F a t u) (ha:H a=some u) (o:Own K F H d v fp):aEw H a v (r.map V.int):=by
 unfold aDx at e
 split at e
 ·rename_i kvs i
  cases e
  have tg:u=.dK (kvs.map fun p=>(p.1,V.int p.2)):=tg
  subst tg
  unfold Own at o
  exact .inl ⟨_,.inl i,.inl ha,o.1,(aA7 _ _).symm⟩
 ·rename_i kvs ds
  split at e
  ·rename_i i is ei
   cases e
   have tg:u=.dT (kvs.map fun p=>(p.1,V.int p.2)):=tg
   subst tg
   obtain ⟨b,eb,hb⟩:=xE hK hs ei (by simp) o
   exact .inr ⟨_,_,b,.inl ha,eb,hb,(aA7 _ _).symm⟩
  ·cases e
 ·cases e
theorem aKd (hK:fX K=true) (hs:Same F H) {t t':Tg} {d:D} {n:Int} {a:Addr} {u:HO} {v:V} {fp:Y2} (e:aTr t d n=some t') (tg:TgO K F a t u) (ha:H a=some u) (o:Own K F H d v fp):∃u',aRo H a v (.int n) (upd H a u')/\TgO K F a t' u':=by
 unfold aTr at e
 split at e
 ·rename_i kvs i
  by_cases hl:kvs.length<1000000
  ·rw [if_pos hl] at e;cases e
   have tg:u=.dK (kvs.map fun p=>(p.1,V.int p.2)):=tg
   subst tg
   unfold Own at o
   refine ⟨_,.inl ⟨_,.inl i,ha,o.1,by rw [List.length_map];exact oK hl,rfl⟩,?_⟩
   show HO.dK _=HO.dK _
   rw [aIq]
  ·rw [if_neg hl] at e;cases e
 ·rename_i kvs ds
  split at e
  ·rename_i i is ei
   by_cases hl:kvs.length<1000000
   ·rw [if_pos hl] at e;cases e
    have tg:u=.dT (kvs.map fun p=>(p.1,V.int p.2)):=tg
    subst tg
    obtain ⟨b,eb,hb⟩:=xE hK hs ei (by simp) o
    refine ⟨_,.inr ⟨_,_,b,ha,eb,hb,by rw [List.length_map];exact oK hl,rfl⟩,?_⟩
    show HO.dT _=HO.dT _
    rw [aIq]
   ·rw [if_neg hl] at e;cases e
  ·cases e
 ·cases e
def jD (i:Nat) (f:aR):aR:=fun ρ=>(f ρ).bind fun x=>match getD ρ i with
 | some (.ext true t)=>(match aDx t x.1 with | some r=>.ok (.bl (!r.isSome),true) | none=>.bad) | _=>.bad
def qB (i:Nat) (f:aR):aR:=fun ρ=>(f ρ).bind fun x=>match getD ρ i with
 | some (.ext true t)=>(match aDx t x.1 with | some (some n)=>.ok (.int n,true) | _=>.bad) | _=>.bad
theorem aEm (hK:fX K=true) {i:Nat} {f:aR} {Q:VK} (h:tv K (jD i f) σ H Q):aCp (tv K f) (tU i) σ H Q:=by
 obtain ⟨ρ,F,fps,S,h⟩:=h
 refine ⟨ρ,F,fps,S,?_⟩
 unfold jD at h
 cases ef:f ρ with
 | exc _=>rw [ef] at h;exact h.elim
 | bad=>rw [ef] at h;exact h.elim
 | ok x =>
  rw [ef] at h
  have h:((match getD ρ i with | some (.ext true t)=>(match aDx t x.1 with | some r=>R.ok (D.bl (!r.isSome),true) | none=>.bad) | _=>.bad):R (D×Bool)).holds (EPost K F H Q):=h
  split at h
  ·rename_i t eg
   split at h
   ·rename_i r er
    have h:EPost K F H Q (.bl (!r.isSome),true):=h
    intro v F1 H1 fp g1 o1 n1 k1
    have S1:=S.grow g1
    obtain ⟨w,fw,q1,q2,q3⟩:=S1.get eg
    obtain ⟨a,u,ev,tg,w1,w2,w3⟩:=xS (o:=true) q3
    subst ev
    refine ⟨.ref a,q1,a,r.map V.int,rfl,aCj hK g1.inn er tg w2 o1,?_⟩
    have:(r.map V.int).isSome=r.isSome:=by cases r<;>rfl
    rw [this]
    exact EPost.fD g1 h rfl
   ·exact h.elim
  ·exact h.elim
theorem aNw (hK:fX K=true) {i:Nat} {f:aR} {Q:VK} (h:tv K (qB i f) σ H Q):aP9 (tU i) (tv K f) σ H Q:=by
 obtain ⟨ρ,F,fps,S,h⟩:=h
 unfold qB at h
 cases ef:f ρ with
 | exc _=>rw [ef] at h;exact h.elim
 | bad=>rw [ef] at h;exact h.elim
 | ok x =>
  rw [ef] at h
  have h:((match getD ρ i with | some (.ext true t)=>(match aDx t x.1 with | some (some n)=>R.ok (D.int n,true) | _=>.bad) | _=>.bad):R (D×Bool)).holds (EPost K F H Q):=h
  split at h
  ·rename_i t eg
   split at h
   ·rename_i n er
    have h:EPost K F H Q (.int n,true):=h
    obtain ⟨w0,_,q0,_,_⟩:=S.get eg
    refine ⟨w0,q0,ρ,F,fps,S,?_⟩
    rw [ef]
    intro v F1 H1 fp g1 o1 n1 k1
    have S1:=S.grow g1
    obtain ⟨w,fw,q1,q2,q3⟩:=S1.get eg
    rw [q0] at q1;cases q1
    obtain ⟨a,u,ev,tg,w1,w2,w3⟩:=xS (o:=true) q3
    subst ev
    exact ⟨a,.int n,rfl,aCj hK g1.inn er tg w2 o1,EPost.fD g1 h rfl⟩
   ·exact h.elim
  ·exact h.elim
def kP (i:Nat) (f g:aR):SemS:=fun ρ=>match g ρ,f ρ with
 | .ok y,.ok x=>(match y.1,getD ρ i with
  | .int n,some (.ext true t)=>(match aTr t x.1 n with | some t'=>.next (putD ρ i (.ext true t')) | none=>.bad) | _,_=>.bad)
 | _,_=>.bad
theorem aLh (hK:fX K=true) {i:Nat} {f g:aR} (h:sv K W (kP i f g) D' σ H):aO7 (tU i) (tv K f) (tv K g) D' σ H:=by
 obtain ⟨ρ,F,fps,S,h⟩:=h
 unfold kP at h
 split at h
 ·rename_i y x eg ef
  split at h
  ·rename_i n t en ed
   split at h
   ·rename_i t' et
    have h:fC K F H fps.flatten ρ σ D'.nx (putD ρ i (.ext true t')):=h
    refine ⟨ρ,F,fps,S,?_⟩
    rw [eg]
    intro v F1 H1 fp g1 o1 n1 k1
    rw [en] at o1
    unfold Own at o1
    obtain ⟨ev,efp⟩:=o1
    subst ev
    have S1:=S.grow g1
    obtain ⟨w0,f0,q0,p0,_⟩:=S1.get ed
    refine ⟨w0,q0,ρ,F1,fps,S1,?_⟩
    rw [ef]
    intro v2 F2 H2 fp2 g2 o2 n2 k2
    have S2:=S1.grow g2
    obtain ⟨w,fw,q1,q2,q3⟩:=S2.get ed
    rw [q0] at q1;cases q1
    obtain ⟨a,u,ev,tg,w1,w2,w3⟩:=xS (o:=true) q3
    subst ev;subst w3
    obtain ⟨u',dp,tg'⟩:=aKd hK g2.inn et tg w2 o2
    refine ⟨a,_,rfl,dp,?_⟩
    have oN:Own K F2 (upd H2 a u') (.ext true t') (.ref a) [a]:=by
     unfold Own
     exact ⟨a,u',rfl,tg',.inl ⟨rfl,w1,bJ,rfl⟩⟩
    have S3:=S2.aYk (u:=u') ed q0 q2 List.mem_cons_self oN (by simp) fun b hb=>.inl hb
    have hz:a∈fps.flatten:=List.mem_flatten.mpr ⟨_,List.mem_of_getElem? q2,List.mem_cons_self⟩
    refine h σ F2 _ _ ((g1.trans g2).evo.trans (xQ hz fun b hb=>?_)) S3 oP.pins
    rcases bL hb with hb | hb
    ·exact hb
    ·exact List.mem_flatten.mpr ⟨_,List.mem_of_getElem? q2,hb⟩
   ·exact h.elim
  ·exact h.elim
 ·exact h.elim
end
section
variable {X:Cx} {W:XW} {o e value:Expr} {pos pos' p:Pos} {x:Str} {f g:aR}
theorem aNh (i:Nat) {k:Nat} (hK:fX X.K=true) (hr:Room k X.A) (he:SE X e f) (hN:X.N[i]?=some x:=by rfl) (hv:Vis X.env.scope x:=by first | exact Or.inl rfl | exact Or.inr (Or.inl rfl) | exact Or.inr (Or.inr rfl)) (hd:(x == ("__debug__" : Str))=false:=by decide)
  (hcd:(x == ("__classdict__" : Str))=false:=by decide) (hs:aTy e:=by intro _ _;rfl):SE X (.Subscript (.Name x p) e pos) (qB i f) :=
 (aMl (by have:=hr.un;omega) (iX hN hv hd hcd) he hs).imp fun _ _ _ h=>aNw hK h
theorem aEx (i:Nat) {k:Nat} (hK:fX X.K=true) (hr:Room k X.A) (he:SE X e f) (hN:X.N[i]?=some x:=by rfl) (hv:Vis X.env.scope x:=by first | exact Or.inl rfl | exact Or.inr (Or.inl rfl) | exact Or.inr (Or.inr rfl)) (hd:(x == ("__debug__" : Str))=false:=by decide)
  (hcd:(x == ("__classdict__" : Str))=false:=by decide) (hm:behindInMarks .NotIn (.Name x p)=false:=by with_unfolding_all rfl):ST X (.Compare e [.NotIn] [.Name x p] pos) (aN (jD i f)) :=
 (aRa (aFf (by have:=hr.un;omega) he (iX hN hv hd hcd)) hm).imp fun σ H Q h=>by
  obtain ⟨ρ,F,fps,S,h⟩:=h
  refine aEm hK ⟨ρ,F,fps,S,?_⟩
  unfold aN at h
  rw [R.aW] at h
  refine R.aP h fun y hy=>?_
  intro v F1 H1 fp g1 o1 n1 k1
  split at hy
  ·rename_i b eb
   rw [eb] at o1
   unfold Own at o1
   exact ⟨b,o1.1,hy F1 H1 g1⟩
  ·exact hy.elim
theorem aLe (i:Nat) {k:Nat} (hK:fX X.K=true) (hr:Room k X.A) (he:SE X e f) (hv':SE X value g) (hN:X.N[i]?=some x:=by rfl) (hv:Vis X.env.scope x:=by first | exact Or.inl rfl | exact Or.inr (Or.inl rfl) | exact Or.inr (Or.inr rfl)) (hd:(x == ("__debug__" : Str))=false:=by decide)
  (hcd:(x == ("__classdict__" : Str))=false:=by decide) (hs:swapsWith value (some (.Subscript (.Name x p) e pos')) pos.line X.env=pure false:=by rfl):SS X W (.Assign [.Subscript (.Name x p) e pos'] value pos) (kP i f g) :=
 (aM5 (by have:=hr.un;omega) (iX hN hv hd hcd) he hv' hs).imp fun _ _ _ h=>aLh hK h
end
end VL
end
section
namespace VL
open PySem PySem.Spec PyProof.Rows L2
section
variable {prog:Program} {w:World} {A:Around} {E:Y9} {s:Shared} {env:PySem.Env}
theorem aBg {k v:Expr} {pos:Pos} {Q:Y9} (hu:A.units+1<cLine)
  (h:wpAny (model prog w) A (evalPairs (pairTrees [some k] [v] env pos)) (fun vs s₁=>∃(b:Addr) (u:Value) (ks:List Key),vs=[(.ref b,u)]/\(tupleKind (cU prog w)).is s₁.heap ks b/\s₁.heap.DictOfH (tupleKind (cU prog w)) s.heap.objs.size [] /\
   ∀h',h'.DictOfH (tupleKind (cU prog w)) s.heap.objs.size (storedH [] ks b u)->Heap.SameBut s.heap.objs.size s₁.heap h'->Q (.ref s.heap.objs.size) { s₁ with heap:=h',toks:=s₁.toks+(tupleKind (cU prog w)).draws ks }) E
   { s with heap:=s.heap.push { cls:=.type "dict",data:=.dict #[] } }) :
  wpAny (model prog w) A (eval (.Dict [some k] [v] pos) env) Q E s:=by
 have hn:=pairTrees_length [some k] [v] env pos rfl rfl
 rw [arm_eval_Dict,zip_pairTrees [some k] [v] env pos rfl rfl,dictDisplay_pairs (pairTrees [some k] [v] env pos) (fun he=>by rw [he] at hn;cases hn) (by rw [hn];simp)]
 refine wpAny_bind (wpAny_standAt (wpAny_bind ?_))
 unfold subDict
 refine wpAny_bind (wpAny_alloc ?_)
 refine wpAny_bind (wpAny_holding ?_)
 rw [if_pos (by rw [hn];simp)]
 refine wpAny_bind (wpAny_mono h (fun vs s₁ h₁=>?_) fun _ _ e=>e)
 obtain ⟨b,u,ks,rfl,hk,hm,hQ⟩:=h₁
 refine wpAny_holding ?_
 refine wpAny_bind ?_
 rw [List.forIn_cons]
 refine wpAny_bind (wpAny_bind (wpAny_dictSet_heap (show A.units<cLine by omega) hk hm fun h' hm' hs'=>wpAny_pure ?_))
 dsimp only
 rw [List.forIn_nil]
 exact wpAny_pure (wpAny_pure (wpAny_pure (wpAny_pure (hQ h' hm' hs'))))
end
def aCd (tk tv:TE):TE:=fun σ H Q=>∀p,H p=none->tk σ (upd H p (.dT [])) fun x H1=>tv σ H1 fun y H2=>∃b ks,x=.ref b/\H2 b=some (.tup (ks.map kV))/\H2 p=some (.dT [])/\Q (.ref p) (upd H2 p (.dT [(ks,y)]))
theorem aEr {X:Cx} {k v:Expr} {pos:Pos} {tk tv:TE} (hu:X.A.units+1<cLine) (hk:PE X k tk) (hv:PE X v tv):PE X (.Dict [some k] [v] pos) (aCd tk tv):=by
 intro pins s σ H Q I q
 have hn:=I.hok.fresh (Nat.le_refl s.heap.objs.size)
 have I1:=I.laid (a:=s.heap.objs.size) (o:=.dT []) (h':=s.heap.push { cls:=.type "dict",data:=.dict #[] }) (t':=s.toks) (fun _ _ q=>Heap.get?_push_of_some _ q) (Nat.le_refl _) (aHh s.heap I.big)
 refine aBg hu (pairTrees_cons_walk (thn (hk pins _ σ _ _ I1 (q _ hn)) fun u s1 ⟨x,H1,I2,rx,q1⟩=>thn (hv pins s1 σ H1 _ I2 q1) fun w2 s2 ⟨y,H2,I3,ry,b,ks,ex,eb,ep,q2⟩=>pairTrees_nil_walk ?_))
 subst ex
 cases (show u=Value.ref b from rx)
 obtain ⟨z,hd,xs,rel,dd⟩:=aQg I3.hok ep
 have exs:xs=[]:=by
  have:=Paired.length rel
  exact List.length_eq_zero_iff.mp (by simpa using this.symm)
 subst exs
 refine ⟨b,w2,ks,rfl,tL I3.hok eb,dd,fun h' dd' hs=>⟨.ref s.heap.objs.size,_,?_,rfl,q2⟩⟩
 obtain ⟨q,es,epp,hq,h2,h3,h4,_,h5⟩:=dd'
 have e1:([(ks,y)]:List (List Key×V))=putK [] ks y:=rfl
 rw [e1]
 refine qX I3 (by rw [ep];exact True.intro) hs ⟨q,hq⟩ ⟨by rw [<- e1,sizeLine_eq];simp,hd,_,(rel.put ks eb ry).keeps fun c ys ec=>?_,q,es,epp,hq,h2,h3,h4,h5⟩
 rw [aU (rQ ec ep (fun z=>nomatch z))]
 exact ec
def pI (f g:aR):aR:=fun ρ=>(f ρ).bind fun x=>(g ρ).bind fun y=>match y.1,x.1 with
 | .int n,.int i=>.ok (.ext true (.dK [(.inl i,n)]),true)
 | .int n,.tup ds=>(match intsOf ds with | some (i::is)=>.ok (.ext true (.dT [(vG (i::is),n)]),true) | _=>.bad)
 | _,_=>.bad
section
variable {K:FG} {F H F1 H1 F2 H2:Hp} {σ:L2.St} {ρ:Env} {fps:Y5} {p:Addr} {o u:HO}
theorem Sim.fresh (S:Sim K F H σ ρ fps) (h:H p=none):Sim K F (upd H p o) σ ρ fps :=
 S.other (S.same.free h) fun z=>(S.zone p z).2 h
theorem wA (hs:Same F H) (h:H p=none) (g:Grow F (upd H p o) F2 H2) (ne:H2 p=some o):Grow F H F2 (upd H2 p u)/\F2 p=none:=by
 have f0:F p=none:=hs.free h
 have f2:F2 p=none:=by
  cases q:F2 p with
  | none=>rfl
  | some z =>
   rcases g.new p z q with w | w
   ·rw [f0] at w;cases w
   ·rw [bJ] at w;cases w
 refine ⟨⟨g.fr,fun b z e=>?_,fun b z e=>?_,fun b z e=>?_⟩,f2⟩
 ·have hb:b ≠ p:=fun q=>by rw [q,h] at e;cases e
  rw [aU hb]
  exact g.all b z (by rw [aU hb];exact e)
 ·have hb:b ≠ p:=fun q=>by rw [q,f2] at e;cases e
  rw [aU hb];exact g.inn b z e
 ·rcases g.new b z e with w | w
  ·exact .inl w
  ·by_cases hb:b=p
   ·rw [hb];exact .inr h
   ·rw [aU hb] at w;exact .inr w
theorem aGu (hK:fX K=true) {f g:aR} {Q:VK} (h:tv K (pI f g) σ H Q):aP1 [(tv K f,tv K g)] σ H Q\/aCd (tv K f) (tv K g) σ H Q:=by
 obtain ⟨ρ,F,fps,S,h⟩:=h
 unfold pI at h
 cases ef:f ρ with
 | exc _=>rw [ef] at h;exact h.elim
 | bad=>rw [ef] at h;exact h.elim
 | ok x =>
  rw [ef] at h
  cases eg:g ρ with
  | exc _=>rw [eg] at h;exact h.elim
  | bad=>rw [eg] at h;exact h.elim
  | ok y =>
   rw [eg] at h
   have h:((match y.1,x.1 with
    | .int n,.int i=>.ok (.ext true (.dK [(.inl i,n)]),true)
    | .int n,.tup ds=>(match intsOf ds with | some (i::is)=>.ok (.ext true (.dT [(vG (i::is),n)]),true) | _=>.bad)
    | _,_=>.bad):R (D×Bool)).holds (EPost K F H Q):=h
   split at h
   ·rename_i n i en ei
    have h:EPost K F H Q (.ext true (.dK [(.inl i,n)]),true):=h
    refine .inl fun p hp=>?_
    have S0:Sim K F (upd H p (.dK [])) σ ρ fps:=S.fresh hp
    refine ⟨ρ,F,fps,S0,?_⟩
    rw [ef]
    intro v F1 H1 fp g1 o1 n1 k1
    refine ⟨ρ,F1,fps,S0.grow g1,?_⟩
    rw [eg]
    intro v2 F2 H2 fp2 g2 o2 n2 k2
    have ep:H2 p=some (.dK []):=g2.all _ _ (g1.all _ _ bJ)
    rw [en] at o2;rw [ei] at o1
    unfold Own at o1 o2
    refine ⟨ep,[(.inl i,.int n)],by rw [o1.1,o2.1];rfl,by simp,?_⟩
    obtain ⟨gg,f2⟩:=wA (u:=.dK [(.inl i,.int n)]) S.same hp (g1.trans g2) ep
    refine h (.ref p) F2 _ [p] gg ?_ (by simp) fun _ b hb=>by rw [List.mem_singleton.mp hb];exact hp
    unfold Own
    exact ⟨p,_,rfl,rfl,.inl ⟨rfl,f2,bJ,rfl⟩⟩
   ·rename_i n ds en ei
    split at h
    ·rename_i i is eis
     have h:EPost K F H Q (.ext true (.dT [(vG (i::is),n)]),true):=h
     refine .inr fun p hp=>?_
     have S0:Sim K F (upd H p (.dT [])) σ ρ fps:=S.fresh hp
     refine ⟨ρ,F,fps,S0,?_⟩
     rw [ef]
     intro v F1 H1 fp g1 o1 n1 k1
     refine ⟨ρ,F1,fps,S0.grow g1,?_⟩
     rw [eg]
     intro v2 F2 H2 fp2 g2 o2 n2 k2
     have ep:H2 p=some (.dT []):=g2.all _ _ (g1.all _ _ bJ)
     rw [en] at o2;rw [ei] at o1
     obtain ⟨b,eb,hb⟩:=xE hK g1.inn eis (by simp) o1
     unfold Own at o2
     refine ⟨b,vG (i::is),eb,g2.all _ _ hb,ep,?_⟩
     rw [o2.1]
     obtain ⟨gg,f2⟩:=wA (u:=.dT [(vG (i::is),.int n)]) S.same hp (g1.trans g2) ep
     refine h (.ref p) F2 _ [p] gg ?_ (by simp) fun _ b hb=>by rw [List.mem_singleton.mp hb];exact hp
     unfold Own
     exact ⟨p,_,rfl,rfl,.inl ⟨rfl,f2,bJ,rfl⟩⟩
    ·exact h.elim
   ·exact h.elim
end
theorem aF6 {X:Cx} {k:Expr} {v:Expr} {pos:Pos} {n:Nat} {f g:aR} (hK:fX X.K=true) (hr:Room n X.A) (hk:SE X k f) (hv:SE X v g):SE X (.Dict [some k] [v] pos) (pI f g):=by
 intro pins s σ H Q I h
 rcases aGu hK h with h | h
 ·exact aKf (aJm hk hv aNe) rfl rfl (by simp) (by simp) pins s σ H Q I h
 ·exact aEr (by have:=hr.un;omega) hk hv pins s σ H Q I h
end VL
end
section
namespace VL
open PySem PySem.Spec PyProof.Rows L2
section
variable {X:Cx} {a b o:Expr} {pos apos cpos:Pos}
def aWn:D×Bool->D×Bool->R (D×Bool):=kI fun i j=>.int (Builtin.bitXor i j)
theorem aUq {f g:aR} (ha:SE X a f) (hb:SE X b g):SE X (.BinOp a .BitXor b pos) (v2 aWn f g):=vL aRr (uC fun _ _=>rfl) ha hb
def aPj:D×Bool->R (D×Bool):=kU fun i=>.int (Builtin.Int.intBits i:Nat)
theorem aK0 {f:aR} (ho:SE X o f) (hbase:attributeBase o "bit_length" X.env (eval o X.env)=eval o X.env:=by rfl) (hline:(apos.endLine == cpos.line)=true:=by rfl):SE X (.Call (.Attribute o "bit_length" apos) [] [] cpos) (v1 aPj f):=by
 refine (aF5 (T := "int") (id := "int.bit_length") (r:=fun x xs H Q=>∃i,x=.int i/\xs=[]/\Q (.int (Builtin.Int.intBits i:Nat)) H) PySem.F.plainAttrs_int PySem.F.slot_int_bit_length PySem.F.type_int_bit_length (fun pins s σ H x xs v us Q I r rs h=>?_) ho hbase hline).imp fun σ H Q h=>?_
 ·obtain ⟨i,rfl,rfl,q⟩:=h
  obtain ⟨t,rfl⟩:=r
  cases rs
  exact call_int_bit_length ⟨.int _,H,I.tok _,⟨_,rfl⟩,q⟩
 ·obtain ⟨ρ,F,fps,S,h⟩:=h
  refine ⟨ρ,F,fps,S,?_⟩
  unfold v1 at h
  cases ef:f ρ with
  | exc _=>rw [ef] at h;exact h.elim
  | bad=>rw [ef] at h;exact h.elim
  | ok x =>
   rw [ef] at h
   obtain ⟨x,fr⟩:=x
   cases x<;>try exact h.elim
   rename_i i
   have h:EPost X.K F H Q (.int (Builtin.Int.intBits i:Nat),true):=h
   intro v F1 H1 fp g1 o1 n1 k1
   unfold Own at o1
   rw [o1.1]
   exact ⟨rfl,i,rfl,rfl,EPost.fD g1 h rfl⟩
end
end VL
end
section
namespace VL
open PySem PySem.Spec PyProof.Rows L2
def nZ (env:PySem.Env):List (Str×NameKind)->List (Str×Addr)->List (Str×Addr)
 | [],acc=>acc
 | y::l,acc=>if (y.2 == NameKind.free)=true then nZ env l ((y.1,(env.cells.lookup y.1).getD 0)::acc) else nZ env l acc
theorem sZ (env:PySem.Env):∀(l:List (Str×NameKind)) (acc:List (Str×Addr)),(∀y∈l,y.2=.free->∃c,env.cells.lookup y.1=some c) ->
  (forIn l acc fun (x:Str×NameKind) (s:List (Str×Addr))=>if (x.snd == NameKind.free)=true then (do let d <- cellOf env x.fst;pure (ForInStep.yield ((x.fst,d)::s)):Sem (ForInStep (List (Str×Addr)))) else pure (ForInStep.yield s))=pure (nZ env l acc)
 | [],acc,_=>by rw [List.forIn_nil];rfl
 | y::l,acc,h=>by
  rw [List.forIn_cons]
  unfold nZ
  by_cases hf:(y.2 == NameKind.free)=true
  ·obtain ⟨c,hc⟩:=h y List.mem_cons_self (by simpa using hf)
   rw [if_pos hf,if_pos hf]
   have:cellOf env y.1=pure c:=by unfold cellOf;rw [hc]
   rw [this,hc,pure_bind,pure_bind]
   exact sZ env l _ fun z hz=>h z (List.mem_cons_of_mem _ hz)
  ·rw [if_neg hf,if_neg hf,pure_bind]
   exact sZ env l _ fun z hz=>h z (List.mem_cons_of_mem _ hz)
theorem aMq {scope:Scope} {env:PySem.Env} (h:∀y∈scope.names,y.2=.free->∃c,env.cells.lookup y.1=some c):closureFor scope env=pure (nZ env scope.names []):=by
 simp only [closureFor]
 rw [sZ env scope.names [] h,pure_bind]
theorem vY (env:PySem.Env) (x:Str):∀(l:List (Str×NameKind)) (acc:List (Str×Addr)),(∀y∈l,y.2=.free->∃c,env.cells.lookup y.1=some c) ->
  (nZ env l acc).lookup x=if (l.any fun y=>decide (y.1=x) && (y.2 == NameKind.free))=true then env.cells.lookup x else acc.lookup x
 | [],acc,_=>rfl
 | y::l,acc,h=>by
  have ih:=fun acc=>vY env x l acc fun z hz=>h z (List.mem_cons_of_mem _ hz)
  unfold nZ
  rw [List.any_cons]
  by_cases hf:(y.2 == NameKind.free)=true
  ·obtain ⟨c,hc⟩:=h y List.mem_cons_self (by simpa using hf)
   rw [if_pos hf,ih,hf,Bool.and_true]
   by_cases ha:(l.any fun y=>decide (y.1=x) && (y.2 == NameKind.free))=true
   ·rw [if_pos ha,ha,Bool.or_true,if_pos rfl]
   ·rw [if_neg ha]
    have ha':(l.any fun y=>decide (y.1=x) && (y.2 == NameKind.free))=false:=Bool.eq_false_iff.mpr ha
    rw [ha',Bool.or_false,List.lookup_cons]
    by_cases hx:y.1=x
    ·subst hx
     rw [beq_self_eq_true,decide_eq_true rfl,if_pos rfl,hc];rfl
    ·have:(x == y.1)=false:=by rw [beq_eq_false_iff_ne];exact fun z=>hx z.symm
     rw [this,decide_eq_false hx,if_neg Bool.false_ne_true]
  ·rw [if_neg hf,ih]
   have:(y.2 == NameKind.free)=false:=by simpa using hf
   rw [this,Bool.and_false,Bool.false_or]
def aG1 (scope sc:Scope) (N fs:List Str) (js:T0):Bool :=
 (js.length == fs.length) && ((js.zip fs).all fun q=>(N[q.1]? == some q.2) && (sc.names.lookup q.2 == some .cell) && (scope.names.any fun y=>decide (y.1=q.2) && (y.2 == NameKind.free))) &&
 (scope.names.all fun y=>y.2 != .free || (fs.contains y.1 && sc.names.lookup y.1 == some .cell))
section
variable {P:Program} {w:World} {K:FG} {mg:Y6} {base:Heap} {N:List Str} {x:Str} {sc:Scope} {f:Addr} {cdv:Value} {A:Around} {outer:List PySem.Env} {s:Shared} {H:Hp} {E:XK} {name qual p:Str} {params:Arguments} {body:List Stmt} {scope:Scope} {i k:Nat} {js:T0} {fs:List Str} {fn:Fn}
theorem lI (hi:N[i]?=some name) (loc:sc.names.lookup name=some .local) (hok:aG1 scope sc N fs js=true) (T:CloTx P w K mg base k name qual p fs params body scope fn) (d0:params.defaults=[]) (k0:params.kw_defaults=[])
  (ann:annTrees params none (gE (CX1 P w) P w K mg base N x sc f cdv A outer s H E).env=[]) (hq:qualnameIn (gE (CX1 P w) P w K mg base N x sc f cdv A outer s H E).env name name=qual) :
  DefTx (gE (CX1 P w) P w K mg base N x sc f cdv A outer s H E) name qual params body scope i js k fn:=by
 unfold aG1 at hok
 simp only [Bool.and_eq_true,List.all_eq_true,beq_iff_eq,Bool.or_eq_true,bne_iff_ne,ne_eq,List.contains_iff_mem] at hok
 obtain ⟨⟨hl,h2⟩,h3⟩:=hok
 let env:=(gE (CX1 P w) P w K mg base N x sc f cdv A outer s H E).env
 have has:∀y,sc.names.lookup y=some .cell->∃c,env.cells.lookup y=some c:=fun y h=>tG h
 have hfr:∀y∈scope.names,y.2=.free->∃c,env.cells.lookup y.1=some c:=fun y hy e=>has _ ((h3 y hy).resolve_left fun z=>z e).2
 have get:=fun y=>vY env y scope.names [] hfr
 refine ⟨hi,loc,⟨nZ env scope.names [],fs,p,aMq hfr,⟨hl,fun m j e=>?_,fun y c e=>?_⟩,T⟩,d0,k0,ann,hq⟩
 ·have hm:m<fs.length:=by rw [<- hl];exact (List.getElem?_eq_some_iff.mp e).1
  have hz:(j,fs[m])∈js.zip fs:=by
   rw [List.mem_iff_getElem?]
   exact ⟨m,by rw [List.getElem?_zip_eq_some];exact ⟨e,List.getElem?_eq_getElem hm⟩⟩
  obtain ⟨⟨q1,q2⟩,q3⟩:=h2 _ hz
  obtain ⟨c,hc⟩:=has _ q2
  exact ⟨fs[m],c,List.getElem?_eq_getElem hm,q1,by rw [get,if_pos q3];exact hc,hc,q2⟩
 ·have e:(nZ env scope.names []).lookup y=some c:=e
  rw [get] at e
  by_cases ha:(scope.names.any fun z=>decide (z.1=y) && (z.2 == NameKind.free))=true
  ·rw [if_pos ha] at e
   obtain ⟨z,hz,hz2⟩:=List.any_eq_true.mp ha
   rw [Bool.and_eq_true,decide_eq_true_iff] at hz2
   obtain ⟨rfl,hz3⟩:=hz2
   exact ⟨((h3 z hz).resolve_left fun q=>q (by simpa using hz3)).1,e⟩
  ·rw [if_neg ha] at e;cases e
theorem wJ {c Pl:Addr} (ht:PySem.W.tabIn K x=some (c,Pl)) (hc:cdv=.ref c) (hC:PySem.W.CodeHd base c Pl) (hB:base.BuiltinsAt mg Pl) (nd:N.Nodup):MkTx (gE (CX1 P w) P w K mg base N x sc f cdv A outer s H E) x :=
 ⟨⟨c,Pl,ht,hc,hC,hB⟩,fun _=>rfl,nd⟩
end
def aOx (p:Str) (fs:List Str) (sc:Scope):Bool :=
 (sc.kind == .function) && !sc.isCoroutine && !sc.isGenerator && decide ((p::fs).Nodup) && (sc.names.lookup p == some .local) && (sc.names.all fun y=>y.2 != .free || fs.contains y.1) && (sc.names.all fun y=>y.2 != .cell) && (fs.all fun x=>sc.names.lookup x == some .free)
theorem hZ {p:Str} {fs:List Str} {sc:Scope} (h:aOx p fs sc=true):CloScope p fs sc:=by
 unfold aOx at h
 simp only [Bool.and_eq_true,Bool.not_eq_true',List.all_eq_true,beq_iff_eq,Bool.or_eq_true,bne_iff_ne,ne_eq,List.contains_iff_mem,decide_eq_true_iff] at h
 obtain ⟨⟨⟨⟨⟨⟨⟨h1,h2⟩,h3⟩,h4⟩,h5⟩,h6⟩,h7⟩,h8⟩:=h
 exact ⟨h1,h2,h3,h4,h5,fun x hx=>(h6 _ (PySem.mem_of_lookup hx)).resolve_left fun z=>z rfl,h7,h8⟩
end VL
end
section
namespace VL
open PySem PySem.Spec PyProof.Rows L2 PySem.W PySem.Calls PySem.Builtin.ObjectAttr PySem.Builtin PySem.Builtin.Getset_descriptor
section
variable {prog:Program} {w:World} {A:Around} {E:Y9} {s:Shared} {K:FG} {x C:Addr} {name:Str}
end
section
variable {X:Cx}
end
end VL
end
section
namespace VL
open PySem PySem.Spec PyProof.Rows L2 PySem.SeqAt
section
variable {X:Cx}
variable {o e:Expr} {ap cp:Pos}
end
end VL
end
section
namespace ST
open PySem PySem.SetTable
end ST
end
section
namespace ST
open PySem PySem.SetTable
end ST
end
section
namespace ST
open PySem PySem.SetTable
end ST
end
section
namespace ST
open PySem PySem.SetTable
end ST
end
section
namespace ST
open PySem PySem.SetTable
end ST
end
section
namespace ST
open PySem PySem.SetTable
section
variable {prog:Program} {w:World} {K:Type} [DecidableEq K] {knd:KeyKind prog w K} {A:Around} {E:Y9} {s:Shared}
end
end ST
end
section
namespace ST
open PySem PySem.SetTable
section
variable {prog:Program} {w:World} {K:Type} [DecidableEq K] (knd:KeyKind prog w K)
end
section
variable {prog:Program} {w:World} {K:Type} [DecidableEq K] {knd:KeyKind prog w K} {A:Around} {E:Y9} {s:Shared}
end
end ST
end
section
namespace ST
open PySem PySem.SetTable
section
variable {prog:Program} {w:World} {A:Around} {E:Y9} {s:Shared}
end
end ST
end
section
namespace ST
open PySem PySem.SetTable
section
variable {prog:Program} {w:World} {A:Around} {E:Y9} {s:Shared}
theorem aQ5 {h h':Heap} {ks:Y0} {a:Addr} (x:IsTupleKey (intKind prog w) h ks a) (hk:∀o,h.get? a=some o->h'.get? a=some o):IsTupleKey (intKind prog w) h' ks a:=by
 obtain ⟨o,items,n,ho,hc,hd,hi⟩:=x
 exact ⟨o,items,n,hk o ho,hc,hd,hi⟩
end
end ST
end
section
namespace ST
open PySem PySem.SetTable
section
variable {prog:Program} {w:World} {A:Around} {E:Y9} {s:Shared}
end
end ST
end
section
namespace ST
open PySem PySem.SetTable
section
variable {prog:Program} {w:World} {A:Around} {E:Y9} {s:Shared}
end
end ST
end
section
namespace ST
open PySem PySem.SetTable
namespace F
end F
section
variable {prog:Program} {w:World} {A:Around} {E:Y9} {s:Shared}
end
end ST
end
section
namespace ST
open PySem PySem.SetTable
section
variable {prog:Program} {w:World} {A:Around} {E:Y9} {s:Shared}
end
end ST
end
section
namespace ST
open PySem PySem.W PyProof.Rows
section
variable {n:Nat} {lt:Nat->Nat->Bool} {cmp:Nat->Nat->(Bool->Shared->Prop)->Shared->Prop} {s:Shared}
end
section
variable {n:Nat} {lt:Nat->Nat->Bool} {cmp:Nat->Nat->(Bool->Shared->Prop)->Shared->Prop} {s:Shared}
end
end ST
end
section
namespace ST
open PySem PySem.W PyProof.Rows
def ltL:Y0->Y0->Bool
 | [],[]=>false
 | [],_::_=>true
 | _::_,[]=>false
 | x::xs,y::ys=>if x=y then ltL xs ys else decide (x<y)
theorem ltL_irr:∀x,ltL x x=false
 | []=>rfl
 | x::xs=>by unfold ltL;rw [if_pos rfl];exact ltL_irr xs
theorem ltL_tr:∀x y z,ltL x y=true->ltL y z=true->ltL x z=true
 | [],[],z,h,_=>by cases h
 | [],_::_,[],_,h=>by cases h
 | [],_::_,_::_,_,_=>rfl
 | _::_,[],_,h,_=>by cases h
 | _::_,_::_,[],_,h=>by cases h
 | x::xs,y::ys,z::zs,h1,h2=>by
  unfold ltL at h1 h2 ⊢
  by_cases e1:x=y
  ·rw [if_pos e1] at h1
   subst e1
   by_cases e2:x=z
   ·rw [if_pos e2] at h2 ⊢;exact ltL_tr xs ys zs h1 h2
   ·rw [if_neg e2] at h2 ⊢;exact h2
  ·rw [if_neg e1] at h1
   have h1:=of_decide_eq_true h1
   by_cases e2:y=z
   ·subst e2;rw [if_neg e1];exact decide_eq_true h1
   ·rw [if_neg e2] at h2
    have h2:=of_decide_eq_true h2
    rw [if_neg (by omega)];exact decide_eq_true (by omega)
theorem ltL_tot:∀x y,x ≠ y->ltL x y=true\/ltL y x=true
 | [],[],h=>absurd rfl h
 | [],_::_,_=>.inl rfl
 | _::_,[],_=>.inr rfl
 | x::xs,y::ys,h=>by
  unfold ltL
  by_cases e:x=y
  ·subst e
   rw [if_pos rfl,if_pos rfl]
   exact ltL_tot xs ys fun z=>h (by rw [z])
  ·rw [if_neg e,if_neg (Ne.symm e)]
   rcases Int.lt_or_gt_of_ne e with q | q
   ·exact .inl (decide_eq_true q)
   ·exact .inr (decide_eq_true q)
section
variable {prog:Program} {w:World} {A:Around} {E:Y9} {s:Shared}
theorem aFz {b:Bool} {Q:Bool->Shared->Prop}:∀ {x y:Y0} {xs ys:Y1} {fin:Bool} (i:Nat),ItemsAre (intKind prog w) x xs->ItemsAre (intKind prog w) y ys->fin=decide (x.length<y.length)->Q (ltL x y) s->KatLex prog w A b fin Q (xs.zip ys) i s
 | _,_,_,_,fin,i,.nil,.nil,hf,hq=>by
  have:fin=false:=by rw [hf];rfl
  subst this
  exact kat_nil hq
 | _,_,_,_,fin,i,.nil,.cons _ _,hf,hq=>by
  have:fin=true:=by rw [hf];simp
  subst this
  exact kat_nil hq
 | _,_,_,_,fin,i,.cons _ _,.nil,hf,hq=>by
  have:fin=false:=by rw [hf];simp
  subst this
  exact kat_nil hq
 | x::x',y::y',_,_,fin,i,.cons h1 hx,.cons h2 hy,hf,hq=>by
  refine kat_cons ((intKind prog w).eqBool h1 h2 ?_)
  unfold ltL at hq
  by_cases e:x=y
  ·rw [decide_eq_true e]
   rw [if_pos e] at hq
   have hf':fin=decide (x'.length<y'.length):=by
    rw [hf];simp only [List.length_cons,Nat.add_lt_add_iff_right]
   exact kat_yes (aFz (i+1) hx hy hf' hq)
  ·rw [decide_eq_false e]
   rw [if_neg e] at hq
   obtain ⟨t,rfl⟩:=Value.isInt_shape h1
   obtain ⟨u,rfl⟩:=Value.isInt_shape h2
   refine kat_no ?_
   cases (b && i == 0) with
   | true=>exact oneLt_int hq
   | false=>exact kat_one _ _ (PyProof.Rows.lt_int (show W.BoolBack Q (.bool _) s from hq))
theorem aXe {b:Bool} {Q:Bool->Shared->Prop} {x y:Y0} {a c:Addr} (hx:IsTupleKey (intKind prog w) s.heap x a) (hy:IsTupleKey (intKind prog w) s.heap y c) (hq:Q (ltL x y) s):wpAny (model prog w) A (keyLt' (tuples' b) (.ref a) (.ref c)) Q E s:=by
 obtain ⟨ox,xs,n,hox,_,hdx,hix⟩:=hx
 obtain ⟨oy,ys,k,hoy,_,hdy,hiy⟩:=hy
 refine kat_lt hox hdx hoy hdy (aFz 0 hix hiy ?_ hq)
 have l1:=hix.length;have l2:=hiy.length
 simp at l1 l2
 rw [l1,l2]
end
end ST
end
section
namespace ST
open PySem PySem.W PyProof.Rows
section
variable {prog:Program} {w:World} {A:Around} {E:Y9} {s:Shared}
def refs (kas:Y7):Y1:=kas.map fun p=>Value.ref p.2
theorem sE {h:Heap}:∀ {kas:Y7},(∀p∈kas,IsTupleKey (intKind prog w) h p.1 p.2)->(∀p∈kas,p.1 ≠ [])->∃fs,KatTups h (refs kas) fs/\fs.length=kas.length/\∀v∈fs,∃x t,v=.int x t
 | [],_,_=>⟨[],KatTups.nil,rfl,fun v hv=>by simp at hv⟩
 | p::kas,hk,hn=>by
  obtain ⟨fs,h1,h2,h3⟩:=sE (fun q hq=>hk q (List.mem_cons_of_mem _ hq)) fun q hq=>hn q (List.mem_cons_of_mem _ hq)
  obtain ⟨o,items,m,ho,hc,hd,hi⟩:=hk p List.mem_cons_self
  have hne:=hn p List.mem_cons_self
  obtain ⟨ks,ad⟩:=p
  cases hq:items.toList with
  | nil=>rw [hq] at hi;cases hi;exact absurd rfl hne
  | cons v vs =>
   rw [hq] at hi
   cases hi with
   | @cons k _ _ _ h4 _ =>
    obtain ⟨t,rfl⟩:=Value.isInt_shape h4
    refine ⟨.int k t::fs,KatTups.cons ho hc hd ?_ h1,by simp [h2],fun v hv=>?_⟩
    ·rw [<- Array.getElem?_toList,hq];rfl
    ·rcases List.mem_cons.mp hv with rfl | hv
     ·exact ⟨_,t,rfl⟩
     ·exact h3 v hv
end
end ST
end
section
namespace VT
section
variable {α:Type} (ρ:α->Int)
def Srt (l:List α):Prop:=l.Pairwise (fun x y=>ρ x<=ρ y)
structure LInv (A B out:List α) (i j:Nat):Prop where
 perm:out.Perm (A.take i++B.take j)
 srt:Srt ρ out
 le:∀x∈out,∀y∈A.drop i++B.drop j,ρ x<=ρ y
variable {ρ} {A B out:List α} {i j:Nat}
theorem pB (h:Srt ρ A) (hi:i<A.length):∀y∈A.drop i,ρ A[i]<=ρ y:=by
 intro y hy
 rw [List.drop_eq_getElem_cons hi] at hy
 have h2:=List.Pairwise.drop (i:=i) h
 rw [List.drop_eq_getElem_cons hi,List.pairwise_cons] at h2
 rcases List.mem_cons.mp hy with rfl | hy
 ·exact Int.le_refl _
 ·exact h2.1 y hy
theorem LInv.pushA (v:LInv ρ A B out i j) (hA:Srt ρ A) (hi:i<A.length) (h:∀y∈B.drop j,ρ A[i]<=ρ y):LInv ρ A B (out ++ [A[i]]) (i+1) j:=by
 have e:A.drop i=A[i]::A.drop (i+1):=List.drop_eq_getElem_cons hi
 refine ⟨?_,?_,?_⟩
 ·rw [List.take_succ_eq_append_getElem hi]
  refine (v.perm.append_right _).trans ?_
  rw [List.append_assoc,List.append_assoc]
  exact List.Perm.append_left _ List.perm_append_comm
 ·refine List.pairwise_append.mpr ⟨v.srt,List.pairwise_singleton _ _,fun x hx y hy=>?_⟩
  rw [List.mem_singleton] at hy
  subst hy
  exact v.le x hx _ (List.mem_append_left _ (by rw [e];exact List.mem_cons_self))
 ·intro x hx y hy
  rcases List.mem_append.mp hx with hx | hx
  ·refine v.le x hx y ?_
   rw [e]
   rcases List.mem_append.mp hy with hy | hy
   ·first | exact List.mem_append_left _ (List.mem_cons_of_mem _ hy) | exact List.mem_append_left _ hy
   ·first | exact List.mem_append_right _ (List.mem_cons_of_mem _ hy) | exact List.mem_append_right _ hy
  ·rw [List.mem_singleton] at hx
   subst hx
   rcases List.mem_append.mp hy with hy | hy
   ·exact pB hA hi y (by rw [e];exact List.mem_cons_of_mem _ hy)
   ·exact h y hy
theorem LInv.pushB (v:LInv ρ A B out i j) (hB:Srt ρ B) (hj:j<B.length) (h:∀y∈A.drop i,ρ B[j]<=ρ y):LInv ρ A B (out ++ [B[j]]) i (j+1):=by
 have e:B.drop j=B[j]::B.drop (j+1):=List.drop_eq_getElem_cons hj
 refine ⟨?_,?_,?_⟩
 ·rw [List.take_succ_eq_append_getElem hj]
  refine (v.perm.append_right _).trans ?_
  rw [List.append_assoc]
 ·refine List.pairwise_append.mpr ⟨v.srt,List.pairwise_singleton _ _,fun x hx y hy=>?_⟩
  rw [List.mem_singleton] at hy
  subst hy
  exact v.le x hx _ (List.mem_append_right _ (by rw [e];exact List.mem_cons_self))
 ·intro x hx y hy
  rcases List.mem_append.mp hx with hx | hx
  ·refine v.le x hx y ?_
   rw [e]
   rcases List.mem_append.mp hy with hy | hy
   ·first | exact List.mem_append_left _ (List.mem_cons_of_mem _ hy) | exact List.mem_append_left _ hy
   ·first | exact List.mem_append_right _ (List.mem_cons_of_mem _ hy) | exact List.mem_append_right _ hy
  ·rw [List.mem_singleton] at hx
   subst hx
   rcases List.mem_append.mp hy with hy | hy
   ·exact h y hy
   ·exact pB hB hj y (by rw [e];exact List.mem_cons_of_mem _ hy)
theorem LInv.aAy (hA:Srt ρ A):∀(k:Nat) {i:Nat} {out:List α},LInv ρ A B out i j->i+k<=A.length->(∀m,i<=m->(hm:m<A.length)->m<i+k->∀y∈B.drop j,ρ A[m]<=ρ y)->LInv ρ A B (out++(A.drop i).take k) (i+k) j
 | 0,i,out,v,_,_=>by simpa using v
 | k+1,i,out,v,hk,h=>by
  have hi:i<A.length:=by omega
  have:=LInv.aAy hA k (v.pushA hA hi (h i (Nat.le_refl _) hi (by omega))) (by omega) (fun m h1 h2 h3=>h m (by omega) h2 (by omega))
  rw [List.drop_eq_getElem_cons hi,List.take_succ_cons]
  rw [List.append_assoc,List.singleton_append] at this
  rw [show i+(k+1)=i+1+k by omega]
  exact this
theorem LInv.aAz (hB:Srt ρ B):∀(k:Nat) {j:Nat} {out:List α},LInv ρ A B out i j->j+k<=B.length->(∀m,j<=m->(hm:m<B.length)->m<j+k->∀y∈A.drop i,ρ B[m]<=ρ y)->LInv ρ A B (out++(B.drop j).take k) i (j+k)
 | 0,j,out,v,_,_=>by simpa using v
 | k+1,j,out,v,hk,h=>by
  have hj:j<B.length:=by omega
  have:=LInv.aAz hB k (v.pushB hB hj (h j (Nat.le_refl _) hj (by omega))) (by omega) (fun m h1 h2 h3=>h m (by omega) h2 (by omega))
  rw [List.drop_eq_getElem_cons hj,List.take_succ_cons]
  rw [List.append_assoc,List.singleton_append] at this
  rw [show j+(k+1)=j+1+k by omega]
  exact this
theorem LInv.aJ0 (v:LInv ρ A B out i j) (hA:Srt ρ A) (hj:B.length<=j):(out++A.drop i++B.drop j).Perm (A++B)/\Srt ρ (out++A.drop i++B.drop j):=by
 have e:B.drop j=[]:=List.drop_eq_nil_of_le hj
 have e2:B.take j=B:=List.take_of_length_le hj
 rw [e,List.append_nil]
 have p:=v.perm
 rw [e2] at p
 refine ⟨?_,List.pairwise_append.mpr ⟨v.srt,hA.drop,fun x hx y hy=>v.le x hx y (List.mem_append_left _ hy)⟩⟩
 refine (p.append_right _).trans ?_
 rw [List.append_assoc]
 refine (List.Perm.append_left _ List.perm_append_comm).trans ?_
 rw [<- List.append_assoc,List.take_append_drop]
theorem LInv.aJx (v:LInv ρ A B out i j) (hB:Srt ρ B) (hi:A.length<=i):(out++A.drop i++B.drop j).Perm (A++B)/\Srt ρ (out++A.drop i++B.drop j):=by
 have e:A.drop i=[]:=List.drop_eq_nil_of_le hi
 have e2:A.take i=A:=List.take_of_length_le hi
 have le:=v.le
 rw [e] at le
 rw [e,List.append_nil]
 have p:=v.perm
 rw [e2] at p
 refine ⟨?_,List.pairwise_append.mpr ⟨v.srt,hB.drop,fun x hx y hy=>le x hx y (by simpa using hy)⟩⟩
 refine (p.append_right _).trans ?_
 rw [List.append_assoc,List.take_append_drop]
theorem LInv.last (v:LInv ρ A B out i j) (hB:Srt ρ B) (hi:i+1=A.length) (h:∀y∈B,ρ y<=ρ A[i]):(out++B.drop j++A.drop i).Perm (A++B)/\Srt ρ (out++B.drop j++A.drop i):=by
 have e:A.drop i=[A[i]]:=by rw [List.drop_eq_getElem_cons (by omega),List.drop_eq_nil_of_le (by omega)]
 refine ⟨?_,?_⟩
 ·refine ((v.perm.append_right _).append_right _).trans ?_
  rw [List.append_assoc (A.take i),List.take_append_drop,List.append_assoc]
  refine (List.Perm.append_left _ List.perm_append_comm).trans ?_
  rw [<- List.append_assoc,List.take_append_drop]
 ·rw [e]
  refine List.pairwise_append.mpr ⟨List.pairwise_append.mpr ⟨v.srt,hB.drop,fun x hx y hy=>v.le x hx y (List.mem_append_right _ hy)⟩,List.pairwise_singleton _ _,fun x hx y hy=>?_⟩
  rw [List.mem_singleton] at hy
  subst hy
  rcases List.mem_append.mp hx with hx | hx
  ·exact v.le x hx _ (List.mem_append_left _ (by rw [e];simp))
  ·exact h x (List.mem_of_mem_drop hx)
structure HInv (ρ:α->Int) (A B out:List α) (i j:Nat):Prop where
 perm:out.Perm (A.drop i++B.drop j)
 srt:Srt ρ out.reverse
 le:∀x∈A.take i++B.take j,∀y∈out,ρ x<=ρ y
theorem tO (h:Srt ρ A) (hi:i<A.length):∀y∈A.take i,ρ y<=ρ A[i]:=by
 intro y hy
 have h2:=List.Pairwise.take (i:=i+1) h
 rw [List.take_succ_eq_append_getElem hi,List.pairwise_append] at h2
 exact h2.2.2 y hy _ (by simp)
theorem HInv.pushA (v:HInv ρ A B out (i+1) j) (hA:Srt ρ A) (hi:i<A.length) (h:∀y∈B.take j,ρ y<=ρ A[i]):HInv ρ A B (out ++ [A[i]]) i j:=by
 have e:A.take (i+1)=A.take i ++ [A[i]]:=List.take_succ_eq_append_getElem hi
 refine ⟨?_,?_,?_⟩
 ·rw [List.drop_eq_getElem_cons hi]
  exact List.perm_append_comm.trans (List.Perm.cons _ v.perm)
 ·rw [List.reverse_append]
  refine List.pairwise_append.mpr ⟨List.pairwise_singleton _ _,v.srt,fun x hx y hy=>?_⟩
  simp at hx
  subst hx
  exact v.le _ (List.mem_append_left _ (by rw [e];exact List.mem_append_right _ (List.mem_singleton.mpr rfl))) y (by simpa using hy)
 ·intro x hx y hy
  rcases List.mem_append.mp hy with hy | hy
  ·refine v.le x ?_ y hy
   rw [e]
   rcases List.mem_append.mp hx with hx | hx
   ·first | exact List.mem_append_left _ (List.mem_append_left _ hx) | exact List.mem_append_left _ hx
   ·first | exact List.mem_append_right _ (List.mem_append_left _ hx) | exact List.mem_append_right _ hx
  ·rw [List.mem_singleton] at hy
   subst hy
   rcases List.mem_append.mp hx with hx | hx
   ·exact tO hA hi x hx
   ·exact h x hx
theorem HInv.pushB (v:HInv ρ A B out i (j+1)) (hB:Srt ρ B) (hj:j<B.length) (h:∀y∈A.take i,ρ y<=ρ B[j]):HInv ρ A B (out ++ [B[j]]) i j:=by
 have e:B.take (j+1)=B.take j ++ [B[j]]:=List.take_succ_eq_append_getElem hj
 refine ⟨?_,?_,?_⟩
 ·rw [List.drop_eq_getElem_cons hj]
  refine (v.perm.append_right _).trans ?_
  rw [List.append_assoc]
  exact List.Perm.append_left _ List.perm_append_comm
 ·rw [List.reverse_append]
  refine List.pairwise_append.mpr ⟨List.pairwise_singleton _ _,v.srt,fun x hx y hy=>?_⟩
  simp at hx
  subst hx
  exact v.le _ (List.mem_append_right _ (by rw [e];exact List.mem_append_right _ (List.mem_singleton.mpr rfl))) y (by simpa using hy)
 ·intro x hx y hy
  rcases List.mem_append.mp hy with hy | hy
  ·refine v.le x ?_ y hy
   rw [e]
   rcases List.mem_append.mp hx with hx | hx
   ·first | exact List.mem_append_left _ (List.mem_append_left _ hx) | exact List.mem_append_left _ hx
   ·first | exact List.mem_append_right _ (List.mem_append_left _ hx) | exact List.mem_append_right _ hx
  ·rw [List.mem_singleton] at hy
   subst hy
   rcases List.mem_append.mp hx with hx | hx
   ·exact h x hx
   ·exact tO hB hj x hx
theorem HInv.aAy (hA:Srt ρ A):∀(k:Nat) {i:Nat} {out:List α},HInv ρ A B out (i+k) j->i+k<=A.length->(∀m,i<=m->(hm:m<A.length)->m<i+k->∀y∈B.take j,ρ y<=ρ A[m])->HInv ρ A B (out++((A.drop i).take k).reverse) i j
 | 0,i,out,v,_,_=>by simpa using v
 | k+1,i,out,v,hk,h=>by
  have hi:i<A.length:=by omega
  have e:i+1+k=i+(k+1):=by omega
  have:=(HInv.aAy hA k (i:=i+1) (by rw [e];exact v) (by omega) (fun m h1 h2 h3=>h m (by omega) h2 (by omega))).pushA hA hi (h i (Nat.le_refl _) hi (by omega))
  rw [List.drop_eq_getElem_cons hi,List.take_succ_cons,List.reverse_cons,<- List.append_assoc]
  exact this
theorem HInv.aAz (hB:Srt ρ B):∀(k:Nat) {j:Nat} {out:List α},HInv ρ A B out i (j+k)->j+k<=B.length->(∀m,j<=m->(hm:m<B.length)->m<j+k->∀y∈A.take i,ρ y<=ρ B[m])->HInv ρ A B (out++((B.drop j).take k).reverse) i j
 | 0,j,out,v,_,_=>by simpa using v
 | k+1,j,out,v,hk,h=>by
  have hj:j<B.length:=by omega
  have e:j+1+k=j+(k+1):=by omega
  have:=(HInv.aAz hB k (j:=j+1) (by rw [e];exact v) (by omega) (fun m h1 h2 h3=>h m (by omega) h2 (by omega))).pushB hB hj (h j (Nat.le_refl _) hj (by omega))
  rw [List.drop_eq_getElem_cons hj,List.take_succ_cons,List.reverse_cons,<- List.append_assoc]
  exact this
theorem HInv.aJx (v:HInv ρ A B out 0 j) (hB:Srt ρ B):(B.take j++out.reverse).Perm (A++B)/\Srt ρ (B.take j++out.reverse):=by
 refine ⟨?_,List.pairwise_append.mpr ⟨hB.take,v.srt,fun x hx y hy=>v.le x (List.mem_append_right _ hx) y (by simpa using hy)⟩⟩
 refine (List.Perm.append_left _ ((List.reverse_perm _).trans v.perm)).trans ?_
 rw [List.drop_zero]
 refine (List.Perm.append_left _ List.perm_append_comm).trans ?_
 rw [<- List.append_assoc,List.take_append_drop]
 exact List.perm_append_comm
theorem HInv.aJ0 (v:HInv ρ A B out i 0) (hA:Srt ρ A):(A.take i++out.reverse).Perm (A++B)/\Srt ρ (A.take i++out.reverse):=by
 refine ⟨?_,List.pairwise_append.mpr ⟨hA.take,v.srt,fun x hx y hy=>v.le x (List.mem_append_left _ hx) y (by simpa using hy)⟩⟩
 refine (List.Perm.append_left _ ((List.reverse_perm _).trans v.perm)).trans ?_
 rw [List.drop_zero,<- List.append_assoc,List.take_append_drop]
theorem HInv.first (v:HInv ρ A B out i 1) (hA:Srt ρ A) (hb:0<B.length) (h:∀y∈A,ρ B[0]<=ρ y):(B.take 1++A.take i++out.reverse).Perm (A++B)/\Srt ρ (B.take 1++A.take i++out.reverse):=by
 have e:B.take 1=[B[0]]:=by
  have:=List.take_succ_eq_append_getElem hb
  simpa using this
 refine ⟨?_,?_⟩
 ·refine (List.Perm.append_left _ ((List.reverse_perm _).trans v.perm)).trans ?_
  rw [List.append_assoc,<- List.append_assoc (A.take i),List.take_append_drop]
  refine List.perm_append_comm.trans ?_
  rw [List.append_assoc]
  refine List.Perm.append_left _ (List.perm_append_comm.trans ?_)
  rw [List.take_append_drop]
 ·refine List.pairwise_append.mpr ⟨List.pairwise_append.mpr ⟨?_,hA.take,fun x hx y hy=>?_⟩,v.srt,fun x hx y hy=>?_⟩
  ·rw [e];exact List.pairwise_singleton _ _
  ·rw [e,List.mem_singleton] at hx
   subst hx
   exact h y (List.mem_of_mem_take hy)
  ·refine v.le x ?_ y (by simpa using hy)
   rcases List.mem_append.mp hx with hx | hx
   ·exact List.mem_append_right _ hx
   ·exact List.mem_append_left _ hx
end
end VT
end
section
namespace VT
open PySem PyProof.Rows
abbrev aKq:Bool->Keyed->Array Keyed->Nat->Nat->Nat->StateT SortSt Sem (Option Nat):=sortPriv% PySem.Builtin.gallop
abbrev aGn:Array Keyed->Array Keyed->StateT SortSt Sem (Array Keyed):=sortPriv% PySem.Builtin.mergeLo
abbrev aIs:Array Keyed->Array Keyed->StateT SortSt Sem (Array Keyed):=sortPriv% PySem.Builtin.mergeHi
def Cmp (prog:Program) (w:World) (A:Around) (s:Shared) (κ:SortKind) (ρ:Keyed->Int) (a₀:List Keyed):Prop :=
 ∀x∈a₀,∀y∈a₀,∀Q:Bool->Shared->Prop,Q (decide (ρ x < ρ y)) s->wpAny (model prog w) A (keyLt' κ x.1 y.1) Q (fun _ _=>False) s
def Rk (ρ:Keyed->Int) (xs:Array Keyed) (i:Nat):Int:=match xs[i]? with
 | some p=>ρ p
 | none=>0
theorem dI {ρ:Keyed->Int} {xs:Array Keyed} {i:Nat} {x:Keyed} (h:xs[i]?=some x):Rk ρ xs i=ρ x:=by unfold Rk;rw [h]
section
variable {prog:Program} {w:World} {A:Around} {E:Y9} {s:Shared} {κ:SortKind} {ρ:Keyed->Int} {a₀:List Keyed} {st:SortSt}
theorem bR {arr:Array Keyed} {i:Nat} {x:Keyed} {Q:Keyed->SortSt->Prop} (h:arr[i]?=some x) (hq:Q x st):wpS (model prog w) A E s (elem' arr i) Q st:=by
 rw [elem'_eq,h];exact wpS_pure hq
theorem oE (C:Cmp prog w A s κ ρ a₀) (hk:kindOf st=κ) {x y:Keyed} (hx:x∈a₀) (hy:y∈a₀) {Q:Option Bool->SortSt->Prop} (h:Q (some (decide (ρ x < ρ y))) st):wpS (model prog w) A E s (lt' x y) Q st:=by
 rw [lt'_eq]
 refine wpS_bind (wpS_get ?_)
 rw [hk]
 refine wpS_bind (wpS_lift (wpAny_attempt (wpAny_mono (C x hx y hy (fun b s'=>s'=s/\b=decide (ρ x < ρ y)) ⟨rfl,rfl⟩) (fun b s' hb=>?_) fun _ _ hF=>hF.elim)))
 obtain ⟨rfl,rfl⟩:=hb
 exact ⟨rfl,wpS_pure h⟩
def bey (ρ:Keyed->Int) (left:Bool) (key:Keyed) (arr:Array Keyed) (base i:Nat):Bool:=bif left then decide (Rk ρ arr (base+i) < ρ key) else !decide (ρ key<Rk ρ arr (base+i))
theorem aHl {left:Bool} {key:Keyed} {arr:Array Keyed} {base i j:Nat} (h:Rk ρ arr (base+i)<=Rk ρ arr (base+j)) (hb:bey ρ left key arr base j=true):bey ρ left key arr base i=true:=by
 unfold bey at *
 cases left<;>simp at *<;>omega
structure Gal (ρ:Keyed->Int) (a₀:List Keyed) (arr:Array Keyed) (base n:Nat):Prop where
 mem:∀i,i<n->∃x,arr[base+i]?=some x/\x∈a₀
 srt:∀i j,i<=j->j<n->Rk ρ arr (base+i)<=Rk ρ arr (base+j)
theorem gP (C:Cmp prog w A s κ ρ a₀) (hk:kindOf st=κ) {left:Bool} {key:Keyed} {arr:Array Keyed} {base n hint:Nat} (hkey:key∈a₀) (g:Gal ρ a₀ arr base n) (hh:hint<n) {Q:Option Nat->SortSt->Prop}
  (h:∀k,k<=n->(∀i,i<k->bey ρ left key arr base i=true)->(∀i,k<=i->i<n->bey ρ left key arr base i=false)->Q (some k) st):wpS (model prog w) A E s (aKq left key arr base n hint) Q st:=by
 have hb:∀(i:Nat) (_:i<n) (Q:Option Bool->SortSt->Prop),Q (some (bey ρ left key arr base i)) st->wpS (model prog w) A E s (do let x <- elem' arr (base+i);if left=true then lt' x key else do let r <- lt' key x;pure (Option.map (fun x=>!x) r)) Q st:=by
  intro i hi Q hq
  obtain ⟨x,hx,hm⟩:=g.mem i hi
  refine wpS_bind (bR hx ?_)
  unfold bey at hq
  rw [dI hx] at hq
  cases left with
  | true=>simp only [if_true];exact oE C hk hm hkey hq
  | false=>simp only [Bool.false_eq_true,if_false];exact wpS_bind (oE C hk hkey hm (wpS_pure hq))
 have hmono:∀i j,i<=j->j<n->bey ρ left key arr base j=true->bey ρ left key arr base i=true:=fun i j h1 h2 h3=>aHl (g.srt i j h1 h2) h3
 refine wpS_bind (hb hint hh _ ?_)
 dsimp only
 cases hr:bey ρ left key arr base hint with
 | true =>
  simp only [if_true]
  refine wpS_bind (wpS_mono (wpS_forRange (I:=fun x c st'=>st'=st/\∃la ofs,c=(none,la,ofs)/\la<ofs/\x<ofs/\hint+la<n/\bey ρ left key arr base (hint+la)=true)
   (Q:=fun c st'=>st'=st/\∃la ofs,c=(none,la,ofs)/\la<ofs/\hint+la<n/\bey ρ left key arr base (hint+la)=true/\(n - hint<=ofs\/hint+ofs<n/\bey ρ left key arr base (hint+ofs)=false)) ?_ ?_ ⟨rfl,0,1,rfl,by omega,by omega,hh,hr⟩) ?_)
  ·rintro x c st' _ hx ⟨rfl,la,ofs,rfl,a1,a2,a3,a4⟩
   dsimp only
   by_cases hg:ofs >= n - hint
   ·rw [if_pos hg]
    exact wpS_pure ⟨rfl,la,ofs,rfl,a1,a3,a4,.inl hg⟩
   ·rw [if_neg hg]
    refine wpS_bind (hb _ (by omega) _ ?_)
    dsimp only
    cases hc:bey ρ left key arr base (hint+ofs) with
    | true =>
     simp only [Bool.not_true,Bool.false_eq_true,if_false]
     exact wpS_pure ⟨rfl,_,_,rfl,by omega,by omega,by omega,hc⟩
    | false =>
     simp only [Bool.not_false,if_true]
     exact wpS_pure ⟨rfl,la,ofs,rfl,a1,a3,a4,.inr ⟨by omega,hc⟩⟩
  ·rintro c st' ⟨rfl,la,ofs,rfl,a1,a2,a3,a4⟩
   exact ⟨rfl,la,ofs,rfl,a1,a3,a4,.inl (by omega)⟩
  ·rintro c st' ⟨rfl,la,ofs,rfl,a1,a3,a4,a5⟩
   dsimp only
   have f1:hint+la+1<=hint+min ofs (n - hint):=by omega
   have f2:hint+min ofs (n - hint)<=n:=by omega
   have f3:∀i,i<hint+la+1->bey ρ left key arr base i=true:=fun i hi=>hmono i _ (by omega) a3 a4
   have f4:∀i,hint+min ofs (n - hint)<=i->i<n->bey ρ left key arr base i=false:=by
    intro i h1 h2
    rcases a5 with a5 | ⟨a5,a6⟩
    ·omega
    ·cases hd:bey ρ left key arr base i with
     | false=>rfl
     | true=>rw [hmono _ i (by omega) h2 hd] at a6;cases a6
   generalize hint+la+1=lo at *
   generalize hint+min ofs (n - hint)=hi at *
   refine wpS_bind (wpS_mono (wpS_forRange (I:=fun x c st''=>st''=st'/\∃lo hi,c=(none,lo,hi)/\lo<=hi/\hi<=n/\hi - lo<=n - x/\(∀i,i<lo->bey ρ left key arr base i=true)/\(∀i,hi<=i->i<n->bey ρ left key arr base i=false))
    (Q:=fun c st''=>st''=st'/\∃hi,c=(none,hi,hi)/\hi<=n/\(∀i,i<hi->bey ρ left key arr base i=true)/\(∀i,hi<=i->i<n->bey ρ left key arr base i=false)) ?_ ?_ ⟨rfl,lo,hi,rfl,f1,f2,by omega,f3,f4⟩) ?_)
   ·rintro x c st' _ hx ⟨rfl,lo,hi,rfl,f1,f2,f5,f3,f4⟩
    dsimp only
    by_cases hg:lo >= hi
    ·rw [if_pos hg]
     have e:lo=hi:=by omega
     subst e
     exact wpS_pure ⟨rfl,lo,rfl,f2,f3,f4⟩
    ·rw [if_neg hg]
     refine wpS_bind (hb _ (by omega) _ ?_)
     dsimp only
     cases hc:bey ρ left key arr base (lo+(hi - lo) / 2) with
     | true =>
      simp only [if_true]
      exact wpS_pure ⟨rfl,_,_,rfl,by omega,f2,by omega,fun i hi'=>hmono i _ (by omega) (by omega) hc,f4⟩
     | false =>
      simp only [Bool.false_eq_true,if_false]
      refine wpS_pure ⟨rfl,_,_,rfl,by omega,by omega,by omega,f3,fun i h1 h2=>?_⟩
      cases hd:bey ρ left key arr base i with
      | false=>rfl
      | true=>rw [hmono _ i h1 h2 hd] at hc;cases hc
   ·rintro c st' ⟨rfl,lo,hi,rfl,f1,f2,f5,f3,f4⟩
    have e:lo=hi:=by omega
    subst e
    exact ⟨rfl,lo,rfl,f2,f3,f4⟩
   ·rintro c st' ⟨rfl,hi,rfl,f2,f3,f4⟩
    exact wpS_pure (h hi f2 f3 f4)
 | false =>
  simp only [Bool.false_eq_true,if_false]
  refine wpS_bind (wpS_mono (wpS_forRange (I:=fun x c st'=>st'=st/\∃la ofs,c=(none,la,ofs)/\la<ofs/\x<ofs/\la<=hint/\bey ρ left key arr base (hint - la)=false)
   (Q:=fun c st'=>st'=st/\∃la ofs,c=(none,la,ofs)/\la<ofs/\la<=hint/\bey ρ left key arr base (hint - la)=false/\(hint+1<=ofs\/ofs<=hint/\bey ρ left key arr base (hint - ofs)=true)) ?_ ?_ ⟨rfl,0,1,rfl,by omega,by omega,by omega,hr⟩) ?_)
  ·rintro x c st' _ hx ⟨rfl,la,ofs,rfl,a1,a2,a3,a4⟩
   dsimp only
   by_cases hg:ofs >= hint+1
   ·rw [if_pos hg]
    exact wpS_pure ⟨rfl,la,ofs,rfl,a1,a3,a4,.inl hg⟩
   ·rw [if_neg hg]
    refine wpS_bind (hb _ (by omega) _ ?_)
    dsimp only
    cases hc:bey ρ left key arr base (hint - ofs) with
    | true =>
     simp only [if_true]
     exact wpS_pure ⟨rfl,la,ofs,rfl,a1,a3,a4,.inr ⟨by omega,hc⟩⟩
    | false =>
     simp only [Bool.false_eq_true,if_false]
     exact wpS_pure ⟨rfl,_,_,rfl,by omega,by omega,by omega,hc⟩
  ·rintro c st' ⟨rfl,la,ofs,rfl,a1,a2,a3,a4⟩
   exact ⟨rfl,la,ofs,rfl,a1,a3,a4,.inl (by omega)⟩
  ·rintro c st' ⟨rfl,la,ofs,rfl,a1,a3,a4,a5⟩
   dsimp only
   have f1:hint+1 - min ofs (hint+1)<=hint - la:=by omega
   have f2:hint - la<=n:=by omega
   have f4:∀i,hint - la<=i->i<n->bey ρ left key arr base i=false:=by
    intro i h1 h2
    cases hd:bey ρ left key arr base i with
    | false=>rfl
    | true=>rw [hmono _ i h1 h2 hd] at a4;cases a4
   have f3:∀i,i<hint+1 - min ofs (hint+1)->bey ρ left key arr base i=true:=by
    intro i hi
    rcases a5 with a5 | ⟨a5,a6⟩
    ·omega
    ·exact hmono i _ (by omega) (by omega) a6
   generalize hint+1 - min ofs (hint+1)=lo at *
   generalize hint - la=hi at *
   refine wpS_bind (wpS_mono (wpS_forRange (I:=fun x c st''=>st''=st'/\∃lo hi,c=(none,lo,hi)/\lo<=hi/\hi<=n/\hi - lo<=n - x/\(∀i,i<lo->bey ρ left key arr base i=true)/\(∀i,hi<=i->i<n->bey ρ left key arr base i=false))
    (Q:=fun c st''=>st''=st'/\∃hi,c=(none,hi,hi)/\hi<=n/\(∀i,i<hi->bey ρ left key arr base i=true)/\(∀i,hi<=i->i<n->bey ρ left key arr base i=false)) ?_ ?_ ⟨rfl,lo,hi,rfl,f1,f2,by omega,f3,f4⟩) ?_)
   ·rintro x c st' _ hx ⟨rfl,lo,hi,rfl,f1,f2,f5,f3,f4⟩
    dsimp only
    by_cases hg:lo >= hi
    ·rw [if_pos hg]
     have e:lo=hi:=by omega
     subst e
     exact wpS_pure ⟨rfl,lo,rfl,f2,f3,f4⟩
    ·rw [if_neg hg]
     refine wpS_bind (hb _ (by omega) _ ?_)
     dsimp only
     cases hc:bey ρ left key arr base (lo+(hi - lo) / 2) with
     | true =>
      simp only [if_true]
      exact wpS_pure ⟨rfl,_,_,rfl,by omega,f2,by omega,fun i hi'=>hmono i _ (by omega) (by omega) hc,f4⟩
     | false =>
      simp only [Bool.false_eq_true,if_false]
      refine wpS_pure ⟨rfl,_,_,rfl,by omega,by omega,by omega,f3,fun i h1 h2=>?_⟩
      cases hd:bey ρ left key arr base i with
      | false=>rfl
      | true=>rw [hmono _ i h1 h2 hd] at hc;cases hc
   ·rintro c st' ⟨rfl,lo,hi,rfl,f1,f2,f5,f3,f4⟩
    have e:lo=hi:=by omega
    subst e
    exact ⟨rfl,lo,rfl,f2,f3,f4⟩
   ·rintro c st' ⟨rfl,hi,rfl,f2,f3,f4⟩
    exact wpS_pure (h hi f2 f3 f4)
end
end VT
end
section
namespace VT
open PySem PyProof.Rows
structure Same (st st':SortSt):Prop where
 kind:kindOf st'=kindOf st
 arr:arrOf st'=arrOf st
 pend:pendingOf st'=pendingOf st
 failed:failedOf st'=failedOf st
theorem Same.refl (st:SortSt):Same st st:=⟨rfl,rfl,rfl,rfl⟩
section
variable {ρ:Keyed->Int} {a b out:Array Keyed} {i j:Nat} {x:Keyed}
theorem ex1 {k:Nat}:(a.extract i (i+k)).toList=(a.toList.drop i).take k:=by
 rw [Array.toList_extract,List.extract_eq_take_drop,show i+k - i=k by omega]
theorem ex2:(a.extract i).toList=a.toList.drop i:=by
 rw [Array.toList_extract,List.extract_eq_take_drop,List.take_of_length_le (by simp)]
theorem lS (hi:i<a.size):Rk ρ a i=ρ a.toList[i]:=dI (by simp [hi])
theorem aNo (sa:Srt ρ a.toList) (h:i<=j) (hj:j<a.size):Rk ρ a i<=Rk ρ a j:=by
 rw [lS hj,lS (by omega)]
 by_cases e:i=j
 ·subst e;exact Int.le_refl _
 ·exact List.pairwise_iff_getElem.mp sa i j (by simpa using (by omega:i<a.size)) (by simpa using hj) (by omega)
theorem rD (sb:Srt ρ b.toList) (hj:j<b.size):∀y∈b.toList.drop j,Rk ρ b j<=ρ y:=by
 rw [lS hj]
 exact pB sb (by simpa using hj)
theorem rE (sb:Srt ρ b.toList) (hj:j<b.size):∀y∈b.toList.take (j+1),ρ y<=Rk ρ b j:=by
 rw [lS hj]
 intro y hy
 rw [List.take_succ_eq_append_getElem (by simpa using hj)] at hy
 rcases List.mem_append.mp hy with hy | hy
 ·exact tO sb (by simpa using hj) y hy
 ·rw [List.mem_singleton] at hy;subst hy;exact Int.le_refl _
theorem wW (h:a[i]?=some x):∃hi:i<a.size,x=a.toList[i]:=by
 obtain ⟨hi,e⟩:=Array.getElem?_eq_some_iff.mp h
 exact ⟨hi,by rw [<- e];simp⟩
theorem aBn (v:LInv ρ a.toList b.toList out.toList i j) (sa:Srt ρ a.toList) (sb:Srt ρ b.toList) (hx:a[i]?=some x) (hj:j<b.size) (h:ρ x<=Rk ρ b j):LInv ρ a.toList b.toList (out.push x).toList (i+1) j:=by
 obtain ⟨hi,rfl⟩:=wW hx
 rw [Array.toList_push]
 exact v.pushA sa (by simpa using hi) fun y hy=>Int.le_trans h (rD sb hj y hy)
theorem aB8 (v:LInv ρ a.toList b.toList out.toList i j) (sa:Srt ρ a.toList) (sb:Srt ρ b.toList) (hx:b[j]?=some x) (hi:i<a.size) (h:ρ x<=Rk ρ a i):LInv ρ a.toList b.toList (out.push x).toList i (j+1):=by
 obtain ⟨hj,rfl⟩:=wW hx
 rw [Array.toList_push]
 exact v.pushB sb (by simpa using hj) fun y hy=>Int.le_trans h (rD sa hi y hy)
theorem aTu {k:Nat} (v:LInv ρ a.toList b.toList out.toList i j) (sa:Srt ρ a.toList) (sb:Srt ρ b.toList) (hk:i+k<=a.size) (hj:j<b.size) (h:∀m,m<k->Rk ρ a (i+m)<=Rk ρ b j):LInv ρ a.toList b.toList (out++a.extract i (i+k)).toList (i+k) j:=by
 rw [Array.toList_append,ex1]
 refine v.aAy sa k (by simpa using hk) fun m h1 hm h3 y hy=>Int.le_trans ?_ (rD sb hj y hy)
 have:=h (m - i) (by omega)
 rw [show i+(m - i)=m by omega,lS (by simpa using hm)] at this
 exact this
theorem aR9 {k:Nat} (v:LInv ρ a.toList b.toList out.toList i j) (sa:Srt ρ a.toList) (sb:Srt ρ b.toList) (hk:j+k<=b.size) (hi:i<a.size) (h:∀m,m<k->Rk ρ b (j+m)<=Rk ρ a i):LInv ρ a.toList b.toList (out++b.extract j (j+k)).toList i (j+k):=by
 rw [Array.toList_append,ex1]
 refine v.aAz sb k (by simpa using hk) fun m h1 hm h3 y hy=>Int.le_trans ?_ (rD sa hi y hy)
 have:=h (m - j) (by omega)
 rw [show j+(m - j)=m by omega,lS (by simpa using hm)] at this
 exact this
def Res (ρ:Keyed->Int) (a b r:Array Keyed):Prop:=r.toList.Perm (a.toList++b.toList)/\Srt ρ r.toList
theorem yG (v:LInv ρ a.toList b.toList out.toList i j) (sa:Srt ρ a.toList) (hj:j=b.size):Res ρ a b (out++a.extract i++b.extract j):=by
 unfold Res
 rw [Array.toList_append,Array.toList_append,ex2,ex2]
 exact v.aJ0 sa (by simp [hj])
theorem aTq (v:LInv ρ a.toList b.toList out.toList i j) (sb:Srt ρ b.toList) (hi:i=a.size):Res ρ a b (out++a.extract i++b.extract j):=by
 unfold Res
 rw [Array.toList_append,Array.toList_append,ex2,ex2]
 exact v.aJx sb (by simp [hi])
theorem zM (v:LInv ρ a.toList b.toList out.toList i j) (sb:Srt ρ b.toList) (hi:i+1=a.size) (hl:∀y∈b.toList,ρ y<=Rk ρ a (a.size - 1)):Res ρ a b (out++b.extract j++a.extract i):=by
 unfold Res
 rw [Array.toList_append,Array.toList_append,ex2,ex2]
 refine v.last sb (by simp [hi]) fun y hy=>?_
 have:=hl y hy
 rw [lS (by omega)] at this
 have e:a.size - 1=i:=by omega
 simp only [e] at this
 exact this
theorem lK {a₀:List Keyed} (ma:∀x∈a.toList,x∈a₀) (sa:Srt ρ a.toList) {n:Nat} (hn:i+n<=a.size):Gal ρ a₀ a i n:=by
 refine ⟨fun m hm=>⟨a.toList[i+m]'(by simp;omega),?_,ma _ (List.getElem_mem _)⟩,fun m k h1 h2=>aNo sa (by omega) (by omega)⟩
 rw [<- Array.getElem?_toList]
 exact List.getElem?_eq_getElem _
theorem aCs {key:Keyed} (h:bey ρ false key a i j=true):Rk ρ a (i+j)<=ρ key:=by
 unfold bey at h;simp at h;exact h
theorem wK {key:Keyed} (h:bey ρ false key a i j=false):ρ key<=Rk ρ a (i+j):=by
 unfold bey at h;simp at h;omega
theorem aCg {key:Keyed} (h:bey ρ true key a i j=true):Rk ρ a (i+j)<=ρ key:=by
 unfold bey at h;simp at h;omega
theorem yC {key:Keyed} (h:bey ρ true key a i j=false):ρ key<=Rk ρ a (i+j):=by
 unfold bey at h;simp at h;exact h
end
section
variable {prog:Program} {w:World} {A:Around} {E:Y9} {s:Shared} {κ:SortKind} {ρ:Keyed->Int} {a₀:List Keyed} {st:SortSt}
theorem xO {Q:PUnit->SortSt->Prop} {g:Nat} {st₀:SortSt} (hs:Same st₀ st) (h:∀st',Same st₀ st'->Q ⟨⟩ st'):wpS (model prog w) A E s ((sortPriv% PySem.Builtin.setMinGallop) g) Q st :=
 wpS_modify (h _ ⟨hs.kind,hs.arr,hs.pend,hs.failed⟩)
def aBt (ρ:Keyed->Int) (a b:Array Keyed) (st:SortSt) (z n:Nat):ForInStep (Option (Array Keyed)×Array Keyed×Nat×Nat×Nat×Nat×Nat)->SortSt->Prop
 | .done c,st'=>Same st st'/\((∃r q,c=(some r,q)/\Res ρ a b r)\/∃out i j mg ac bc,c=(none,out,i,j,mg,ac,bc)/\LInv ρ a.toList b.toList out.toList i j/\i+1<a.size/\j<b.size/\z<=i+j)
 | .yield c,st'=>Same st st'/\∃out i j mg ac bc,c=(none,out,i,j,mg,ac,bc)/\LInv ρ a.toList b.toList out.toList i j/\i+1<a.size/\j<b.size/\n+z<=i+j
theorem aAh (C:Cmp prog w A s κ ρ a₀) (hk:kindOf st=κ) {a b:Array Keyed} (ma:∀x∈a.toList,x∈a₀) (mb:∀x∈b.toList,x∈a₀) (sa:Srt ρ a.toList) (sb:Srt ρ b.toList) (ha:0<a.size) (hb:0<b.size)
  (h0:Rk ρ b 0<=Rk ρ a 0) (hl:∀y∈b.toList,ρ y<=Rk ρ a (a.size - 1)) {Q:Array Keyed->SortSt->Prop}
  (h:∀out st',Same st st'->Res ρ a b out->Q out st'):wpS (model prog w) A E s (aGn a b) Q st:=by
 have ga:∀i,i<a.size->∃x,a[i]?=some x/\x∈a₀:=fun i hi=>by simpa using (lK (i:=0) ma sa (Nat.le_of_eq (Nat.zero_add _))).mem i hi
 have gb:∀i,i<b.size->∃x,b[i]?=some x/\x∈a₀:=fun i hi=>by simpa using (lK (i:=0) mb sb (Nat.le_of_eq (Nat.zero_add _))).mem i hi
 refine wpS_bind (wpS_lift (wpAny_rule ⟨rfl,?_⟩))
 obtain ⟨y0,hy0,my0⟩:=gb 0 hb
 refine wpS_bind (bR hy0 ?_)
 have v0:LInv ρ a.toList b.toList (#[y0]:Array Keyed).toList 0 1:=by
  have:LInv ρ a.toList b.toList (#[]:Array Keyed).toList 0 0:=⟨by simp,List.Pairwise.nil,by simp⟩
  exact aB8 this sa sb hy0 ha (by rw [<- dI (ρ:=ρ) hy0];exact h0)
 dsimp (config:={zeta:=false}) only
 by_cases c1:1=b.size
 ·rw [if_pos (by simpa using c1)]
  exact wpS_pure (h _ st (Same.refl _) (yG v0 sa c1))
 rw [if_neg (by simpa using c1)]
 by_cases c2:0+1=a.size
 ·rw [if_pos (by simpa using c2)]
  exact wpS_pure (h _ st (Same.refl _) (zM v0 sb c2 hl))
 rw [if_neg (by simpa using c2)]
 refine wpS_bind (wpS_get ?_)
 refine wpS_bind (wpS_mono (wpS_forRange (I:=fun x c st'=>Same st st'/\∃out ia ib mg,c=(none,out,ia,ib,mg)/\LInv ρ a.toList b.toList out.toList ia ib/\ia+1<a.size/\ib<b.size/\x+1<=ia+ib)
  (Q:=fun c st'=>Same st st'/\∃r q,c=(some r,q)/\Res ρ a b r) ?_ ?_ ⟨Same.refl _,_,_,_,_,rfl,v0,by omega,by omega,by omega⟩) ?_)
 rotate_left
 ·rintro c st' ⟨_,out,ia,ib,mg,rfl,v,u1,u2,u3⟩
  omega
 ·rintro c st' ⟨hS,r,q,rfl,hr⟩
  exact wpS_pure (h r st' hS hr)
 rintro x c st1 _ hx ⟨hS,out,ia,ib,mg,rfl,v,u1,u2,u3⟩
 dsimp (config:={zeta:=false}) only
 refine wpS_bind (wpS_mono (wpS_forRange (I:=fun y c st'=>st'=st1/\∃out ia' ib' ac bc,c=(none,out,ia',ib',ac,bc)/\LInv ρ a.toList b.toList out.toList ia' ib'/\ia'+1<a.size/\ib'<b.size/\y+ia+ib<=ia'+ib')
  (Q:=fun c st'=>st'=st1/\((∃r q,c=(some r,q)/\Res ρ a b r)\/∃out ia' ib' ac bc,c=(none,out,ia',ib',ac,bc)/\LInv ρ a.toList b.toList out.toList ia' ib'/\ia'+1<a.size/\ib'<b.size/\ia+ib+1<=ia'+ib')) ?_ ?_ ⟨rfl,_,_,_,_,_,rfl,v,u1,u2,by dsimp only;omega⟩) ?_)
 ·rintro y c st' _ hy ⟨rfl,out,ia',ib',ac,bc,rfl,v,u1,u2,u3⟩
  dsimp (config:={zeta:=false}) only
  obtain ⟨xb,hxb,mxb⟩:=gb ib' u2
  obtain ⟨xa,hxa,mxa⟩:=ga ia' (by omega)
  refine wpS_bind (bR hxb (wpS_bind (bR hxa (wpS_bind (oE C (hS.kind.trans hk) mxb mxa ?_)))))
  by_cases hlt:ρ xb < ρ xa
  ·simp only [hlt,decide_true,if_true]
   have v':=aB8 v sa sb hxb (by omega) (by rw [dI hxa];omega)
   refine wpS_bind (bR hxb ?_)
   by_cases e1:ib'+1=b.size
   ·rw [if_pos (by simpa using e1)]
    exact wpS_pure ⟨rfl,.inl ⟨_,_,rfl,yG v' sa e1⟩⟩
   ·rw [if_neg (by simpa using e1)]
    split
    ·exact wpS_pure ⟨rfl,.inr ⟨_,_,_,_,_,rfl,v',u1,by omega,by omega⟩⟩
    ·exact wpS_pure ⟨rfl,_,_,_,_,_,rfl,v',u1,by omega,by omega⟩
  ·simp only [hlt,decide_false,Bool.false_eq_true,if_false]
   have v':=aBn v sa sb hxa u2 (by rw [dI hxb];omega)
   refine wpS_bind (bR hxa ?_)
   by_cases e1:ia'+1+1=a.size
   ·rw [if_pos (by simpa using e1)]
    exact wpS_pure ⟨rfl,.inl ⟨_,_,rfl,zM v' sb e1 hl⟩⟩
   ·rw [if_neg (by simpa using e1)]
    split
    ·exact wpS_pure ⟨rfl,.inr ⟨_,_,_,_,_,rfl,v',by omega,by omega,by omega⟩⟩
    ·exact wpS_pure ⟨rfl,_,_,_,_,_,rfl,v',by omega,by omega,by omega⟩
 ·rintro c st' ⟨rfl,out,ia',ib',ac,bc,rfl,v,u1,u2,u3⟩
  omega
 rintro c st' ⟨rfl,⟨r,q,rfl,hr⟩ | ⟨out,ia1,ib1,ac,bc,rfl,v,u1,u2,u4⟩⟩
 ·exact wpS_pure ⟨hS,_,_,rfl,hr⟩
 dsimp (config:={zeta:=false}) only
 refine wpS_bind (wpS_lift (wpAny_rule ⟨rfl,?_⟩))
 refine wpS_bind (wpS_mono (wpS_forRange (I:=fun y c st'=>Same st st'/\∃out ia' ib' mg ac bc,c=(none,out,ia',ib',mg,ac,bc)/\LInv ρ a.toList b.toList out.toList ia' ib'/\ia'+1<a.size/\ib'<b.size/\y+ia1+ib1<=ia'+ib')
  (Q:=fun c st'=>Same st st'/\((∃r q,c=(some r,q)/\Res ρ a b r)\/∃out ia' ib' mg ac bc,c=(none,out,ia',ib',mg,ac,bc)/\LInv ρ a.toList b.toList out.toList ia' ib'/\ia'+1<a.size/\ib'<b.size/\ia1+ib1<=ia'+ib')) ?_ ?_ ⟨hS,_,_,_,_,_,_,rfl,v,u1,u2,by dsimp only;omega⟩) ?_)
 rotate_left
 ·rintro c st' ⟨_,out,ia',ib',mg,ac,bc,rfl,v,u1,u2,u3⟩
  omega
 ·rintro c st' ⟨hS',⟨r,q,rfl,hr⟩ | ⟨out,ia2,ib2,mg,ac,bc,rfl,v,u1,u2,u5⟩⟩
  ·exact wpS_pure ⟨hS',_,_,rfl,hr⟩
  ·dsimp (config:={zeta:=false}) only
   exact wpS_bind (xO hS' fun st'' hS''=>wpS_pure ⟨hS'',_,_,_,_,rfl,v,u1,u2,by dsimp only;omega⟩)
 rintro y c st2 _ hy ⟨hS2,out,i2,j2,mg,ac,bc,rfl,v,w1,w2,w3⟩
 refine wpS_mono (Q:=aBt ρ a b st (ia1+ib1) (y+1)) ?_ ?_
 rotate_left
 ·intro r st' hr
  cases r with
  | done c=>exact hr
  | yield c =>
   obtain ⟨q1,out,i,j,m1,m2,m3,q2,q3,q4,q5,q6⟩:=hr
   exact ⟨q1,out,i,j,m1,m2,m3,q2,q3,q4,q5,by omega⟩
 dsimp (config:={zeta:=false}) only
 extract_lets z1 o1 z2 i3 z3 j3 z4 mg3 z5 ac3 bc3 j5 jp mg5
 have E1:z3.fst=j2:=rfl
 have E2:z2.fst=i2:=rfl
 have hjp:∀g,wpS (model prog w) A E s (jp () g) (aBt ρ a b st (ia1+ib1) (y+1)) st2:=by
  intro g
  refine wpS_bind (xO hS2 fun st3 hS3=>?_)
  obtain ⟨xb,hxb,mxb⟩:=gb j2 w2
  refine wpS_bind (bR hxb (wpS_bind (gP (base:=i2) (n:=a.size - i2) (hint:=0) C (hS3.kind.trans hk) mxb (lK (i:=i2) ma sa (by omega)) (by omega) fun k k1 k2 k3=>?_)))
  dsimp (config:={zeta:=false}) only
  extract_lets ac4 jp2 o6 i6
  have hjp2:∀out i4,LInv ρ a.toList b.toList out.toList i4 j2->i4+1<a.size->ρ xb<=Rk ρ a i4->i2<=i4->wpS (model prog w) A E s (jp2 () out i4) (aBt ρ a b st (ia1+ib1) (y+1)) st3:=by
   intro out i4 v e1 e2 e3
   refine wpS_bind (bR hxb ?_)
   have v':=aB8 v sa sb hxb (by omega) e2
   dsimp only
   by_cases e4:j2+1=b.size
   ·rw [if_pos (by simpa using e4)]
    exact wpS_pure ⟨hS3,.inl ⟨_,_,rfl,yG v' sa e4⟩⟩
   rw [if_neg (by simpa using e4)]
   obtain ⟨xa,hxa,mxa⟩:=ga i4 (by omega)
   refine wpS_bind (bR hxa (wpS_bind (gP (base:=j2+1) (n:=b.size - (j2+1)) (hint:=0) C (hS3.kind.trans hk) mxa (lK (i:=j2+1) mb sb (by omega)) (by omega) fun m m1 m2 m3=>?_)))
   dsimp only
   by_cases e5:m > 0
   ·rw [if_pos e5]
    have v2:=aR9 (k:=m) v' sa sb (by omega) (show i4<a.size by omega) fun q hq=>by rw [dI hxa];exact aCg (m2 q hq)
    by_cases e6:j2+1+m=b.size
    ·rw [if_pos (by simpa using e6)]
     exact wpS_pure ⟨hS3,.inl ⟨_,_,rfl,yG v2 sa e6⟩⟩
    rw [if_neg (by simpa using e6)]
    refine wpS_bind (bR hxa ?_)
    have v3:=aBn v2 sa sb hxa (by omega) (yC (m3 m (Nat.le_refl _) (by omega)))
    by_cases e7:i4+1+1=a.size
    ·rw [if_pos (by simpa using e7)]
     exact wpS_pure ⟨hS3,.inl ⟨_,_,rfl,zM v3 sb e7 hl⟩⟩
    rw [if_neg (by simpa using e7)]
    split
    ·exact wpS_pure ⟨hS3,.inr ⟨_,_,_,_,_,_,rfl,v3,by omega,by omega,by omega⟩⟩
    ·exact wpS_pure ⟨hS3,_,_,_,_,_,_,rfl,v3,by omega,by omega,by omega⟩
   ·rw [if_neg e5]
    have e6:m=0:=by omega
    subst e6
    refine wpS_bind (bR hxa ?_)
    have v3:=aBn v' sa sb hxa (by omega) (yC (m3 0 (Nat.le_refl _) (by omega)))
    by_cases e7:i4+1+1=a.size
    ·rw [if_pos (by simpa using e7)]
     exact wpS_pure ⟨hS3,.inl ⟨_,_,rfl,zM v3 sb e7 hl⟩⟩
    rw [if_neg (by simpa using e7)]
    split
    ·exact wpS_pure ⟨hS3,.inr ⟨_,_,_,_,_,_,rfl,v3,by omega,by omega,by omega⟩⟩
    ·exact wpS_pure ⟨hS3,_,_,_,_,_,_,rfl,v3,by omega,by omega,by omega⟩
  clear_value jp2
  dsimp only [i6,o6,i3,j3,o1,z1,z2,z3]
  by_cases e5:k > 0
  ·rw [if_pos e5]
   have v2:=aTu (k:=k) v sa sb (by omega) w2 fun q hq=>by rw [dI hxb];exact aCs (k2 q hq)
   by_cases e6:i2+k+1=a.size
   ·rw [if_pos (by simpa using e6)]
    exact wpS_pure ⟨hS3,.inl ⟨_,_,rfl,zM v2 sb e6 hl⟩⟩
   rw [if_neg (by simpa using e6)]
   by_cases e7:i2+k=a.size
   ·rw [if_pos (by simpa using e7)]
    exact wpS_pure ⟨hS3,.inl ⟨_,_,rfl,aTq v2 sb e7⟩⟩
   rw [if_neg (by simpa using e7)]
   exact hjp2 _ _ v2 (by omega) (wK (k3 k (Nat.le_refl _) (by omega))) (by omega)
  ·rw [if_neg e5]
   have e6:k=0:=by omega
   subst e6
   exact hjp2 _ _ v (by omega) (wK (k3 0 (Nat.le_refl _) (by omega))) (by omega)
 clear_value jp
 split
 ·exact hjp _
 ·exact hjp _
end
end VT
end
section
namespace VT
open PySem PyProof.Rows
section
variable {ρ:Keyed->Int} {a b out:Array Keyed} {i j:Nat} {x:Keyed}
theorem ex3 {n:Nat}:(a.extract i n).toList=(a.toList.drop i).take (n - i):=by
 rw [Array.toList_extract,List.extract_eq_take_drop]
theorem ex4 {n:Nat}:(a.extract 0 n).toList=a.toList.take n:=by
 rw [ex3,List.drop_zero,Nat.sub_zero]
theorem qZ (v:HInv ρ a.toList b.toList out.toList (i+1) j) (sa:Srt ρ a.toList) (sb:Srt ρ b.toList) (hx:a[i]?=some x) (hj:0<j) (hj2:j<=b.size) (h:Rk ρ b (j - 1)<=ρ x):HInv ρ a.toList b.toList (out.push x).toList i j:=by
 obtain ⟨hi,rfl⟩:=wW hx
 rw [Array.toList_push]
 refine v.pushA sa (by simpa using hi) fun y hy=>Int.le_trans ?_ h
 exact rE sb (by omega) y (by rw [show j - 1+1=j by omega];exact hy)
theorem aC9 (v:HInv ρ a.toList b.toList out.toList i (j+1)) (sa:Srt ρ a.toList) (sb:Srt ρ b.toList) (hx:b[j]?=some x) (hi:0<i) (hi2:i<=a.size) (h:Rk ρ a (i - 1)<=ρ x):HInv ρ a.toList b.toList (out.push x).toList i j:=by
 obtain ⟨hj,rfl⟩:=wW hx
 rw [Array.toList_push]
 refine v.pushB sb (by simpa using hj) fun y hy=>Int.le_trans ?_ h
 exact rE sa (by omega) y (by rw [show i - 1+1=i by omega];exact hy)
theorem aM9 {n:Nat} (v:HInv ρ a.toList b.toList out.toList n j) (sa:Srt ρ a.toList) (sb:Srt ρ b.toList) (hin:i<=n) (hn:n<=a.size) (hj:0<j) (hj2:j<=b.size) (h:∀m,i<=m->m<n->Rk ρ b (j - 1)<=Rk ρ a m):HInv ρ a.toList b.toList (out++(a.extract i n).reverse).toList i j:=by
 rw [Array.toList_append,Array.toList_reverse,ex3]
 refine HInv.aAy sa (n - i) (by rw [show i+(n - i)=n by omega];exact v) (by simp;omega) fun m h1 hm h3 y hy=>?_
 have q:=h m h1 (by omega)
 rw [lS (a:=a) (i:=m) (by simpa using hm)] at q
 refine Int.le_trans ?_ q
 exact rE sb (by omega) y (by rw [show j - 1+1=j by omega];exact hy)
theorem aNi {n:Nat} (v:HInv ρ a.toList b.toList out.toList i n) (sa:Srt ρ a.toList) (sb:Srt ρ b.toList) (hin:j<=n) (hn:n<=b.size) (hi:0<i) (hi2:i<=a.size) (h:∀m,j<=m->m<n->Rk ρ a (i - 1)<=Rk ρ b m):HInv ρ a.toList b.toList (out++(b.extract j n).reverse).toList i j:=by
 rw [Array.toList_append,Array.toList_reverse,ex3]
 refine HInv.aAz sb (n - j) (by rw [show j+(n - j)=n by omega];exact v) (by simp;omega) fun m h1 hm h3 y hy=>?_
 have q:=h m h1 (by omega)
 rw [lS (a:=b) (i:=m) (by simpa using hm)] at q
 refine Int.le_trans ?_ q
 exact rE sa (by omega) y (by rw [show i - 1+1=i by omega];exact hy)
theorem oU (v:HInv ρ a.toList b.toList out.toList i j) (sb:Srt ρ b.toList) (hi:i=0):Res ρ a b (a.extract 0 i++b.extract 0 j++out.reverse):=by
 subst hi
 unfold Res
 rw [Array.toList_append,Array.toList_append,ex4,ex4,Array.toList_reverse,List.take_zero,List.nil_append]
 exact v.aJx sb
theorem aKx (v:HInv ρ a.toList b.toList out.toList i j) (sa:Srt ρ a.toList) (hj:j=0):Res ρ a b (a.extract 0 i++b.extract 0 j++out.reverse):=by
 subst hj
 unfold Res
 rw [Array.toList_append,Array.toList_append,ex4,ex4,Array.toList_reverse,List.take_zero,List.append_nil]
 exact v.aJ0 sa
theorem qW (v:HInv ρ a.toList b.toList out.toList i j) (sa:Srt ρ a.toList) (hb:0<b.size) (hj:j=1) (h0:∀y∈a.toList,Rk ρ b 0<=ρ y):Res ρ a b (b.extract 0 j++a.extract 0 i++out.reverse):=by
 subst hj
 unfold Res
 rw [Array.toList_append,Array.toList_append,ex4,ex4,Array.toList_reverse]
 refine v.first sa (by simpa using hb) fun y hy=>?_
 have:=h0 y hy
 rw [lS hb] at this
 exact this
end
section
variable {prog:Program} {w:World} {A:Around} {E:Y9} {s:Shared} {κ:SortKind} {ρ:Keyed->Int} {a₀:List Keyed} {st:SortSt}
def aBv (ρ:Keyed->Int) (a b:Array Keyed) (st:SortSt) (z n:Nat):ForInStep (Option (Array Keyed)×Nat×Nat×Array Keyed×Nat×Nat×Nat)->SortSt->Prop
 | .done c,st'=>Same st st'/\((∃r q,c=(some r,q)/\Res ρ a b r)\/∃out i j mg ac bc,c=(none,i,j,out,mg,ac,bc)/\HInv ρ a.toList b.toList out.toList i j/\0<i/\1<j/\i<=a.size/\j<=b.size/\i+j<=z)
 | .yield c,st'=>Same st st'/\∃out i j mg ac bc,c=(none,i,j,out,mg,ac,bc)/\HInv ρ a.toList b.toList out.toList i j/\0<i/\1<j/\i<=a.size/\j<=b.size/\n+i+j<=z
theorem yW (C:Cmp prog w A s κ ρ a₀) (hk:kindOf st=κ) {a b:Array Keyed} (ma:∀x∈a.toList,x∈a₀) (mb:∀x∈b.toList,x∈a₀) (sa:Srt ρ a.toList) (sb:Srt ρ b.toList) (ha:0<a.size) (hb:0<b.size)
  (h0:∀y∈a.toList,Rk ρ b 0<=ρ y) (hl:Rk ρ b (b.size - 1)<=Rk ρ a (a.size - 1)) {Q:Array Keyed->SortSt->Prop}
  (h:∀out st',Same st st'->Res ρ a b out->Q out st'):wpS (model prog w) A E s (aIs a b) Q st:=by
 have ga:∀i,i<a.size->∃x,a[i]?=some x/\x∈a₀:=fun i hi=>by simpa using (lK (i:=0) ma sa (Nat.le_of_eq (Nat.zero_add _))).mem i hi
 have gb:∀i,i<b.size->∃x,b[i]?=some x/\x∈a₀:=fun i hi=>by simpa using (lK (i:=0) mb sb (Nat.le_of_eq (Nat.zero_add _))).mem i hi
 refine wpS_bind (wpS_lift (wpAny_rule ⟨rfl,?_⟩))
 obtain ⟨y0,hy0,my0⟩:=ga (a.size - 1) (by omega)
 refine wpS_bind (bR hy0 ?_)
 have v0:HInv ρ a.toList b.toList (#[y0]:Array Keyed).toList (a.size - 1) b.size:=by
  have:HInv ρ a.toList b.toList (#[]:Array Keyed).toList (a.size - 1+1) b.size:=⟨by rw [show a.size - 1+1=a.size by omega];simp,List.Pairwise.nil,by simp⟩
  exact qZ this sa sb hy0 hb (Nat.le_refl _) (by rw [<- dI (ρ:=ρ) hy0];exact hl)
 dsimp (config:={zeta:=false}) only
 by_cases c1:a.size - 1=0
 ·rw [if_pos (by simpa using c1)]
  exact wpS_pure (h _ st (Same.refl _) (oU v0 sb c1))
 rw [if_neg (by simpa using c1)]
 by_cases c2:b.size=1
 ·rw [if_pos (by simpa using c2)]
  exact wpS_pure (h _ st (Same.refl _) (qW v0 sa hb c2 h0))
 rw [if_neg (by simpa using c2)]
 refine wpS_bind (wpS_get ?_)
 refine wpS_bind (wpS_mono (wpS_forRange (I:=fun x c st'=>Same st st'/\∃out ia ib mg,c=(none,ia,ib,out,mg)/\HInv ρ a.toList b.toList out.toList ia ib/\0<ia/\1<ib/\ia<=a.size/\ib<=b.size/\x+1+ia+ib<=a.size+b.size)
  (Q:=fun c st'=>Same st st'/\∃r q,c=(some r,q)/\Res ρ a b r) ?_ ?_ ⟨Same.refl _,_,_,_,_,rfl,v0,by omega,by omega,by omega,by omega,by omega⟩) ?_)
 rotate_left
 ·rintro c st' ⟨_,out,ia,ib,mg,rfl,v,u1,u2,u3⟩
  omega
 ·rintro c st' ⟨hS,r,q,rfl,hr⟩
  exact wpS_pure (h r st' hS hr)
 rintro x c st1 _ hx ⟨hS,out,ia,ib,mg,rfl,v,u1,u2,u3,u4,u5⟩
 dsimp (config:={zeta:=false}) only
 refine wpS_bind (wpS_mono (wpS_forRange (I:=fun y c st'=>st'=st1/\∃out ia' ib' ac bc,c=(none,ia',ib',out,ac,bc)/\HInv ρ a.toList b.toList out.toList ia' ib'/\0<ia'/\1<ib'/\ia'<=a.size/\ib'<=b.size/\y+ia'+ib'<=ia+ib)
  (Q:=fun c st'=>st'=st1/\((∃r q,c=(some r,q)/\Res ρ a b r)\/∃out ia' ib' ac bc,c=(none,ia',ib',out,ac,bc)/\HInv ρ a.toList b.toList out.toList ia' ib'/\0<ia'/\1<ib'/\ia'<=a.size/\ib'<=b.size/\ia'+ib'+1<=ia+ib)) ?_ ?_ ⟨rfl,_,_,_,_,_,rfl,v,u1,u2,u3,u4,by dsimp only;omega⟩) ?_)
 ·rintro y c st' _ hy ⟨rfl,out,ia',ib',ac,bc,rfl,v,u1,u2,u3,u4,u6⟩
  dsimp (config:={zeta:=false}) only
  obtain ⟨xb,hxb,mxb⟩:=gb (ib' - 1) (by omega)
  obtain ⟨xa,hxa,mxa⟩:=ga (ia' - 1) (by omega)
  refine wpS_bind (bR hxb (wpS_bind (bR hxa (wpS_bind (oE C (hS.kind.trans hk) mxb mxa ?_)))))
  by_cases hlt:ρ xb < ρ xa
  ·simp only [hlt,decide_true,if_true]
   have v':=qZ (i:=ia' - 1) (by rw [show ia' - 1+1=ia' by omega];exact v) sa sb hxa (by omega) u4 (by rw [dI hxb];omega)
   refine wpS_bind (bR hxa ?_)
   by_cases e1:ia' - 1=0
   ·rw [if_pos (by simpa using e1)]
    exact wpS_pure ⟨rfl,.inl ⟨_,_,rfl,oU v' sb e1⟩⟩
   ·rw [if_neg (by simpa using e1)]
    split
    ·exact wpS_pure ⟨rfl,.inr ⟨_,_,_,_,_,rfl,v',by omega,by omega,by omega,by omega,by omega⟩⟩
    ·exact wpS_pure ⟨rfl,_,_,_,_,_,rfl,v',by omega,by omega,by omega,by omega,by omega⟩
  ·simp only [hlt,decide_false,Bool.false_eq_true,if_false]
   have v':=aC9 (j:=ib' - 1) (by rw [show ib' - 1+1=ib' by omega];exact v) sa sb hxb (by omega) u3 (by rw [dI hxa];omega)
   refine wpS_bind (bR hxb ?_)
   by_cases e1:ib' - 1=1
   ·rw [if_pos (by simpa using e1)]
    exact wpS_pure ⟨rfl,.inl ⟨_,_,rfl,qW v' sa hb e1 h0⟩⟩
   ·rw [if_neg (by simpa using e1)]
    split
    ·exact wpS_pure ⟨rfl,.inr ⟨_,_,_,_,_,rfl,v',by omega,by omega,by omega,by omega,by omega⟩⟩
    ·exact wpS_pure ⟨rfl,_,_,_,_,_,rfl,v',by omega,by omega,by omega,by omega,by omega⟩
 ·rintro c st' ⟨rfl,out,ia',ib',ac,bc,rfl,v,u1,u2,u3⟩
  omega
 rintro c st' ⟨rfl,⟨r,q,rfl,hr⟩ | ⟨out,ia1,ib1,ac,bc,rfl,v,u1,u2,u3,u4,u6⟩⟩
 ·exact wpS_pure ⟨hS,_,_,rfl,hr⟩
 dsimp (config:={zeta:=false}) only
 refine wpS_bind (wpS_lift (wpAny_rule ⟨rfl,?_⟩))
 refine wpS_bind (wpS_mono (wpS_forRange (I:=fun y c st'=>Same st st'/\∃out ia' ib' mg ac bc,c=(none,ia',ib',out,mg,ac,bc)/\HInv ρ a.toList b.toList out.toList ia' ib'/\0<ia'/\1<ib'/\ia'<=a.size/\ib'<=b.size/\y+ia'+ib'<=ia1+ib1)
  (Q:=fun c st'=>Same st st'/\((∃r q,c=(some r,q)/\Res ρ a b r)\/∃out ia' ib' mg ac bc,c=(none,ia',ib',out,mg,ac,bc)/\HInv ρ a.toList b.toList out.toList ia' ib'/\0<ia'/\1<ib'/\ia'<=a.size/\ib'<=b.size/\ia'+ib'<=ia1+ib1)) ?_ ?_ ⟨hS,_,_,_,_,_,_,rfl,v,u1,u2,u3,u4,by dsimp only;omega⟩) ?_)
 rotate_left
 ·rintro c st' ⟨_,out,ia',ib',mg,ac,bc,rfl,v,u1,u2,u3⟩
  omega
 ·rintro c st' ⟨hS',⟨r,q,rfl,hr⟩ | ⟨out,ia2,ib2,mg,ac,bc,rfl,v,u1,u2,u3,u4,u7⟩⟩
  ·exact wpS_pure ⟨hS',_,_,rfl,hr⟩
  ·dsimp (config:={zeta:=false}) only
   exact wpS_bind (xO hS' fun st'' hS''=>wpS_pure ⟨hS'',_,_,_,_,rfl,v,u1,u2,u3,u4,by dsimp only;omega⟩)
 rintro y c st2 _ hy ⟨hS2,out,i2,j2,mg,ac,bc,rfl,v,w1,w2,w3,w4,w5⟩
 refine wpS_mono (Q:=aBv ρ a b st (ia1+ib1) (y+1)) ?_ ?_
 rotate_left
 ·intro r st' hr
  cases r with
  | done c=>exact hr
  | yield c=>exact hr
 dsimp (config:={zeta:=false}) only
 extract_lets z1 i3 z2 j3 z3 o1 z4 mg3 z5 ac3 bc3 j5 jp mg5
 have E1:z2.fst=j2:=rfl
 have E2:z1.fst=i2:=rfl
 have hjp:∀g,wpS (model prog w) A E s (jp () g) (aBv ρ a b st (ia1+ib1) (y+1)) st2:=by
  intro g
  refine wpS_bind (xO hS2 fun st3 hS3=>?_)
  obtain ⟨xb,hxb,mxb⟩:=gb (j2 - 1) (by omega)
  refine wpS_bind (bR hxb (wpS_bind (gP (base:=0) (n:=i2) (hint:=i2 - 1) C (hS3.kind.trans hk) mxb (lK (i:=0) ma sa (by omega)) (by omega) fun k k1 k2 k3=>?_)))
  dsimp (config:={zeta:=false}) only
  extract_lets kk ac4 jp2 o6 i6
  have hjp2:∀i4 out,HInv ρ a.toList b.toList out.toList i4 j2->0<i4->Rk ρ a (i4 - 1)<=ρ xb->i4<=i2->wpS (model prog w) A E s (jp2 () i4 out) (aBv ρ a b st (ia1+ib1) (y+1)) st3:=by
   intro i4 out v e1 e2 e3
   refine wpS_bind (bR hxb ?_)
   have v':=aC9 (j:=j2 - 1) (by rw [show j2 - 1+1=j2 by omega];exact v) sa sb hxb (by omega) (by omega) e2
   dsimp only [j5,j3,z2,z1]
   by_cases e4:j2 - 1=1
   ·rw [if_pos (by simpa using e4)]
    exact wpS_pure ⟨hS3,.inl ⟨_,_,rfl,qW v' sa hb e4 h0⟩⟩
   rw [if_neg (by simpa using e4)]
   obtain ⟨xa,hxa,mxa⟩:=ga (i4 - 1) (by omega)
   refine wpS_bind (bR hxa (wpS_bind (gP (base:=0) (n:=j2 - 1) (hint:=j2 - 1 - 1) C (hS3.kind.trans hk) mxa (lK (i:=0) mb sb (by omega)) (by omega) fun m m1 m2 m3=>?_)))
   dsimp only
   by_cases e5:j2 - 1 - m > 0
   ·rw [if_pos e5]
    have v2:=aNi (j:=m) v' sa sb (by omega) (by omega) e1 (by omega) fun q hq hq2=>by rw [dI hxa];have:=yC (m3 q hq hq2);rwa [Nat.zero_add] at this
    by_cases e6:m=1
    ·rw [if_pos (by simpa using e6)]
     exact wpS_pure ⟨hS3,.inl ⟨_,_,rfl,qW v2 sa hb e6 h0⟩⟩
    rw [if_neg (by simpa using e6)]
    by_cases e8:m=0
    ·rw [if_pos (by simpa using e8)]
     exact wpS_pure ⟨hS3,.inl ⟨_,_,rfl,aKx v2 sa e8⟩⟩
    rw [if_neg (by simpa using e8)]
    refine wpS_bind (bR hxa ?_)
    have v3:=qZ (i:=i4 - 1) (by rw [show i4 - 1+1=i4 by omega];exact v2) sa sb hxa (by omega) (by omega) (by have:=aCg (m2 (m - 1) (by omega));rwa [Nat.zero_add] at this)
    by_cases e7:i4 - 1=0
    ·rw [if_pos (by simpa using e7)]
     exact wpS_pure ⟨hS3,.inl ⟨_,_,rfl,oU v3 sb e7⟩⟩
    rw [if_neg (by simpa using e7)]
    split
    ·exact wpS_pure ⟨hS3,.inr ⟨_,_,_,_,_,_,rfl,v3,by omega,by omega,by omega,by omega,by omega⟩⟩
    ·exact wpS_pure ⟨hS3,_,_,_,_,_,_,rfl,v3,by omega,by omega,by omega,by omega,by omega⟩
   ·rw [if_neg e5]
    have e6:m=j2 - 1:=by omega
    subst e6
    refine wpS_bind (bR hxa ?_)
    have v3:=qZ (i:=i4 - 1) (by rw [show i4 - 1+1=i4 by omega];exact v') sa sb hxa (by omega) (by omega) (by have:=aCg (m2 (j2 - 1 - 1) (by omega));rwa [Nat.zero_add] at this)
    by_cases e7:i4 - 1=0
    ·rw [if_pos (by simpa using e7)]
     exact wpS_pure ⟨hS3,.inl ⟨_,_,rfl,oU v3 sb e7⟩⟩
    rw [if_neg (by simpa using e7)]
    split
    ·exact wpS_pure ⟨hS3,.inr ⟨_,_,_,_,_,_,rfl,v3,by omega,by omega,by omega,by omega,by omega⟩⟩
    ·exact wpS_pure ⟨hS3,_,_,_,_,_,_,rfl,v3,by omega,by omega,by omega,by omega,by omega⟩
  clear_value jp2
  dsimp only [kk,i6,o6,i3,j3,o1,z1,z2,z3]
  by_cases e5:i2 - k > 0
  ·rw [if_pos e5]
   have v2:=aM9 (i:=k) v sa sb (by omega) (by omega) (by omega) w4 fun q hq hq2=>by rw [dI hxb];have:=wK (k3 q hq hq2);rwa [Nat.zero_add] at this
   by_cases e6:k=0
   ·rw [if_pos (by simpa using e6)]
    exact wpS_pure ⟨hS3,.inl ⟨_,_,rfl,oU v2 sb e6⟩⟩
   rw [if_neg (by simpa using e6)]
   exact hjp2 _ _ v2 (by omega) (by have:=aCs (k2 (k - 1) (by omega));rwa [Nat.zero_add] at this) (by omega)
  ·rw [if_neg e5]
   have e6:k=i2:=by omega
   subst e6
   exact hjp2 _ _ v (by omega) (by have:=aCs (k2 (k - 1) (by omega));rwa [Nat.zero_add] at this) (by omega)
 clear_value jp
 split
 ·exact hjp _
 ·exact hjp _
end
end VT
end
section
namespace VT
section
variable {α:Type}
theorem aIj (sa:Nat):∀(l:List α) (k:Nat) (xs:Array α) (m:Nat),sa+k+l.length<=xs.size ->
  ((l.zipIdx k).foldl (fun a (x:α×Nat)=>a.setIfInBounds (sa+x.2) x.1) xs)[m]?=if sa+k<=m/\m<sa+k+l.length then l[m - (sa+k)]? else xs[m]?
 | [],k,xs,m,_=>by
  rw [if_neg (by simp)];rfl
 | p::l,k,xs,m,h=>by
  rw [List.length_cons] at h
  rw [List.zipIdx_cons,List.foldl_cons,aIj sa l (k+1) _ m (by rw [Array.size_setIfInBounds];omega)]
  rw [List.length_cons]
  by_cases h1:m=sa+k
  ·subst h1
   rw [if_neg (by omega),if_pos (by omega)]
   rw [Array.getElem?_setIfInBounds,if_pos rfl,if_pos (show sa+k<xs.size by omega)]
   simp
  ·by_cases h2:sa+(k+1)<=m/\m<sa+(k+1)+l.length
   ·rw [if_pos h2,if_pos (by omega)]
    rw [show m - (sa+k)=(m - (sa+(k+1)))+1 by omega]
    simp
   ·rw [if_neg h2,if_neg (by omega)]
    rw [Array.getElem?_setIfInBounds]
    rw [if_neg (by show ¬ sa+k=m;omega)]
theorem aLa (L1 M M' L2:List α) (xs:Array α) (h:xs.toList=L1++M++L2) (hl:M'.length=M.length) :
  (M'.zipIdx.foldl (fun a (x:α×Nat)=>a.setIfInBounds (L1.length+x.2) x.1) xs).toList=L1++M'++L2:=by
 have hz:xs.size=L1.length+M.length+L2.length:=by rw [<- Array.length_toList,h];simp [Nat.add_assoc]
 apply List.ext_getElem?
 intro m
 rw [Array.getElem?_toList,aIj L1.length M' 0 xs m (by omega),<- Array.getElem?_toList,h]
 rw [Nat.add_zero]
 by_cases h1:m<L1.length
 ·rw [if_neg (by omega),List.append_assoc,List.append_assoc,List.getElem?_append_left h1,List.getElem?_append_left h1]
 ·by_cases h2:m<L1.length+M'.length
  ·rw [if_pos (by omega),List.append_assoc,List.getElem?_append_right (by omega),List.getElem?_append_left (by omega)]
  ·rw [if_neg (by omega),List.getElem?_append_right (by simp;omega),List.getElem?_append_right (by simp;omega)]
   simp [hl]
end
end VT
end
section
namespace VT
section
variable {α:Type} {ρ:α->Int}
abbrev Pn:=Nat×Nat×Nat
def Pd (ρ:α->Int):Nat->List (List α)->List Pn->Prop
 | _,[],[]=>True
 | s,g::gs,p::ps=>p.1=s/\p.2.1=g.length/\g ≠ []/\Srt ρ g/\Pd ρ (s+g.length) gs ps
 | _,[],_::_=>False
 | _,_::_,[]=>False
theorem Pd.len:∀ {s:Nat} {gs:List (List α)} {ps:List Pn},Pd ρ s gs ps->gs.length=ps.length
 | _,[],[],_=>rfl
 | _,_::_,_::_,h=>by rw [List.length_cons,List.length_cons,Pd.len h.2.2.2.2]
 | _,[],_::_,h=>h.elim
 | _,_::_,[],h=>h.elim
theorem Pd.count:∀ {s:Nat} {gs:List (List α)} {ps:List Pn},Pd ρ s gs ps->gs.length<=gs.flatten.length
 | _,[],[],_=>by simp
 | _,g::gs,_::_,h=>by
  have:=Pd.count h.2.2.2.2
  have h2:=List.length_pos_iff.mpr h.2.2.1
  rw [List.flatten_cons,List.length_append,List.length_cons]
  omega
 | _,[],_::_,h=>h.elim
 | _,_::_,[],h=>h.elim
theorem Pd.same:∀ {s:Nat} {gs:List (List α)} {ps qs:List Pn},Pd ρ s gs ps->ps.map (fun p=>(p.1,p.2.1))=qs.map (fun p=>(p.1,p.2.1))->Pd ρ s gs qs
 | _,[],[],[],_,_=>trivial
 | _,[],[],_::_,_,e=>by simp at e
 | _,_::_,_::_,[],_,e=>by simp at e
 | _,_::_,p::ps,q::qs,h,e=>by
  rw [List.map_cons,List.map_cons] at e
  obtain ⟨e1,e2⟩:=List.cons.inj e
  have e3:p.1=q.1:=(Prod.mk.inj e1).1
  have e4:p.2.1=q.2.1:=(Prod.mk.inj e1).2
  exact ⟨e3.symm.trans h.1,e4.symm.trans h.2.1,h.2.2.1,h.2.2.2.1,Pd.same h.2.2.2.2 e2⟩
 | _,[],_::_,_,h,_=>h.elim
 | _,_::_,[],_,h,_=>h.elim
theorem Pd.snoc {g:List α} {w:Nat} (hg:g ≠ []) (hs:Srt ρ g):∀ {s:Nat} {gs:List (List α)} {ps:List Pn},Pd ρ s gs ps->Pd ρ s (gs ++ [g]) (ps ++ [(s+gs.flatten.length,g.length,w)])
 | s,[],[],_=>⟨by simp,rfl,hg,hs,trivial⟩
 | s,x::gs,_::_,h=>by
  have:=Pd.snoc (w:=w) hg hs h.2.2.2.2
  refine ⟨h.1,h.2.1,h.2.2.1,h.2.2.2.1,?_⟩
  rw [List.flatten_cons,List.length_append,<- Nat.add_assoc]
  exact this
 | _,[],_::_,h=>h.elim
 | _,_::_,[],h=>h.elim
theorem Pd.split:∀ {i s:Nat} {gs:List (List α)} {ps:List Pn},Pd ρ s gs ps->i+1<ps.length ->
  ∃G1 X Y G2 P1 p q P2,gs=G1++X::Y::G2/\ps=P1++p::q::P2/\P1.length=i/\p.1=s+G1.flatten.length/\p.2.1=X.length/\q.1=s+G1.flatten.length+X.length/\q.2.1=Y.length /\
   Srt ρ X/\Srt ρ Y/\X ≠ []/\Y ≠ []/\∀C w,C.length=X.length+Y.length->Srt ρ C->Pd ρ s (G1++C::G2) (P1++(p.1,p.2.1+q.2.1,w)::P2)
 | 0,s,x::y::gs,p::q::ps,h,_=>by
  obtain ⟨h1,h2,h3,h4,h5,h6,h7,h8,h9⟩:=h
  refine ⟨[],x,y,gs,[],p,q,ps,rfl,rfl,rfl,by simpa using h1,h2,by simpa using h5,h6,h4,h8,h3,h7,fun C w hC sC=>?_⟩
  refine ⟨h1,?_,?_,sC,?_⟩
  ·show p.2.1+q.2.1=C.length
   rw [hC,h2,h6]
  ·intro e
   rw [e] at hC
   have:=List.length_pos_iff.mpr h3
   simp at hC
   omega
  ·rw [hC,<- Nat.add_assoc]
   exact h9
 | i+1,s,x::gs,p::ps,h,hi=>by
  obtain ⟨h1,h2,h3,h4,h5⟩:=h
  obtain ⟨G1,X,Y,G2,P1,p',q',P2,e1,e2,e3,e4,e5,e6,e7,a1,a2,a3,a4,a5⟩:=Pd.split (i:=i) h5 (by rw [List.length_cons] at hi;omega)
  refine ⟨x::G1,X,Y,G2,p::P1,p',q',P2,by rw [e1];rfl,by rw [e2];rfl,by rw [List.length_cons,e3],?_,e5,?_,e7,a1,a2,a3,a4,fun C w hC sC=>⟨h1,h2,h3,h4,a5 C w hC sC⟩⟩
  ·rw [e4,List.flatten_cons,List.length_append,Nat.add_assoc]
  ·rw [e6,List.flatten_cons,List.length_append,Nat.add_assoc s,Nat.add_assoc]
 | 0,_,[_],[_],_,hi=>by simp at hi
 | 0,_,_,[],_,hi=>by simp at hi
 | _+1,_,_,[],_,hi=>by simp at hi
 | _,_,[],_::_,h,_=>h.elim
 | _,_,_::_::_,[_],h,_=>h.2.2.2.2.elim
 | _,_,[_],_::_::_,h,_=>h.2.2.2.2.elim
theorem aH0 {P1 P2:List Pn} {p q r:Pn} {xs:Array Pn} {i:Nat} (h:xs.toList=P1++p::q::P2) (hi:P1.length=i):((xs.setIfInBounds i r).eraseIdxIfInBounds (i+1)).toList=P1++r::P2:=by
 have e1:(xs.setIfInBounds i r).toList=P1++r::q::P2:=by
  rw [Array.toList_setIfInBounds,h,<- hi,List.set_append_right _ _ (Nat.le_refl _),Nat.sub_self]
  rfl
 have e2:∀(ys:Array Pn) (k:Nat),(ys.eraseIdxIfInBounds k).toList=ys.toList.eraseIdx k:=by
  intro ys k
  simp
 rw [e2,e1,<- hi]
 rw [List.eraseIdx_append_of_length_le (by omega)]
 simp
theorem aHf {xs:Array Pn} {i:Nat} {f:Pn->Pn} (hf:∀p,((f p).1,(f p).2.1)=(p.1,p.2.1)):xs.toList.map (fun p=>(p.1,p.2.1))=(xs.modify i f).toList.map (fun p=>(p.1,p.2.1)):=by
 apply List.ext_getElem?
 intro k
 rw [List.getElem?_map,List.getElem?_map,Array.getElem?_toList,Array.getElem?_toList,Array.getElem?_modify]
 by_cases h:i=k
 ·rw [if_pos h]
  cases xs[k]? with
  | none=>rfl
  | some p=>exact congrArg some (hf p).symm
 ·rw [if_neg h]
end
end VT
end
section
namespace VT
open PySem PyProof.Rows
section
variable {ρ:Keyed->Int} {arr:Array Keyed} {L L1 X Y L2 M:List Keyed} {k m:Nat}
theorem iL (h:arr.toList=L++X++L2) (hk:k<X.length):arr[L.length+k]?=some X[k]:=by
 rw [<- Array.getElem?_toList,h,List.append_assoc,List.getElem?_append_right (by omega),show L.length+k - L.length=k by omega,List.getElem?_append_left hk,List.getElem?_eq_getElem hk]
theorem aRq (h:arr.toList=L++X++L2) (hk:k<=X.length):(arr.extract (L.length+k) (L.length+X.length)).toList=X.drop k:=by
 rw [ex3,h,List.append_assoc,<- List.drop_drop,List.drop_left,List.drop_append_of_le_length hk,show L.length+X.length - (L.length+k)=(X.drop k).length by simp;omega,List.take_left]
theorem aLd (h:arr.toList=L++X++L2) (hk:k<=X.length):(arr.extract L.length (L.length+k)).toList=X.take k:=by
 rw [ex1,h,List.append_assoc,List.drop_left,List.take_append_of_le_length hk]
theorem aCy {a₀:List Keyed} (h:arr.toList=L++X++L2) (sX:Srt ρ X) (mX:∀x∈X,x∈a₀):Gal ρ a₀ arr L.length X.length:=by
 refine ⟨fun i hi=>⟨_,iL h hi,mX _ (List.getElem_mem _)⟩,fun i j hij hj=>?_⟩
 rw [dI (iL h hj),dI (iL h (show i<X.length by omega))]
 by_cases e:i=j
 ·subst e;exact Int.le_refl _
 ·exact List.pairwise_iff_getElem.mp sX i j (by omega) hj (by omega)
theorem glue (sX:Srt ρ X) (sY:Srt ρ Y) (a1:∀x∈X.take k,∀y∈Y,ρ x<=ρ y) (a2:∀y∈Y.drop m,∀x∈X,ρ x<=ρ y) (pM:M.Perm (X.drop k++Y.take m)) (sM:Srt ρ M):(X.take k++M++Y.drop m).Perm (X++Y)/\Srt ρ (X.take k++M++Y.drop m):=by
 have sX':=sX
 have sY':=sY
 rw [<- List.take_append_drop k X] at sX'
 rw [<- List.take_append_drop m Y] at sY'
 obtain ⟨x1,x2,x3⟩:=List.pairwise_append.mp sX'
 obtain ⟨y1,y2,y3⟩:=List.pairwise_append.mp sY'
 refine ⟨?_,List.pairwise_append.mpr ⟨List.pairwise_append.mpr ⟨x1,sM,fun x hx y hy=>?_⟩,y2,fun x hx y hy=>?_⟩⟩
 ·refine ((List.Perm.append_left _ pM).append_right _).trans ?_
  rw [<- List.append_assoc,List.take_append_drop,List.append_assoc,List.take_append_drop]
 ·rcases List.mem_append.mp (pM.mem_iff.mp hy) with hy | hy
  ·exact x3 x hx y hy
  ·exact a1 x hx y (List.mem_of_mem_take hy)
 ·rcases List.mem_append.mp hx with hx | hx
  ·exact a1 x hx y (List.mem_of_mem_drop hy)
  ·rcases List.mem_append.mp (pM.mem_iff.mp hx) with hx | hx
   ·exact a2 y hy x (List.mem_of_mem_drop hx)
   ·exact y3 x hx y hy
theorem aPx (sX:Srt ρ X) (sY:Srt ρ Y) (a1:∀x∈X,∀y∈Y,ρ x<=ρ y):Srt ρ (X++Y):=List.pairwise_append.mpr ⟨sX,sY,a1⟩
end
section
variable {prog:Program} {w:World} {A:Around} {E:Y9} {s:Shared} {κ:SortKind} {ρ:Keyed->Int} {a₀:List Keyed} {st:SortSt}
theorem aKb {M:Model} {σ:Type} {v u:σ} {Q:PUnit->σ->Prop} (h:Q ⟨⟩ v):wpS M A E s (set v:StateT σ Sem PUnit) Q u:=by
 unfold wpS;rw [StateT.run_set];exact wpAny_pure ⟨rfl,h⟩
theorem aHs {M:Model} {σ:Type} {v u:σ} {Q:PUnit->σ->Prop} (h:∀v',v'=v->Q ⟨⟩ v'):wpS M A E s (set v:StateT σ Sem PUnit) Q u:=aKb (h v rfl)
theorem zW (C:Cmp prog w A s κ ρ a₀) {i:Nat} {L1 X Y L2:List Keyed} (hk:kindOf st=κ) (hf:failedOf st=none) (harr:(arrOf st).toList=L1++X++Y++L2) (mX:∀x∈X,x∈a₀) (mY:∀x∈Y,x∈a₀)
  (sX:Srt ρ X) (sY:Srt ρ Y) (nX:0<X.length) (nY:0<Y.length) {P1 P2:List Pn} {p q:Pn} (hp:(pendingOf st).toList=P1++p::q::P2) (hi:P1.length=i) (p1:p.1=L1.length) (p2:p.2.1=X.length) (q1:q.1=L1.length+X.length) (q2:q.2.1=Y.length)
  {Q:Bool->SortSt->Prop} (h:∀st' Z w,kindOf st'=κ->failedOf st'=none->(pendingOf st').toList=P1++(p.1,p.2.1+q.2.1,w)::P2->(arrOf st').toList=L1++Z++L2->Z.Perm (X++Y)->Srt ρ Z->Q true st'):wpS (model prog w) A E s (mergeAt' i) Q st:=by
 obtain ⟨x0,n0,w0⟩:=p
 obtain ⟨x1,n1,w1⟩:=q
 dsimp only at p1 p2 q1 q2 h
 subst p1 p2 q1 q2
 have hp':(pendingOf st).toList=P1++([(L1.length,X.length,w0)]++((L1.length+X.length,Y.length,w1)::P2)):=hp
 have g1:(pendingOf st)[i]?=some (L1.length,X.length,w0):=by
  rw [<- Array.getElem?_toList,hp,<- hi,List.getElem?_append_right (Nat.le_refl _),Nat.sub_self];rfl
 have g2:(pendingOf st)[i+1]?=some (L1.length+X.length,Y.length,w1):=by
  rw [<- Array.getElem?_toList,hp,<- hi,List.getElem?_append_right (by omega),show P1.length+1 - P1.length=1 by omega];rfl
 have hY:(arrOf st).toList=(L1++X)++Y++L2:=harr
 have hX:(arrOf st).toList=L1++X++(Y++L2):=by rw [harr,List.append_assoc]
 have lX:(L1++X).length=L1.length+X.length:=List.length_append
 have gX:=aCy hX sX mX
 have gY:=aCy hY sY mY
 rw [lX] at gY
 have e0:(arrOf st)[L1.length+X.length]?=some Y[0]:=by have:=iL hY nY;rw [lX] at this;exact this
 have rX:∀m (hm:m<X.length),Rk ρ (arrOf st) (L1.length+m)=ρ X[m]:=fun m hm=>dI (iL hX hm)
 have rY:∀m (hm:m<Y.length),Rk ρ (arrOf st) (L1.length+X.length+m)=ρ Y[m]:=fun m hm=>by have:=dI (ρ:=ρ) (iL hY hm);rw [lX] at this;exact this
 refine wpS_bind (wpS_get ?_)
 dsimp (config:={zeta:=false}) only
 rw [g1,g2]
 dsimp (config:={zeta:=false}) only
 refine wpS_bind (aHs fun st1 hst=>?_)
 have k1:kindOf st1=κ:=by rw [hst];exact hk
 have f1:failedOf st1=none:=by rw [hst];exact hf
 have a1:arrOf st1=arrOf st:=by rw [hst]
 have p1:(pendingOf st1).toList=P1++(L1.length,X.length+Y.length,w0)::P2:=by rw [hst];exact aH0 hp hi
 refine wpS_bind (bR e0 (wpS_bind (gP C k1 (mY _ (List.getElem_mem _)) gX nX fun k k1' k2 k3=>?_)))
 have b1:∀x∈X.take k,∀y∈Y,ρ x<=ρ y:=by
  intro x hx y hy
  obtain ⟨j,hj,rfl⟩:=List.getElem_of_mem hx
  rw [List.length_take] at hj
  have t1:=aCs (k2 j (by omega))
  rw [rX j (by omega)] at t1
  rw [List.getElem_take]
  refine Int.le_trans t1 (pB sY nY y (by simpa using hy))
 dsimp (config:={zeta:=false}) only
 by_cases c1:X.length - k=0
 ·rw [if_pos (by simpa using c1)]
  refine wpS_pure (h st1 (X++Y) w0 k1 f1 p1 (by rw [a1,harr];simp only [List.append_assoc]) (List.Perm.refl _) (aPx sX sY fun x hx y hy=>b1 x ?_ y hy))
  rw [List.take_of_length_le (by omega)]
  exact hx
 rw [if_neg (by simpa using c1)]
 have hl:X.length - 1<X.length:=by omega
 have el:(arrOf st)[L1.length+k+(X.length - k) - 1]?=some X[X.length - 1]:=by
  rw [show L1.length+k+(X.length - k) - 1=L1.length+(X.length - 1) by omega]
  exact iL hX hl
 have hlast:∀x∈X,ρ x<=ρ X[X.length - 1]:=by
  intro x hx
  obtain ⟨j,hj,rfl⟩:=List.getElem_of_mem hx
  by_cases e:j=X.length - 1
  ·subst e;exact Int.le_refl _
  ·exact List.pairwise_iff_getElem.mp sX j _ hj hl (by omega)
 refine wpS_bind (bR el (wpS_bind (gP C k1 (mX _ (List.getElem_mem _)) gY (by omega) fun m m1 m2 m3=>?_)))
 have b2:∀y∈Y.drop m,∀x∈X,ρ x<=ρ y:=by
  intro y hy x hx
  obtain ⟨j,hj,rfl⟩:=List.getElem_of_mem hy
  rw [List.length_drop] at hj
  have t1:=yC (m3 (m+j) (by omega) (by omega))
  rw [rY (m+j) (by omega)] at t1
  rw [List.getElem_drop]
  exact Int.le_trans (hlast x hx) t1
 dsimp (config:={zeta:=false}) only
 by_cases c2:m=0
 ·rw [if_pos (by simpa using c2)]
  subst c2
  exact wpS_pure (h st1 (X++Y) w0 k1 f1 p1 (by rw [a1,harr];simp only [List.append_assoc]) (List.Perm.refl _) (aPx sX sY fun x hx y hy=>b2 y (by simpa using hy) x hx))
 rw [if_neg (by simpa using c2)]
 extract_lets x y jp
 have ex:x.toList=X.drop k:=aRq hX (by omega)
 have ey:y.toList=Y.take m:=by have:=aLd hY m1;rw [lX] at this;exact this
 have zx:x.size=X.length - k:=by rw [<- Array.length_toList,ex,List.length_drop]
 have zy:y.size=m:=by rw [<- Array.length_toList,ey,List.length_take];omega
 have hjp:∀out st2,Same st1 st2->Res ρ x y out->wpS (model prog w) A E s (jp out) Q st2:=by
  rintro out st2 hS ⟨r1,r2⟩
  rw [ex,ey] at r1
  refine wpS_bind (wpS_modify (wpS_bind (wpS_get (wpS_pure ?_))))
  obtain ⟨z1,z2⟩:=glue sX sY b1 b2 r1 r2
  have hr:=r1.length_eq
  have hxy:Y=Y.take m++Y.drop m:=(List.take_append_drop m Y).symm
  have hxx:X=X.take k++X.drop k:=(List.take_append_drop k X).symm
  have e9:(arrOf st2).toList=(L1++X.take k)++(X.drop k++Y.take m)++(Y.drop m++L2):=by
   rw [hS.arr,a1,harr]
   conv=>lhs;rw [hxx,hxy]
   simp only [List.append_assoc]
  have wb:=aLa (L1++X.take k) (X.drop k++Y.take m) out.toList (Y.drop m++L2) (arrOf st2) e9 hr
  have lk:(L1++X.take k).length=L1.length+k:=by rw [List.length_append,List.length_take];omega
  rw [lk] at wb
  have e8:(failedOf st2).isNone=true:=by rw [hS.failed,f1];rfl
  show Q ((failedOf st2).isNone) _
  rw [e8]
  refine h _ _ w0 (hS.kind.trans k1) (hS.failed.trans f1) ?_ ?_ z1 z2
  ·show (pendingOf st2).toList=_
   rw [hS.pend];exact p1
  ·refine Eq.trans wb ?_
   simp only [List.append_assoc]
 clear_value jp
 have mx:∀z∈x.toList,z∈a₀:=fun z hz=>mX z (List.mem_of_mem_drop (by rw [<- ex];exact hz))
 have my:∀z∈y.toList,z∈a₀:=fun z hz=>mY z (List.mem_of_mem_take (by rw [<- ey];exact hz))
 have sx:Srt ρ x.toList:=by rw [ex];exact sX.drop
 have sy:Srt ρ y.toList:=by rw [ey];exact sY.take
 have y0:Rk ρ y 0=ρ Y[0]:=by
  refine dI ?_
  rw [<- Array.getElem?_toList,ey,List.getElem?_take,if_pos (by omega),List.getElem?_eq_getElem nY]
 have x0:∀z∈x.toList,ρ Y[0]<=ρ z:=by
  intro z hz
  rw [ex] at hz
  obtain ⟨j,hj,rfl⟩:=List.getElem_of_mem hz
  rw [List.length_drop] at hj
  have t1:=wK (k3 (k+j) (by omega) (by omega))
  rw [rX (k+j) (by omega)] at t1
  rw [List.getElem_drop]
  exact t1
 have xl:Rk ρ x (x.size - 1)=ρ X[X.length - 1]:=by
  refine dI ?_
  rw [<- Array.getElem?_toList,ex,List.getElem?_drop,zx,show k+(X.length - k - 1)=X.length - 1 by omega,List.getElem?_eq_getElem hl]
 have yl:∀z∈y.toList,ρ z<=ρ X[X.length - 1]:=by
  intro z hz
  rw [ey] at hz
  obtain ⟨j,hj,rfl⟩:=List.getElem_of_mem hz
  rw [List.length_take] at hj
  have t1:=aCg (m2 j (by omega))
  rw [rY j (by omega)] at t1
  rw [List.getElem_take]
  exact t1
 have memr:∀(z:Array Keyed) (j:Nat) (hj:j<z.size),∃u∈z.toList,Rk ρ z j=ρ u:=fun z j hj=>⟨z.toList[j]'(by simpa using hj),List.getElem_mem _,lS hj⟩
 split
 ·refine wpS_bind (aAh C k1 mx my sx sy (by omega) (by omega) ?_ ?_ hjp)
  ·obtain ⟨u,hu,e⟩:=memr x 0 (by omega)
   rw [e,y0]
   exact x0 u hu
  ·rw [xl];exact yl
 ·refine wpS_bind (yW C k1 mx my sx sy (by omega) (by omega) ?_ ?_ hjp)
  ·rw [y0];exact x0
  ·obtain ⟨u,hu,e⟩:=memr y (y.size - 1) (by omega)
   rw [e,xl]
   exact yl u hu
end
end VT
end
section
namespace VT
open PySem PyProof.Rows
structure CB (lo:Nat) (st st':SortSt):Prop where
 kind:kindOf st'=kindOf st
 pend:pendingOf st'=pendingOf st
 failed:failedOf st'=failedOf st
 perm:(arrOf st').Perm (arrOf st)
 keep:∀k,k<lo->(arrOf st')[k]?=(arrOf st)[k]?
theorem CB.refl (lo:Nat) (st:SortSt):CB lo st st:=⟨rfl,rfl,rfl,Array.Perm.refl _,fun _ _=>rfl⟩
theorem CB.size {lo:Nat} {st st':SortSt} (c:CB lo st st'):(arrOf st').size=(arrOf st).size:=c.perm.size_eq
section
variable {prog:Program} {w:World} {A:Around} {E:Y9} {s:Shared} {κ:SortKind} {ρ:Keyed->Int} {a₀:List Keyed} {st:SortSt}
theorem mK (C:Cmp prog w A s κ ρ a₀) (hk:kindOf st=κ) (mem:∀x∈(arrOf st).toList,x∈a₀) {i j:Nat} (hi:i<(arrOf st).size) (hj:j<(arrOf st).size) {Q:Option Bool->SortSt->Prop} (h:Q (some (decide (Rk ρ (arrOf st) i<Rk ρ (arrOf st) j))) st):wpS (model prog w) A E s (ltAt' i j) Q st:=by
 rw [ltAt'_eq]
 refine wpS_bind (wpS_get ?_)
 have g1:(arrOf st)[i]?=some (arrOf st)[i]:=Array.getElem?_eq_getElem hi
 have g2:(arrOf st)[j]?=some (arrOf st)[j]:=Array.getElem?_eq_getElem hj
 rw [dI g1,dI g2] at h
 exact wpS_bind (bR g1 (wpS_bind (bR g2 (oE C hk (mem _ (by simp)) (mem _ (by simp)) h))))
def Up (ρ:Keyed->Int) (xs:Array Keyed) (lo n:Nat):Prop:=∀i j,i<=j->j<n->Rk ρ xs (lo+i)<=Rk ρ xs (lo+j)
def Dn (ρ:Keyed->Int) (xs:Array Keyed) (lo n:Nat):Prop:=∀i j,i<=j->j<n->Rk ρ xs (lo+j)<=Rk ρ xs (lo+i)
theorem Up.one {xs:Array Keyed} {lo:Nat}:Up ρ xs lo 1:=fun i j a b=>by
 have e:i=j:=by omega
 subst e;exact Int.le_refl _
theorem Up.next {xs:Array Keyed} {lo n:Nat} (u:Up ρ xs lo n) (hn:1<=n) (h:¬ Rk ρ xs (lo+n)<Rk ρ xs (lo+n - 1)):Up ρ xs lo (n+1):=fun i j a b=>by
 by_cases e:j<n
 ·exact u i j a e
 ·have e2:j=n:=by omega
  subst e2
  by_cases e3:i=j
  ·subst e3;exact Int.le_refl _
  ·have t:=u i (j - 1) (by omega) (by omega)
   rw [show lo+(j - 1)=lo+j - 1 by omega] at t
   omega
theorem Dn.next {xs:Array Keyed} {lo n:Nat} (u:Dn ρ xs lo n) (hn:1<=n) (h:Rk ρ xs (lo+n)<=Rk ρ xs (lo+n - 1)):Dn ρ xs lo (n+1):=fun i j a b=>by
 by_cases e:j<n
 ·exact u i j a e
 ·have e2:j=n:=by omega
  subst e2
  by_cases e3:i=j
  ·subst e3;exact Int.le_refl _
  ·have t:=u i (j - 1) (by omega) (by omega)
   rw [show lo+(j - 1)=lo+j - 1 by omega] at t
   omega
theorem pA {xs ys:Array Keyed} {i j:Nat} (h:xs[i]?=ys[j]?):Rk ρ xs i=Rk ρ ys j:=by unfold Rk;rw [h]
theorem aB6 {xs:Array Keyed} {i j:Nat} (hj:j<=xs.size) (k:Nat):Rk ρ (mirror xs i j ((j - i) / 2)) k=if i<=k/\k<j then Rk ρ xs (i+j - 1 - k) else Rk ρ xs k:=by
 have e:=getElem?_mirror_all (i:=i) hj k
 split
 ·next c=>rw [if_pos c] at e;exact pA e
 ·next c=>rw [if_neg c] at e;exact pA e
theorem CB.mir {lo i j:Nat} {st st':SortSt} (c:CB lo st st') (hi:lo<=i) (hj:j<=(arrOf st').size):CB lo st (setArr st' (mirror (arrOf st') i j ((j - i) / 2))):=by
 refine ⟨c.kind,c.pend,c.failed,(mirror_perm _ _ _ _).trans c.perm,fun k hk=>?_⟩
 refine Eq.trans ?_ (c.keep k hk)
 have e:=getElem?_mirror_all (i:=i) hj k
 rw [if_neg (by omega)] at e
 exact e
theorem CB.mem {lo:Nat} {st st':SortSt} (c:CB lo st st') (mem:∀x∈(arrOf st).toList,x∈a₀):∀x∈(arrOf st').toList,x∈a₀:=fun x hx=>mem x ((Array.perm_iff_toList_perm.mp c.perm).mem_iff.mp hx)
theorem rA {i j:Nat} {Q:Unit->SortSt->Prop} (h:Q () (setArr st (mirror (arrOf st) i j ((j - i) / 2)))):wpS (model prog w) A E s (reverseSlice' i j) Q st:=by
 rw [reverseSlice'_eq];exact wpS_modify h
theorem mL {xs:Array Keyed} {i j:Nat} (hj:j<=xs.size) (heq:∀k,i<=k->k<j->Rk ρ xs k=Rk ρ xs (j - 1)) (k:Nat):Rk ρ (mirror xs i j ((j - i) / 2)) k=Rk ρ xs k:=by
 rw [aB6 hj]
 split
 ·rw [heq _ (by omega) (by omega),heq k (by omega) (by omega)]
 ·rfl
theorem aE7 (C:Cmp prog w A s κ ρ a₀) {lo nrem:Nat} (hk:kindOf st=κ) (mem:∀x∈(arrOf st).toList,x∈a₀) (hn:lo+nrem<=(arrOf st).size) (h1:1<=nrem) {Q:Option Nat->SortSt->Prop}
  (h:∀m st',CB lo st st'->1<=m->m<=nrem->Up ρ (arrOf st') lo m->Q (some m) st'):wpS (model prog w) A E s (countRun' lo nrem) Q st:=by
 refine wpS_bind (wpS_mono (wpS_forRange (I:=fun x c st'=>st'=st/\c=(none,x)/\Up ρ (arrOf st) lo x)
  (Q:=fun c st'=>st'=st/\∃n,c=(none,n)/\1<=n/\n<=nrem/\Up ρ (arrOf st) lo n/\(n=nrem\/Rk ρ (arrOf st) (lo+n)<Rk ρ (arrOf st) (lo+n - 1))) ?_ ?_ ⟨rfl,rfl,Up.one⟩) ?_)
 ·rintro x c st' hx1 hx2 ⟨rfl,rfl,u⟩
  dsimp only
  refine wpS_bind (mK C hk mem (by omega) (by omega) ?_)
  by_cases hl:Rk ρ (arrOf st') (lo+x)<Rk ρ (arrOf st') (lo+x - 1)
  ·simp only [hl,decide_true,if_true]
   exact wpS_pure ⟨rfl,x,rfl,hx1,by omega,u,.inr hl⟩
  ·simp only [hl,decide_false,Bool.false_eq_true,if_false]
   exact wpS_pure ⟨rfl,rfl,u.next hx1 hl⟩
 ·rintro c st' ⟨rfl,rfl,u⟩
  rw [show max 1 nrem=nrem by omega] at u ⊢
  exact ⟨rfl,nrem,rfl,h1,Nat.le_refl _,u,.inl rfl⟩
 rintro c st' ⟨rfl,n,rfl,n1,n2,n3,n4⟩
 dsimp (config:={zeta:=false}) only
 refine (show wpS (model prog w) A E s (ite _ _ _) Q st' from ?_)
 by_cases c1:n=nrem
 ·rw [if_pos (by simpa using c1)]
  exact wpS_pure (h n st' (CB.refl _ _) n1 n2 n3)
 rw [if_neg (by simpa using c1)]
 have n5:=n4.resolve_left c1
 extract_lets m6 q6 jp
 have hjp:∀st2,CB lo st' st2->Dn ρ (arrOf st2) lo (n+1)->wpS (model prog w) A E s (jp ()) Q st2:=by
  intro st2 hc hd
  refine wpS_bind (wpS_lift (wpAny_rule ⟨rfl,?_⟩))
  refine wpS_bind (wpS_mono (wpS_forRange (a:=n+1) (b:=nrem) (I:=fun x c st''=>CB lo st' st''/\∃neq,c=(none,x,neq)/\Dn ρ (arrOf st'') lo x/\neq+1<=x/\∀i,lo+x - (neq+1)<=i->i<lo+x->Rk ρ (arrOf st'') i=Rk ρ (arrOf st'') (lo+x - 1))
   (Q:=fun c st''=>CB lo st' st''/\∃x neq,c=(none,x,neq)/\1<=x/\x<=nrem/\Dn ρ (arrOf st'') lo x/\neq+1<=x/\∀i,lo+x - (neq+1)<=i->i<lo+x->Rk ρ (arrOf st'') i=Rk ρ (arrOf st'') (lo+x - 1)) ?_ ?_ ⟨hc,0,rfl,hd,by omega,fun i i1 i2=>by congr 1;omega⟩) ?_)
  ·rintro x c st3 hx1 hx2 ⟨hc3,neq,rfl,hd3,q1,q2⟩
   have z3:=hc3.size
   refine wpS_bind (mK C (hc3.kind.trans hk) (hc3.mem mem) (show lo+x<_ by omega) (show lo+x - 1<_ by omega) ?_)
   dsimp only
   by_cases hl:Rk ρ (arrOf st3) (lo+x)<Rk ρ (arrOf st3) (lo+x - 1)
   ·simp only [hl,decide_true,if_true]
    have hd4:Dn ρ (arrOf st3) lo (x+1):=hd3.next (by omega) (by omega)
    by_cases hq:neq > 0
    ·rw [if_pos hq]
     refine wpS_bind (rA (wpS_pure ⟨hc3.mir (by omega) (by omega),0,rfl,fun i j a b=>?_,by omega,fun i i1 i2=>by congr 1;omega⟩))
     show Rk ρ (mirror (arrOf st3) _ _ _) _<=Rk ρ (mirror (arrOf st3) _ _ _) _
     rw [mL (by omega) q2,mL (by omega) q2]
     exact hd4 i j a b
    ·rw [if_neg hq]
     exact wpS_pure ⟨hc3,0,rfl,hd4,by omega,fun i i1 i2=>by congr 1;omega⟩
   ·simp only [hl,decide_false,Bool.false_eq_true,if_false]
    refine wpS_bind (mK C (hc3.kind.trans hk) (hc3.mem mem) (show lo+x - 1<_ by omega) (show lo+x<_ by omega) ?_)
    by_cases hg:Rk ρ (arrOf st3) (lo+x - 1)<Rk ρ (arrOf st3) (lo+x)
    ·simp only [hg,decide_true,if_true]
     exact wpS_pure ⟨hc3,x,neq,rfl,by omega,by omega,hd3,q1,q2⟩
    ·simp only [hg,decide_false,Bool.false_eq_true,if_false]
     refine wpS_pure ⟨hc3,neq+1,rfl,hd3.next (by omega) (by omega),by omega,fun i i1 i2=>?_⟩
     rw [show lo+(x+1) - 1=lo+x by omega]
     by_cases e:i=lo+x
     ·rw [e]
     ·rw [q2 i (by omega) (by omega)];omega
  ·rintro c st3 ⟨hc3,neq,rfl,hd3,q1,q2⟩
   rw [show max (n+1) nrem=nrem by omega] at *
   exact ⟨hc3,nrem,neq,rfl,h1,Nat.le_refl _,hd3,q1,q2⟩
  rintro c st3 ⟨hc3,x,neq,rfl,x1,x2,hd3,q1,q2⟩
  have z3:=hc3.size
  dsimp (config:={zeta:=false}) only
  extract_lets r7 s7 n7 q7 jp7
  have fin:∀st4,CB lo st' st4->Dn ρ (arrOf st4) lo x->∀u:Unit,wpS (model prog w) A E s (jp7 u) Q st4:=by
   intro st4 hc4 hd4 u
   have z4:=hc4.size
   refine wpS_bind (rA ?_)
   have hc5:=hc4.mir (i:=lo) (j:=lo+x) (Nat.le_refl _) (by omega)
   have hu5:Up ρ (arrOf (setArr st4 (mirror (arrOf st4) lo (lo+x) ((lo+x - lo) / 2)))) lo x:=by
    intro i j a b
    show Rk ρ (mirror (arrOf st4) _ _ _) _<=Rk ρ (mirror (arrOf st4) _ _ _) _
    rw [aB6 (by omega),aB6 (by omega),if_pos (by omega),if_pos (by omega),show lo+(lo+x) - 1 - (lo+i)=lo+(x - 1 - i) by omega,show lo+(lo+x) - 1 - (lo+j)=lo+(x - 1 - j) by omega]
    exact hd4 _ _ (by omega) (by omega)
   generalize setArr st4 (mirror (arrOf st4) lo (lo+x) ((lo+x - lo) / 2))=st5 at *
   have z5:=hc5.size
   refine wpS_bind (wpS_mono (wpS_forRange (a:=x) (b:=nrem) (I:=fun y c st'=>st'=st5/\c=(none,y)/\Up ρ (arrOf st5) lo y)
    (Q:=fun c st'=>st'=st5/\∃y,c=(none,y)/\1<=y/\y<=nrem/\Up ρ (arrOf st5) lo y) ?_ ?_ ⟨rfl,rfl,hu5⟩) ?_)
   ·rintro y c st6 hx1 hx2 ⟨rfl,rfl,u⟩
    dsimp only
    refine wpS_bind (mK C (hc5.kind.trans hk) (hc5.mem mem) (by omega) (by omega) ?_)
    by_cases hl:Rk ρ (arrOf st6) (lo+y)<Rk ρ (arrOf st6) (lo+y - 1)
    ·simp only [hl,decide_true,if_true]
     exact wpS_pure ⟨rfl,y,rfl,by omega,by omega,u⟩
    ·simp only [hl,decide_false,Bool.false_eq_true,if_false]
     exact wpS_pure ⟨rfl,rfl,u.next (by omega) hl⟩
   ·rintro c st6 ⟨rfl,rfl,u⟩
    rw [show max x nrem=nrem by omega] at u ⊢
    exact ⟨rfl,nrem,rfl,h1,Nat.le_refl _,u⟩
   ·rintro c st6 ⟨rfl,y,rfl,y1,y2,u⟩
    exact wpS_pure (h y st6 hc5 y1 y2 u)
  clear_value jp7
  refine (show wpS (model prog w) A E s (ite _ _ _) Q st3 from ?_)
  by_cases hq:neq > 0
  ·rw [if_pos hq]
   refine wpS_bind (rA (i:=lo+x - (neq+1)) (j:=lo+x) (fin _ (hc3.mir (by omega) (by omega)) (fun i j a b=>?_) ()))
   show Rk ρ (mirror (arrOf st3) _ _ _) _<=Rk ρ (mirror (arrOf st3) _ _ _) _
   rw [mL (by omega) q2,mL (by omega) q2]
   exact hd3 i j a b
  ·rw [if_neg hq]
   exact fin _ hc3 hd3 ()
 clear_value jp
 by_cases c2:n > 1
 ·rw [if_pos c2]
  refine wpS_bind (mK C hk mem (by omega) (by omega) ?_)
  dsimp only
  by_cases hr:Rk ρ (arrOf st') lo<Rk ρ (arrOf st') (lo+n - 1)
  ·simp only [hr,decide_true,if_true]
   exact wpS_pure (h n st' (CB.refl _ _) n1 n2 n3)
  ·simp only [hr,decide_false,Bool.false_eq_true,if_false]
   have hall:∀k,lo<=k->k<lo+n->Rk ρ (arrOf st') k=Rk ρ (arrOf st') (lo+n - 1):=by
    intro k k1 k2
    have t1:=n3 0 (k - lo) (by omega) (by omega)
    have t2:=n3 (k - lo) (n - 1) (by omega) (by omega)
    rw [show lo+0=lo by omega,show lo+(k - lo)=k by omega] at t1
    rw [show lo+(n - 1)=lo+n - 1 by omega,show lo+(k - lo)=k by omega] at t2
    omega
   refine wpS_bind (rA (hjp _ ((CB.refl _ _).mir (Nat.le_refl _) (by omega)) fun i j a b=>?_))
   show Rk ρ (mirror (arrOf st') _ _ _) _<=Rk ρ (mirror (arrOf st') _ _ _) _
   rw [mL (by omega) hall,mL (by omega) hall]
   by_cases e1:j<n
   ·rw [hall (lo+i) (by omega) (by omega),hall (lo+j) (by omega) (by omega)];exact Int.le_refl _
   ·have e2:j=n:=by omega
    subst e2
    by_cases e3:i=j
    ·subst e3;exact Int.le_refl _
    ·rw [hall (lo+i) (by omega) (by omega)];omega
 ·rw [if_neg c2]
  have e1:n=1:=by omega
  subst e1
  refine hjp _ (CB.refl _ _) fun i j a b=>?_
  by_cases e3:i=j
  ·subst e3;exact Int.le_refl _
  ·have i0:i=0:=by omega
   have j1:j=1:=by omega
   subst i0;subst j1
   rw [show lo+1 - 1=lo+0 by omega] at n5
   omega
end
end VT
end
section
namespace VT
open PySem PyProof.Rows
section
variable {prog:Program} {w:World} {A:Around} {E:Y9} {s:Shared} {κ:SortKind} {ρ:Keyed->Int} {a₀:List Keyed} {st:SortSt}
theorem aJt {xs:Array Keyed} {src d:Nat} (hs:src<xs.size) (hd:d<=src) (k:Nat):Rk ρ (bubble xs src d) k=if k=src - d then Rk ρ xs src else if src - d<k/\k<=src then Rk ρ xs (k - 1) else Rk ρ xs k:=by
 have e:=getElem?_bubble hs d hd k
 by_cases c1:k=src - d
 ·rw [if_pos c1] at e ⊢;exact pA e
 ·rw [if_neg c1] at e ⊢
  by_cases c2:src - d<k/\k<=src
  ·rw [if_pos c2] at e ⊢;exact pA e
  ·rw [if_neg c2] at e ⊢;exact pA e
theorem CB.bub {lo src d:Nat} {st st':SortSt} (c:CB lo st st') (hs:src<(arrOf st').size) (hd:d<=src) (h:lo<=src - d):CB lo st (setArr st' (bubble (arrOf st') src d)):=by
 refine ⟨c.kind,c.pend,c.failed,(bubble_perm _ _ _).trans c.perm,fun k hk=>?_⟩
 refine Eq.trans ?_ (c.keep k hk)
 have e:=getElem?_bubble hs d hd k
 rw [if_neg (by omega),if_neg (by omega)] at e
 exact e
theorem aN3 (C:Cmp prog w A s κ ρ a₀) {lo n ok:Nat} {st₀:SortSt} (hc:CB lo st₀ st) (hk:kindOf st₀=κ) (mem:∀x∈(arrOf st₀).toList,x∈a₀) (hn:lo+n<=(arrOf st₀).size) (hok:ok<=n) (hu:Up ρ (arrOf st) lo ok) {Q:Bool->SortSt->Prop}
  (h:∀st',CB lo st₀ st'->Up ρ (arrOf st') lo n->Q true st'):wpS (model prog w) A E s (binarySort' lo n ok) Q st:=by
 refine wpS_bind (wpS_mono (wpS_forRange (I:=fun k c st'=>c=(none,())/\CB lo st₀ st'/\Up ρ (arrOf st') lo (min k n))
  (Q:=fun c st'=>c=(none,())/\CB lo st₀ st'/\Up ρ (arrOf st') lo n) ?_ ?_ ⟨rfl,hc,?_⟩) ?_)
 ·rintro k c st1 k1 k2 ⟨rfl,hc1,hu1⟩
  rw [show min k n=k by omega] at hu1
  have z1:=hc1.size
  refine wpS_bind (wpS_mono (wpS_forRange (a:=0) (b:=k) (I:=fun x c st'=>st'=st1/\∃l r,c=(none,l,r)/\l<=r/\r<=k/\r - l<=k - x/\(∀i,i<l->Rk ρ (arrOf st1) (lo+i)<=Rk ρ (arrOf st1) (lo+k))/\(∀i,r<=i->i<k->Rk ρ (arrOf st1) (lo+k)<Rk ρ (arrOf st1) (lo+i)))
   (Q:=fun c st'=>st'=st1/\∃l,c=(none,l,l)/\l<=k/\(∀i,i<l->Rk ρ (arrOf st1) (lo+i)<=Rk ρ (arrOf st1) (lo+k))/\(∀i,l<=i->i<k->Rk ρ (arrOf st1) (lo+k)<Rk ρ (arrOf st1) (lo+i))) ?_ ?_ ⟨rfl,0,k,rfl,by omega,by omega,by omega,fun i hi=>by omega,fun i i1 i2=>by omega⟩) ?_)
  ·rintro x c st' _ hx ⟨rfl,l,r,rfl,b1,b2,b3,b4,b5⟩
   dsimp only
   by_cases hg:l >= r
   ·rw [if_pos hg]
    have e:l=r:=by omega
    subst e
    exact wpS_pure ⟨rfl,l,rfl,b2,b4,b5⟩
   ·rw [if_neg hg]
    refine wpS_bind (mK C (hc1.kind.trans hk) (hc1.mem mem) (by omega) (by omega) ?_)
    by_cases hl:Rk ρ (arrOf st') (lo+k)<Rk ρ (arrOf st') (lo+(l+r) / 2)
    ·simp only [hl,decide_true,if_true]
     exact wpS_pure ⟨rfl,l,(l+r) / 2,rfl,by omega,by omega,by omega,b4,fun i i1 i2=>Int.lt_of_lt_of_le hl (hu1 _ _ i1 i2)⟩
    ·simp only [hl,decide_false,Bool.false_eq_true,if_false]
     refine wpS_pure ⟨rfl,(l+r) / 2+1,r,rfl,by omega,by omega,by omega,fun i i1=>?_,b5⟩
     have t:=hu1 i ((l+r) / 2) (by omega) (by omega)
     omega
  ·rintro c st' ⟨rfl,l,r,rfl,b1,b2,b3,b4,b5⟩
   have e:l=r:=by omega
   subst e
   exact ⟨rfl,l,rfl,b2,b4,b5⟩
  ·rintro c st' ⟨rfl,l,rfl,b2,b4,b5⟩
   have hsz:lo+k<(arrOf st').size:=by omega
   refine wpS_bind (wpS_modify (wpS_pure ⟨rfl,hc1.bub (src:=lo+k) (d:=lo+k - (lo+l)) hsz (by omega) (by omega),?_⟩))
   rw [show min (k+1) n=k+1 by omega]
   intro i j a b
   show Rk ρ (bubble (arrOf st') (lo+k) (lo+k - (lo+l))) _<=Rk ρ (bubble (arrOf st') (lo+k) (lo+k - (lo+l))) _
   rw [aJt hsz (by omega),aJt hsz (by omega),show lo+k - (lo+k - (lo+l))=lo+l by omega]
   repeat' split
   all_goals first
    | (exfalso;omega)
    | exact Int.le_refl _
    | exact b4 _ (by omega)
    | (next e1 e2 e3=>have t:=b5 (j - 1) (by omega) (by omega);rw [show lo+(j - 1)=lo+j - 1 by omega] at t;omega)
    | (next e1 e2 e3=>have t:=b5 j (by omega) (by omega);omega)
    | (have t:=hu1 (i - 1) (j - 1) (by omega) (by omega);rw [show lo+(j - 1)=lo+j - 1 by omega,show lo+(i - 1)=lo+i - 1 by omega] at t;exact t)
    | (have t:=hu1 i (j - 1) (by omega) (by omega);rw [show lo+(j - 1)=lo+j - 1 by omega] at t;exact t)
    | (have t:=hu1 i j (by omega) (by omega);exact t)
    | skip
 ·rintro c st1 ⟨rfl,hc1,hu1⟩
  rw [show min (max (max ok 1) n) n=n by omega] at hu1
  exact ⟨rfl,hc1,hu1⟩
 ·intro i j a b
  by_cases e:ok=0
  ·have e2:i=j:=by omega
   subst e2;exact Int.le_refl _
  ·exact hu i j a (by omega)
 ·rintro c st1 ⟨rfl,hc1,hu1⟩
  exact wpS_pure (h st1 hc1 hu1)
end
end VT
end
section
namespace VT
open PySem PyProof.Rows
section
variable {prog:Program} {w:World} {A:Around} {E:Y9} {s:Shared} {κ:SortKind} {ρ:Keyed->Int} {a₀:List Keyed} {st:SortSt}
theorem CB.rest {lo:Nat} {st st':SortSt} (c:CB lo st st') {P R:List Keyed} (h:(arrOf st).toList=P++R) (hl:P.length=lo):∃R',(arrOf st').toList=P++R'/\R'.Perm R:=by
 have e:(arrOf st').toList.take lo=P:=by
  apply List.ext_getElem?
  intro k
  rw [List.getElem?_take]
  by_cases hk:k<lo
  ·rw [if_pos hk,Array.getElem?_toList,c.keep k hk,<- Array.getElem?_toList,h,List.getElem?_append_left (by omega)]
  ·rw [if_neg hk,List.getElem?_eq_none (by omega)]
 have e2:(arrOf st').toList=P++(arrOf st').toList.drop lo:=by
  conv=>lhs;rw [<- List.take_append_drop lo (arrOf st').toList,e]
 refine ⟨_,e2,?_⟩
 have p:=Array.perm_iff_toList_perm.mp c.perm
 rw [h,e2] at p
 exact (List.perm_append_left_iff P).mp p
theorem aUd {arr:Array Keyed} {P R:List Keyed} {n:Nat} (h:arr.toList=P++R) (hn:n<=R.length) (u:Up ρ arr P.length n):Srt ρ (R.take n):=by
 have h':arr.toList=P++R ++ []:=by rw [h,List.append_nil]
 refine List.pairwise_iff_getElem.mpr fun i j hi hj hij=>?_
 rw [List.length_take] at hi hj
 rw [List.getElem_take,List.getElem_take]
 have t:=u i j (by omega) (by omega)
 rw [dI (iL h' (show i<R.length by omega)),dI (iL h' (show j<R.length by omega))] at t
 exact t
structure RI (κ:SortKind) (ρ:Keyed->Int) (L:List Keyed) (gs:List (List Keyed)) (rest:List Keyed) (st:SortSt):Prop where
 kind:kindOf st=κ
 failed:failedOf st=none
 arr:(arrOf st).toList=gs.flatten++rest
 pd:Pd ρ 0 gs (pendingOf st).toList
 perm:(gs.flatten++rest).Perm L
theorem RI.merge (C:Cmp prog w A s κ ρ a₀) {L:List Keyed} {gs:List (List Keyed)} {rest:List Keyed} (r:RI κ ρ L gs rest st) (mem:∀x∈L,x∈a₀) {i:Nat} (hi:i+1<(pendingOf st).size) {Q:Bool->SortSt->Prop}
  (h:∀st' gs',RI κ ρ L gs' rest st'->gs'.flatten.length=gs.flatten.length->(pendingOf st').size+1=(pendingOf st).size->Q true st'):wpS (model prog w) A E s (mergeAt' i) Q st:=by
 obtain ⟨G1,X,Y,G2,P1,p,q,P2,e1,e2,e3,e4,e5,e6,e7,a1,a2,a3,a4,a5⟩:=r.pd.split (i:=i) (by simpa using hi)
 rw [Nat.zero_add] at e4 e6
 have ef:gs.flatten=G1.flatten++X++Y++G2.flatten:=by rw [e1];simp
 have hm:∀x∈gs.flatten,x∈a₀:=fun x hx=>mem x (r.perm.mem_iff.mp (List.mem_append_left _ hx))
 refine zW (L1:=G1.flatten) (X:=X) (Y:=Y) (L2:=G2.flatten++rest) C r.kind r.failed (by rw [r.arr,ef];simp only [List.append_assoc]) (fun x hx=>hm x (by rw [ef];simp [hx])) (fun x hx=>hm x (by rw [ef];simp [hx])) a1 a2 (List.length_pos_iff.mpr a3) (List.length_pos_iff.mpr a4) e2 e3 e4 e5 e6 e7
  fun st' Z w k1 f1 p1 arr1 z1 z2=>h st' (G1++Z::G2) ⟨k1,f1,?_,?_,?_⟩ ?_ ?_
 ·rw [arr1];simp
 ·rw [p1];exact a5 Z w (by rw [z1.length_eq,List.length_append]) z2
 ·refine List.Perm.trans ?_ r.perm
  rw [ef]
  simp only [List.flatten_append,List.flatten_cons,List.append_assoc]
  refine List.Perm.append_left _ ?_
  have:=z1.append_right (G2.flatten++rest)
  simpa only [List.append_assoc] using this
 ·rw [ef]
  have:=z1.length_eq
  simp only [List.flatten_append,List.flatten_cons,List.length_append] at this ⊢
  omega
 ·rw [<- Array.length_toList,p1,<- Array.length_toList,e2]
  simp
  omega
def aHg (κ:SortKind) (ρ:Keyed->Int) (L:List Keyed) (x:Nat):ForInStep (Option Unit×Nat)->SortSt->Prop
 | .done c,st'=>∃gs lo,c=(none,lo)/\RI κ ρ L gs [] st'
 | .yield c,st'=>∃gs rest,c=(none,gs.flatten.length)/\RI κ ρ L gs rest st'/\x+1<=gs.flatten.length
theorem aG9 (C:Cmp prog w A s κ ρ a₀) (hk:kindOf st=κ) (hf:failedOf st=none) (hp:pendingOf st = #[]) (mem:∀x∈(arrOf st).toList,x∈a₀) {Q:Unit->SortSt->Prop}
  (h:∀st',failedOf st'=none->(arrOf st').toList.Perm (arrOf st).toList->Srt ρ (arrOf st').toList->Q () st'):wpS (model prog w) A E s sortRuns' Q st:=by
 refine wpS_bind (wpS_get ?_)
 have hL:(arrOf st).toList.length=(arrOf st).size:=Array.length_toList
 generalize hsz:(arrOf st).size=size at *
 refine wpS_bind (wpS_mono (wpS_forRange (a:=0) (b:=size) (I:=fun x c st'=>∃gs rest,c=(none,gs.flatten.length)/\RI κ ρ (arrOf st).toList gs rest st'/\x<=gs.flatten.length)
  (Q:=fun c st'=>∃gs lo,c=(none,lo)/\RI κ ρ (arrOf st).toList gs [] st') ?_ ?_ ⟨[],(arrOf st).toList,rfl,⟨hk,hf,by simp,by rw [hp];trivial,by simp⟩,Nat.zero_le _⟩) ?_)
 ·rintro x c st1 _ hx ⟨gs,rest,rfl,r,hxl⟩
  have hlen:=r.perm.length_eq
  rw [List.length_append,hL] at hlen
  refine wpS_mono (Q:=aHg κ ρ (arrOf st).toList x) ?_ (fun r st' hr=>by cases r<;>exact hr)
  refine (show wpS (model prog w) A E s (ite _ _ _) _ st1 from ?_)
  by_cases c1:gs.flatten.length >= size
  ·rw [if_pos c1]
   have e:rest=[]:=List.length_eq_zero_iff.mp (by omega)
   subst e
   exact wpS_pure ⟨gs,_,rfl,r⟩
  rw [if_neg c1]
  have hz1:(arrOf st1).size=size:=by rw [<- Array.length_toList,r.arr,List.length_append];exact hlen
  have mem1:∀x∈(arrOf st1).toList,x∈a₀:=fun y hy=>mem y (r.perm.mem_iff.mp (by rw [<- r.arr];exact hy))
  refine wpS_bind (aE7 C (lo:=gs.flatten.length) (nrem:=size - gs.flatten.length) r.kind mem1 (by omega) (by omega) fun m st2 cb2 m1 m2 u2=>?_)
  dsimp (config:={zeta:=false}) only
  extract_lets n0 jp fr
  have hjp:∀n st3,CB gs.flatten.length st1 st3->1<=n->n<=size - gs.flatten.length->Up ρ (arrOf st3) gs.flatten.length n->wpS (model prog w) A E s (jp () n) (aHg κ ρ (arrOf st).toList x) st3:=by
   intro n st3 cb3 n1 n2 u3
   obtain ⟨R',e1,e2⟩:=cb3.rest r.arr rfl
   have hl2:=e2.length_eq
   have sR:Srt ρ (R'.take n):=aUd e1 (by omega) u3
   have r3:RI κ ρ (arrOf st).toList gs R' st3:=⟨cb3.kind.trans r.kind,cb3.failed.trans r.failed,e1,by rw [cb3.pend];exact r.pd,(List.Perm.append_left _ e2).trans r.perm⟩
   refine wpS_bind (wpS_get ?_)
   extract_lets lo5 jp2
   have hjp2:∀st4 gs4,RI κ ρ (arrOf st).toList gs4 R' st4->gs4.flatten.length=gs.flatten.length->wpS (model prog w) A E s (jp2 ()) (aHg κ ρ (arrOf st).toList x) st4:=by
    intro st4 gs4 r4 l4
    have e7:(gs4 ++ [R'.take n]).flatten=gs4.flatten++R'.take n:=by simp
    have e9:(gs4 ++ [R'.take n]).flatten++R'.drop n=gs4.flatten++R':=by rw [e7,List.append_assoc,List.take_append_drop]
    have e8:(gs4 ++ [R'.take n]).flatten.length=gs.flatten.length+n:=by rw [e7,List.length_append,List.length_take,l4];omega
    have ht:(R'.take n).length=n:=by rw [List.length_take];omega
    refine wpS_bind (wpS_modify (wpS_pure ⟨gs4 ++ [R'.take n],R'.drop n,?_,⟨r4.kind,r4.failed,?_,?_,?_⟩,?_⟩))
    ·rw [e8]
    ·show (arrOf st4).toList=_
     rw [e9];exact r4.arr
    ·show Pd ρ 0 _ ((pendingOf st4).push (gs.flatten.length,n,0)).toList
     have:=r4.pd.snoc (g:=R'.take n) (w:=0) (by intro e;rw [e] at ht;simp at ht;omega) sR
     rw [Nat.zero_add,l4,ht] at this
     rw [Array.toList_push]
     exact this
    ·rw [e9];exact r4.perm
    ·omega
   clear_value jp2
   cases hb:(pendingOf st3).back? with
   | none=>exact hjp2 st3 gs r3 rfl
   | some v =>
    obtain ⟨s1,n1',w1⟩:=v
    dsimp (config:={zeta:=false}) only
    refine wpS_bind (wpS_mono (wpS_forRange (a:=0) (b:=size) (I:=fun _ c st'=>c=(none,())/\∃gs',RI κ ρ (arrOf st).toList gs' R' st'/\gs'.flatten.length=gs.flatten.length)
     (Q:=fun c st'=>c=(none,())/\∃gs',RI κ ρ (arrOf st).toList gs' R' st'/\gs'.flatten.length=gs.flatten.length) ?_ (fun c st' hc=>hc) ⟨rfl,gs,r3,rfl⟩) ?_)
    ·rintro y c st5 _ _ ⟨rfl,gs5,r5,l5⟩
     refine wpS_bind (wpS_get ?_)
     dsimp only
     by_cases c5:(pendingOf st5).size > 1
     ·rw [if_pos c5,Array.getElem?_eq_getElem (show (pendingOf st5).size - 2<(pendingOf st5).size by omega)]
      dsimp only
      split
      ·exact wpS_pure ⟨rfl,gs5,r5,l5⟩
      ·refine wpS_bind (r5.merge C mem (i:=(pendingOf st5).size - 2) (by omega) fun st6 gs6 r6 l6 _=>?_)
       simp only [Bool.not_true,Bool.false_eq_true,if_false]
       exact wpS_pure ⟨rfl,gs6,r6,l6.trans l5⟩
     ·rw [if_neg c5]
      exact wpS_pure ⟨rfl,gs5,r5,l5⟩
    ·rintro c st5 ⟨rfl,gs5,r5,l5⟩
     refine wpS_bind (wpS_modify (hjp2 _ gs5 ⟨r5.kind,r5.failed,r5.arr,?_,r5.perm⟩ l5))
     refine r5.pd.same (aHf fun p=>rfl)
  clear_value jp
  split
  ·next c6 =>
   have c6:m<minRun' size size 0:=c6
   refine wpS_bind (wpS_lift (wpAny_rule ⟨rfl,?_⟩))
   refine wpS_bind (aN3 C cb2 r.kind mem1 (n:=min (size - gs.flatten.length) (minRun' size size 0)) (by omega) (by omega) u2 fun st3 cb3 u3=>?_)
   simp only [Bool.not_true,Bool.false_eq_true,if_false]
   exact hjp _ st3 cb3 (by show 1<=min _ _;omega) (by show min _ _<=_;omega) u3
  ·exact hjp m st2 cb2 m1 m2 u2
 ·rintro c st1 ⟨gs,rest,rfl,r,hxl⟩
  have hlen:=r.perm.length_eq
  rw [List.length_append,hL] at hlen
  have e:rest=[]:=List.length_eq_zero_iff.mp (by omega)
  subst e
  exact ⟨gs,_,rfl,r⟩
 ·rintro c st1 ⟨gs,lo,rfl,r⟩
  dsimp (config:={zeta:=false}) only
  have hlen:=r.perm.length_eq
  rw [List.append_nil,hL] at hlen
  refine wpS_bind (wpS_mono (wpS_forRange (a:=0) (b:=size) (I:=fun x c st'=>c=(none,())/\∃gs',RI κ ρ (arrOf st).toList gs' [] st'/\((pendingOf st').size<=1\/(pendingOf st').size+x<=size))
   (Q:=fun c st'=>c=(none,())/\∃gs',RI κ ρ (arrOf st).toList gs' [] st'/\(pendingOf st').size<=1) ?_ ?_ ⟨rfl,gs,r,.inr ?_⟩) ?_)
  ·rintro x c st2 _ hx ⟨rfl,gs2,r2,hs2⟩
   refine wpS_bind (wpS_get ?_)
   refine (show wpS (model prog w) A E s (ite _ _ _) _ st2 from ?_)
   by_cases c2:(pendingOf st2).size<=1
   ·rw [if_pos c2]
    exact wpS_pure ⟨rfl,gs2,r2,c2⟩
   ·rw [if_neg c2]
    extract_lets i1 bf i2
    have hi:i2+1<(pendingOf st2).size:=by
     have h1:i1=(pendingOf st2).size - 2:=rfl
     have h2:i2=i1\/i2=i1 - 1:=by
      show (if _ then i1 - 1 else i1)=i1\/(if _ then i1 - 1 else i1)=i1 - 1
      split
      ·exact .inr rfl
      ·exact .inl rfl
     omega
    clear_value i2
    refine wpS_bind (r2.merge C mem hi fun st6 gs6 r6 l6 z6=>?_)
    simp only [Bool.not_true,Bool.false_eq_true,if_false]
    exact wpS_pure ⟨rfl,gs6,r6,.inr (by omega)⟩
  ·rintro c st2 ⟨rfl,gs2,r2,hs2⟩
   exact ⟨rfl,gs2,r2,by omega⟩
  ·have t1:=r.pd.count
   have t2:gs.length=(pendingOf st1).size:=r.pd.len.trans Array.length_toList
   show (pendingOf st1).size+0<=size
   omega
  ·rintro c st2 ⟨rfl,gs2,r2,hs2⟩
   have t2:gs2.length=(pendingOf st2).size:=r2.pd.len.trans Array.length_toList
   have arr2:=r2.arr
   have perm2:=r2.perm
   rw [List.append_nil] at arr2 perm2
   refine wpS_pure (h st2 r2.failed (by rw [arr2];exact perm2) ?_)
   rw [arr2]
   match gs2,t2,r2.pd with
   | [],_,_=>exact List.Pairwise.nil
   | [g],_,pd =>
    simp only [List.flatten_cons,List.flatten_nil,List.append_nil]
    generalize (pendingOf st2).toList=ps at pd
    match ps,pd with
    | [],pd=>exact pd.elim
    | _::_,pd=>exact pd.2.2.2.1
   | _::_::_,t2,_=>simp at t2;omega
end
end VT
end
section
namespace VT
open PySem PySem.W PyProof.Rows ST
theorem aIi {α β:Type} {f:α->β} {l1 l2:List β} (h:l1.Perm l2):∀l:List α,l2=l.map f->∃l':List α,l'.Perm l/\l1=l'.map f:=by
 induction h with
 | nil=>intro l e;exact ⟨l,.refl _,e⟩
 | cons x _ ih =>
  intro l e
  match l,e with
  | y::l,e =>
   obtain ⟨e1,e2⟩:=List.cons.inj e
   obtain ⟨l',p,e3⟩:=ih l e2
   exact ⟨y::l',p.cons y,by rw [List.map_cons,e3,e1]⟩
 | swap x y _ =>
  intro l e
  match l,e with
  | a::b::l,e =>
   obtain ⟨e1,e2⟩:=List.cons.inj e
   obtain ⟨e3,e4⟩:=List.cons.inj e2
   exact ⟨b::a::l,List.Perm.swap _ _ _,by rw [List.map_cons,List.map_cons,e1,e3,e4]⟩
 | trans _ _ ih1 ih2 =>
  intro l e
  obtain ⟨l2,p2,e2⟩:=ih2 l e
  obtain ⟨l1,p1,e1⟩:=ih1 l2 e2
  exact ⟨l1,p1.trans p2,e1⟩
theorem aB2 {α:Type} {p q:α->Bool}:∀ {l:List α},(∀x∈l,p x=true->q x=true)->l.countP p<=l.countP q
 | [],_=>Nat.le_refl _
 | x::l,h=>by
  have ih:=aB2 (l:=l) fun y hy=>h y (List.mem_cons_of_mem _ hy)
  rw [List.countP_cons,List.countP_cons]
  by_cases hp:p x=true
  ·rw [if_pos hp,if_pos (h x List.mem_cons_self hp)];omega
  ·rw [if_neg hp];omega
theorem aF1 {α:Type} {p q:α->Bool}:∀ {l:List α},(∀x∈l,p x=true->q x=true)->(∃x∈l,q x=true/\p x=false)->l.countP p<l.countP q
 | [],_,⟨x,hx,_⟩=>by cases hx
 | x::l,h,⟨y,hy,h1,h2⟩=>by
  rw [List.countP_cons,List.countP_cons]
  rcases List.mem_cons.mp hy with rfl | hy
  ·have ih:=aB2 (l:=l) fun y hy=>h y (List.mem_cons_of_mem _ hy)
   rw [if_pos h1,if_neg (by rw [h2];simp)];omega
  ·have ih:=aF1 (l:=l) (fun y hy=>h y (List.mem_cons_of_mem _ hy)) ⟨y,hy,h1,h2⟩
   by_cases hp:p x=true
   ·rw [if_pos hp,if_pos (h x List.mem_cons_self hp)];omega
   ·rw [if_neg hp];omega
section
variable (kas:Y7)
def cnt (k:Y0):Int:=((kas.countP fun q=>ltL q.1 k:Nat):Int)
def aT8 (v:Value):Y0:=match v with
 | .ref a=>(((kas.find? fun q=>q.2 == a)).map (·.1)).getD []
 | _=>[]
def rank (p:Keyed):Int:=cnt kas (aT8 kas p.1)
variable {kas}
theorem aCi {x y:Y0×Addr} (hx:x∈kas) (hy:y∈kas):decide (cnt kas x.1<cnt kas y.1)=ltL x.1 y.1:=by
 unfold cnt
 cases h:ltL x.1 y.1 with
 | true =>
  have:=aF1 (l:=kas) (p:=fun q=>ltL q.1 x.1) (q:=fun q=>ltL q.1 y.1) (fun z _ hz=>ltL_tr _ _ _ hz h) ⟨x,hx,h,ltL_irr _⟩
  exact decide_eq_true (by omega)
 | false =>
  have:kas.countP (fun q=>ltL q.1 y.1)<=kas.countP (fun q=>ltL q.1 x.1):=by
   by_cases e:x.1=y.1
   ·rw [e];exact Nat.le_refl _
   ·rcases ltL_tot _ _ e with z | z
    ·rw [z] at h;cases h
    ·exact aB2 fun u _ hu=>ltL_tr _ _ _ hu z
  exact decide_eq_false (by omega)
variable {prog:Program} {w:World} {A:Around} {E:Y9} {s:Shared}
theorem vQ:∀ {x y:Y0} {vs:Y1},ItemsAre (intKind prog w) x vs->ItemsAre (intKind prog w) y vs->x=y
 | _,_,_,.nil,.nil=>rfl
 | _,_,_,.cons h1 t1,.cons h2 t2=>by
  obtain ⟨t,rfl⟩:=Value.isInt_shape h1
  have h2:Value.isInt _ (Value.int _ t)=true:=h2
  obtain ⟨u,e⟩:=Value.isInt_shape h2
  injection e with e1 e2
  rw [vQ t1 t2,e1]
theorem aK4 {h:Heap} {x y:Y0} {a:Addr} (h1:IsTupleKey (intKind prog w) h x a) (h2:IsTupleKey (intKind prog w) h y a):x=y:=by
 obtain ⟨o,it,n,e1,_,e2,e3⟩:=h1
 obtain ⟨o',it',n',f1,_,f2,f3⟩:=h2
 rw [e1] at f1
 cases f1
 rw [e2] at f2
 cases f2
 exact vQ e3 f3
theorem rG {h:Heap} (hk:∀p∈kas,IsTupleKey (intKind prog w) h p.1 p.2) {p:Y0×Addr} (hp:p∈kas):aT8 kas (.ref p.2)=p.1:=by
 unfold aT8
 dsimp only
 cases e:kas.find? fun q=>q.2 == p.2 with
 | none =>
  have:=List.find?_eq_none.mp e p hp
  simp at this
 | some q =>
  have h1:=List.mem_of_find?_eq_some e
  have h2:=List.find?_some e
  have h2:q.2=p.2:=by simpa using h2
  show q.1=p.1
  have t:=hk q h1
  rw [h2] at t
  exact aK4 t (hk p hp)
theorem aAu {a:Addr} {n:Nat} {P:PySem.Fin->Shared->Prop} (ho:s.heap.get? a=some (seqObj "list" (refs kas).toArray n)) (hk:∀p∈kas,IsTupleKey (intKind prog w) s.heap p.1 p.2) (hne:∀p∈kas,p.1 ≠ []) (hbig:kas.length<=1000000)
  (h:∀kas':Y7,kas'.Perm kas->kas'.Pairwise (fun x y=>ltL y.1 x.1=false)->P (.done (.ret .none)) { s with heap:=sortedHeap s.heap a (refs kas) (refs kas').toArray }) :
  wpAny (model prog w) A (Builtin.«list.sort» ⟨[.ref a],[]⟩) P E s:=by
 rw [list_sort_plain]
 have ha:a<s.heap.objs.size:=Heap.lt_size ho
 have hl:(refs kas).length=kas.length:=by simp [refs]
 refine wpAny_bind (listItems_at ho rfl ?_)
 refine wpAny_bind (listUpdate_at ho rfl ?_ (by rw [List.size_toArray,sizeLine_eq,hl];omega) (Nat.zero_le _))
 obtain ⟨e1,ho1⟩:∃e1,(s.heap.update a (Obj.mapSeq fun _=>#[])).get? a=some (seqObj "list" #[] e1):=⟨_,get?_update_seq ho (fun _=>#[])⟩
 refine wpAny_bind (seqEpoch_at ho1 rfl ?_)
 refine wpAny_bind (wpAny_newTuple ?_ (by show (refs kas).length<=_;rw [sizeLine_eq,hl];omega))
 refine wpAny_bind (wpAny_newList ?_ (Nat.zero_le _))
 refine wpAny_holding ?_
 have ho6:(((s.heap.update a (Obj.mapSeq fun _=>#[])).push (seqObj "tuple" (refs kas).toArray 0)).push (seqObj "list" #[] 0)).get? a=some (seqObj "list" #[] e1) :=
  Heap.get?_push_of_some _ (Heap.get?_push_of_some _ ho1)
 have hk6:∀p∈kas,IsTupleKey (intKind prog w) (((s.heap.update a (Obj.mapSeq fun _=>#[])).push (seqObj "tuple" (refs kas).toArray 0)).push (seqObj "list" #[] 0)) p.1 p.2:=fun p hp=>by
  obtain ⟨o,items,m,h1,h2,h3,h4⟩:=hk p hp
  have hpa:p.2 ≠ a:=fun z=>by
   rw [z] at h1
   rw [ho] at h1
   cases h1
   exact absurd (show Value.type "list" = Value.type "tuple" from h2) (by decide)
  refine ⟨o,items,m,Heap.get?_push_of_some _ (Heap.get?_push_of_some _ ?_),h2,h3,h4⟩
  rw [Heap.get?_update_other _ _ (Ne.symm hpa)];exact h1
 show wpAny (model prog w) A _ P E { s with heap:=((s.heap.update a (Obj.mapSeq fun _=>#[])).push (seqObj "tuple" (refs kas).toArray 0)).push (seqObj "list" #[] 0) }
 dsimp only
 by_cases h2:(refs kas).toArray.size<2
 ·rw [if_pos h2,if_pos h2]
  refine wpAny_bind (wpAny_pure ?_)
  rw [StateT.run_pure]
  refine wpAny_bind (wpAny_pure ?_)
  dsimp only
  refine wpAny_bind (seqEpoch_at ho6 rfl ?_)
  have e0:((arrOf (SortSt.mk' general' ((refs kas).toArray.zip (refs kas).toArray) #[] 7 none)).map (·.2))=(refs kas).toArray:=by
   show ((refs kas).toArray.zip (refs kas).toArray).map (·.2)=_
   apply Array.toList_inj.mp
   simp
   exact List.map_snd_zip (Nat.le_refl _)
  refine wpAny_bind (listUpdate_at ho6 rfl ?_ (Nat.zero_le _) (hsz2:=by rw [e0,List.size_toArray,sizeLine_eq,hl];omega))
  rw [e0]
  simp only [bne_self_eq_false,Bool.false_eq_true,if_false]
  refine wpAny_pure (h kas (.refl _) ?_)
  rw [List.size_toArray,hl] at h2
  match kas,h2 with
  | [],_=>exact .nil
  | [x],_=>exact List.pairwise_singleton _ _
  | _::_::_,h2=>simp at h2;omega
 ·rw [if_neg h2,if_neg h2]
  rw [List.size_toArray,hl] at h2
  obtain ⟨fs,t1,t2,t3⟩:=sE hk6 hne
  refine wpAny_bind (kat_kind (T:=.type "int") t1 (by omega) (fun v hv=>?_) (by decide) ?_)
  ·obtain ⟨x,t,rfl⟩:=t3 v hv
   exact Looks.of_pure rfl
  ·have ez:((refs kas).toArray.zip (refs kas).toArray).toList=kas.map fun p=>((Value.ref p.2,Value.ref p.2):Keyed):=by
    rw [Array.toList_zip]
    show (refs kas).zip (refs kas)=_
    unfold refs
    rw [List.zip_map']
   have C:Cmp prog w A { s with heap:=((s.heap.update a (Obj.mapSeq fun _=>#[])).push (seqObj "tuple" (refs kas).toArray 0)).push (seqObj "list" #[] 0) } (tuples' (Value.type "int" != Value.type "tuple")) (rank kas) (kas.map fun p=>((Value.ref p.2,Value.ref p.2):Keyed)):=by
    intro x hx y hy Q hq
    obtain ⟨p,hp,rfl⟩:=List.mem_map.mp hx
    obtain ⟨q,hq',rfl⟩:=List.mem_map.mp hy
    refine aXe (hk6 p hp) (hk6 q hq') ?_
    have e1:rank kas (Value.ref p.2,Value.ref p.2)=cnt kas p.1:=by unfold rank;rw [rG hk hp]
    have e2:rank kas (Value.ref q.2,Value.ref q.2)=cnt kas q.1:=by unfold rank;rw [rG hk hq']
    rw [e1,e2,aCi hp hq'] at hq
    exact hq
   have run:=aG9 (E:=E) (st:=SortSt.mk' (tuples' (Value.type "int" != Value.type "tuple")) ((refs kas).toArray.zip (refs kas).toArray) #[] 7 none) (Q:=fun _ st'=>failedOf st'=none/\∃kas':Y7,kas'.Perm kas/\(arrOf st').toList=kas'.map (fun p=>((Value.ref p.2,Value.ref p.2):Keyed))/\kas'.Pairwise (fun x y=>ltL y.1 x.1=false)) C rfl rfl rfl (fun x hx=>by rw [<- ez];exact hx) fun st' f1 p1 s1=>by
    have p1:(arrOf st').toList.Perm ((refs kas).toArray.zip (refs kas).toArray).toList:=p1
    rw [ez] at p1
    obtain ⟨kas',p2,e2⟩:=aIi p1 kas rfl
    refine ⟨f1,kas',p2,e2,?_⟩
    rw [e2] at s1
    have s2:=List.pairwise_map.mp s1
    refine s2.imp_of_mem fun {x y} hx hy hxy=>?_
    have hx:=p2.mem_iff.mp hx
    have hy:=p2.mem_iff.mp hy
    have e1:rank kas (Value.ref x.2,Value.ref x.2)=cnt kas x.1:=by unfold rank;rw [rG hk hx]
    have e2:rank kas (Value.ref y.2,Value.ref y.2)=cnt kas y.1:=by unfold rank;rw [rG hk hy]
    rw [e1,e2] at hxy
    rw [<- aCi hy hx]
    exact decide_eq_false (by omega)
   refine wpAny_bind (wpAny_mono run ?_ fun _ _ e=>e)
   rintro ⟨⟨⟩,st'⟩ s' ⟨rfl,hf,kas',p2,e2,u2⟩
   dsimp only
   have hout:(arrOf st').map (·.2)=(refs kas').toArray:=by
    apply Array.toList_inj.mp
    rw [Array.toList_map,e2,List.map_map]
    rfl
   have hsz:(refs kas').length=kas.length:=by simp [refs,p2.length_eq]
   refine wpAny_bind (seqEpoch_at ho6 rfl ?_)
   refine wpAny_bind (listUpdate_at ho6 rfl ?_ (Nat.zero_le _) (hsz2:=by rw [hout,List.size_toArray,hsz,sizeLine_eq];omega))
   rw [hf,hout]
   simp only [bne_self_eq_false,Bool.false_eq_true,if_false]
   exact wpAny_pure (h kas' p2 u2)
end
end VT
end
section
namespace ST
open PySem PySem.W PyProof.Rows
section
variable {prog:Program} {w:World} {A:Around} {E:Y9} {s:Shared}
end
end ST
end
section
namespace VT
open PySem PySem.W PyProof.Rows ST
section
variable {prog:Program} {w:World} {A:Around} {E:Y9} {s:Shared}
theorem sorted_list {l:Addr} {kas:Y7} {Q:Y9} (hl:s.heap.IsList l (refs kas).toArray) (hk:∀p∈kas,IsTupleKey (intKind prog w) s.heap p.1 p.2) (hne:∀p∈kas,p.1 ≠ []) (hbig:kas.length<=1000000)
  (h:∀(kas':Y7) (D:Addr) (e:Nat) (h':Heap),kas'.Perm kas->kas'.Pairwise (fun x y=>ltL y.1 x.1=false)->h'.get? D=some (seqObj "list" (refs kas').toArray e)->s.heap.objs.size<=D->(∀b o,s.heap.get? b=some o->h'.get? b=some o) ->
   Q (.ref D) { s with heap:=h' }):wpAny (model prog w) A (call (.builtin "sorted") [.ref l]) Q E s:=by
 have hlen:(refs kas).length=kas.length:=by simp [refs]
 refine Calls.call_function_entry kind_sorted plain_sorted entry_sorted (args_sorted1 _) ?_
 unfold Builtin.«sorted»
 refine wpAny_bind (m:=checkCount "sorted" 1 1 _) (wpAny_pure ?_)
 refine wpAny_bind (collect_list hl ?_ (by rw [sizeLine_eq];omega))
 refine wpAny_bind (wpAny_newList ?_ (by rw [sizeLine_eq];omega))
 have hsz:((s.heap.push (seqObj "list" #[] 0)).update s.heap.objs.size (Obj.mapSeq (· ++ (refs kas).toArray))).objs.size=s.heap.objs.size+1:=by
  rw [Heap.size_update,size_push']
 generalize hh:(s.heap.push (seqObj "list" #[] 0)).update s.heap.objs.size (Obj.mapSeq (· ++ (refs kas).toArray))=h1 at *
 have hoL:(h1.push (seqObj "list" (refs kas).toArray 0)).get? h1.objs.size=some (seqObj "list" (refs kas).toArray 0):=Heap.get?_push_size _ rfl
 have keep1:∀b o,s.heap.get? b=some o->h1.get? b=some o:=fun b o q=>by
  have hlt:b<s.heap.objs.size:=Heap.lt_size q
  rw [<- hh,Heap.get?_update_ne _ _ _ _ (Nat.ne_of_lt hlt),Heap.get?_push_ne _ _ _ (Nat.ne_of_lt hlt)]
  exact q
 refine wpAny_bind (wpAny_holding (wpAny_call_entry slot_list_sort ⟨_,hoL,rfl⟩ entry_list_sort ?body (args_list_sort _)))
 case body =>
  refine aAu (s:={ s with heap:=h1.push (seqObj "list" (refs kas).toArray 0) }) hoL (fun p hp=>aQ5 (hk p hp) fun o e=>Heap.get?_push_of_some _ (keep1 _ _ e)) hne hbig fun kas2 pk2 up2=>?_
  refine ⟨_,rfl,wpAny_pure ⟨_,rfl,?_⟩⟩
  obtain ⟨e2,he2⟩:∃e2,(sortedHeap (h1.push (seqObj "list" (refs kas).toArray 0)) h1.objs.size (refs kas) (refs kas2).toArray).get? h1.objs.size=some (seqObj "list" (refs kas2).toArray e2):=by
   unfold sortedHeap
   obtain ⟨e1,ho1⟩:∃e1,((h1.push (seqObj "list" (refs kas).toArray 0)).update h1.objs.size (Obj.mapSeq fun _=>#[])).get? h1.objs.size=some (seqObj "list" #[] e1):=⟨_,get?_update_seq hoL (fun _=>#[])⟩
   exact ⟨_,get?_update_seq (Heap.get?_push_of_some _ (Heap.get?_push_of_some _ ho1)) fun _=>(refs kas2).toArray⟩
  refine h kas2 h1.objs.size e2 _ pk2 up2 he2 (by omega) fun b o e=>?_
  have e':h1.get? b=some o:=keep1 b o e
  have hne':h1.objs.size ≠ b:=Ne.symm (Nat.ne_of_lt (Heap.lt_size e'))
  unfold sortedHeap
  rw [Heap.get?_update_other _ _ hne']
  refine Heap.get?_push_of_some _ (Heap.get?_push_of_some _ ?_)
  rw [Heap.get?_update_other _ _ hne']
  exact Heap.get?_push_of_some _ e'
end
end VT
end
section
namespace VL
open PySem L2
def qL:List D->Option (LI)
 | []=>some []
 | d::ds=>match d with
  | .tup es=>(match eU es,qL ds with | some k,some ks=>some (k::ks) | _,_=>none)
  | _=>none
def TI (k:Y0):D:=.tup (k.map .int)
def aK9:D×Bool->D×Bool->R (D×Bool):=fun x y=>match x.1,y.1 with
 | .tup ds,.tup es=>(match eU ds,eU es with | some a,some b=>.ok (.bl (!ST.ltL b a),true) | _,_=>.bad)
 | _,_=>.bad
def aL6 (d:D):Option D:=match d with | .lst true ds=>if D.bS ds && decide (ds.length<1000000) then some (.lst true ds.reverse) else none | _=>none
def aKp (i:Nat):SemS:=fun ρ=>match (getD ρ i).bind aL6 with | some d=>.next (putD ρ i d) | none=>.bad
end VL
end
section
namespace VL
open PySem PySem.Spec PyProof.Rows L2
section
variable {X:Cx} {W:XW} {e:Expr} {pos:Pos}
def uP (rs:Y7):List V:=rs.map fun p=>V.ref p.2
theorem aAf {prog:Program} {w:World}:∀ {ns:Y0} {us:Y1},Vals (ns.map V.int) us->ItemsAre (intKind prog w) ns us
 | [],us,r=>by rw [List.map_nil] at r;cases r;exact .nil
 | n::ns,us,r=>by
  rw [List.map_cons] at r
  cases r with
  | cons h t =>
   obtain ⟨t',rfl⟩:=h
   exact .cons (by simp [intKind,Value.isInt]) (aAf t)
theorem vI:∀ {rs:Y7} {us:Y1},Vals (uP rs) us->us=ST.refs rs
 | [],us,r=>by cases r;rfl
 | p::rs,us,r=>by
  have r:Vals (V.ref p.2::uP rs) us:=r
  cases r with
  | cons h t=>rw [vI t];cases h;rfl
theorem vS:∀ {rs:Y7},Vals (uP rs) (ST.refs rs)
 | []=>.nil
 | p::rs=>.cons rfl vS
theorem vT {K:FG} {F H:Hp} (hs:Same F H):∀(ds:List D) {ks:LI} {xs:List V} {fp:Y2},qL ds=some ks->aJ K F H ds xs fp->∃rs:Y7,rs.map (·.1)=ks/\xs=uP rs/\∀p∈rs,Own K F H (TI p.1) (.ref p.2) []
 | [],ks,xs,fp,e,o=>by
  unfold qL at e;cases e
  unfold aJ at o
  exact ⟨[],rfl,o.1,fun p hp=>by cases hp⟩
 | d::ds,ks,xs,fp,e,o=>by
  unfold qL at e
  cases d<;>try cases e
  rename_i es
  dsimp only at e
  cases q1:eU es with
  | none=>rw [q1] at e;cases e
  | some k =>
   cases q2:qL ds with
   | none=>rw [q1,q2] at e;cases e
   | some ks' =>
    rw [q1,q2] at e
    have e:some (k::ks')=some ks:=e
    cases e
    unfold aJ at o
    obtain ⟨v,r,f1,f2,e1,o1,o2,e2⟩:=o
    obtain ⟨rs,h1,h2,h3⟩:=vT hs ds q2 o2
    unfold Own at o1
    obtain ⟨_,a,ys,ev,hq,ho⟩:=o1
    have ey:=fY es q1 ho
    refine ⟨(k,a)::rs,by rw [List.map_cons,h1],by rw [e1,h2,ev];rfl,fun p hp=>?_⟩
    rcases List.mem_cons.mp hp with rfl | hp
    ·unfold TI Own
     exact ⟨rfl,a,ys,rfl,hq,by rw [ey];exact sT k⟩
    ·exact h3 p hp
theorem zF:∀ns:Y0,eU (ns.map D.int)=some ns
 | []=>rfl
 | n::ns=>by
  show (eU (ns.map D.int)).map (n::·)=_
  rw [zF ns];rfl
theorem aDi {K:FG} {F H:Hp}:∀(rs:Y7),(∀p∈rs,Own K F H (TI p.1) (.ref p.2) [])->aJ K F H ((rs.map (·.1)).map TI) (uP rs) []
 | [],_=>aJ.nil
 | p::rs,h=>aJ.cons (h p List.mem_cons_self) (aDi rs fun q hq=>h q (List.mem_cons_of_mem _ hq))
end
end VL
end
section
namespace HT
open PySem PyProof.Rows
section
open PySem.SeqAt
open PySem.AutoSeq1 (wpAny_loadPart')
open PySem.MeetsSeq PySem.MeetsSeq2 PySem.MeetsSeq3
def lexLe (a b:Y0):Bool:=!ST.ltL b a
theorem aB3 (x y:Int) (xs ys:Y0):lexLe (x::xs) (y::ys)=if x=y then lexLe xs ys else decide (x<=y):=by
 unfold lexLe;rw [ST.ltL]
 by_cases h:x=y
 ·rw [if_pos h,if_pos h.symm]
 ·rw [if_neg h,if_neg (Ne.symm h)]
  by_cases h2:x<=y
  ·rw [decide_eq_true h2,decide_eq_false (show ¬ y<x by omega)];rfl
  ·rw [decide_eq_false h2,decide_eq_true (show y<x by omega)];rfl
theorem aFw (A:Around) (s:Shared) (a:Int) (t:Tok) (c:Int) (u:Tok) (prog:Program) (w:World) (E:Y9) (Q:Y9) (h:Q (.bool (decide (a<=c))) s) :
  wpAny (model prog w) A (richCompare .LtE (.int a t) (.int c u)) Q E s :=
 (PyProof.Rows.le_int h:wpAny (model prog w) A (compareOp .LtE (.int a t) (.int c u)) Q E s)
theorem vE (l b:Addr) (items items2:Array Value) (n n2:Nat) (dd dd2:Option Addr) (sl sl2:Array (Option Value)) (ns ms:Y0) (hi:IntsAre items.toList ns) (hj:IntsAre items2.toList ms) :
  Meets (Builtin.«tuple.__le__» ⟨[.ref l,.ref b],[]⟩)
   (fun _ R s=>s.heap.get? l=some { cls:=.type "tuple",dict:=dd,data:=.seq items n,slots:=sl }/\s.heap.get? b=some { cls:=.type "tuple",dict:=dd2,data:=.seq items2 n2,slots:=sl2 } /\
    R (.ok (.ret (.bool (lexLe ns ms)))) s) :=
 .of_wp fun prog w A R s h=>by
  obtain ⟨hp,g,d,tk,os⟩:=s;obtain ⟨hl,hb,h⟩:=h
  have f2:=AutoSeq1.sub_tuple_tuple
  have z1:items.size=ns.length:=by rw [<- hi.length];simp
  have z2:items2.size=ms.length:=by rw [<- hj.length];simp
  wp_walk using wpAny_loadPart' hl,wpAny_loadPart' hb,wpAny_forIn_list _ (fun rest b s'=>b.1=none/\s'=⟨hp,g,d,tk,os⟩/\∃(vs ws:Y1) (ns' ms':Y0),rest=vs.zip ws /\
   IntsAre vs ns'/\IntsAre ws ms'/\ns'.length+items2.size=ms'.length+items.size/\R (.ok (.ret (.bool (lexLe ns' ms')))) ⟨hp,g,d,tk,os⟩) _
  case turn =>
   rintro ⟨y,x⟩ rest b s' ⟨hb',rfl,vs,ws,ns',ms',hz,hvi,hwi,hlen,hR⟩
   cases hvi with
   | nil=>rw [List.zip_nil_left] at hz;cases hz
   | cons a t hvi' =>
    cases hwi with
    | nil=>rw [List.zip_nil_right] at hz;cases hz
    | cons c u hwi' =>
     rw [List.zip_cons_cons] at hz
     injection hz with hyx hrest
     injection hyx with hy hx
     subst hy hx
     rw [aB3] at hR
     simp only [List.length_cons] at hlen
     obtain ⟨e,he,hiff⟩:=aG5 A.in1 ⟨hp,g,d,tk,os⟩ a t c u
     refine wpAny_bind (he prog w _ _ ?_)
     cases e with
     | true =>
      rw [if_pos (hiff.mp rfl)] at hR
      wp_walk
      exact ⟨rfl,rfl,_,_,_,_,hrest,hvi',hwi',by omega,hR⟩
     | false =>
      rw [if_neg (fun q=>absurd (hiff.mpr q) Bool.false_ne_true)] at hR
      have hri:=aFw A.in1 ⟨hp,g,d,tk,os⟩ a t c u prog w
      wp_walk using hri
      exact ⟨_,rfl,by simpa using hR⟩
  case fin =>
   rintro ⟨b1,b2⟩ s' ⟨hb',rfl,vs,ws,ns',ms',hz,hvi,hwi,hlen,hR⟩
   simp only at hb'
   subst hb'
   have hv:lexLe ns' ms'=decide (items.size<=items2.size):=by
    cases hvi with
    | nil =>
     cases hwi with
     | nil =>
      simp only [List.length_nil] at hlen
      exact (decide_eq_true (by omega)).symm
     | cons c u hw =>
      simp only [List.length_nil,List.length_cons] at hlen
      exact (decide_eq_true (by omega)).symm
    | cons a t hv =>
     cases hwi with
     | nil =>
      simp only [List.length_nil,List.length_cons] at hlen
      exact (decide_eq_false (by omega)).symm
     | cons c u hw =>
      rw [List.zip_cons_cons] at hz
      cases hz
   rw [hv] at hR
   wp_walk
   exact ⟨_,rfl,by simpa [Builtin.Tuple.tupleCompareSizes] using hR⟩
  case h =>
   exact ⟨rfl,rfl,items.toList,items2.toList,ns,ms,rfl,hi,hj,by omega,h⟩
end
section
variable {prog:Program} {w:World} {A:Around} {E:Y9} {s:Shared}
theorem le_tupInts {l b:Addr} {items items2:Array Value} {ns ms:Y0} {Q:Y9} (hl:IsTup s.heap l items) (hb:IsTup s.heap b items2) (hi:IntsAre items.toList ns) (hj:IntsAre items2.toList ms)
  (hu:A.units<cLine) (h:Q (.bool (lexLe ns ms)) s):wpAny (model prog w) A (compareOp .LtE (.ref l) (.ref b)) Q E s:=by
 obtain ⟨⟨cls,dd,data,sl⟩,ho,hc,n,hd⟩:=id hl
 obtain ⟨⟨cls2,dd2,data2,sl2⟩,ho2,hc2,n2,hd2⟩:=id hb
 simp only at hc hd hc2 hd2
 subst hc hd hc2 hd2
 exact richCompare_meets_room (op:=.LtE) ⟨_,ho,rfl⟩ ⟨_,ho2,rfl⟩ PySem.F.slot_tuple_le PySem.F.entry_tuple_le (PySem.F.args_tuple_le_2 _ _) (vE l b items items2 n n2 dd dd2 sl sl2 ns ms hi hj)
  ⟨ho,ho2,show Value.bool (lexLe ns ms) ≠ Value.notImplemented/\Q (.bool (lexLe ns ms)) s from ⟨(fun x=>nomatch x),h⟩⟩ hu
end
end HT
namespace VL
open PySem PySem.Spec PyProof.Rows L2
section
variable {X:Cx} {W:XW} {a b e:Expr} {pos:Pos}
def aWu (K:FG):R2:=fun x y H Q=>∃a b ns ms,x=.ref a/\y=.ref b/\SqT K H a (ns.map V.int)/\SqT K H b (ms.map V.int)/\Q (.bl (HT.lexLe ns ms)) H
theorem aT2 (hu:X.A.units<cLine):OpR X (compareOp .LtE) (aWu X.K):=by
 intro pins s σ H x y v u Q I rx ry h
 obtain ⟨a,b,ns,ms,rfl,rfl,ha,hb,q⟩:=h
 cases rx
 cases ry
 obtain ⟨its,r1,p1,_⟩:=I.tuple ha
 obtain ⟨its2,r2,p2,_⟩:=I.tuple hb
 have i1:IntsAre its.toArray.toList ns:=intsAre_of r1
 have i2:IntsAre its2.toArray.toList ms:=intsAre_of r2
 exact HT.le_tupInts p1 p2 i1 i2 hu ⟨.bl (HT.lexLe ns ms),H,I,rfl,q⟩
theorem aKj {K:FG}:Op2 K aK9 (aWu K):=by
 intro F0 H0 F H x y v u fx fy Q gr o1 n1 k1 o2 n2 k2 h
 obtain ⟨x,bx⟩:=x
 obtain ⟨y,by'⟩:=y
 cases x<;>try exact h.elim
 cases y<;>try exact h.elim
 rename_i ds es
 have h:(match eU ds,eU es with | some a,some b=>R.ok (D.bl (!ST.ltL b a),true) | _,_=>.bad).holds (EPost K F0 H0 Q):=h
 cases q1:eU ds with
 | none=>rw [q1] at h;exact h.elim
 | some a =>
  cases q2:eU es with
  | none=>rw [q1,q2] at h;exact h.elim
  | some b =>
   rw [q1,q2] at h
   obtain ⟨p1,xs,e1,s1,r1,_⟩:=Own.tup gr.inn o1
   obtain ⟨p2,ys,e2,s2,r2,_⟩:=Own.tup gr.inn o2
   rw [fY ds q1 r1] at s1
   rw [fY es q2 r2] at s2
   exact ⟨p1,p2,a,b,e1,e2,s1,s2,EPost.fD gr h rfl⟩
theorem aT7 {k:Nat} {f g:aR} (hr:Room k X.A) (ha:SE X a f) (hb:SE X b g):ST X (.Compare a [.LtE] [b] pos) (aN (v2 aK9 f g)):=kL (aT2 (by have:=hr.un;omega)) aKj ha hb (iD _)
theorem aRs:PA X [] (nN []):=fun _ _ _ _ H Q I h=>Calls.spliced_nil ⟨[],H,I,.nil,h⟩
theorem zH (i:Nat) {x:Str} {p:Pos} {es:List Expr} {is:T0} (hr:PA X es (nN is)) (hN:X.N[i]?=some x:=by rfl) (hv:Vis X.env.scope x:=by first | exact Or.inl rfl | exact Or.inr (Or.inl rfl) | exact Or.inr (Or.inr rfl)) (hd:(x == ("__debug__" : Str))=false:=by decide)
  (hcd:(x == ("__classdict__" : Str))=false:=by decide) (hs:starEach (.Name x p::es) X.env=(false,eval (.Name x p) X.env)::starEach es X.env:=by rfl):PA X (.Name x p::es) (nN (i::is)):=by
 have:=iN (iX (pos:=p) hN hv hd hcd) hr hs
 intro pos pins s σ H Q I h
 exact this pos pins s σ H Q I h
theorem aJv {k n:Nat} {x:Str} {fn:Fn} {is:T0} {p:Pos} {es:List Expr} (F:Kn X.prog X.w X.K X.mg X.base k x n fn) (hr:Room k X.A) (ha:PA X (e::es) (nN is)) (hn:is.length=n) (hg:Gl X x:=by rfl) (hdb:(x == ("__debug__" : Str))=false:=by decide)
  (he:starEach (e::es) X.env=(false,eval e X.env)::starEach es X.env:=by rfl) (hpl:(backTo pos (starEach es X.env)).any (·.1)=false:=by rfl):SX X W (.Call (.Name x p) (e::es) [] pos) (nP fn is):=by
 obtain ⟨f,fd,ps,F,hm,hk,hb⟩:=F.ex
 exact (aCe F hr hg hm hk hb .nil (fun _ _ _ _ _ _ _ h=>by obtain ⟨_,_,_,_,_,_,_,_,_,_,_,_,_,z⟩:=h;exact z.elim) ha hdb he hpl).imp fun _ _ _ h=>aFy hn h
theorem aAv (i:Nat) {x:Str} {f g:aR} {p sp ap cp pos':Pos} (hi:SE X b g) (he:SE X e f) (hN:X.N[i]?=some x:=by rfl) (hv:Vis X.env.scope x:=by first | exact Or.inl rfl | exact Or.inr (Or.inl rfl) | exact Or.inr (Or.inr rfl)) (hd:(x == ("__debug__" : Str))=false:=by decide)
  (hcd:(x == ("__classdict__" : Str))=false:=by decide) (hix:wN b:=by intro _ _;rfl) (hs:swapsWith (.Call (.Attribute (.Subscript (.Name x p) b sp) "append" ap) [e] [] cp) none pos'.line X.env=pure false:=by rfl)
  (hbase:attributeBase (.Subscript (.Name x p) b sp) "append" X.env (eval (.Subscript (.Name x p) b sp) X.env)=eval (.Subscript (.Name x p) b sp) X.env:=by rfl)
  (hfew:((backTo cp (starEach [e] X.env)).all (fun x=>!x.1) && (backToKw cp (keywordEach [] X.env)).all (fun x=>x.1.isSome)
   && decide (([e]:List Expr).length+([]:List Keyword).length+(if ([]:List Keyword).isEmpty then 0 else 1)<30))=true:=by rfl)
  (hline:(ap.endLine == cp.line)=true:=by rfl) (hst:starEach [e] X.env=(false,eval e X.env)::starEach [] X.env:=by rfl) (hplain:(backTo cp (starEach [] X.env)).any (·.1)=false:=by rfl) :
  SS X W (.Expr (.Call (.Attribute (.Subscript (.Name x p) b sp) "append" ap) [e] [] cp) pos') (lY i g f) :=
 (qY (aP3 PySem.F.plainAttrs_list PySem.F.slot_list_append PySem.F.type_list_append pJ (aIk wQ (iX hN hv hd hcd) hi hix) (iN he pV hst) hbase hfew hline hst hplain) hs).imp fun _ _ _ h=>zT h
theorem aIv {K:FG} {F H:Hp} {ds:List D} {xs:List V} (h:aJ K F H ds xs []):aJ K F H ds.reverse xs.reverse []:=by
 have hl:=aJ.length ds h
 refine aJ.of_get _ (by simpa using hl) fun i d v e1 e2=>?_
 have hi:i<ds.length:=by simpa using (List.getElem?_eq_some_iff.mp e1).1
 rw [List.getElem?_reverse hi] at e1
 rw [List.getElem?_reverse (by omega)] at e2
 rw [<- hl] at e2
 exact aJ.aYl h e1 e2
theorem aTx {K:FG} {σ:L2.St} {H:Hp} {D':Ends} {i:Nat} (h:sv K W (aKp i) D' σ H):zU (aV1 K "list" zS (tU i)) D' σ H:=by
 obtain ⟨ρ,F,fps,S,h⟩:=h
 unfold aKp at h
 cases eg:getD ρ i with
 | none=>rw [eg] at h;exact h.elim
 | some d0 =>
  rw [eg] at h
  have h:dE K W F H fps.flatten ρ σ D' (match aL6 d0 with | some d=>.next (putD ρ i d) | none=>.bad):=h
  cases ek:aL6 d0 with
  | none=>rw [ek] at h;exact h.elim
  | some d1 =>
   rw [ek] at h
   unfold aL6 at ek
   split at ek<;>try cases ek
   rename_i ds
   by_cases hc:(D.bS ds && decide (ds.length<1000000))=true
   ·rw [if_pos hc] at ek;cases ek
    rw [Bool.and_eq_true,decide_eq_true_iff] at hc
    obtain ⟨v,fp,h1,h2,h3⟩:=S.get eg
    obtain ⟨a,xs,fq,ev,r,w1,w2,w3⟩:=Own.opened h3
    subst ev;subst w3
    have nfp:=S.sub h2
    have:=aJ.dU ds hc.1 r
    subst this
    refine ⟨.ref a,h1,.inl ⟨rfl,xs,SqL.of w2⟩,a,xs,rfl,rfl,w2,?_⟩
    refine fC.mut (fu:=[]) h S (Grow.refl S.same) (fun b hb=>by cases hb) eg h1 h2 List.mem_cons_self (Own.closed (aIv (r.other (by simp))) w1 bJ) (by simp) fun b hb=>.inl hb
   ·rw [if_neg hc] at ek;cases ek
theorem aT3 (i:Nat) {x:Str} {p ap cp pos':Pos} (hN:X.N[i]?=some x:=by rfl) (hv:Vis X.env.scope x:=by first | exact Or.inl rfl | exact Or.inr (Or.inl rfl) | exact Or.inr (Or.inr rfl)) (hd:(x == ("__debug__" : Str))=false:=by decide)
  (hcd:(x == ("__classdict__" : Str))=false:=by decide) (hs:swapsWith (.Call (.Attribute (.Name x p) "reverse" ap) [] [] cp) none pos'.line X.env=pure false:=by rfl)
  (hbase:attributeBase (.Name x p) "reverse" X.env (eval (.Name x p) X.env)=eval (.Name x p) X.env:=by rfl) (hline:(ap.endLine == cp.line)=true:=by rfl) :
  SS X W (.Expr (.Call (.Attribute (.Name x p) "reverse" ap) [] [] cp) pos') (aKp i) :=
 (qY (aF5 PySem.F.plainAttrs_list PySem.F.slot_list_reverse PySem.F.type_list_reverse aBw (iX hN hv hd hcd) hbase hline) hs).imp fun _ _ _ h=>aTx h
end
end VL
end
section
namespace VL
open PySem PySem.Spec PyProof.Rows L2
def aFh (k:Y0):LI->LI
 | []=>[k]
 | x::xs=>if ST.ltL x k=true then x::aFh k xs else k::x::xs
def zV (ks:LI):LI:=ks.foldr aFh []
abbrev UpA (xs:LI):Prop:=xs.Pairwise fun x y=>ST.ltL y x=false
theorem pH {k:Y0}:∀ {xs:LI},(aFh k xs).Perm (k::xs)
 | []=>.refl _
 | x::xs=>by
  unfold aFh
  split
  ·exact ((pH (xs:=xs)).cons x).trans (List.Perm.swap _ _ _)
  ·exact .refl _
theorem sF:∀ks:LI,(zV ks).Perm ks
 | []=>.refl _
 | k::ks=>pH.trans ((sF ks).cons k)
theorem aEz {x y:Y0} (h:ST.ltL x y=true):ST.ltL y x=false:=by
 cases e:ST.ltL y x with
 | false=>rfl
 | true=>have:=ST.ltL_tr _ _ _ h e;rw [ST.ltL_irr] at this;cases this
theorem aUj {x y z:Y0} (h1:ST.ltL y x=false) (h2:ST.ltL z y=false):ST.ltL z x=false:=by
 cases e:ST.ltL z x with
 | false=>rfl
 | true =>
  by_cases q:x=y
  ·subst q;rw [e] at h2;cases h2
  ·rcases ST.ltL_tot _ _ q with r | r
   ·have:=ST.ltL_tr _ _ _ e r;rw [h2] at this;cases this
   ·rw [h1] at r;cases r
theorem aCb {k:Y0}:∀ {xs:LI},UpA xs->UpA (aFh k xs)
 | [],_=>List.pairwise_singleton _ _
 | x::xs,h=>by
  obtain ⟨h1,h2⟩:=List.pairwise_cons.mp h
  unfold aFh
  split
  ·rename_i q
   refine List.pairwise_cons.mpr ⟨fun y hy=>?_,aCb h2⟩
   rcases List.mem_cons.mp (pH.mem_iff.mp hy) with rfl | hy
   ·exact aEz q
   ·exact h1 y hy
  ·rename_i q
   have q:ST.ltL x k=false:=by simpa using q
   refine List.pairwise_cons.mpr ⟨fun y hy=>?_,h⟩
   rcases List.mem_cons.mp hy with rfl | hy
   ·exact q
   ·exact aUj q (h1 y hy)
theorem zQ:∀ks:LI,UpA (zV ks)
 | []=>List.Pairwise.nil
 | k::ks=>aCb (zQ ks)
theorem aCv:∀ {xs ys:LI},UpA xs->UpA ys->xs.Perm ys->xs=ys
 | [],ys,_,_,p=>(List.nil_perm.mp p).symm
 | x::xs,[],_,_,p=>by have:=p.length_eq;simp at this
 | x::xs,y::ys,h1,h2,p=>by
  obtain ⟨p1,p2⟩:=List.pairwise_cons.mp h1
  obtain ⟨q1,q2⟩:=List.pairwise_cons.mp h2
  have e:x=y:=by
   rcases List.mem_cons.mp (p.mem_iff.mp List.mem_cons_self) with e | e
   ·exact e
   ·rcases List.mem_cons.mp (p.mem_iff.mpr (List.mem_cons_self (a:=y) (l:=ys))) with e' | e'
    ·exact e'.symm
    ·refine Classical.byContradiction fun q=>?_
     rcases ST.ltL_tot _ _ q with r | r
     ·rw [q1 x e] at r;cases r
     ·rw [p1 y e'] at r;cases r
  subst e
  rw [aCv p2 q2 (List.Perm.cons_inv p)]
def kSL:List (D×Bool)->R (D×Bool)
 | [(.lst _ ds,_)]=>(match qL ds with
  | some ks=>if decide (ks.length<=1000) && ks.all (fun k=>!k.isEmpty) then .ok (.lst true ((zV ks).map TI),true) else .bad
  | none=>.bad)
 | _=>.bad
section
variable {X:Cx} {W:XW} {e:Expr} {pos:Pos}
def rSL (K:FG):List V->Hp->VK->Prop:=fun vs H Q=>∃l rs,vs=[.ref l]/\SqL K H l (uP rs)/\(∀p∈rs,SqT K H p.2 (p.1.map V.int))/\rs.length<=1000/\(∀p∈rs,p.1 ≠ []) /\
 ∀p rs',H p=none->rs'.map (·.1)=zV (rs.map (·.1))->(∀q∈rs',q∈rs)->Q (.ref p) (upd H p (.lst (uP rs')))
theorem aF4 {t:TA} {p:Pos} (hm1:X.mg "sorted" = none) (ha:PA X [e] t) (hg1:Gl X "sorted" :=by rfl)
  (hs1:starEach [e] X.env=(false,eval e X.env)::starEach [] X.env:=by rfl) (hpl1:(backTo pos (starEach [] X.env)).any (·.1)=false:=by rfl)
  (hv1:bootBuiltins "sorted" = some (.builtin "sorted"):=by decide +kernel) :
  PE X (.Call (.Name "sorted" p) [e] [] pos) (tCB (rSL X.K) t):=by
 intro pins s σ H Q I h
 refine wpAny_Call_Name_kw (pO I hg1 hm1 hv1 ?_ (by decide) (by decide))
 refine PyProof.Rows.callWith_builtin1 (thn (ha pos pins s σ H _ I h) fun us s1 ⟨vs,H1,I1,r1,q1⟩=>?_) hs1 hpl1
 obtain ⟨l,rs,rfl,hl,ht,hlen,hne,q⟩:=q1
 obtain ⟨u,rfl,ru⟩:=vals1 r1
 cases ru
 obtain ⟨its,rv,pl,hz⟩:=I1.list hl
 have eits:=vI rv
 subst eits
 have hkey:∀p∈rs,IsTupleKey (intKind X.prog X.w) s1.heap p.1 p.2:=fun p hp=>by
  obtain ⟨its,r,⟨o,ho,hc,n,hd⟩,_⟩:=I1.tuple (ht p hp)
  exact ⟨o,_,n,ho,hc,hd,aAf (by simpa using r)⟩
 refine VT.sorted_list pl.isList hkey hne (by omega) fun kas' D ep h2 hp hu hD2 hsz keep=>?_
 refine ⟨.ref D,upd H1 D (.lst (uP kas')),I1.laid (t':=s1.toks) (o:=.lst (uP kas')) keep hsz ?_,rfl,q D kas' (I1.hok.fresh hsz) ?_ fun p hp'=>hp.mem_iff.mp hp'⟩
 ·refine ⟨?_,ST.refs kas',ep,vS,hD2⟩
  have e1:=hp.length_eq
  refine iG ?_
  simp [uP];omega
 ·exact aCv (List.pairwise_map.mpr hu) (zQ _) ((hp.map (·.1)).trans (sF _).symm)
theorem aS7 {K:FG}:OpA K kSL (rSL K):=by
 intro F0 H0 F H xs vs fa Q gr a n k h
 match xs,h,a with
 | [(.lst o ds,b)],h,a =>
  unfold Args at a
  obtain ⟨v,r,fp,f2,e,o1,n1,t,w⟩:=a
  unfold Args at t
  obtain ⟨p,ys,fq,e1,q1,r1,_⟩:=Own.lst gr.inn o1
  have h:(match qL ds with | some ks=>(if (decide (ks.length<=1000) && ks.all (fun k=>!k.isEmpty))=true then R.ok (D.lst true ((zV ks).map TI),true) else .bad) | none=>.bad).holds (EPost K F0 H0 Q):=h
  cases qt:qL ds with
  | none=>rw [qt] at h;exact h.elim
  | some ks =>
   rw [qt] at h
   dsimp only at h
   by_cases hc:(decide (ks.length<=1000) && ks.all (fun k=>!k.isEmpty))=true
   ·rw [if_pos hc] at h
    rw [Bool.and_eq_true,decide_eq_true_iff] at hc
    obtain ⟨rs,h1,h2,h3⟩:=vT gr.inn ds qt r1
    subst h1
    rw [List.length_map] at hc
    refine ⟨p,rs,by rw [e,t.1,e1],h2 ▸ q1,fun p hp=>?_,hc.1,fun p hp z=>?_,fun q rs' hq e1 e2=>?_⟩
    ·have:=h3 p hp
     unfold TI Own at this
     obtain ⟨_,a,xs,ea,sq,ow⟩:=this
     cases ea
     have ow':=fY (p.1.map D.int) (ns:=p.1) (zF p.1) ow
     rw [<- ow']
     exact Same.aA1 gr.inn sq
    ·have:=List.all_eq_true.mp hc.2 p.1 (List.mem_map_of_mem hp)
     rw [z] at this;cases this
    ·rw [<- e1] at h
     exact EPost.aVa gr h hq (aDi rs' fun p hp=>h3 p (e2 p hp))
   ·rw [if_neg hc] at h;exact h.elim
 | [],h,a=>exact h.elim
 | [(.non,_)],h,a=>exact h.elim
 | [(.bl _,_)],h,a=>exact h.elim
 | [(.int _,_)],h,a=>exact h.elim
 | [(.str _,_)],h,a=>exact h.elim
 | [(.tup _,_)],h,a=>exact h.elim
 | [(.ext _ _,_)],h,a=>exact h.elim
 | [(.fn _,_)],h,a=>exact h.elim
 | (x,bx)::y::ys,h,a=>cases x<;>exact h.elim
theorem aI7 {f:aR} {p:Pos} (hm1:X.mg "sorted" = none) (ha:SE X e f) (hg1:Gl X "sorted" :=by rfl)
  (hs1:starEach [e] X.env=(false,eval e X.env)::starEach [] X.env:=by rfl) (hpl1:(backTo pos (starEach [] X.env)).any (·.1)=false:=by rfl)
  (hv1:bootBuiltins "sorted" = some (.builtin "sorted"):=by decide +kernel) :
  SE X (.Call (.Name "sorted" p) [e] [] pos) (vCB kSL (aA f aE)) :=
 L2.PE.imp (aF4 hm1 (bZ ha aH hs1) hg1 hs1 hpl1 hv1) fun _ _ _ h=>aPb aS7 h
end
section
variable {K:FG} {W:XW} {F H:Hp} {σ:L2.St} {ρ:Env}
end
section
variable {X:Cx} {W:XW} {a b e:Expr} {pos:Pos}
end
end VL
end
section
namespace VL
open PySem PySem.Spec PyProof.Rows L2 PySem.SeqAt
section
variable {X:Cx} {o e:Expr} {ap cp:Pos}
end
end VL
end
section
namespace VL
open PySem PySem.Spec PyProof.Rows L2 PySem.SeqAt
section
variable {X:Cx}
variable {o e:Expr} {ap cp:Pos}
end
end VL
end
section
namespace VL
open PySem PySem.Spec PyProof.Rows L2
def aRg (sc:Scope) (y:Str):Bool:=match sc.names.lookup y with
 | some .local=>true | some .cell=>true | some .free=>true | _=>false
def aYc (sc:Scope) (N:List Str) (np m:Nat):Bool:=(List.range m).all fun j=>match N[np+j]? with | some y=>!aRg sc y | none=>true
theorem tS {sc:Scope} {N:List Str} {np m:Nat} (h:aYc sc N np m=true):∀(i:Nat) (y:Str),np<=i->i<np+m->N[i]?=some y->¬ Vis sc y:=fun i y h1 h2 e v=>by
 unfold aYc at h
 rw [List.all_eq_true] at h
 have:=h (i - np) (List.mem_range.mpr (by omega))
 rw [show np+(i - np)=i by omega,e] at this
 have this:(!aRg sc y)=true:=this
 unfold aRg at this
 rcases v with v | v | v<;>(rw [v] at this;cases this)
section
variable {P:Program} {w:World} {K:FG} {mg:Y6} {h:Heap}
theorem aJ3 {x:Str} {st:Stmt} {N ps:List Str} {k n np:Nat} {gx:List Str} {body:SemS} {B:Heap->Prop} (F:FnAt K x st) (kb:K.In h) (nb:h.Ns mainGlobals mg) (S:FnScope N ps (aG st)) (hN:N.length=n) (hnp:ps.length=np) (hk:np+gx.length<=n) (hv:∀(i:Nat) (y:Str),np<=i->i<np+gx.length->N[i]?=some y->¬ Vis (aG st) y)
  (hb:∀(kV doc pm:Value) (an:Option Addr) (cdv ct:Value) (us:Y1),us.length=ps.length->bindArgs (PySem.W.fnOf x x (eK st) (cL st) (aG st) .none kV doc pm an cdv ct) ⟨us,[]⟩=pure (ps.zip us))
  (hbody:∀base:Heap,K.In base->base.Ns mainGlobals mg->B base->∀(f:Addr) (cdv:Value) (A:Around) (outer:List PySem.Env) (s:Shared) (H:Hp) (E:XK),Room k (A.deeper (envOfC x (aG st) s.heap.objs.size f cdv)) ->
   SSs (gE (CX1 P w) P w K mg base N x (aG st) f cdv A outer s H E) (wOf K E) (cL st) body) :
  ∃(f:Addr) (fd:FuncData),mg x=some (.ref f)/\(∀(s:Shared) (us:Y1),us.length=ps.length->BindsTo s fd ⟨us,[]⟩ (ps.zip us)) /\
   ∀base:Heap,K.In base->base.Ns mainGlobals mg->B base->FnOk P w K mg base (CX1 P w) (k+1) f fd ps (spG K np gx (fnOf n body)):=by
 obtain ⟨f,fd,hf,F⟩:=F.ex
 obtain ⟨oc,od,kV,doc,pm,an,cdv,ct,osl,rfl,lk,hcd⟩:=F.ex
 refine ⟨f,_,PySem.W.mg_of kb nb hf,fun s us hl=>.of_eq (hb kV doc pm an cdv ct us hl),fun base kb' nb' bb=>?_⟩
 refine aI4 lk hcd S (fun vs H Q E h=>h.1.trans hnp.symm) fun A outer s H vs Q E hr hsp=>?_
 refine ⟨fun D σ H'=>σ=L2.start N vs/\sv K (wOf K E) body D (L2.start N (vs++gx.map (rL K))) H',fun pins s' σ H' D I h=>?_,rfl,zK hN hk hsp.2⟩
 obtain ⟨rfl,h⟩:=h
 have lv:vs.length=np:=hsp.1
 exact hbody base kb' nb' bb f cdv A outer s H E hr pins s' _ H' D (aGp (X:=gE (CX1 P w) P w K mg base N x (aG st) f cdv A outer s H E) I (by show vs.length+_<=N.length;simp;omega) fun i y h1 h2 e=>hv i y (by omega) (by simp at h2;omega) e) h
end
def BT1 (K:FG) (mg:Y6) (base:Heap) (x:Str):Prop:=∃c P,PySem.W.tabIn K x=some (c,P)/\PySem.W.CodeHd base c P/\base.BuiltinsAt mg P
end VL
namespace VL
open PySem PySem.Spec PyProof.Rows L2
section
variable {X:Cx} {es:List Expr} {f:aR} {g:cH}
theorem saC {c:Const} {j pos} (ha:SE X (.Constant c j pos) f) (hr:SA X es g):SA X (.Constant c j pos::es) (aA f g):=bZ ha hr rfl
theorem saN {x:Str} {pos} (ha:SE X (.Name x pos) f) (hr:SA X es g):SA X (.Name x pos::es) (aA f g):=bZ ha hr rfl
theorem saT {a:List Expr} {k:Nat} {pos} (ha:SE X (.Tuple a k pos) f) (hr:SA X es g):SA X (.Tuple a k pos::es) (aA f g):=bZ ha hr rfl
theorem saL {a:List Expr} {pos} (ha:SE X (.List a pos) f) (hr:SA X es g):SA X (.List a pos::es) (aA f g):=bZ ha hr rfl
theorem saB {a o b pos} (ha:SE X (.BinOp a o b pos) f) (hr:SA X es g):SA X (.BinOp a o b pos::es) (aA f g):=bZ ha hr rfl
theorem saK {a b c pos} (ha:SE X (.Call a b c pos) f) (hr:SA X es g):SA X (.Call a b c pos::es) (aA f g):=bZ ha hr rfl
theorem saS {a b pos} (ha:SE X (.Subscript a b pos) f) (hr:SA X es g):SA X (.Subscript a b pos::es) (aA f g):=bZ ha hr rfl
end
end VL
end
section
namespace VL
open PySem PySem.Spec PyProof.Rows L2
section
variable {K:FG} {W:XW} {F H:Hp} {σ:L2.St} {ρ:Env}
def uL (g:gZ):gZ:=fun ρ=>match g ρ with
 | .ok (.tup (a::_),_,ρ')=>.ok (a,true,ρ')
 | .exc c=>.exc c | _=>.bad
theorem aRp {g:gZ} {Q:VK} (h:tx K W (uL g) σ H Q):tOp (fun v u H Q=>aMp K v u H Q\/aQ1 K v u H Q) (tx K W g) (tC (.int 0)) σ H Q:=by
 obtain ⟨ρ,F,fps,S,h⟩:=h
 refine ⟨ρ,F,fps,S,?_⟩
 unfold uL at h
 split at h
 ·rename_i a r fr ρ' eg
  rw [eg]
  have h:nA K F H fps.flatten ρ σ Q (a,true,ρ'):=h
  intro v F1 H1 fps1 fp ev S1 pe o n k
  obtain ⟨p,xs,e1,q1,r1,e2⟩:=Own.tup S1.same o
  have hl:=aJ.length _ r1
  unfold aJ at r1
  obtain ⟨va,rr,g1,g2,ex,o1,o2,eg2⟩:=r1
  have g1n:g1=[]:=(List.append_eq_nil_iff.mp eg2.symm).1
  subst g1n;subst ex;subst e1
  refine .inr ⟨p,va::rr,0,va,rfl,rfl,q1,?_,h va F1 H1 fps1 [] ev S1 pe o1 List.nodup_nil fun _ b hb=>by cases hb⟩
  exact iH (j:=0) rfl
 ·rename_i c eg
  rw [eg];exact h
 ·exact h.elim
def tX (f g:gZ):gZ:=fun ρ=>match f ρ with
 | .ok (a,_,ρ1)=>(match g ρ1 with
  | .ok (b,_,ρ2)=>if a.calm && b.calm then .ok (.lst true [a,b],true,ρ2) else .bad
  | _=>.bad)
 | _=>.bad
theorem aNz {f g:gZ} {Q:VK} (h:tx K W (tX f g) σ H Q):aQ2 (qH (tx K W f) (qH (tx K W g) aBl)) σ H Q:=by
 obtain ⟨ρ,F,fps,S,h⟩:=h
 refine ⟨ρ,F,fps,S,?_⟩
 unfold tX at h
 split at h
 case h_2=>exact h.elim
 rename_i a fr ρ1 ef
 split at h
 case h_2=>exact h.elim
 rename_i b fr2 ρ2 eg
 by_cases hc:(a.calm && b.calm)=true
 case neg=>rw [if_neg hc] at h;exact h.elim
 rw [if_pos hc] at h
 rw [Bool.and_eq_true] at hc
 have h:nA K F H fps.flatten ρ σ Q (.lst true [a,b],true,ρ2):=h
 rw [ef]
 intro v F1 H1 fps1 fp ev S1 pe o n k
 have fpn:=Own.dU a hc.1 o
 subst fpn
 refine ⟨ρ1,F1,fps1,S1,?_⟩
 rw [eg]
 intro v2 F2 H2 fps2 fp2 ev2 S2 pe2 o2 n2 k2
 have fpn2:=Own.dU b hc.2 o2
 subst fpn2
 have o1:Own K F2 H2 a v []:=Own.keep ev2.fr a (fun c hc=>by cases hc) o
 refine ⟨by rw [sizeLine_eq];simp,fun p hp=>?_⟩
 have gr:Grow F2 H2 F2 (upd H2 p (.lst [v,v2])):=Grow.one S2.same hp
 have ol:Own K F2 (upd H2 p (.lst [v,v2])) (.lst true [a,b]) (.ref p) [p]:=wZ S2.same hp (aJ.cons o1 (aJ.one o2))
 refine h (.ref p) F2 _ fps2 [p] ((ev.trans ev2).trans gr.evo) (S2.grow gr) (fun i d e=>?_) ol (by simp) fun _ c hcm=>?_
 ·obtain ⟨d',e'⟩:=pe i d e
  exact pe2 i d' e'
 ·have:c=p:=by simpa using hcm
  subst this
  exact ⟨fun hz=>(S2.zone _ hz).2 hp,.inr ((ev.trans ev2).dom _ hp)⟩
end
section
variable {X:Cx} {W:XW} {a b:Expr} {pos p:Pos}
theorem aH6 {j:Nat} {g:gZ} (ha:SX X W a g):SX X W (.Subscript a (.Constant (.int 0) j p) pos) (uL g) :=
 L2.PE.imp (aIk (wQ.or aFm) ha (aGg (i:=0)) (by intro _ _;rfl)) fun _ _ _ h=>aRp h
theorem aN2 {f g:gZ} (ha:SX X W a f) (hb:SX X W b g) (h1:starEach [a,b] X.env=(false,eval a X.env)::starEach [b] X.env:=by rfl) (h2:starEach [b] X.env=(false,eval b X.env)::starEach [] X.env:=by rfl):SX X W (.List [a,b] pos) (tX f g) :=
 L2.PE.imp (aJi (iN ha (iN hb pV h2) h1)) fun _ _ _ h=>aNz h
end
end VL
end
section
namespace ST
open PySem PySem.SetTable
end ST
end
section
namespace SU
open ST
open PySem PySem.SetTable
section
variable {prog:Program} {w:World} {A:Around} {E:Y9} {s:Shared}
end
end SU
end
section
namespace SU
open ST
open PySem PySem.SetTable
namespace F
end F
section
variable {prog:Program} {w:World} {A:Around} {E:Y9} {s:Shared}
end
end SU
end
section
namespace SU
open ST
open PySem PySem.SetTable
section
variable {prog:Program} {w:World} {A:Around} {E:Y9} {s:Shared}
end
end SU
end
section
namespace SU
open PySem PySem.SetTable ST
section
variable {prog:Program} {w:World} {A:Around} {E:Y9} {s:Shared}
end
end SU
end
section
namespace SU
open PySem PySem.SetTable ST
section
variable {prog:Program} {w:World} {A:Around} {E:Y9} {s:Shared}
end
end SU
end
section
namespace SU
open PySem PySem.W PyProof.Rows ST
section
variable {prog:Program} {w:World} {A:Around} {E:Y9} {s:Shared}
end
end SU
end
section
namespace VL
open PySem PySem.Spec PyProof.Rows L2
section
variable {X:Cx} {W:XW} {e:Expr} {pos:Pos}
end
end VL
end
section
namespace VL
open PySem PySem.Spec PyProof.Rows L2
section
variable {X:Cx} {W:XW} {a b e:Expr} {pos:Pos} {K:FG} {F H:Hp}
end
section
variable {K:FG} {W:XW} {F H F' H' F1 H1:Hp} {Z Z' Z1:Y2} {σ σ1:L2.St} {ρ ρ1:VL.Env} {D':Ends}
end
section
variable {X:Cx} {W:XW} {a b e:Expr} {pos:Pos} {K:FG} {F H:Hp}
end
end VL
end
section
namespace VL
open PySem PySem.Spec PyProof.Rows L2
section
variable {X:Cx} {W:XW} {a b e:Expr} {pos:Pos} {K:FG} {F H:Hp}
end
end VL
end
section
namespace VL
open PySem L2
def oC (r:R (D×Bool)) (k:D->Bool->Out):Out:=match r with | .ok (d,b)=>k d b | _=>.bad
def onT (r:R Bool) (a b:Out):Out:=match r with | .ok true=>a | .ok false=>b | _=>.bad
def onI (r:R (List D)) (k:List D->Out):Out:=match r with | .ok ds=>k ds | _=>.bad
def lM (fn:Fn) (ds:List D) (k:Bool):R (D×Bool):=(fn ds).bind fun y=>if k || isScal y.1 then .ok (y.1,true) else .bad
def Ret (fn:Fn) (ds:List D) (d:D):Prop:=∃os,fn ds=.ok (d,os)
theorem aAg {fn:Fn} {ds:List D} {k:Bool} {d:D} (h:Ret fn ds d):lM fn ds k=if k || isScal d then .ok (d,true) else .bad:=by
 obtain ⟨os,h⟩:=h
 unfold lM;rw [h];rfl
theorem iI {fn:Fn} {ds:List D} {d:D} (h:Ret fn ds d):lM fn ds true=.ok (d,true):=by rw [aAg h];rfl
theorem aL7 {fn:Fn} {ds:List D} {k:Bool} {d:D} (h:Ret fn ds d) (hs:isScal d=true):lM fn ds k=.ok (d,true):=by rw [aAg h,hs,Bool.or_true];rfl
theorem yE {n:Nat} {body:SemS} {ds:List D} {d:D} (h:∃ρ,body (entry n ds)=.ret d ρ):Ret (fnOf n body) ds d:=by
 obtain ⟨ρ,h⟩:=h
 exact ⟨_,by unfold fnOf;rw [h]⟩
theorem aQ3 {n:Nat} {body:SemS} {ds:List D} (h:∃ρ,body (entry n ds)=.next ρ):Ret (fnOf n body) ds .non:=by
 obtain ⟨ρ,h⟩:=h
 exact ⟨_,by unfold fnOf;rw [h]⟩
@[simp] theorem aC6 {d:D} {b:Bool} {k:D->Bool->Out}:oC (.ok (d,b)) k=k d b:=rfl
@[simp] theorem aC2 {a b:Out}:onT (.ok true) a b=a:=rfl
@[simp] theorem sO {a b:Out}:onT (.ok false) a b=b:=rfl
@[simp] theorem bA3 {ds:List D} {k:List D->Out}:onI (.ok ds) k=k ds:=rfl
@[simp] theorem aCc {α β:Type} {a:α} {f:α->R β}:(R.ok a).bind f=f a:=rfl
@[simp] theorem aW5 {α β:Type} {f:α->R β}:(R.bad:R α).bind f=.bad:=rfl
@[simp] theorem bQ {ρ:Env} {g:SemS}:(Out.next ρ).andThen g=g ρ:=rfl
@[simp] theorem aP4 {ρ:Env} {d:D} {g:SemS}:(Out.ret d ρ).andThen g=.ret d ρ:=rfl
@[simp] theorem cB {f g:SemS} {ρ:Env}:aI f g ρ=(f ρ).andThen g:=rfl
@[simp] theorem iW {ρ:Env}:aZ ρ=.next ρ:=rfl
@[simp] theorem aYp {ρ:Env}:aZo ρ=.bad:=rfl
@[simp] theorem aX6 {d:D} {ρ:Env}:vC d ρ=.ok (d,true):=rfl
@[simp] theorem aV3 {k:D×Bool->D×Bool->R (D×Bool)} {f g:aR} {ρ:Env}:v2 k f g ρ=(f ρ).bind fun x=>(g ρ).bind fun y=>k x y:=rfl
@[simp] theorem bBs {k:D×Bool->R (D×Bool)} {f:aR} {ρ:Env}:v1 k f ρ=(f ρ).bind k:=rfl
@[simp] theorem aY1 {ρ:Env}:aE ρ=.ok []:=rfl
@[simp] theorem aVm {f:aR} {g:cH} {ρ:Env}:aA f g ρ=(f ρ).bind fun x=>(g ρ).bind fun xs=>.ok (x::xs):=rfl
@[simp] theorem bAq {k:List (D×Bool)->R (D×Bool)} {g:cH} {ρ:Env}:vCB k g ρ=(g ρ).bind k:=rfl
@[simp] theorem bAp {c:dC} {f g:aR} {ρ:Env}:vIf c f g ρ=(c ρ).bind fun b=>if b=true then f ρ else g ρ:=rfl
@[simp] theorem aY9 {f g:aR} {ρ:Env}:wY f g ρ=(f ρ).bind fun x=>match x.1 with | .bl true=>g ρ | .bl false=>.ok (.bl false,true) | _=>.bad:=rfl
@[simp] theorem aYm {b c:Bool}:aMe (.bl b,c)=.ok (.bl (!b),true):=rfl
@[simp] theorem aVc {p q:Int->Int->Bool} {f g h:aR} {ρ:Env}:yB p q f g h ρ=(f ρ).bind fun x=>(g ρ).bind fun y=>match x.1,y.1 with
 | .int i,.int j=>if p i j then (h ρ).bind fun z=>(match z.1 with | .int k=>.ok (.bl (q j k),true) | _=>.bad) else .ok (.bl false,true)
 | _,_=>.bad:=rfl
@[simp] theorem aWj {fn:Fn} {g:cH} {ρ:Env}:aO fn g ρ=(g ρ).bind fun xs=>lM fn (D.frzs (xs.map (·.1))) (xs.all aS):=rfl
@[simp] theorem aIy {f:aR} {ρ:Env}:aN f ρ=(f ρ).bind fun x=>match x.1 with | .bl b=>.ok b | _=>.bad:=rfl
@[simp] theorem aY0 {f:aR} {ρ:Env}:dS f ρ=(f ρ).bind fun x=>if qE x.1 then .ok (zD x.1) else .bad:=rfl
@[simp] theorem aMt {f g:dC} {ρ:Env}:cZ f g ρ=(f ρ).bind fun c=>if c=true then g ρ else .ok false:=rfl
@[simp] theorem bAo {f g:dC} {ρ:Env}:gR f g ρ=(f ρ).bind fun c=>if c=true then .ok true else g ρ:=rfl
@[simp] theorem aZb {f:dC} {ρ:Env}:dA f ρ=(f ρ).bind fun c=>.ok (!c):=rfl
@[simp] theorem aV4 {ρ:Env}:eW ρ=.ok true:=rfl
@[simp] theorem aZf {g:cH} {ρ:Env}:cN g ρ=(g ρ).bind fun xs=>if xs.all aS && decide (xs.length<=1000000) then .ok (.lst true (xs.map (·.1)),true) else .bad:=rfl
@[simp] theorem aZj {g:cH} {ρ:Env}:cQ g ρ=(g ρ).bind fun xs=>if xs.all aS && decide (xs.length<=1000000) then .ok (.tup (D.frzs (xs.map (·.1))),true) else .bad:=rfl
@[simp] theorem aZd {f:aR} {ρ:Env}:jH f ρ=(f ρ).bind aBy:=rfl
@[simp] theorem aZi {f:aR} {ρ:Env}:kG f ρ=(f ρ).bind fun x=>(yJ x).bind fun ds=>.ok (qG ds):=rfl
@[simp] theorem aZw {ds:List D} {b:Bool}:yJ (.lst false ds,b)=if aS (.lst false ds,b) then .ok (D.frzs ds) else .bad:=rfl
@[simp] theorem bA6 {o:Bool} {ds:List D}:yJ (.lst o ds,true)=.ok (D.frzs ds):=rfl
@[simp] theorem aZ7 {o:Bool} {ds:List D}:aBy (.lst o ds,true)=.ok (D.frzs ds):=rfl
@[simp] theorem aSr {b:Bool} {ds:List D}:aBy (.lst false ds,b)=if aS (.lst false ds,b) then .ok (D.frzs ds) else .bad:=rfl
@[simp] theorem bA5 {b:Bool} {ds:List D}:aBy (.tup ds,b)=.ok ds:=rfl
@[simp] theorem aTo {d:D} {ρ:Env}:aC 0 (.val d::ρ)=.ok (d,false):=rfl
@[simp] theorem aZ0 {d:D} {ρ:Env}:aC 0 (.pin d::ρ)=.ok (d,false):=rfl
@[simp] theorem aVr {i:Nat} {s:Slot} {ρ:Env}:aC (i+1) (s::ρ)=aC i ρ:=rfl
def np (s:Slot):Prop:=∀d,s ≠ .pin d
@[simp] theorem aAt:np .un:=fun _ h=>by cases h
@[simp] theorem nS {d:D}:np (.val d):=fun _ h=>by cases h
@[simp] theorem aZr {d:D}:¬ np (.pin d):=fun h=>h d rfl
@[simp] theorem aQx {s:Slot} {ρ:Env} (h:np s):free (s::ρ) 0=true:=by
 cases s<;>first | rfl | exact absurd rfl (h _)
@[simp] theorem aRh {i:Nat} {s:Slot} {ρ:Env}:free (s::ρ) (i+1)=free ρ i:=by unfold free;simp
@[simp] theorem aZe {d:D} {ρ:Env}:getD (.val d::ρ) 0=some d:=rfl
@[simp] theorem aY2 {d:D} {ρ:Env}:getD (.pin d::ρ) 0=some d:=rfl
@[simp] theorem aY8 {ρ:Env}:getD (.un::ρ) 0=none:=rfl
@[simp] theorem aSw {i:Nat} {s:Slot} {ρ:Env}:getD (s::ρ) (i+1)=getD ρ i:=rfl
@[simp] theorem aY6 {c d:D} {ρ:Env}:putD (.val c::ρ) 0 d=.val d::ρ:=rfl
@[simp] theorem aZz {i:Nat} {d:D} {s:Slot} {ρ:Env}:putD (s::ρ) (i+1) d=s::putD ρ i d:=by
 unfold putD
 simp only [List.getElem?_cons_succ]
 cases ρ[i]? with
 | none=>rfl
 | some t=>cases t<;>rfl
@[simp] theorem aIw {i:Nat} {d:D} {ρ:Env}:bW i d ρ=if free ρ i then some (ρ.set i (.val d)) else none:=rfl
@[simp] theorem aXr {is:T0} {ds:List D} {ρ:Env}:eP is (.tup ds) ρ=cX is ds ρ:=rfl
@[simp] theorem aSe {ρ:Env}:cX [] [] ρ=some ρ:=rfl
@[simp] theorem aQj {i:Nat} {is:T0} {d:D} {ds:List D} {ρ:Env}:cX (i::is) (d::ds) ρ=if d.calm then (bW i d ρ).bind (cX is ds) else none:=rfl
@[simp] theorem aXb {g:Int->Int->D} {i j:Int} {b c:Bool}:kI g (.int i,b) (.int j,c)=.ok (g i j,true):=rfl
@[simp] theorem bAu {p:Int->Int->Bool} {g:Int->Int->D} {i j:Int} {b c:Bool}:kIc p g (.int i,b) (.int j,c)=if p i j=true then .ok (g i j,true) else .bad:=rfl
@[simp] theorem bBp {g:Int->D} {i:Int} {b:Bool}:kU g (.int i,b)=.ok (g i,true):=rfl
@[simp] theorem aV0 {i j:Int} {b c:Bool}:bB (.int i,b) (.int j,c)=.ok (.int (i+j),true):=rfl
@[simp] theorem aYw {o p:Bool} {ds es:List D} {b c:Bool}:bB (.lst o ds,b) (.lst p es,c)=if D.bS ds && D.bS es && decide (ds.length+es.length<=1000000) then .ok (.lst true (ds++es),true) else .bad:=rfl
@[simp] theorem aVf {i j:Int} {b c:Bool}:fL (.int i,b) (.int j,c)=if (fits i && fits j)=true then .ok (.int (i * j),true) else .bad:=rfl
@[simp] theorem aW8 {o b c:Bool} {ds:List D} {i:Int}:kIx (.lst o ds,b) (.int i,c)=R.of ((atI ds i).map (·,b)):=rfl
@[simp] theorem bBq {b c:Bool} {ds:List D} {i:Int}:kIx (.tup ds,b) (.int i,c)=R.of ((atI ds i).map (·,b)):=rfl
@[simp] theorem aZh {α:Type} {a:α}:R.of (some a)=.ok a:=rfl
@[simp] theorem bAs {o b:Bool} {ds:List D}:dZ [(.lst o ds,b)]=.ok (.int ds.length,true):=rfl
@[simp] theorem bAz {b:Bool} {ds:List D}:dZ [(.tup ds,b)]=.ok (.int ds.length,true):=rfl
@[simp] theorem aY7 {n:Bool} {d:D} {b c:Bool}:jQ n (d,b) (.non,c)=.ok (.bl (if n then !lD d else lD d),true):=rfl
@[simp] theorem aG3 {i:Nat} {f:aR} {ρ:Env}:aX i (xOf f) ρ=oC (f ρ) fun d b=>if (b || d.calm) && free ρ i then .next (ρ.set i (.val d)) else .bad:=by
 unfold aX xOf oC;cases f ρ<;>rfl
@[simp] theorem bAn {f:aR} {ρ:Env}:bD (xOf f) ρ=oC (f ρ) fun d b=>if (b || d.calm) then .ret d ρ else .bad:=by
 unfold bD xOf oC;cases f ρ<;>rfl
@[simp] theorem aY5 {f:aR} {ρ:Env}:cT (xOf f) ρ=oC (f ρ) fun _ _=>.next ρ:=by
 unfold cT xOf oC;cases f ρ<;>rfl
@[simp] theorem lF {c:dC} {f g:SemS} {ρ:Env}:sIf c f g ρ=onT (c ρ) (f ρ) (g ρ):=by
 unfold sIf onT;cases c ρ with
 | ok a=>cases a<;>rfl
 | exc c=>rfl
 | bad=>rfl
@[simp] theorem aZk {f:lN} {set:D->Env->Option Env} {b:SemS} {ρ:Env}:iC f set b ρ=onI (f ρ) fun ds=>forL set b ds ρ:=by
 unfold iC onI;cases f ρ<;>rfl
@[simp] theorem aZx {i:Nat} {f:aR} {ρ:Env}:cR i f ρ=oC (f ρ) fun d b=>match (getD ρ i).bind fun e=>uY e (d,b) with | some e=>.next (putD ρ i e) | none=>.bad:=by
 unfold cR oC;cases f ρ<;>rfl
@[simp] theorem aY4 {ds:List D} {x:D×Bool}:uY (.lst true ds) x=if aS x && decide (ds.length<1000000) then some (.lst true (ds ++ [x.1])) else none:=rfl
@[simp] theorem aZa {i:Nat} {ρ:Env}:gC i ρ=match ρ[i]? with | some (.val d)=>.ret d (ρ.set i .un) | some (.pin d)=>if d.calm then .ret d ρ else .bad | _=>.bad:=rfl
@[simp] theorem bAl {is:T0} {g:SemS} {ρ:Env}:jE is g ρ=g (is.foldl frz1 ρ):=rfl
@[simp] theorem aYt {d:D} {ρ:Env}:frz1 (.val d::ρ) 0=.val d.frz::ρ:=rfl
@[simp] theorem aYu {ρ:Env}:frz1 (.un::ρ) 0=.un::ρ:=rfl
@[simp] theorem aZ5 {i:Nat} {s:Slot} {ρ:Env}:frz1 (s::ρ) (i+1)=s::frz1 ρ i:=by
 unfold frz1
 rw [aSw]
 cases getD ρ i<;>simp
@[simp] theorem bA1 {d:D}:aS (d,true)=true:=rfl
@[simp] theorem aZ8 {d:D}:aS (d,false)=d.calm:=rfl
def I (xs:Y0):List D:=xs.map D.int
@[simp] theorem bBn:I []=[]:=rfl
@[simp] theorem bBr (xs:Y0):(I xs).length=xs.length:=by simp [I]
@[simp] theorem bBd (xs:Y0) (x:Int):I xs ++ [.int x]=I (xs ++ [x]):=by simp [I]
def gt (xs:Y0) (k:Nat):Int:=xs.getD k 0
theorem aVj {xs:Y0} {k:Nat} (h:k<xs.length):xs[k]?=some (gt xs k):=by simp [gt,List.getElem?_eq_getElem h]
theorem aVp {xs:Y0} {k:Nat} (h:k<xs.length):(I xs)[k]?=some (.int (gt xs k)):=by simp [I,aVj h]
@[simp] theorem calms_I:∀xs:Y0,D.bS (I xs)=true
 | []=>rfl
 | _::xs=>by show (true && D.bS (I xs))=true;rw [calms_I xs];rfl
@[simp] theorem aSl:∀xs:Y0,D.frzs (I xs)=I xs
 | []=>rfl
 | x::xs=>by show D.int x::D.frzs (I xs)=_;rw [aSl xs];rfl
@[simp] theorem aNq:∀xs:Y0,eU (I xs)=some xs
 | []=>rfl
 | x::xs=>by show (eU (I xs)).map (x::·)=_;rw [aNq xs];rfl
@[simp] theorem aWy {i:Int}:(D.int i).calm=true:=rfl
@[simp] theorem aVw {x:Str}:(D.str x).calm=true:=rfl
@[simp] theorem aXz:D.non.calm=true:=rfl
@[simp] theorem aYq {x:Bool}:(D.bl x).calm=true:=rfl
@[simp] theorem aWo {ds:List D}:(D.tup ds).calm=D.bS ds:=rfl
@[simp] theorem aFs {o:Bool} {ds:List D}:(D.lst o ds).calm=(!o && D.bS ds):=rfl
@[simp] theorem aVe:D.bS []=true:=rfl
@[simp] theorem tJ {d:D} {ds:List D}:D.bS (d::ds)=(d.calm && D.bS ds):=rfl
@[simp] theorem aYo {i:Int}:(D.int i).frz=.int i:=rfl
@[simp] theorem aYv {x:Str}:(D.str x).frz=.str x:=rfl
@[simp] theorem aZg:D.non.frz=.non:=rfl
@[simp] theorem aZm {x:Bool}:(D.bl x).frz=.bl x:=rfl
@[simp] theorem aL1 {ds:List D}:(D.tup ds).frz=.tup (D.frzs ds):=rfl
@[simp] theorem aLc {o:Bool} {ds:List D}:(D.lst o ds).frz=.lst false (D.frzs ds):=rfl
@[simp] theorem aWp:D.frzs []=[]:=rfl
@[simp] theorem aFb {d:D} {ds:List D}:D.frzs (d::ds)=d.frz::D.frzs ds:=rfl
mutual
theorem frz_calm:∀d:D,d.frz.calm=true
 | .non=>rfl | .bl _=>rfl | .int _=>rfl | .str _=>rfl
 | .tup ds=>frzs_calm ds
 | .lst _ ds=>by show (!false && D.bS (D.frzs ds))=true;rw [frzs_calm ds];rfl
 | .ext _ _=>rfl
 | .fn _=>rfl
theorem frzs_calm:∀ds:List D,D.bS (D.frzs ds)=true
 | []=>rfl
 | d::ds=>by show (d.frz.calm && D.bS (D.frzs ds))=true;rw [frz_calm d,frzs_calm ds];rfl
end
mutual
theorem sV:∀d:D,d.calm=true->d.frz=d
 | .non,_=>rfl | .bl _,_=>rfl | .int _,_=>rfl | .str _,_=>rfl
 | .tup ds,h=>by rw [aL1,iT ds h]
 | .lst o ds,h=>by
  rw [aFs,Bool.and_eq_true] at h
  rw [aLc,iT ds h.2]
  cases o
  ·rfl
  ·cases h.1
 | .ext o t,h=>by
  cases o
  ·rfl
  ·cases h
 | .fn _,_=>rfl
theorem iT:∀ds:List D,D.bS ds=true->D.frzs ds=ds
 | [],_=>rfl
 | d::ds,h=>by
  rw [tJ,Bool.and_eq_true] at h
  rw [aFb,sV d h.1,iT ds h.2]
end
@[simp] theorem aYn (d:D):d.frz.frz=d.frz:=sV _ (frz_calm d)
@[simp] theorem aVd (ds:List D):D.frzs (D.frzs ds)=D.frzs ds:=iT _ (frzs_calm ds)
@[simp] theorem eq_int {n:Bool} {i j:Int} {b c:Bool}:kEq n (.int i,b) (.int j,c)=.ok (.bl (if n then !decide (i=j) else decide (i=j)),true):=by
 unfold kEq
 have:aEp (.int i) (.int j)=true:=rfl
 rw [if_pos this]
 show R.ok (D.bl (if n then !(i == j) else (i == j)),true)=_
 rw [show (i == j)=decide (i=j) from by by_cases h:i=j<;>simp [h]]
@[simp] theorem aVg {lo:Int} {n:Nat}:(jA lo n).length=n:=by simp [jA]
theorem aD4 {n:Nat} (h:n<=1000000):cW (n:Int)=true:=by
 unfold cW;rw [Bool.and_eq_true,decide_eq_true_iff,decide_eq_true_iff];omega
theorem iH {α:Type} {xs:List α} {k:Nat}:atI xs (k:Int)=xs[k]?:=by
 unfold atI ixN
 by_cases h:(k:Int)<xs.length
 ·rw [if_pos (by omega),if_pos h];simp
 ·rw [if_pos (by omega),if_neg h]
  have:xs.length<=k:=by omega
  simp [this]
theorem aIm {α:Type} {xs:List α} {φ:α->D}:qG (xs.map φ)=(xs.zipIdx).map fun p=>.tup [.int (p.2:Nat),φ p.1]:=by
 unfold qG
 rw [List.zipIdx_map,List.map_map]
 rfl
theorem aKr {c:dC} {b:SemS} {n:Nat} {ρ ρ2:Env} (hc:c ρ=.ok true) (hb:b ρ=.next ρ2):cV c b (n+1) ρ=cV c b n ρ2:=by
 rw [cV,hc];dsimp only;rw [hb];rfl
theorem aCt {c:dC} {b:SemS} {n:Nat} {ρ:Env} (hc:c ρ=.ok false):cV c b (n+1) ρ=.next ρ:=by
 rw [cV,hc]
def out (o:Out) (P:Env->Prop) (Q:D->Prop):Prop:=match o with | .next ρ=>P ρ | .ret d _=>Q d | _=>False
def stp (o:Option Env) (b:SemS):Out:=match o with | some ρ=>b ρ | none=>.bad
@[simp] theorem aI3 {ρ:Env} {P:Env->Prop} {Q:D->Prop}:out (.next ρ) P Q=P ρ:=rfl
@[simp] theorem aYz {ρ:Env} {d:D} {P:Env->Prop} {Q:D->Prop}:out (.ret d ρ) P Q=Q d:=rfl
@[simp] theorem zE {ρ:Env} {b:SemS}:stp (some ρ) b=b ρ:=rfl
theorem aJe {o:Out} {g:SemS} {P P':Env->Prop} {Q:D->Prop} (h:out o P' Q) (h2:∀ρ,P' ρ->out (g ρ) P Q):out (o.andThen g) P Q:=by
 cases o<;>first | exact h2 _ h | exact h | exact h.elim
theorem aJq {o:Out} {P P':Env->Prop} {Q Q':D->Prop} (h:out o P' Q') (h1:∀ρ,P' ρ->P ρ) (h2:∀d,Q' d->Q d):out o P Q:=by
 cases o<;>first | exact h1 _ h | exact h2 _ h | exact h.elim
def bAk (fn:Fn) (ds:List D) (P:D->Prop):Prop:=∃d,Ret fn ds d/\P d
theorem aMb {n:Nat} {body:SemS} {ds:List D} {P:D->Prop} (h:out (body (entry n ds)) (fun _=>P .non) P):bAk (fnOf n body) ds P:=by
 cases e:body (entry n ds) with
 | next ρ=>rw [e] at h;exact ⟨_,aQ3 ⟨ρ,e⟩,h⟩
 | ret d ρ=>rw [e] at h;exact ⟨_,yE ⟨ρ,e⟩,h⟩
 | brk ρ=>rw [e] at h;exact h.elim
 | cont ρ=>rw [e] at h;exact h.elim
 | exc c ρ=>rw [e] at h;exact h.elim
 | bad=>rw [e] at h;exact h.elim
theorem aHr {n:Nat} {body:SemS} {ds:List D} {d:D} (h:out (body (entry n ds)) (fun _=>D.non=d) (·=d)):Ret (fnOf n body) ds d:=by
 obtain ⟨_,h1,rfl⟩:=aMb (P:=(·=d)) h
 exact h1
theorem aCz {α:Type} {set:D->Env->Option Env} {b:SemS} {φ:α->D} {Q:D->Prop} (J:List α->Env->Prop) (xs:List α) (h:∀pre x post ρ,xs=pre++x::post->J pre ρ->out (stp (set (φ x) ρ) b) (J (pre ++ [x])) Q):∀(post pre:List α) (ρ:Env),xs=pre++post->J pre ρ->out (forL set b (post.map φ) ρ) (J xs) Q
 | [],pre,ρ,e,h0=>by show J xs ρ;rw [e,List.append_nil];exact h0
 | x::post,pre,ρ,e,h0=>by
  have h1:=h pre x post ρ e h0
  show out (match set (φ x) ρ with | none=>Out.bad | some ρ1=>fR (b ρ1) (forL set b (post.map φ))) _ _
  cases es:set (φ x) ρ with
  | none=>rw [es] at h1;exact h1.elim
  | some ρ1 =>
   rw [es,zE] at h1
   dsimp only
   cases eb:b ρ1 with
   | next ρ2=>rw [eb] at h1;exact aCz J xs h post (pre ++ [x]) ρ2 (by rw [e];simp) h1
   | ret d ρ2=>rw [eb] at h1;exact h1
   | brk ρ=>rw [eb] at h1;exact h1.elim
   | cont ρ=>rw [eb] at h1;exact h1.elim
   | exc c ρ=>rw [eb] at h1;exact h1.elim
   | bad=>rw [eb] at h1;exact h1.elim
theorem aC4 {α:Type} {set:D->Env->Option Env} {b:SemS} {φ:α->D} {Q:D->Prop} {ρ:Env} (J:List α->Env->Prop) (xs:List α) (h0:J [] ρ) (h:∀pre x post ρ,xs=pre++x::post->J pre ρ->out (stp (set (φ x) ρ) b) (J (pre ++ [x])) Q):out (forL set b (xs.map φ) ρ) (J xs) Q:=aCz J xs h xs [] ρ rfl h0
end VL
end
section
namespace VL
open PySem L2
@[simp] theorem aPt {ρ:Env} {c:Str} {g:SemS}:(Out.exc c ρ).andThen g=.exc c ρ:=rfl
def vV (fn:Fn) (ds:List D) (k:Bool) (ρ:Env) (f:D->Out):Out:=match fn ds with
 | .ok y=>if k || isScal y.1 then f y.1 else .bad
 | .exc c=>.exc c ρ | .bad=>.bad
theorem aLv {fn:Fn} {ds:List D} {d:D} {ρ:Env} {f:D->Out} (h:Ret fn ds d):vV fn ds true ρ f=f d:=by
 obtain ⟨os,h⟩:=h
 unfold vV;rw [h];rfl
def onA (r:R (List (D×Bool))) (k:List (D×Bool)->Out):Out:=match r with | .ok xs=>k xs | _=>.bad
@[simp] theorem bAr {xs:List (D×Bool)} {k:List (D×Bool)->Out}:onA (.ok xs) k=k xs:=rfl
@[simp] theorem aXc {fn:Fn} {g:cH} {ρ:Env}:cT (bO fn g) ρ=onA (g ρ) fun xs=>vV fn (D.frzs (xs.map (·.1))) (xs.all aS) ρ fun _=>.next ρ:=by
 unfold cT bO onA vV
 cases g ρ with
 | ok xs =>
  dsimp only
  cases fn (D.frzs (xs.map (·.1))) with
  | ok y=>by_cases hk:(xs.all aS || isScal y.1)=true<;>simp [hk]
  | exc c=>rfl
  | bad=>rfl
 | exc _=>rfl
 | bad=>rfl
@[simp] theorem aYx {i:Nat} {fn:Fn} {g:cH} {ρ:Env}:aX i (bO fn g) ρ=onA (g ρ) fun xs=>vV fn (D.frzs (xs.map (·.1))) (xs.all aS) ρ fun d=>if free ρ i then .next (ρ.set i (.val d)) else .bad:=by
 unfold aX bO onA vV
 cases g ρ with
 | ok xs =>
  dsimp only
  cases fn (D.frzs (xs.map (·.1))) with
  | ok y=>by_cases hk:(xs.all aS || isScal y.1)=true<;>simp [hk]
  | exc c=>rfl
  | bad=>rfl
 | exc _=>rfl
 | bad=>rfl
@[simp] theorem aWt {c:Str} {f:mR} {ρ:Env}:eX c f ρ=match f ρ with | some _=>.exc c ρ | none=>.bad:=rfl
@[simp] theorem aYy {f:mR} {ρ:Env}:zTop f ρ=(f ρ).bind fun n=>if n<=1000000 then some n else none:=rfl
@[simp] theorem aYs {f g:mR} {ρ:Env}:fA f g ρ=(f ρ).bind fun a=>(g ρ).map fun b=>a+b:=rfl
def zI (r:R (D×Bool)):Option Nat:=match r with | .ok (.int a,_)=>if a.natAbs<=100000 then some 100002 else none | _=>none
@[simp] theorem aY3 {g:aR} {ρ:Env}:mT g ρ=zI (g ρ):=rfl
@[simp] theorem aZ2 {a:Int} {b:Bool}:zI (.ok (.int a,b))=if a.natAbs<=100000 then some 100002 else none:=rfl
end VL
end
section
namespace VL.K31
open VL PySem
def fuel:Nat:=1000
def sS:SemS:=(bD (xOf (wY (v1 (nR "int") (aC 0)) (v1 aMe (v1 (nR "bool") (aC 0))))))
def nK:Fn:=fnOf 1 sS
def oX:SemS:=(bD (xOf (wY (aO nK (aA (aC 0) aE)) (yB (fun i j=>decide (i<=j)) (fun i j=>decide (i<=j)) (aC 1) (aC 0) (aC 2)))))
def bV:Fn:=fnOf 3 oX
def vU:SemS:=(aI (sIf (gR (dA (dS (v1 (nR "tuple") (aC 1)))) (aN (v2 (kEq true) (vCB dZ (aA (aC 1) aE)) (vC (.int 4))))) (bD (xOf (vC (.bl false)))) aZ) (aI (aX 2 (xOf (v2 rT (v2 kIx (aC 0) (vC (.int 0))) (vC (.int 1))))) (aI (sIf (gR (dA (dS (aO bV (aA (v2 kIx (aC 1) (vC (.int 0))) (aA (vC (.int 0)) (aA (aC 2) aE)))))) (dA (dS (aO bV (aA (v2 kIx (aC 1) (vC (.int 2))) (aA (vC (.int 0)) (aA (aC 2) aE))))))) (bD (xOf (vC (.bl false)))) aZ) (bD (xOf (wY (aO bV (aA (v2 kIx (aC 1) (vC (.int 1))) (aA (vC (.int 0)) (aA (v2 rT (v2 kIx (aC 0) (vC (.int 1))) (vC (.int 1))) aE)))) (aO bV (aA (v2 kIx (aC 1) (vC (.int 3))) (aA (vC (.int 0)) (aA (vC (.int 1000)) aE))))))))))
def pR:Fn:=fnOf 3 vU
def nW:SemS:=(aI (aX 1 (xOf (v2 kIx (aC 0) (vC (.int 2))))) (aI (sIf (gR (dA (dS (v1 (nR "list") (aC 1)))) (aN (v2 kGt (vCB dZ (aA (aC 1) aE)) (vC (.int 600))))) (eX "BadMachine" (zTop (fA (fun _=>some ("the deeds are a list of " : Str).length) (fA (mT (vC (.int 600))) (fA (fun _=>some (" at most" : Str).length) (fun _=>some 0)))))) aZ) (aI (iC (kG (aC 1)) (eP [2,3]) (sIf (dA (dS (aO pR (aA (aC 0) (aA (aC 3) aE))))) (eX "BadMachine" (zTop (fA (fun _=>some ("number " : Str).length) (fA (mT (aC 2)) (fA (fun _=>some (" is no deed of such a machine" : Str).length) (fun _=>some 0)))))) aZ)) (iC (iR2 (aA (vC (.int 1)) (aA (vCB dZ (aA (aC 1) aE)) aE))) (bW 2) (sIf (aN (v2 aK9 (v2 kIx (aC 1) (aC 2)) (v2 kIx (aC 1) (v2 rT (aC 2) (vC (.int 1)))))) (eX "BadMachine" (zTop (fA (fun _=>some ("deed " : Str).length) (fA (mT (aC 2)) (fA (fun _=>some (" does not rise above the one ahead of it" : Str).length) (fun _=>some 0)))))) aZ)))))
def kK:Fn:=fnOf 4 nW
def lQ:SemS:=(aI (sIf (gR (dA (dS (v1 (nR "tuple") (aC 0)))) (aN (v2 (kEq true) (vCB dZ (aA (aC 0) aE)) (vC (.int 3))))) (eX "BadMachine" (fun _=>some ("a machine is a triple of places, kinds and deeds" : Str).length)) aZ) (aI (sIf (dA (dS (aO bV (aA (v2 kIx (aC 0) (vC (.int 0))) (aA (vC (.int 1)) (aA (vC (.int 200)) aE)))))) (eX "BadMachine" (zTop (fA (fun _=>some ("a machine has 1 to " : Str).length) (fA (mT (vC (.int 200))) (fA (fun _=>some (" places" : Str).length) (fun _=>some 0)))))) aZ) (aI (sIf (dA (dS (aO bV (aA (v2 kIx (aC 0) (vC (.int 1))) (aA (vC (.int 1)) (aA (vC (.int 8)) aE)))))) (eX "BadMachine" (zTop (fA (fun _=>some ("a machine has 1 to " : Str).length) (fA (mT (vC (.int 8))) (fA (fun _=>some (" kinds of deeds" : Str).length) (fun _=>some 0)))))) aZ) (cT (bO kK (aA (aC 0) aE))))))
def bH:Fn:=fnOf 1 lQ
def xF:SemS:=(aI (aX 1 (xOf (dN (iR1 (aA (v2 kIx (aC 0) (vC (.int 0))) aE)) 1 [] (bW 0) eW (cN aE)))) (aI (iC (kG (v2 kIx (aC 0) (vC (.int 2)))) (eP [2,3]) (lY 1 (v2 kIx (aC 3) (vC (.int 0))) (aC 2))) (gC 1)))
def oI:Fn:=fnOf 4 xF
def aE4:SemS:=(aI (aX 1 (xOf (aO oI (aA (aC 0) aE)))) (aI (aX 2 (xOf (dN (iR1 (aA (v2 kIx (aC 0) (vC (.int 0))) aE)) 1 [] (bW 0) eW (vC .non)))) (aI (aX 3 (xOf (cN (aA (vC (.int 0)) aE)))) (aI (aX 4 (xOf (vC (.int 0)))) (aI (jE [1] (cV (aN (v2 kLt (aC 4) (vCB dZ (aA (aC 3) aE)))) (aI (iC (jH (v2 kIx (aC 1) (v2 kIx (aC 3) (aC 4)))) (bW 5) (aI (aX 6 (xOf (v2 kIx (v2 kIx (v2 kIx (aC 0) (vC (.int 2))) (aC 5)) (vC (.int 2))))) (sIf (cZ (aN (v2 (kEq true) (aC 6) (vC (.int 0)))) (aN (v2 (jQ false) (v2 kIx (aC 2) (aC 6)) (vC .non)))) (aI (fO 2 (aC 6) (aC 5)) (cR 3 (aC 6))) aZ))) (pT 4 (fun i j=>i+j) (vC (.int 1)))) fuel)) (gC 2))))))
def jX:Fn:=fnOf 7 aE4
def pL:SemS:=(aI (cT (bO bH (aA (aC 0) aE))) (bD (xOf (dN (kG (aO jX (aA (aC 0) aE))) 2 [] (eP [0,1]) eW (vOr (v2 (kEq false) (aC 0) (vC (.int 0))) (v2 (jQ true) (aC 1) (vC .non)))))))
def iS:Fn:=fnOf 1 pL
def sH:SemS:=(aI (aX 2 (xOf (cN aE))) (aI (iC (jH (v2 kIx (aC 0) (vC (.int 2)))) (bW 3) (iC (iR1 (aA (aC 1) aE)) (bW 4) (cR 2 (cQ (aA (v2 bB (v2 fL (v2 kIx (aC 3) (vC (.int 0))) (aC 1)) (aC 4)) (aA (v2 kIx (aC 3) (vC (.int 1))) (aA (v2 bB (v2 fL (v2 kIx (aC 3) (vC (.int 2))) (aC 1)) (aC 4)) (aA (v2 kIx (aC 3) (vC (.int 3))) aE)))))))) (gC 2)))
def gK:Fn:=fnOf 5 sH
def qA:SemS:=(aI (aX 2 (xOf (cN aE))) (aI (iC (jH (v2 kIx (aC 1) (vC (.int 2)))) (bW 3) (iC (iR1 (aA (v2 kIx (aC 0) (vC (.int 0))) aE)) (bW 4) (aI (aX 5 (xOf (v2 fL (aC 4) (v2 kIx (aC 1) (vC (.int 0)))))) (cR 2 (cQ (aA (v2 bB (aC 5) (v2 kIx (aC 3) (vC (.int 0)))) (aA (v2 bB (v2 kIx (aC 0) (vC (.int 1))) (v2 kIx (aC 3) (vC (.int 1)))) (aA (v2 bB (aC 5) (v2 kIx (aC 3) (vC (.int 2)))) (aA (v2 kIx (aC 3) (vC (.int 3))) aE))))))))) (gC 2)))
def fG:Fn:=fnOf 6 qA
def tW:SemS:=(aI (cT (bO bH (aA (aC 0) aE))) (aI (cT (bO bH (aA (aC 1) aE))) (aI (aX 2 (xOf (vCB kSL (aA (v2 bB (aO gK (aA (aC 0) (aA (v2 kIx (aC 1) (vC (.int 0))) aE))) (aO fG (aA (aC 0) (aA (aC 1) aE)))) aE)))) (aI (jE [2] (aX 3 (xOf (cQ (aA (v2 fL (v2 kIx (aC 0) (vC (.int 0))) (v2 kIx (aC 1) (vC (.int 0)))) (aA (v2 bB (v2 kIx (aC 0) (vC (.int 1))) (v2 kIx (aC 1) (vC (.int 1)))) (aA (aC 2) aE))))))) (aI (cT (bO bH (aA (aC 3) aE))) (gC 3))))))
def jZ:Fn:=fnOf 4 tW
def aEh:SemS:=(bD (xOf (vCB aTs (aA (dN (jH (aC 1)) 1 [0] (bW 0) eW (v2 kIx (aC 1) (aC 0))) aE))))
def pP:Fn:=fnOf 2 aEh
def aJg:SemS:=(aI (aX 2 (xOf (aO jX (aA (aC 0) aE)))) (aI (aX 3 (xOf (cN aE))) (aI (cV (aN (v2 (jQ true) (v2 kIx (aC 2) (aC 1)) (vC .non))) (aI (cR 3 (v2 kIx (aC 2) (aC 1))) (aX 1 (xOf (v2 kIx (v2 kIx (v2 kIx (aC 0) (vC (.int 2))) (v2 kIx (aC 2) (aC 1))) (vC (.int 0)))))) fuel) (aI (aKp 3) (gC 3)))))
def zZ:Fn:=fnOf 4 aJg
def xB:SemS:=(aI (aX 3 (xOf (cN aE))) (aI (cV (aN (v2 (jQ true) (v2 kIx (aC 1) (aC 2)) (vC .non))) (aI (cR 3 (v2 kIx (aC 1) (aC 2))) (aX 2 (xOf (v2 kIx (v2 kIx (v2 kIx (aC 0) (vC (.int 2))) (v2 kIx (aC 1) (aC 2))) (vC (.int 2)))))) fuel) (gC 3)))
def iJ:Fn:=fnOf 4 xB
def uX:SemS:=(aI (iC (iR1 (aA (v2 kIx (aC 0) (vC (.int 0))) aE)) (bW 3) (aX 2 (xOf (v2 kIx (v2 kIx (v2 kIx (aC 0) (vC (.int 2))) (v2 kIx (aC 1) (aC 2))) (vC (.int 2)))))) (aI (aX 4 (xOf (cN (aA (v2 kIx (aC 1) (aC 2)) aE)))) (aI (aX 5 (xOf (v2 kIx (v2 kIx (v2 kIx (aC 0) (vC (.int 2))) (v2 kIx (aC 1) (aC 2))) (vC (.int 2))))) (aI (cV (aN (v2 (kEq true) (aC 5) (aC 2))) (aI (cR 4 (v2 kIx (aC 1) (aC 5))) (aX 5 (xOf (v2 kIx (v2 kIx (v2 kIx (aC 0) (vC (.int 2))) (v2 kIx (aC 1) (aC 5))) (vC (.int 2)))))) fuel) (gC 4)))))
def gT:Fn:=fnOf 6 uX
def iM:SemS:=(aI (aX 5 (xOf (vC .non))) (aI (iC (jH (aC 2)) (bW 6) (aI (aX 7 (xOf (v2 kIx (v2 kIx (aC 0) (vC (.int 2))) (aC 6)))) (aI (aX 8 (xOf (v2 bB (v2 kIx (aC 1) (aC 6)) (v2 kIx (aC 3) (v2 kIx (aC 7) (vC (.int 2))))))) (sIf (aN (v2 kGt (aC 8) (v2 kIx (aC 3) (v2 kIx (aC 7) (vC (.int 0)))))) (aI (fO 3 (v2 kIx (aC 7) (vC (.int 0))) (aC 8)) (aI (fO 4 (v2 kIx (aC 7) (vC (.int 0))) (aC 6)) (aX 5 (xOf (v2 kIx (aC 7) (vC (.int 0))))))) aZ)))) (gC 5)))
def gM:Fn:=fnOf 9 iM
def kD:SemS:=(aI (aX 2 (bO iS (aA (aC 0) aE))) (aI (aX 3 (xOf (dN (kG (v2 kIx (aC 0) (vC (.int 2)))) 2 [2] (eP [0,1]) (dS (v2 kIx (aC 2) (v2 kIx (aC 1) (vC (.int 0))))) (aC 0)))) (aI (aX 4 (xOf (dN (iR1 (aA (v2 kIx (aC 0) (vC (.int 0))) aE)) 1 [] (bW 0) eW (vC (.int 0))))) (aI (aX 5 (xOf (dN (iR1 (aA (v2 kIx (aC 0) (vC (.int 0))) aE)) 1 [] (bW 0) eW (vC .non)))) (aI (aX 6 (xOf (vC (.int 0)))) (aI (aX 7 (xOf (vC (.int 0)))) (aI (jE [3] (cV (cZ (aN (v2 (jQ true) (aC 6) (vC .non))) (aN (v2 kLt (aC 7) (v2 kIx (aC 0) (vC (.int 0)))))) (aI (aX 6 (nP gM [0,1,3,4,5])) (pT 7 (fun i j=>i+j) (vC (.int 1)))) fuel)) (jE [4,5] (bD (xOf (cQ (aA (aC 4) (aA (aC 5) (aA (aC 6) aE))))))))))))))
def iK:Fn:=fnOf 8 kD
def jN:SemS:=(aI (cT (bO bH (aA (aC 0) aE))) (aI (sIf (gR (dA (dS (v1 (nR "list") (aC 1)))) (aN (v2 (kEq true) (vCB dZ (aA (aC 1) aE)) (v2 kIx (aC 0) (vC (.int 1)))))) (eX "BadPrices" (fun _=>some ("prices are a list of one for each kind" : Str).length)) aZ) (iC (kG (aC 1)) (eP [2,3]) (sIf (dA (dS (aO bV (aA (aC 3) (aA (vC (.int 0)) (aA (vC (.int 1000)) aE)))))) (eX "BadPrices" (zTop (fA (fun _=>some ("the price of kind " : Str).length) (fA (mT (aC 2)) (fA (fun _=>some (" is not from 0 to " : Str).length) (fA (mT (vC (.int 1000))) (fun _=>some 0))))))) aZ))))
def eS:Fn:=fnOf 4 jN
def xX:SemS:=(bD (xOf (dN (jH (v2 kIx (aC 0) (vC (.int 2)))) 1 [1] (bW 0) eW (v2 rT (v2 kIx (aC 0) (vC (.int 3))) (v2 kIx (aC 1) (v2 kIx (aC 0) (vC (.int 1))))))))
def iQ:Fn:=fnOf 2 xX
def aBd:SemS:=(aI (cT (bO eS (aA (aC 0) (aA (aC 1) aE)))) (aI (sIf (gR (aN (v2 (kEq true) (vCB dZ (aA (aC 2) aE)) (v2 kIx (aC 0) (vC (.int 0))))) (gR (aN (v2 (kEq true) (v2 kIx (aC 2) (vC (.int 0))) (vC (.int 0)))) (aN (v2 kLt (vCB aGc (aA (aC 2) aE)) (vC (.int 0)))))) (bD (xOf (vC (.bl false)))) aZ) (aI (aX 3 (bO iS (aA (aC 0) aE))) (aI (iC (jH (v2 kIx (aC 0) (vC (.int 2)))) (bW 4) (sIf (cZ (dS (v2 kIx (aC 3) (v2 kIx (aC 4) (vC (.int 0))))) (aN (v2 kLt (v2 bB (v2 kIx (aC 2) (v2 kIx (aC 4) (vC (.int 0)))) (v2 kIx (aC 1) (v2 kIx (aC 4) (vC (.int 1))))) (v2 bB (v2 kIx (aC 4) (vC (.int 3))) (v2 kIx (aC 2) (v2 kIx (aC 4) (vC (.int 2)))))))) (bD (xOf (vC (.bl false)))) aZ)) (bD (xOf (vC (.bl true))))))))
def jI:Fn:=fnOf 5 aBd
def pQ:SemS:=(aI (aX 3 (xOf (aO zZ (aA (aC 0) (aA (v2 kIx (v2 kIx (v2 kIx (aC 0) (vC (.int 2))) (v2 kIx (aC 2) (vC (.int 0)))) (vC (.int 0))) aE))))) (aI (aX 4 (xOf (vCB (k2i fun i j=>if j > i then j else i) (aA (vC (.int 0)) (aA (v2 bB (v2 kY (v1 (kU fun i=>.int (-i)) (aO pP (aA (aC 1) (aA (aC 3) aE)))) (aO pP (aA (aC 1) (aA (aC 2) aE)))) (vC (.int 1))) aE))))) (jE [3] (bD (xOf (cQ (aA (vC (.str "row")) (aA (aC 3) (aA (aC 2) (aA (aC 4) aE))))))))))
def fE:Fn:=fnOf 5 pQ
def jJ:SemS:=(aI (cT (bO eS (aA (aC 0) (aA (aC 1) aE)))) (aI (aX 2 (xOf (aO iQ (aA (aC 0) (aA (aC 1) aE))))) (aI (jE [2] (aX 3 (bO iK (aA (aC 0) (aA (aC 2) aE))))) (aI (aX 4 (xOf (v2 kIx (aC 3) (vC (.int 0))))) (aI (aX 5 (xOf (v2 kIx (aC 3) (vC (.int 1))))) (aI (aX 6 (xOf (v2 kIx (aC 3) (vC (.int 2))))) (aI (sIf (aN (v2 (jQ true) (aC 6) (vC .non))) (bD (xOf (aO fE (aA (aC 0) (aA (aC 2) (aA (aO gT (aA (aC 0) (aA (aC 5) (aA (aC 6) aE)))) aE)))))) aZ) (aI (sIf (aN (v2 kGt (v2 kIx (aC 4) (vC (.int 0))) (vC (.int 0)))) (bD (xOf (cQ (aA (vC (.str "row")) (aA (aO iJ (aA (aC 0) (aA (aC 5) (aA (vC (.int 0)) aE)))) (aA (cN aE) (aA (vC (.int 0)) aE))))))) aZ) (bD (xOf (cQ (aA (vC (.str "purse")) (aA (aC 4) aE)))))))))))))
def aV:Fn:=fnOf 7 jJ
def uA:SemS:=(sIf (dA (dS (aO bV (aA (aC 1) (aA (aC 2) (aA (aC 3) aE)))))) (eX "BadModel" (zTop (fA (aTa (aC 0)) (fA (fun _=>some (" is a whole number from " : Str).length) (fA (mT (aC 2)) (fA (fun _=>some (" to " : Str).length) (fA (mT (aC 3)) (fun _=>some 0)))))))) aZ)
def eD:Fn:=fnOf 4 uA
def eV (L:List (Addr×Fn)):SemS:=(aI (aX 2 (xOf (cN (aA (aC 0) aE)))) (aI (aX 3 (xOf (pI (aC 0) (vC (.int 0))))) (aI (aX 4 (xOf (cN aE))) (aI (aX 5 (xOf (vC (.int 0)))) (aI (cV (aN (v2 kLt (aC 5) (vCB dZ (aA (aC 2) aE)))) (aI (iC (kG (aC 1)) (eP [6,7]) (aI (aX 8 (xOf (iV L 7 (aA (v2 kIx (aC 2) (aC 5)) aE)))) (sIf (aN (v2 (jQ true) (aC 8) (vC .non))) (aI (sIf (aN (jD 3 (v2 kIx (aC 8) (vC (.int 0))))) (aI (kP 3 (v2 kIx (aC 8) (vC (.int 0))) (vCB dZ (aA (aC 2) aE))) (cR 2 (v2 kIx (aC 8) (vC (.int 0))))) aZ) (cR 4 (cQ (aA (aC 5) (aA (aC 6) (aA (qB 3 (v2 kIx (aC 8) (vC (.int 0)))) (aA (v2 kIx (aC 8) (vC (.int 1))) aE))))))) aZ))) (pT 5 (fun i j=>i+j) (vC (.int 1)))) fuel) (jE [2,4] (bD (xOf (cQ (aA (cQ (aA (vCB dZ (aA (aC 2) aE)) (aA (vCB dZ (aA (aC 1) aE)) (aA (aC 4) aE)))) (aA (aC 2) aE)))))))))))
def eI:Nat:=9
def aAo:SemS:=(aI (aX 3 (xOf (v2 kIx (aC 0) (vC (.int 0))))) (aI (sIf (aN (v2 kGe (aC 3) (aC 1))) (bD (xOf (vC .non))) aZ) (aI (sIf (aN (v2 (kEq false) (aC 3) (v2 kIx (aC 0) (vC (.int 1))))) (bD (xOf (cQ (aA (cQ (aA (v2 bB (aC 3) (vC (.int 1))) (aA (v2 fL (v2 kIx (aC 0) (vC (.int 1))) (aC 2)) aE))) (aA (v2 bB (vC (.int 1)) (aC 3)) aE))))) aZ) (bD (xOf (cQ (aA (cQ (aA (v2 bB (aC 3) (vC (.int 1))) (aA (v2 kIx (aC 0) (vC (.int 1))) aE))) (aA (vC (.int 1)) aE))))))))
def qP:Fn:=fnOf 4 aAo
def wU:SemS:=(aI (sIf (aN (v2 (kEq false) (v2 kIx (aC 0) (vC (.int 0))) (vC (.int 0)))) (bD (xOf (vC .non))) aZ) (aI (aX 3 (xOf (v2 rT (v2 kIx (aC 0) (vC (.int 0))) (vC (.int 1))))) (aI (aX 4 (xOf (v2 kIx (aC 0) (vC (.int 1))))) (aI (sIf (cZ (aN (v2 (kEq true) (aC 2) (vC (.int 0)))) (cZ (aN (v2 kGt (aC 4) (vC (.int 1)))) (aN (v2 kLe (v2 fL (aC 3) (aC 2)) (aC 4))))) (bD (xOf (cQ (aA (cQ (aA (aC 3) (aA (v2 kY (aC 4) (aC 1)) aE))) (aA (v2 bB (vC (.int 1)) (aC 3)) aE))))) aZ) (bD (xOf (cQ (aA (cQ (aA (aC 3) (aA (aC 4) aE))) (aA (vC (.int 1)) aE)))))))))
def oW:Fn:=fnOf 5 wU
def mW:SemS:=(bD (xOf (aO qP (aA (aC 0) (aA (aC 1) (aA (aC 2) aE))))))
def jP:Fn:=fnOf 3 mW
def lW:SemS:=(bD (xOf (aO oW (aA (aC 0) (aA (aC 1) (aA (aC 2) aE))))))
def iZ:Fn:=fnOf 3 lW
def yM (c1 c2:List D):R D:=(fnOf eI (eV [(0,fW c1 jP),(1,fW c2 iZ)]) [(.tup [.int 0,.int 1]),.lst false [.fn 0,.fn 1]]).bind fun y=>.ok y.1
def aNa:SemS:=(aI (cT (bO eD (aA (vC (.str "most")) (aA (aC 0) (aA (vC (.int 1)) (aA (vC (.int 30)) aE)))))) (aI (cT (bO eD (aA (vC (.str "grow")) (aA (aC 1) (aA (vC (.int 2)) (aA (vC (.int 4)) aE)))))) (aI (sIf (dA (dS (aO bV (aA (aC 2) (aA (vC (.int 0)) (aA (vC (.int 0)) aE)))))) (cT (bO eD (aA (vC (.str "shrink, where it is not 0,")) (aA (aC 2) (aA (aC 1) (aA (vC (.int 9)) aE)))))) aZ) (xV "shelf" 3 4 5 [0,1] [1,2] ⟨215,4,216,43⟩ "shelf.<locals>.put" ⟨218,4,219,46⟩ "shelf.<locals>.take" yM))))
def aL:Fn:=fnOf 6 aNa
def uJ:SemS:=(aI (aX 2 (xOf (v2 aWn (aC 0) (aC 1)))) (aI (aX 3 (xOf (vC (.int 0)))) (aI (cV (aN (v2 kGt (aC 2) (vC (.int 0)))) (aI (pT 3 (fun i j=>i+j) (v2 dQ (aC 2) (vC (.int 2)))) (aX 2 (xOf (v2 kY (aC 2) (vC (.int 2)))))) fuel) (gC 3))))
def jG:Fn:=fnOf 4 uJ
def aBb:SemS:=(aI (sIf (aN (v2 kGt (v1 aPj (v2 bB (aC 0) (vC (.int 1)))) (aC 1))) (bD (xOf (vC .non))) aZ) (bD (xOf (cQ (aA (v2 bB (aC 0) (vC (.int 1))) (aA (aO jG (aA (aC 0) (aA (v2 bB (aC 0) (vC (.int 1))) aE))) aE))))))
def sW:Fn:=fnOf 2 aBb
def yI:SemS:=(aI (sIf (gR (dA (dS (aC 1))) (aN (v2 (kEq false) (aC 0) (vC (.int 0))))) (bD (xOf (vC .non))) aZ) (bD (xOf (cQ (aA (v2 rT (aC 0) (vC (.int 1))) (aA (aO jG (aA (aC 0) (aA (v2 rT (aC 0) (vC (.int 1))) aE))) aE))))))
def oQ:Fn:=fnOf 2 yI
def jC:SemS:=(bD (xOf (aO sW (aA (aC 0) (aA (aC 1) aE)))))
def gL:Fn:=fnOf 2 jC
def iE:SemS:=(bD (xOf (aO oQ (aA (aC 0) (aA (aC 1) aE)))))
def fM:Fn:=fnOf 2 iE
def pZ (c1 c2:List D):R D:=(fnOf eI (eV [(0,fW c1 gL),(1,fW c2 fM)]) [(.int 0),.lst false [.fn 0,.fn 1]]).bind fun y=>.ok y.1
def aEq:SemS:=(aI (cT (bO eD (aA (vC (.str "bits")) (aA (aC 0) (aA (vC (.int 1)) (aA (vC (.int 6)) aE)))))) (aI (sIf (dA (dS (v1 (nR "bool") (aC 1)))) (eX "BadModel" (fun _=>some ("whether the counter goes down too is True or False" : Str).length)) aZ) (xV "counter" 2 3 4 [0] [1] ⟨241,4,242,37⟩ "counter.<locals>.go_up" ⟨244,4,245,39⟩ "counter.<locals>.go_down" pZ)))
def bA:Fn:=fnOf 5 aEq
def aAd:SemS:=(aI (sIf (aN (v2 kGe (v2 bB (v2 kIx (aC 0) (vC (.int 0))) (v2 kIx (aC 0) (vC (.int 1)))) (aC 1))) (bD (xOf (vC .non))) aZ) (bD (xOf (cQ (aA (cQ (aA (v2 bB (v2 kIx (aC 0) (vC (.int 0))) (vC (.int 1))) (aA (v2 kIx (aC 0) (vC (.int 1))) aE))) (aA (vC (.int 1)) aE))))))
def qK:Fn:=fnOf 2 aAd
def yP:SemS:=(aI (aX 1 (xOf (v2 kIx (aC 0) (vC (.int 0))))) (aI (aX 2 (xOf (v2 kIx (aC 0) (vC (.int 1))))) (aI (sIf (aN (v2 kGt (aC 2) (vC (.int 0)))) (bD (xOf (cQ (aA (cQ (aA (aC 1) (aA (v2 rT (aC 2) (vC (.int 1))) aE))) (aA (vC (.int 1)) aE))))) aZ) (aI (sIf (aN (v2 kGt (aC 1) (vC (.int 0)))) (bD (xOf (cQ (aA (cQ (aA (vC (.int 0)) (aA (v2 rT (aC 1) (vC (.int 1))) aE))) (aA (v2 bB (v2 fL (vC (.int 2)) (aC 1)) (vC (.int 1))) aE))))) aZ) (bD (xOf (vC .non)))))))
def kE:Fn:=fnOf 3 yP
def mV:SemS:=(bD (xOf (aO qK (aA (aC 0) (aA (aC 1) aE)))))
def jO:Fn:=fnOf 2 mV
def xG (c1:List D):R D:=(fnOf eI (eV [(0,fW c1 jO),(1,kE)]) [(.tup [.int 0,.int 0]),.lst false [.fn 0,.fn 1]]).bind fun y=>.ok y.1
def aL5:SemS:=(aI (cT (bO eD (aA (vC (.str "most")) (aA (aC 0) (aA (vC (.int 1)) (aA (vC (.int 15)) aE)))))) (aA4 "queue" 1 2 [0] ⟨262,4,263,37⟩ "queue.<locals>.put" xG))
def bE:Fn:=fnOf 3 aL5
def uE:SemS:=(aI (sIf (dS (aC 0)) (bD (xOf (v2 kIx (aC 0) (v2 dQ (aC 1) (vCB dZ (aA (aC 0) aE)))))) aZ) (bD (xOf (vC (.int 0)))))
def tH:Fn:=fnOf 2 uE
def aCh:SemS:=(aI (aX 2 (xOf (v2 dQ (v2 bB (aO tH (aA (aC 0) (aA (aC 1) aE))) (v2 fL (vC (.int 104729)) (v2 bB (aC 1) (vC (.int 1))))) (vC (.int 4294967291))))) (aI (aX 2 (xOf (v2 dQ (v2 fL (aC 2) (vC (.int 48271))) (vC (.int 4294967279))))) (bD (xOf (v2 dQ (v2 bB (v2 fL (v2 kY (aC 2) (vC (.int 64))) (vC (.int 69621))) (aC 2)) (vC (.int 4294967231)))))))
def cK:Fn:=fnOf 3 aCh
def aIa:SemS:=(aI (sIf (aN (v2 (kEq false) (aC 0) (vC (.int 0)))) (aI (aX 2 (xOf (vC (.int 0)))) (aI (cV (aN (v2 kGt (aC 1) (vC (.int 0)))) (aI (aX 2 (xOf (v2 bB (aC 2) (v2 dQ (aC 1) (vC (.int 2)))))) (aX 1 (xOf (v2 kY (aC 1) (vC (.int 2)))))) fuel) (gC 2))) aZ) (bD (xOf (vIf (aN (v2 (kEq false) (aC 0) (vC (.int 1)))) (v2 fL (vC (.int 2)) (v2 kIx (aC 1) (vC (.int 0)))) (vCB (k2i fun i j=>if j > i then j else i) (aA (vC (.int 0)) (aA (v2 rT (v2 fL (vC (.int 2)) (v2 kIx (aC 1) (vC (.int 0)))) (v2 kIx (aC 1) (vC (.int 1)))) aE)))))))
def pC:Fn:=fnOf 3 aIa
def jW:SemS:=(aI (aX 5 (xOf (v2 dQ (aO cK (aA (aC 0) (aA (aC 1) aE))) (vC (.int 3))))) (aI (aX 6 (xOf (aO cK (aA (aC 0) (aA (v2 bB (aC 1) (vC (.int 1))) aE))))) (aI (sIf (aN (v2 (kEq false) (aC 5) (vC (.int 0)))) (aI (bM [7,8] (bT bA (aA (v2 bB (vC (.int 1)) (v2 dQ (aC 6) (vC (.int 5)))) (aA (vC (.bl false)) aE)) [3] ["counter"])) (bD (xOf (cQ (aA (aC 5) (aA (aC 7) (aA (aC 8) (aA (cN (aA (vC (.int 2)) (aA (vC (.int 0)) aE))) aE)))))))) aZ) (aI (sIf (aN (v2 (kEq false) (aC 5) (vC (.int 1)))) (aI (bM [7,8] (bT bE (aA (v2 bB (vC (.int 1)) (v2 dQ (aC 6) (vC (.int 8)))) aE) [4] ["queue"])) (bD (xOf (cQ (aA (aC 5) (aA (aC 7) (aA (aC 8) (aA (cN (aA (vC (.int 3)) (aA (vC (.int 1)) aE))) aE)))))))) aZ) (aI (bM [7,8] (bT aL (aA (v2 bB (vC (.int 1)) (v2 dQ (aC 6) (vC (.int 12)))) (aA (v2 bB (vC (.int 2)) (v2 dQ (v2 kY (aC 6) (vC (.int 16))) (vC (.int 3)))) (aA (vC (.int 0)) aE))) [2] ["shelf"])) (bD (xOf (cQ (aA (aC 5) (aA (aC 7) (aA (aC 8) (aA (cN (aA (vC (.int 3)) (aA (vC (.int 1)) aE))) aE))))))))))))
def dW:Fn:=fnOf 9 jW
def aHb:SemS:=(aI (aX 2 (xOf (cN aE))) (aI (iC (jH (aC 0)) (bW 3) (aX 2 (xOf (v2 bB (aC 2) (dN (jH (aC 1)) 1 [3] (bW 0) eW (v2 bB (aC 1) (aC 0))))))) (gC 2)))
def oJ:Fn:=fnOf 4 aHb
def aAb:SemS:=(aI (bM [4,5,6,7] (bT dW (aA (aC 0) (aA (vC (.int 0)) aE)) [1,2,3] ["shelf", "counter", "queue"])) (aI (bM [8,9] (bO aV (aA (aC 5) (aA (aC 7) aE)))) (aI (sIf (gR (aN (v2 (kEq true) (aC 8) (vC (.str "purse")))) (dA (dS (aO jI (aA (aC 5) (aA (aC 7) (aA (aC 9) aE))))))) (bD (xOf (vC (.bl false)))) aZ) (aI (aX 10 (xOf (dN (jH (aC 6)) 1 [4] (bW 0) eW (aO pC (aA (aC 1) (aA (aC 0) aE)))))) (aI (sIf (gR (dA (dS (aO jI (aA (aC 5) (aA (aC 7) (aA (aC 10) aE)))))) (dS (vCB rS (aA (dN (iR1 (aA (vCB dZ (aA (aC 6) aE)) aE)) 1 [9,10] (bW 0) eW (v2 kGt (v2 kIx (aC 1) (aC 0)) (v2 kIx (aC 2) (aC 0)))) aE)))) (bD (xOf (vC (.bl false)))) aZ) (aI (sIf (cZ (aN (v2 (kEq false) (aC 4) (vC (.int 1)))) (cZ (aN (v2 kGt (vCB dZ (aA (aC 6) aE)) (vC (.int 3)))) (aN (v2 (kEq true) (v2 kIx (aO aV (aA (aC 5) (aA (cN (aA (vC (.int 2)) (aA (vC (.int 1)) aE))) aE))) (vC (.int 0))) (vC (.str "row")))))) (bD (xOf (vC (.bl false)))) aZ) (aI (sIf (cZ (aN (v2 (kEq false) (aC 4) (vC (.int 0)))) (cZ (aN (v2 kGt (vCB dZ (aA (aC 6) aE)) (vC (.int 2)))) (aN (v2 (kEq true) (v2 kIx (aO aV (aA (aC 5) (aA (cN (aA (vC (.int 1)) (aA (vC (.int 0)) aE))) aE))) (vC (.int 0))) (vC (.str "row")))))) (bD (xOf (vC (.bl false)))) aZ) (aI (sIf (aN (v2 kGt (v2 dQ (aO cK (aA (aC 0) (aA (vC (.int 9)) aE))) (vC (.int 4))) (vC (.int 0)))) (bD (xOf (vC (.bl true)))) aZ) (aI (aX 11 (tX (uL (bT bE (aA (v2 bB (vC (.int 1)) (v2 dQ (aO cK (aA (aC 0) (aA (vC (.int 5)) aE))) (vC (.int 3)))) aE) [3] ["queue"])) (uL (bT bA (aA (v2 bB (vC (.int 1)) (v2 dQ (aO cK (aA (aC 0) (aA (vC (.int 6)) aE))) (vC (.int 3)))) (aA (vC (.bl false)) aE)) [2] ["counter"])))) (aI (aX 12 (xOf (v2 kIx (aO aV (aA (v2 kIx (aC 11) (vC (.int 0))) (aA (cN (aA (vC (.int 3)) (aA (vC (.int 1)) aE))) aE))) (vC (.int 1))))) (aI (aX 13 (xOf (v2 kIx (aO aV (aA (v2 kIx (aC 11) (vC (.int 1))) (aA (cN (aA (vC (.int 2)) (aA (vC (.int 0)) aE))) aE))) (vC (.int 1))))) (aI (bM [8,14] (bO aV (aA (aO jZ (aA (v2 kIx (aC 11) (vC (.int 0))) (aA (v2 kIx (aC 11) (vC (.int 1))) aE))) (aA (cN (aA (vC (.int 3)) (aA (vC (.int 1)) (aA (vC (.int 2)) (aA (vC (.int 0)) aE))))) aE)))) (bD (xOf (wY (v2 (kEq false) (aC 8) (vC (.str "purse"))) (v2 (kEq false) (aC 14) (aO oJ (aA (aC 12) (aA (aC 13) aE)))))))))))))))))))
def aC3:Fn:=fnOf 15 aAb
end VL.K31
end
section
namespace VL.K31
open VL PySem
section
variable {a1 a2 f1 f2:Addr}
structure Rl (a1 a2 f1 f2:Addr) (ρ ρ':Env):Prop where
 len:ρ.length=ρ'.length
 off:∀i,i ≠ 1->i ≠ 7->ρ'[i]?=ρ[i]?
 s1:ρ[1]?=some (.val (.lst false [.fn a1,.fn a2]))
 s1':ρ'[1]?=some (.val (.lst false [.fn f1,.fn f2]))
 f7:free ρ 7=true
 f7':free ρ' 7=true
def xU (R:Env->Env->Prop):Out->Out->Prop
 | .next a,.next b=>R a b
 | .ret d _,.ret d' _=>d=d'
 | .brk a,.brk b=>R a b
 | .cont a,.cont b=>R a b
 | .exc c _,.exc c' _=>c=c'
 | .bad,.bad=>True
 | _,_=>False
theorem rC {ρ:Env} {i:Nat} (h:free ρ i=true):i < ρ.length:=by
 unfold free at h
 cases q:ρ[i]? with
 | none=>rw [q] at h;cases h
 | some _=>exact (List.getElem?_eq_some_iff.mp q).1
theorem Rl.set {ρ ρ':Env} (h:Rl a1 a2 f1 f2 ρ ρ') {i:Nat} (hi:i ≠ 1) (h7:i ≠ 7) (s:Slot):Rl a1 a2 f1 f2 (ρ.set i s) (ρ'.set i s):=by
 refine ⟨by simp [h.len],fun j h1 h2=>?_,by rw [List.getElem?_set_ne hi];exact h.s1,by rw [List.getElem?_set_ne hi];exact h.s1',?_,?_⟩
 ·rw [List.getElem?_set,List.getElem?_set,h.off j h1 h2,h.len]
 ·unfold free;rw [List.getElem?_set_ne h7];exact h.f7
 ·unfold free;rw [List.getElem?_set_ne h7];exact h.f7'
theorem Rl.set7 {ρ ρ':Env} (h:Rl a1 a2 f1 f2 ρ ρ') (d d':D):Rl a1 a2 f1 f2 (ρ.set 7 (.val d)) (ρ'.set 7 (.val d')):=by
 refine ⟨by simp [h.len],fun j h1 h2=>?_,by rw [List.getElem?_set_ne (by decide)];exact h.s1,by rw [List.getElem?_set_ne (by decide)];exact h.s1',?_,?_⟩
 ·rw [List.getElem?_set_ne h2.symm,List.getElem?_set_ne h2.symm,h.off j h1 h2]
 ·unfold free;rw [List.getElem?_set_self (rC h.f7)]
 ·unfold free;rw [List.getElem?_set_self (rC h.f7')]
theorem Rl.put {ρ ρ':Env} (h:Rl a1 a2 f1 f2 ρ ρ') {i:Nat} (hi:i ≠ 1) (h7:i ≠ 7) (d:D):Rl a1 a2 f1 f2 (putD ρ i d) (putD ρ' i d):=by
 unfold putD
 rw [h.off i hi h7]
 split
 ·exact h.set hi h7 _
 ·exact h.set hi h7 _
 ·exact h
theorem Rl.get {ρ ρ':Env} (h:Rl a1 a2 f1 f2 ρ ρ') {i:Nat} (hi:i ≠ 1) (h7:i ≠ 7):getD ρ' i=getD ρ i:=by
 unfold getD;rw [h.off i hi h7]
theorem Rl.free {ρ ρ':Env} (h:Rl a1 a2 f1 f2 ρ ρ') {i:Nat} (hi:i ≠ 1) (h7:i ≠ 7):VL.free ρ' i=VL.free ρ i:=by
 unfold VL.free;rw [h.off i hi h7]
def Bl {α:Type} (a1 a2 f1 f2:Addr) (f:Env->α):Prop:=∀ρ ρ',Rl a1 a2 f1 f2 ρ ρ'->f ρ'=f ρ
def Rs (a1 a2 f1 f2:Addr) (g g':SemS):Prop:=∀ρ ρ',Rl a1 a2 f1 f2 ρ ρ'->xU (Rl a1 a2 f1 f2) (g ρ) (g' ρ')
theorem pS {i:Nat} (hi:i ≠ 1) (h7:i ≠ 7):Bl a1 a2 f1 f2 (aC i):=fun ρ ρ' h=>by unfold aC;rw [h.off i hi h7]
theorem aE5 {d:D}:Bl a1 a2 f1 f2 (vC d):=fun _ _ _=>rfl
theorem zB {k:D×Bool->D×Bool->R (D×Bool)} {f g:aR} (hf:Bl a1 a2 f1 f2 f) (hg:Bl a1 a2 f1 f2 g):Bl a1 a2 f1 f2 (v2 k f g):=fun ρ ρ' h=>by unfold v2;rw [hf ρ ρ' h,hg ρ ρ' h]
theorem nH:Bl a1 a2 f1 f2 aE:=fun _ _ _=>rfl
theorem fT {f:aR} {g:cH} (hf:Bl a1 a2 f1 f2 f) (hg:Bl a1 a2 f1 f2 g):Bl a1 a2 f1 f2 (aA f g):=fun ρ ρ' h=>by unfold aA;rw [hf ρ ρ' h,hg ρ ρ' h]
theorem aVv {k:List (D×Bool)->R (D×Bool)} {g:cH} (hg:Bl a1 a2 f1 f2 g):Bl a1 a2 f1 f2 (vCB k g):=fun ρ ρ' h=>by unfold vCB;rw [hg ρ ρ' h]
theorem aBz {g:cH} (hg:Bl a1 a2 f1 f2 g):Bl a1 a2 f1 f2 (cQ g):=fun ρ ρ' h=>by unfold cQ;rw [hg ρ ρ' h]
theorem aI5 {g:cH} (hg:Bl a1 a2 f1 f2 g):Bl a1 a2 f1 f2 (cN g):=fun ρ ρ' h=>by unfold cN;rw [hg ρ ρ' h]
theorem aK6 {f g:aR} (hf:Bl a1 a2 f1 f2 f) (hg:Bl a1 a2 f1 f2 g):Bl a1 a2 f1 f2 (pI f g):=fun ρ ρ' h=>by unfold pI;rw [hf ρ ρ' h,hg ρ ρ' h]
theorem aTv {i:Nat} {f:aR} (hi:i ≠ 1) (h7:i ≠ 7) (hf:Bl a1 a2 f1 f2 f):Bl a1 a2 f1 f2 (jD i f):=fun ρ ρ' h=>by unfold jD;rw [hf ρ ρ' h,h.get hi h7]
theorem aXs {i:Nat} {f:aR} (hi:i ≠ 1) (h7:i ≠ 7) (hf:Bl a1 a2 f1 f2 f):Bl a1 a2 f1 f2 (qB i f):=fun ρ ρ' h=>by unfold qB;rw [hf ρ ρ' h,h.get hi h7]
theorem aIr {f:aR} (hf:Bl a1 a2 f1 f2 f):Bl a1 a2 f1 f2 (aN f):=fun ρ ρ' h=>by unfold aN;rw [hf ρ ρ' h]
theorem aKn:Bl a1 a2 f1 f2 (vCB dZ (aA (aC 1) aE)):=fun ρ ρ' h=>by
 simp only [vCB,aA,aC,h.s1,h.s1',aE,R.bind];rfl
theorem aDh:Rs a1 a2 f1 f2 aZ aZ:=fun _ _ h=>h
theorem lE {f f' g g':SemS} (hf:Rs a1 a2 f1 f2 f f') (hg:Rs a1 a2 f1 f2 g g'):Rs a1 a2 f1 f2 (aI f g) (aI f' g'):=fun ρ ρ' h=>by
 have:=hf ρ ρ' h
 unfold aI
 generalize f ρ=o at this
 generalize f' ρ'=o' at this
 cases o<;>cases o'<;>first | exact this.elim | exact hg _ _ this | exact this
theorem aP7 {c:dC} {f f' g g':SemS} (hc:Bl a1 a2 f1 f2 c) (hf:Rs a1 a2 f1 f2 f f') (hg:Rs a1 a2 f1 f2 g g'):Rs a1 a2 f1 f2 (sIf c f g) (sIf c f' g'):=fun ρ ρ' h=>by
 unfold sIf
 rw [hc ρ ρ' h]
 split
 ·exact hf ρ ρ' h
 ·exact hg ρ ρ' h
 ·trivial
 ·trivial
theorem aC1 {i:Nat} {f f':aR} {ρ ρ':Env} (hi:i ≠ 1) (h7:i ≠ 7) (h:Rl a1 a2 f1 f2 ρ ρ') (e:f' ρ'=f ρ):xU (Rl a1 a2 f1 f2) (aX i (xOf f) ρ) (aX i (xOf f') ρ'):=by
 unfold aX xOf
 rw [e]
 cases f ρ with
 | exc _=>trivial
 | bad=>trivial
 | ok x =>
  dsimp only
  rw [h.free hi h7]
  split
  ·exact h.set hi h7 _
  ·trivial
theorem xK {i:Nat} {f:aR} (hi:i ≠ 1) (h7:i ≠ 7) (hf:Bl a1 a2 f1 f2 f):Rs a1 a2 f1 f2 (aX i (xOf f)) (aX i (xOf f)):=fun ρ ρ' h=>aC1 hi h7 h (hf ρ ρ' h)
theorem aH8 {i:Nat} {f:aR} (hi:i ≠ 1) (h7:i ≠ 7) (hf:Bl a1 a2 f1 f2 f):Rs a1 a2 f1 f2 (cR i f) (cR i f):=fun ρ ρ' h=>by
 unfold cR
 rw [hf ρ ρ' h,h.get hi h7]
 cases f ρ with
 | exc _=>trivial
 | bad=>trivial
 | ok x =>
  dsimp only
  split
  ·exact h.put hi h7 _
  ·trivial
theorem aNc {i:Nat} {f g:aR} (hi:i ≠ 1) (h7:i ≠ 7) (hf:Bl a1 a2 f1 f2 f) (hg:Bl a1 a2 f1 f2 g):Rs a1 a2 f1 f2 (kP i f g) (kP i f g):=fun ρ ρ' h=>by
 unfold kP
 rw [hf ρ ρ' h,hg ρ ρ' h,h.get hi h7]
 split
 ·split
  ·split
   ·exact h.put hi h7 _
   ·trivial
  ·trivial
 ·trivial
theorem aQv {i:Nat} {o:Int->Int->Int} {f:aR} (hi:i ≠ 1) (h7:i ≠ 7) (hf:Bl a1 a2 f1 f2 f):Rs a1 a2 f1 f2 (pT i o f) (pT i o f):=fun ρ ρ' h=>by
 unfold pT
 rw [hf ρ ρ' h,h.get hi h7,h.free hi h7]
 split
 ·split
  ·split
   ·exact h.set hi h7 _
   ·trivial
  ·trivial
  ·trivial
  ·trivial
 ·trivial
theorem aCm {o o':Out} {g g':Env->Out} (h:xU (Rl a1 a2 f1 f2) o o') (hg:∀ρ ρ',Rl a1 a2 f1 f2 ρ ρ'->xU (Rl a1 a2 f1 f2) (g ρ) (g' ρ')):xU (Rl a1 a2 f1 f2) (fR o g) (fR o' g'):=by
 cases o<;>cases o'<;>first | exact h.elim | exact hg _ _ h | exact h
theorem aAn {c:dC} {b b':SemS} (hc:Bl a1 a2 f1 f2 c) (hb:Rs a1 a2 f1 f2 b b'):∀n,Rs a1 a2 f1 f2 (cV c b n) (cV c b' n)
 | 0=>fun _ _ _=>trivial
 | n+1=>fun ρ ρ' h=>by
  unfold cV
  rw [hc ρ ρ' h]
  split
  ·exact aCm (hb ρ ρ' h) (aAn hc hb n)
  ·exact h
  ·trivial
  ·trivial
theorem aRj {is:T0} {g g':SemS} (hi:∀i∈is,i ≠ 1/\i ≠ 7) (hg:Rs a1 a2 f1 f2 g g'):Rs a1 a2 f1 f2 (jE is g) (jE is g'):=fun ρ ρ' h=>by
 unfold jE
 refine hg _ _ ?_
 induction is generalizing ρ ρ' with
 | nil=>exact h
 | cons i is ih =>
  refine ih (fun j hj=>hi j (List.mem_cons_of_mem _ hj)) _ _ ?_
  obtain ⟨h1,h7⟩:=hi i List.mem_cons_self
  unfold frz1
  rw [h.get h1 h7]
  split
  ·exact h.put h1 h7 _
  ·exact h
theorem aUk {f:aR} (hf:Bl a1 a2 f1 f2 f):Rs a1 a2 f1 f2 (bD (xOf f)) (bD (xOf f)):=fun ρ ρ' h=>by
 unfold bD xOf
 rw [hf ρ ρ' h]
 cases f ρ with
 | exc _=>trivial
 | bad=>trivial
 | ok x =>
  dsimp only
  split
  ·rfl
  ·trivial
theorem aNk {k:Int} {d d':D} {ρ ρ':Env} (h:Rl a1 a2 f1 f2 ρ ρ') (hd:d.calm=true) (hd':d'.calm=true) :
  (eP [6,7] (.tup [.int k,d]) ρ=none/\eP [6,7] (.tup [.int k,d']) ρ'=none) \/
  (eP [6,7] (.tup [.int k,d]) ρ=some ((ρ.set 6 (.val (.int k))).set 7 (.val d))/\eP [6,7] (.tup [.int k,d']) ρ'=some ((ρ'.set 6 (.val (.int k))).set 7 (.val d'))):=by
 have e6:=h.free (i:=6) (by decide) (by decide)
 have g7:free (ρ.set 6 (.val (.int k))) 7=true:=by unfold free;rw [List.getElem?_set_ne (by decide)];exact h.f7
 have g7':free (ρ'.set 6 (.val (.int k))) 7=true:=by unfold free;rw [List.getElem?_set_ne (by decide)];exact h.f7'
 have hk:(D.int k).calm=true:=rfl
 cases q:free ρ 6 with
 | false =>
  rw [q] at e6
  exact .inl ⟨by simp [eP,cX,bW,q,hk],by simp [eP,cX,bW,e6,hk]⟩
 | true =>
  rw [q] at e6
  exact .inr ⟨by simp [eP,cX,bW,q,hk,hd,g7],by simp [eP,cX,bW,e6,hk,hd',g7']⟩
theorem aI0 {F1 F2:Fn} (na:a1 ≠ a2) (nf:f1 ≠ f2):Rs a1 a2 f1 f2 (eV [(a1,F1),(a2,F2)]) (eV [(f1,F1),(f2,F2)]):=by
 unfold eV
 have v0:Bl a1 a2 f1 f2 (aC 0):=pS (by decide) (by decide)
 have v2':Bl a1 a2 f1 f2 (aC 2):=pS (by decide) (by decide)
 have v4:Bl a1 a2 f1 f2 (aC 4):=pS (by decide) (by decide)
 have v5:Bl a1 a2 f1 f2 (aC 5):=pS (by decide) (by decide)
 have v6:Bl a1 a2 f1 f2 (aC 6):=pS (by decide) (by decide)
 have v8:Bl a1 a2 f1 f2 (aC 8):=pS (by decide) (by decide)
 have l2:Bl a1 a2 f1 f2 (vCB dZ (aA (aC 2) aE)):=aVv (fT v2' nH)
 have i80:Bl a1 a2 f1 f2 (v2 kIx (aC 8) (vC (.int 0))):=zB v8 aE5
 refine lE (xK (by decide) (by decide) (aI5 (fT v0 nH))) (lE (xK (by decide) (by decide) (aK6 v0 aE5)) (lE (xK (by decide) (by decide) (aI5 nH)) (lE (xK (by decide) (by decide) aE5) (lE (aAn (aIr (zB v5 l2)) (lE ?_ (aQv (by decide) (by decide) aE5)) fuel)
  (aRj (by decide) (aUk (aBz (fT (aBz (fT l2 (fT aKn (fT v4 nH)))) (fT v2' nH)))))))))
 intro ρ ρ' h
 have body:∀ {d d':D} {ρ ρ':Env},Rl a1 a2 f1 f2 ρ ρ'->ρ[7]?=some (.val d)->ρ'[7]?=some (.val d')->((d=.fn a1/\d'=.fn f1)\/(d=.fn a2/\d'=.fn f2))->∀g g':SemS,Rs a1 a2 f1 f2 g g' ->
   xU (Rl a1 a2 f1 f2) (aI (aX 8 (xOf (iV [(a1,F1),(a2,F2)] 7 (aA (v2 kIx (aC 2) (aC 5)) aE)))) g ρ) (aI (aX 8 (xOf (iV [(f1,F1),(f2,F2)] 7 (aA (v2 kIx (aC 2) (aC 5)) aE)))) g' ρ'):=fun {d d' ρ ρ'} h e e' hd g g' hg=>by
  have eg:(aA (v2 kIx (aC 2) (aC 5)) aE) ρ'=(aA (v2 kIx (aC 2) (aC 5)) aE) ρ:=fT (zB v2' v5) nH ρ ρ' h
  have ec:iV [(f1,F1),(f2,F2)] 7 (aA (v2 kIx (aC 2) (aC 5)) aE) ρ'=iV [(a1,F1),(a2,F2)] 7 (aA (v2 kIx (aC 2) (aC 5)) aE) ρ:=by
   have g1:getD ρ 7=some d:=by unfold getD;rw [e];rfl
   have g2:getD ρ' 7=some d':=by unfold getD;rw [e'];rfl
   unfold iV
   rw [g1,g2]
   rcases hd with ⟨rfl,rfl⟩ | ⟨rfl,rfl⟩
   ·have x1:List.lookup f1 [(f1,F1),(f2,F2)]=some F1:=by simp [List.lookup]
    have x2:List.lookup a1 [(a1,F1),(a2,F2)]=some F1:=by simp [List.lookup]
    dsimp only
    rw [x1,x2]
    dsimp only
    unfold aO
    rw [eg]
   ·have y1:(f2 == f1)=false:=beq_eq_false_iff_ne.mpr fun z=>nf z.symm
    have y2:(a2 == a1)=false:=beq_eq_false_iff_ne.mpr fun z=>na z.symm
    have x1:List.lookup f2 [(f1,F1),(f2,F2)]=some F2:=by simp [List.lookup,y1]
    have x2:List.lookup a2 [(a1,F1),(a2,F2)]=some F2:=by simp [List.lookup,y2]
    dsimp only
    rw [x1,x2]
    dsimp only
    unfold aO
    rw [eg]
  have:=aC1 (i:=8) (by decide) (by decide) h ec
  unfold aI
  generalize (aX 8 (xOf (iV [(a1,F1),(a2,F2)] 7 (aA (v2 kIx (aC 2) (aC 5)) aE))) ρ)=o at this
  generalize (aX 8 (xOf (iV [(f1,F1),(f2,F2)] 7 (aA (v2 kIx (aC 2) (aC 5)) aE))) ρ')=o' at this
  cases o<;>cases o'<;>first | exact this.elim | exact hg _ _ this | exact this
 have rest:Rs a1 a2 f1 f2 (sIf (aN (v2 (jQ true) (aC 8) (vC .non))) (aI (sIf (aN (jD 3 (v2 kIx (aC 8) (vC (.int 0))))) (aI (kP 3 (v2 kIx (aC 8) (vC (.int 0))) (vCB dZ (aA (aC 2) aE))) (cR 2 (v2 kIx (aC 8) (vC (.int 0))))) aZ) (cR 4 (cQ (aA (aC 5) (aA (aC 6) (aA (qB 3 (v2 kIx (aC 8) (vC (.int 0)))) (aA (v2 kIx (aC 8) (vC (.int 1))) aE))))))) aZ)
   (sIf (aN (v2 (jQ true) (aC 8) (vC .non))) (aI (sIf (aN (jD 3 (v2 kIx (aC 8) (vC (.int 0))))) (aI (kP 3 (v2 kIx (aC 8) (vC (.int 0))) (vCB dZ (aA (aC 2) aE))) (cR 2 (v2 kIx (aC 8) (vC (.int 0))))) aZ) (cR 4 (cQ (aA (aC 5) (aA (aC 6) (aA (qB 3 (v2 kIx (aC 8) (vC (.int 0)))) (aA (v2 kIx (aC 8) (vC (.int 1))) aE))))))) aZ) :=
  aP7 (aIr (zB v8 aE5)) (lE (aP7 (aIr (aTv (by decide) (by decide) i80)) (lE (aNc (by decide) (by decide) i80 l2) (aH8 (by decide) (by decide) i80)) aDh)
   (aH8 (by decide) (by decide) (aBz (fT v5 (fT v6 (fT (aXs (by decide) (by decide) i80) (fT (zB v8 aE5) nH))))))) aDh
 have step:∀ {k:Int} {d d':D} {ρ ρ':Env} {g g':Env->Out},Rl a1 a2 f1 f2 ρ ρ'->d.calm=true->d'.calm=true->((d=.fn a1/\d'=.fn f1)\/(d=.fn a2/\d'=.fn f2))->(∀ρ ρ',Rl a1 a2 f1 f2 ρ ρ'->xU (Rl a1 a2 f1 f2) (g ρ) (g' ρ'))->∀B B':SemS,
   (∀ρ ρ',Rl a1 a2 f1 f2 ρ ρ'->ρ[7]?=some (.val d)->ρ'[7]?=some (.val d')->xU (Rl a1 a2 f1 f2) (B ρ) (B' ρ')) ->
   xU (Rl a1 a2 f1 f2) (match eP [6,7] (.tup [.int k,d]) ρ with | none=>.bad | some ρ1=>fR (B ρ1) g) (match eP [6,7] (.tup [.int k,d']) ρ' with | none=>.bad | some ρ1=>fR (B' ρ1) g'):=fun {k d d' ρ ρ' g g'} h hc hc' hd hg B B' hB=>by
  rcases aNk (k:=k) h hc hc' with ⟨e1,e2⟩ | ⟨e1,e2⟩
  ·rw [e1,e2];trivial
  ·rw [e1,e2]
   have r:=(h.set (i:=6) (by decide) (by decide) (.val (.int k))).set7 d d'
   exact aCm (hB _ _ r (List.getElem?_set_self (by rw [List.length_set];exact rC h.f7)) (List.getElem?_set_self (by rw [List.length_set];exact rC h.f7'))) hg
 have i1:kG (aC 1) ρ=.ok [.tup [.int 0,.fn a1],.tup [.int 1,.fn a2]]:=by
  simp only [kG,aC,h.s1,R.bind];rfl
 have i1':kG (aC 1) ρ'=.ok [.tup [.int 0,.fn f1],.tup [.int 1,.fn f2]]:=by
  simp only [kG,aC,h.s1',R.bind];rfl
 unfold iC
 rw [i1,i1']
 dsimp only
 unfold forL
 refine step h rfl rfl (.inl ⟨rfl,rfl⟩) (fun ρ2 ρ2' h2=>?_) _ _ fun ρ1 ρ1' h1 e e'=>body h1 e e' (.inl ⟨rfl,rfl⟩) _ _ rest
 unfold forL
 refine step h2 rfl rfl (.inr ⟨rfl,rfl⟩) (fun ρ3 ρ3' h3=>?_) _ _ fun ρ1 ρ1' h1 e e'=>body h1 e e' (.inr ⟨rfl,rfl⟩) _ _ rest
 unfold forL
 exact h3
end
theorem nT {F1 F2:Fn} {d0 d:D} {f1 f2:Addr} (hc:d0.calm=true) (h:(fnOf eI (eV [(0,F1),(1,F2)]) [d0,.lst false [.fn 0,.fn 1]]).bind (fun y=>R.ok y.1)=.ok d) (nf:f1 ≠ f2) :
  ∃os,fnOf eI (eV [(f1,F1),(f2,F2)]) [d0,.lst false [.fn f1,.fn f2]]=.ok (d,os):=by
 have e:∀a b:Addr,entry eI [d0,.lst false [.fn a,.fn b]]=[.val d0,.val (.lst false [.fn a,.fn b]),.un,.un,.un,.un,.un,.un,.un]:=fun a b=>by
  unfold entry eI
  simp only [List.map_cons,List.map_nil,hc,if_pos]
  rfl
 have r:Rl 0 1 f1 f2 (entry eI [d0,.lst false [.fn 0,.fn 1]]) (entry eI [d0,.lst false [.fn f1,.fn f2]]):=by
  rw [e,e]
  refine ⟨rfl,fun i h1 _=>?_,rfl,rfl,rfl,rfl⟩
  match i,h1 with
  | 0,_=>rfl
  | 1,h1=>exact absurd rfl h1
  | i+2,_=>rfl
 have:=aI0 (F1:=F1) (F2:=F2) (by decide) nf _ _ r
 unfold fnOf at h ⊢
 generalize eV [(0,F1),(1,F2)] (entry eI [d0,.lst false [.fn 0,.fn 1]])=o at this h
 generalize eV [(f1,F1),(f2,F2)] (entry eI [d0,.lst false [.fn f1,.fn f2]])=o' at this ⊢
 cases o<;>cases o'<;>first | exact this.elim | skip
 ·cases h;exact ⟨_,rfl⟩
 ·cases h
  have:_=_:=this
  rw [this]
  exact ⟨_,rfl⟩
 ·cases h
 ·cases h
 ·cases h
 ·cases h
end VL.K31
end
section
namespace VL
open PySem PySem.Spec PyProof.Rows L2
theorem dB {X:Cx} {pos:Pos} {x:Str} {i:Int} (hm:∃t,X.mg x=some (.int i t)) (hg:Gl X x:=by rfl) (hd:(x == ("__debug__" : Str))=false:=by decide):SE X (.Name x pos) (vC (.int i)):=by
 obtain ⟨t,hm⟩:=hm
 exact aKo hm hg hd
theorem al1 {f0:aR}:lA 1 (aA f0 aE):=mE aJr
theorem al2 {f0 f1:aR}:lA 2 (aA f0 (aA f1 aE)):=mE al1
theorem al3 {f0 f1 f2:aR}:lA 3 (aA f0 (aA f1 (aA f2 aE))):=mE al2
theorem al4 {f0 f1 f2 f3:aR}:lA 4 (aA f0 (aA f1 (aA f2 (aA f3 aE)))):=mE al3
namespace K31
structure XT (K:FG) (mg:Y6) (M C D:Addr):Prop where
 mM:mg "BadMachine" = some (.ref M)
 cM:qN K "BadMachine" M
 xM:PySem.W.excIn K M bmV "ValueError.__new__" = true
 mC:mg "BadPrices" = some (.ref C)
 cC:qN K "BadPrices" C
 xC:PySem.W.excIn K C bmV "ValueError.__new__" = true
 mD:mg "BadModel" = some (.ref D)
 cD:qN K "BadModel" D
 xD:PySem.W.excIn K D bmV "ValueError.__new__" = true
def top (i:Nat):Stmt:=PySem.Challenge.pw_pursehall_k31_whole_known_purses.main.body.getD i (.Pass ⟨0,0,0,0⟩)
def nst (i j:Nat):Stmt:=(cL (top i)).getD j (.Pass ⟨0,0,0,0⟩)
structure Txt (K:FG) (mg:Y6):Prop where
 n_any:mg "any" = none
 n_bool:mg "bool" = none
 n_enumerate:mg "enumerate" = none
 n_int:mg "int" = none
 n_isinstance:mg "isinstance" = none
 n_len:mg "len" = none
 n_list:mg "list" = none
 n_max:mg "max" = none
 n_min:mg "min" = none
 n_range:mg "range" = none
 n_sorted:mg "sorted" = none
 n_sum:mg "sum" = none
 n_tuple:mg "tuple" = none
 i_MOST_PLACES:∃t,mg "MOST_PLACES" = some (.int 200 t)
 i_MOST_KINDS:∃t,mg "MOST_KINDS" = some (.int 8 t)
 i_MOST_DEEDS:∃t,mg "MOST_DEEDS" = some (.int 600 t)
 i_MOST_COST:∃t,mg "MOST_COST" = some (.int 1000 t)
 i_MOST_PRICE:∃t,mg "MOST_PRICE" = some (.int 1000 t)
 i_MOST_ITEMS:∃t,mg "MOST_ITEMS" = some (.int 30 t)
 i_LEAST_GROW:∃t,mg "LEAST_GROW" = some (.int 2 t)
 i_MOST_GROW:∃t,mg "MOST_GROW" = some (.int 4 t)
 i_MOST_SHRINK:∃t,mg "MOST_SHRINK" = some (.int 9 t)
 i_MOST_BITS:∃t,mg "MOST_BITS" = some (.int 6 t)
 i_MOST_QUEUE:∃t,mg "MOST_QUEUE" = some (.int 15 t)
 d_is_whole:FnAt K "is_whole" (top 6)
 d_is_between:FnAt K "is_between" (top 7)
 d_is_deed:FnAt K "is_deed" (top 13)
 d_look_deeds:FnAt K "look_deeds" (top 14)
 d_look_machine:FnAt K "look_machine" (top 15)
 d_deeds_from:FnAt K "deeds_from" (top 16)
 d_came_by:FnAt K "came_by" (top 17)
 d_reached:FnAt K "reached" (top 18)
 d_deeds_of_one:FnAt K "deeds_of_one" (top 19)
 d_deeds_of_other:FnAt K "deeds_of_other" (top 20)
 d_beside:FnAt K "beside" (top 21)
 d_gain_of:FnAt K "gain_of" (top 23)
 d_way_to:FnAt K "way_to" (top 24)
 d_row_onward:FnAt K "row_onward" (top 25)
 d_ring_onward:FnAt K "ring_onward" (top 26)
 d_raise_once:FnAt K "raise_once" (top 27)
 d_most_gains:FnAt K "most_gains" (top 28)
 d_look_prices:FnAt K "look_prices" (top 31)
 d_costs_over:FnAt K "costs_over" (top 32)
 d_pays:FnAt K "pays" (top 33)
 d_broken_by_ring:FnAt K "broken_by_ring" (top 34)
 d_least_purse:FnAt K "least_purse" (top 35)
 d_look_measure:FnAt K "look_measure" (top 43)
 d_grown:FnAt K "grown" (top 44)
 d_shelf_put:FnAt K "shelf_put" (top 45)
 d_shelf_take:FnAt K "shelf_take" (top 46)
 d_shelf:FnAt K "shelf" (top 47)
 d_turned_bits:FnAt K "turned_bits" (top 48)
 d_count_up:FnAt K "count_up" (top 49)
 d_count_down:FnAt K "count_down" (top 50)
 d_counter:FnAt K "counter" (top 51)
 d_queue_put:FnAt K "queue_put" (top 52)
 d_queue_take:FnAt K "queue_take" (top 53)
 d_queue:FnAt K "queue" (top 54)
 d_q_cell:FnAt K "_law_cell" (top 56)
 d_q_mix:FnAt K "_law_mix" (top 57)
 d_q_most:FnAt K "_law_most" (top 58)
 d_q_model:FnAt K "_law_model" (top 59)
 d_q_sums:FnAt K "_law_sums" (top 60)
 d_law:FnAt K "law" (top 61)
 nt:fX K=true
 xc:∃M C D,XT K mg M C D
structure BT (K:FG) (mg:Y6) (base:Heap):Prop where
 shelf:BT1 K mg base "shelf"
 counter:BT1 K mg base "counter"
 queue:BT1 K mg base "queue"
abbrev KnT (P:Program) (w:World) (K:FG) (mg:Y6) (base:Heap) (l:Nat) (n:Str) (k:Nat) (f:Fn):Prop:=Txt K mg->K.In base->base.Ns mainGlobals mg->Kn P w K mg base l n k f
abbrev aKs (P:Program) (w:World) (K:FG) (mg:Y6) (base:Heap) (l:Nat) (n:Str) (k:Nat) (gx:List Str) (f:Fn):Prop:=Txt K mg->K.In base->base.Ns mainGlobals mg->BT K mg base->KnG P w K mg base l n k gx f
section
variable {P:Program} {w:World} {K:FG} {mg:Y6} {base:Heap}
def aBs:List Str:=["thing"]
theorem aAx:FnScope aBs ["thing"] (aG (top 6)):=⟨rfl,rfl,rfl,by decide +kernel,rfl,by decide +kernel,by decide +kernel⟩
theorem aAj:KnT P w K mg base 1 "is_whole" 1 nK:=fun T kb nb =>
 cS T.d_is_whole kb nb aAx rfl rfl (by decide) (fun _ _ _ _ _ _ us hl=>match us,hl with | [_],_=>rfl) fun f cdv A outer s H E hr =>
  (aM (bI (aQ (yO (nQ (T' := "int") (by decide) (aB 0) T.n_isinstance T.n_int (by decide +kernel)) (rJ (aQy (nQ (T' := "bool") (by decide) (aB 0) T.n_isinstance T.n_bool (by decide +kernel))))))))
def yL:List Str:=["thing", "least", "most"]
theorem uR:FnScope yL ["thing", "least", "most"] (aG (top 7)):=⟨rfl,rfl,rfl,by decide +kernel,rfl,by decide +kernel,by decide +kernel⟩
theorem cO:KnT P w K mg base 2 "is_between" 3 bV:=fun T kb nb =>
 cS T.d_is_between kb nb uR rfl rfl (by decide) (fun _ _ _ _ _ _ us hl=>match us,hl with | [_,_,_],_=>rfl) fun f cdv A outer s H E hr =>
  (aM (bI (aQ (yO (bC (aAj T kb nb) (hr.mono (by decide)) (saN (aB 0) aH) al1) (rJ (aF8 aGt aGt (aB 1) (aB 0) (aB 2)))))))
def aD0:List Str:=["machine", "deed", "last_place"]
theorem tT:FnScope aD0 ["machine", "deed"] (aG (top 13)):=⟨rfl,rfl,rfl,by decide +kernel,rfl,by decide +kernel,by decide +kernel⟩
theorem aBe:KnT P w K mg base 3 "is_deed" 2 pR:=fun T kb nb =>
 cS T.d_is_deed kb nb tT rfl rfl (by decide) (fun _ _ _ _ _ _ us hl=>match us,hl with | [_,_],_=>rfl) fun f cdv A outer s H E hr =>
  (aF (cI (nO (mU (fJ (eB (nQ (T' := "tuple") (by decide) (aB 1) T.n_isinstance T.n_tuple (by decide +kernel)))) (kR (lC hr (fV T.n_len (aB 1)) aD)))) (aM (bI (aQ kZ))) bP) (aF (aY 2 tT.nd (aQ (jR (aK (aB 0) aD) aD))) (aF (cI (nO (mU (fJ (eB (bC (cO T kb nb) (hr.mono (by decide)) (saS (aK (aB 1) aD) (saC aD (saN (aB 2) aH))) al3))) (kR (fJ (eB (bC (cO T kb nb) (hr.mono (by decide)) (saS (aK (aB 1) aD) (saC aD (saN (aB 2) aH))) al3)))))) (aM (bI (aQ kZ))) bP) (aM (bI (aQ (yO (bC (cO T kb nb) (hr.mono (by decide)) (saS (aK (aB 1) aD) (saC aD (saB (jR (aK (aB 0) aD) aD) aH))) al3) (rJ (bC (cO T kb nb) (hr.mono (by decide)) (saS (aK (aB 1) aD) (saC aD (saN (dB T.i_MOST_COST) aH))) al3)))))))))
def xH:List Str:=["machine", "deeds", "number", "deed"]
theorem fP:FnScope xH ["machine"] (aG (top 14)):=⟨rfl,rfl,rfl,by decide +kernel,rfl,by decide +kernel,by decide +kernel⟩
theorem uW:KnT P w K mg base 4 "look_deeds" 1 kK:=fun T kb nb=>by
 obtain ⟨_,_,_,XX⟩:=T.xc
 exact cS T.d_look_deeds kb nb fP rfl rfl (by decide) (fun _ _ _ _ _ _ us hl=>match us,hl with | [_],_=>rfl) fun f cdv A outer s H E hr =>
  (aF (aY 1 fP.nd (aQ (aK (aB 0) aD))) (aF (cI (nO (mU (fJ (eB (nQ (T' := "list") (by decide) (aB 1) T.n_isinstance T.n_list (by decide +kernel)))) (kR (kX (fV T.n_len (aB 1)) (dB T.i_MOST_DEEDS))))) (aM (fN jL rfl XX.cM XX.xM XX.mM (kO (bU eZ (bU (iO (dB T.i_MOST_DEEDS)) (bU eZ kS)))))) bP) (aF (gJ bY.own rfl (lZ T.n_enumerate (aB 1)) (nD rfl (eE (dH 2 fP.nd) (eE (dH 3 fP.nd) kW)) rfl rfl) (mG rfl) (aM (cI (fJ (eB (bC (aBe T kb nb) (hr.mono (by decide)) (saN (aB 0) (saN (aB 3) aH)) al2))) (aM (fN jL rfl XX.cM XX.xM XX.mM (kO (bU eZ (bU (iO (aB 2)) (bU eZ kS)))))) bP))) (aM (gJ bY.own rfl (aDz T.n_range (saC aD (saK (fV T.n_len (aB 1)) aH))) (dH 2 fP.nd) cJ (aM (cI (aT7 hr (aK (aB 1) (aB 2)) (aK (aB 1) (jR (aB 2) aD))) (aM (fN jL rfl XX.cM XX.xM XX.mM (kO (bU eZ (bU (iO (aB 2)) (bU eZ kS)))))) bP)))))))
def sI:List Str:=["machine"]
theorem qQ:FnScope sI ["machine"] (aG (top 15)):=⟨rfl,rfl,rfl,by decide +kernel,rfl,by decide +kernel,by decide +kernel⟩
theorem eQ:KnT P w K mg base 5 "look_machine" 1 bH:=fun T kb nb=>by
 obtain ⟨_,_,_,XX⟩:=T.xc
 exact cS T.d_look_machine kb nb qQ rfl rfl (by decide) (fun _ _ _ _ _ _ us hl=>match us,hl with | [_],_=>rfl) fun f cdv A outer s H E hr =>
  (aF (cI (nO (mU (fJ (eB (nQ (T' := "tuple") (by decide) (aB 0) T.n_isinstance T.n_tuple (by decide +kernel)))) (kR (lC hr (fV T.n_len (aB 0)) aD)))) (aM (fN jL rfl XX.cM XX.xM XX.mM eZ)) bP) (aF (cI (fJ (eB (bC (cO T kb nb) (hr.mono (by decide)) (saS (aK (aB 0) aD) (saC aD (saN (dB T.i_MOST_PLACES) aH))) al3))) (aM (fN jL rfl XX.cM XX.xM XX.mM (kO (bU eZ (bU (iO (dB T.i_MOST_PLACES)) (bU eZ kS)))))) bP) (aF (cI (fJ (eB (bC (cO T kb nb) (hr.mono (by decide)) (saS (aK (aB 0) aD) (saC aD (saN (dB T.i_MOST_KINDS) aH))) al3))) (aM (fN jL rfl XX.cM XX.xM XX.mM (kO (bU eZ (bU (iO (dB T.i_MOST_KINDS)) (bU eZ kS)))))) bP) (aM (fF (dD bY (uW T kb nb) (hr.mono (by decide)) (saN (aB 0) aH) al1))))))
def oO:List Str:=["machine", "numbers", "number", "deed"]
theorem gW:FnScope oO ["machine"] (aG (top 16)):=⟨rfl,rfl,rfl,by decide +kernel,rfl,by decide +kernel,by decide +kernel⟩
theorem uO:KnT P w K mg base 1 "deeds_from" 1 oI:=fun T kb nb =>
 cS T.d_deeds_from kb nb gW rfl rfl (by decide) (fun _ _ _ _ _ _ us hl=>match us,hl with | [_],_=>rfl) fun f cdv A outer s H E hr =>
  (aF (hO 1 gW.nd (aG (top 16)) oO ["place"] 1 [] rfl rfl rfl (gA T.n_range (saS (aK (aB 0) aD) aH)) cJ (by decide +kernel) fun _ _ _ _=>⟨(dH 0 (show List.Nodup (["place"]:List Str) from (by decide +kernel))),uN,(dF aH)⟩) (aF (gJ bY.own rfl (lZ T.n_enumerate (aK (aB 0) aD)) (nD rfl (eE (dH 2 gW.nd) (eE (dH 3 gW.nd) kW)) rfl rfl) (mG rfl) (aM (aAv 1 (aK (aB 3) aD) (aB 2)))) (aM (fU 1))))
def wD:List Str:=["machine", "onward", "came", "places", "at", "number", "place"]
theorem fB:FnScope wD ["machine"] (aG (top 17)):=⟨rfl,rfl,rfl,by decide +kernel,rfl,by decide +kernel,by decide +kernel⟩
theorem tM:KnT P w K mg base 2 "came_by" 1 jX:=fun T kb nb =>
 cS T.d_came_by kb nb fB rfl rfl (by decide) (fun _ _ _ _ _ _ us hl=>match us,hl with | [_],_=>rfl) fun f cdv A outer s H E hr =>
  (aF (aY 1 fB.nd (aQ (bC (uO T kb nb) (hr.mono (by decide)) (saN (aB 0) aH) al1))) (aF (hO 2 fB.nd (aG (top 17)) wD ["place"] 1 [] rfl rfl rfl (gA T.n_range (saS (aK (aB 0) aD) aH)) cJ (by decide +kernel) fun _ _ _ _=>⟨(dH 0 (show List.Nodup (["place"]:List Str) from (by decide +kernel))),uN,fK⟩) (aF (aY 3 fB.nd (aQ (dF (saC aD aH)))) (aF (aY 4 fB.nd (aQ aD)) (aF (nU [1] (hV fuel bY.own (aAl (aB 4) (fV T.n_len (aB 3))) (aF (gJ bY.own rfl (jT (aK (aB 1) (aK (aB 3) (aB 4)))) (dH 5 fB.nd) cJ (aF (aY 6 fB.nd (aQ (aK (aK (aK (aB 0) aD) (aB 5)) aD))) (aM (cI (nO (kH (lC hr (aB 6) aD) (mH (aRe (aK (aB 2) (aB 6)) fK)))) (aF (nL 2 (aB 6) (aB 5)) (aM (fZ 3 (aB 6)))) bP)))) (aM (wR 4 fB.nd xN aD))))) (aM (fU 2)))))))
def wI:List Str:=["machine"]
theorem aBu:FnScope wI ["machine"] (aG (top 18)):=⟨rfl,rfl,rfl,by decide +kernel,rfl,by decide +kernel,by decide +kernel⟩
theorem sD:KnT P w K mg base 6 "reached" 1 iS:=fun T kb nb =>
 cS T.d_reached kb nb aBu rfl rfl (by decide) (fun _ _ _ _ _ _ us hl=>match us,hl with | [_],_=>rfl) fun f cdv A outer s H E hr =>
  (aF (fF (dD bY (eQ T kb nb) (hr.mono (by decide)) (saN (aB 0) aH) al1)) (aM (bI (aQ (kC (aG (top 18)) wI ["place", "number"] 2 [] rfl rfl rfl (lZ T.n_enumerate (bC (tM T kb nb) (hr.mono (by decide)) (saN (aB 0) aH) al1)) (mG rfl) (by decide +kernel) fun _ _ _ _=>⟨(nD rfl (eE (dH 0 (show List.Nodup (["place", "number"]:List Str) from (by decide +kernel))) (eE (dH 1 (show List.Nodup (["place", "number"]:List Str) from (by decide +kernel))) kW)) rfl rfl),uN,(aXo (aGs hr (aB 0) aD) (rJ (aKh (aB 1) fK)))⟩)))))
def tQ:List Str:=["one", "wide", "deeds", "deed", "still"]
theorem fS:FnScope tQ ["one", "wide"] (aG (top 19)):=⟨rfl,rfl,rfl,by decide +kernel,rfl,by decide +kernel,by decide +kernel⟩
theorem qU:KnT P w K mg base 1 "deeds_of_one" 2 gK:=fun T kb nb =>
 cS T.d_deeds_of_one kb nb fS rfl rfl (by decide) (fun _ _ _ _ _ _ us hl=>match us,hl with | [_,_],_=>rfl) fun f cdv A outer s H E hr =>
  (aF (aY 2 fS.nd (aQ (dF aH))) (aF (gJ bY.own rfl (jT (aK (aB 0) aD)) (dH 3 fS.nd) cJ (aM (gJ bY.own rfl (gA T.n_range (saN (aB 1) aH)) (dH 4 fS.nd) cJ (aM (fZ 2 (cE (saB (bN (eN (aK (aB 3) aD) (aB 1)) (aB 4)) (saS (aK (aB 3) aD) (saB (bN (eN (aK (aB 3) aD) (aB 1)) (aB 4)) (saS (aK (aB 3) aD) aH)))))))))) (aM (fU 2))))
def pN:List Str:=["one", "other", "deeds", "deed", "still", "start"]
theorem dJ:FnScope pN ["one", "other"] (aG (top 20)):=⟨rfl,rfl,rfl,by decide +kernel,rfl,by decide +kernel,by decide +kernel⟩
theorem oT:KnT P w K mg base 1 "deeds_of_other" 2 fG:=fun T kb nb =>
 cS T.d_deeds_of_other kb nb dJ rfl rfl (by decide) (fun _ _ _ _ _ _ us hl=>match us,hl with | [_,_],_=>rfl) fun f cdv A outer s H E hr =>
  (aF (aY 2 dJ.nd (aQ (dF aH))) (aF (gJ bY.own rfl (jT (aK (aB 1) aD)) (dH 3 dJ.nd) cJ (aM (gJ bY.own rfl (gA T.n_range (saS (aK (aB 0) aD) aH)) (dH 4 dJ.nd) cJ (aF (aY 5 dJ.nd (aQ (eN (aB 4) (aK (aB 1) aD)))) (aM (fZ 2 (cE (saB (bN (aB 5) (aK (aB 3) aD)) (saB (bN (aK (aB 0) aD) (aK (aB 3) aD)) (saB (bN (aB 5) (aK (aB 3) aD)) (saS (aK (aB 3) aD) aH))))))))))) (aM (fU 2))))
def aGl:List Str:=["one", "other", "deeds", "machine"]
theorem pK:FnScope aGl ["one", "other"] (aG (top 21)):=⟨rfl,rfl,rfl,by decide +kernel,rfl,by decide +kernel,by decide +kernel⟩
theorem aE9:KnT P w K mg base 6 "beside" 2 jZ:=fun T kb nb =>
 cS T.d_beside kb nb pK rfl rfl (by decide) (fun _ _ _ _ _ _ us hl=>match us,hl with | [_,_],_=>rfl) fun f cdv A outer s H E hr =>
  (aF (fF (dD bY (eQ T kb nb) (hr.mono (by decide)) (saN (aB 0) aH) al1)) (aF (fF (dD bY (eQ T kb nb) (hr.mono (by decide)) (saN (aB 1) aH) al1)) (aF (aY 2 pK.nd (aQ (aI7 T.n_sorted (bN (bC (qU T kb nb) (hr.mono (by decide)) (saN (aB 0) (saS (aK (aB 1) aD) aH)) al2) (bC (oT T kb nb) (hr.mono (by decide)) (saN (aB 0) (saN (aB 1) aH)) al2))))) (aF (nU [2] (aY 3 pK.nd (aQ (cE (saB (eN (aK (aB 0) aD) (aK (aB 1) aD)) (saB (bN (aK (aB 0) aD) (aK (aB 1) aD)) (saN (aB 2) aH))))))) (aF (fF (dD bY (eQ T kb nb) (hr.mono (by decide)) (saN (aB 3) aH) al1)) (aM (fU 3)))))))
def vJ:List Str:=["gains", "row"]
theorem aA8:FnScope vJ ["gains", "row"] (aG (top 23)):=⟨rfl,rfl,rfl,by decide +kernel,rfl,by decide +kernel,by decide +kernel⟩
theorem rP:KnT P w K mg base 1 "gain_of" 2 pP:=fun T kb nb =>
 cS T.d_gain_of kb nb aA8 rfl rfl (by decide) (fun _ _ _ _ _ _ us hl=>match us,hl with | [_,_],_=>rfl) fun f cdv A outer s H E hr =>
  (aM (bI (aQ (aSf rfl T.n_sum (kC (aG (top 23)) vJ ["number", "gains"] 1 [0] rfl rfl rfl (jT (aB 1)) cJ (by decide +kernel) fun _ _ _ _=>⟨(dH 0 (show List.Nodup (["number", "gains"]:List Str) from (by decide +kernel))),uN,(aK (aB 1) (aB 0))⟩)))))
def aGw:List Str:=["machine", "place", "came", "way"]
theorem mJ:FnScope aGw ["machine", "place"] (aG (top 24)):=⟨rfl,rfl,rfl,by decide +kernel,rfl,by decide +kernel,by decide +kernel⟩
theorem aFd:KnT P w K mg base 3 "way_to" 2 zZ:=fun T kb nb =>
 cS T.d_way_to kb nb mJ rfl rfl (by decide) (fun _ _ _ _ _ _ us hl=>match us,hl with | [_,_],_=>rfl) fun f cdv A outer s H E hr =>
  (aF (aY 2 mJ.nd (aQ (bC (tM T kb nb) (hr.mono (by decide)) (saN (aB 0) aH) al1))) (aF (aY 3 mJ.nd (aQ (dF aH))) (aF (hV fuel bY.own (oD (aK (aB 2) (aB 1)) fK) (aF (fZ 3 (aK (aB 2) (aB 1))) (aM (aY 1 mJ.nd (aQ (aK (aK (aK (aB 0) aD) (aK (aB 2) (aB 1))) aD)))))) (aF (aT3 3) (aM (fU 3))))))
def xW:List Str:=["machine", "onward", "place", "row"]
theorem jF:FnScope xW ["machine", "onward", "place"] (aG (top 25)):=⟨rfl,rfl,rfl,by decide +kernel,rfl,by decide +kernel,by decide +kernel⟩
theorem uU:KnT P w K mg base 1 "row_onward" 3 iJ:=fun T kb nb =>
 cS T.d_row_onward kb nb jF rfl rfl (by decide) (fun _ _ _ _ _ _ us hl=>match us,hl with | [_,_,_],_=>rfl) fun f cdv A outer s H E hr =>
  (aF (aY 3 jF.nd (aQ (dF aH))) (aF (hV fuel bY.own (oD (aK (aB 1) (aB 2)) fK) (aF (fZ 3 (aK (aB 1) (aB 2))) (aM (aY 2 jF.nd (aQ (aK (aK (aK (aB 0) aD) (aK (aB 1) (aB 2))) aD)))))) (aM (fU 3))))
def uM:List Str:=["machine", "onward", "place", "step", "ring", "at"]
theorem dY:FnScope uM ["machine", "onward", "place"] (aG (top 26)):=⟨rfl,rfl,rfl,by decide +kernel,rfl,by decide +kernel,by decide +kernel⟩
theorem tI:KnT P w K mg base 1 "ring_onward" 3 gT:=fun T kb nb =>
 cS T.d_ring_onward kb nb dY rfl rfl (by decide) (fun _ _ _ _ _ _ us hl=>match us,hl with | [_,_,_],_=>rfl) fun f cdv A outer s H E hr =>
  (aF (gJ bY.own rfl (gA T.n_range (saS (aK (aB 0) aD) aH)) (dH 3 dY.nd) cJ (aM (aY 2 dY.nd (aQ (aK (aK (aK (aB 0) aD) (aK (aB 1) (aB 2))) aD))))) (aF (aY 4 dY.nd (aQ (dF (saS (aK (aB 1) (aB 2)) aH)))) (aF (aY 5 dY.nd (aQ (aK (aK (aK (aB 0) aD) (aK (aB 1) (aB 2))) aD))) (aF (hV fuel bY.own (lC hr (aB 5) (aB 2)) (aF (fZ 4 (aK (aB 1) (aB 5))) (aM (aY 5 dY.nd (aQ (aK (aK (aK (aB 0) aD) (aK (aB 1) (aB 5))) aD)))))) (aM (fU 4))))))
def wV:List Str:=["machine", "gains", "numbers", "most", "onward", "raised", "number", "deed", "gain"]
theorem eR:FnScope wV ["machine", "gains", "numbers", "most", "onward"] (aG (top 27)):=⟨rfl,rfl,rfl,by decide +kernel,rfl,by decide +kernel,by decide +kernel⟩
theorem uQ:KnT P w K mg base 1 "raise_once" 5 gM:=fun T kb nb =>
 cS T.d_raise_once kb nb eR rfl rfl (by decide) (fun _ _ _ _ _ _ us hl=>match us,hl with | [_,_,_,_,_],_=>rfl) fun f cdv A outer s H E hr =>
  (aF (aY 5 eR.nd (aQ fK)) (aF (gJ bY.own rfl (jT (aB 2)) (dH 6 eR.nd) cJ (aF (aY 7 eR.nd (aQ (aK (aK (aB 0) aD) (aB 6)))) (aF (aY 8 eR.nd (aQ (bN (aK (aB 1) (aB 6)) (aK (aB 3) (aK (aB 7) aD))))) (aM (cI (kX (aB 8) (aK (aB 3) (aK (aB 7) aD))) (aF (nL 3 (aK (aB 7) aD) (aB 8)) (aF (nL 4 (aK (aB 7) aD) (aB 6)) (aM (aY 5 eR.nd (aQ (aK (aB 7) aD)))))) bP))))) (aM (fU 5))))
def iP:List Str:=["machine", "gains", "come_to", "numbers", "most", "onward", "raised", "rounds"]
theorem cP:FnScope iP ["machine", "gains"] (aG (top 28)):=⟨rfl,rfl,rfl,by decide +kernel,rfl,by decide +kernel,by decide +kernel⟩
theorem vF:KnT P w K mg base 7 "most_gains" 2 iK:=fun T kb nb =>
 cS T.d_most_gains kb nb cP rfl rfl (by decide) (fun _ _ _ _ _ _ us hl=>match us,hl with | [_,_],_=>rfl) fun f cdv A outer s H E hr =>
  (aF (aY 2 cP.nd (dD bY (sD T kb nb) (hr.mono (by decide)) (saN (aB 0) aH) al1)) (aF (hO 3 cP.nd (aG (top 28)) iP ["number", "deed", "come_to"] 2 [2] rfl rfl rfl (lZ T.n_enumerate (aK (aB 0) aD)) (mG rfl) (by decide +kernel) fun _ _ _ _=>⟨(nD rfl (eE (dH 0 (show List.Nodup (["number", "deed", "come_to"]:List Str) from (by decide +kernel))) (eE (dH 1 (show List.Nodup (["number", "deed", "come_to"]:List Str) from (by decide +kernel))) kW)) rfl rfl),(bA4 (eB (aK (aB 2) (aK (aB 1) aD)))),(aB 0)⟩) (aF (hO 4 cP.nd (aG (top 28)) iP ["place"] 1 [] rfl rfl rfl (gA T.n_range (saS (aK (aB 0) aD) aH)) cJ (by decide +kernel) fun _ _ _ _=>⟨(dH 0 (show List.Nodup (["place"]:List Str) from (by decide +kernel))),uN,aD⟩) (aF (hO 5 cP.nd (aG (top 28)) iP ["place"] 1 [] rfl rfl rfl (gA T.n_range (saS (aK (aB 0) aD) aH)) cJ (by decide +kernel) fun _ _ _ _=>⟨(dH 0 (show List.Nodup (["place"]:List Str) from (by decide +kernel))),uN,fK⟩) (aF (aY 6 cP.nd (aQ aD)) (aF (aY 7 cP.nd (aQ aD)) (aF (nU [3] (hV fuel bY.own (nO (kH (oD (aB 6) fK) (mH (aAl (aB 7) (aK (aB 0) aD))))) (aF (aY 6 cP.nd (aJv (uQ T kb nb) (hr.mono (by decide)) (zH 0 (zH 1 (zH 3 (zH 4 (zH 5 aRs))))) rfl)) (aM (wR 7 cP.nd xN aD))))) (aM (nU [4,5] (bI (aQ (cE (saN (aB 4) (saN (aB 5) (saN (aB 6) aH)))))))))))))))
def uK:List Str:=["machine", "prices", "kind", "price"]
theorem iY:FnScope uK ["machine", "prices"] (aG (top 31)):=⟨rfl,rfl,rfl,by decide +kernel,rfl,by decide +kernel,by decide +kernel⟩
theorem lT:KnT P w K mg base 6 "look_prices" 2 eS:=fun T kb nb=>by
 obtain ⟨_,_,_,XX⟩:=T.xc
 exact cS T.d_look_prices kb nb iY rfl rfl (by decide) (fun _ _ _ _ _ _ us hl=>match us,hl with | [_,_],_=>rfl) fun f cdv A outer s H E hr =>
  (aF (fF (dD bY (eQ T kb nb) (hr.mono (by decide)) (saN (aB 0) aH) al1)) (aF (cI (nO (mU (fJ (eB (nQ (T' := "list") (by decide) (aB 1) T.n_isinstance T.n_list (by decide +kernel)))) (kR (lC hr (fV T.n_len (aB 1)) (aK (aB 0) aD))))) (aM (fN jL rfl XX.cC XX.xC XX.mC eZ)) bP) (aM (gJ bY.own rfl (lZ T.n_enumerate (aB 1)) (nD rfl (eE (dH 2 iY.nd) (eE (dH 3 iY.nd) kW)) rfl rfl) (mG rfl) (aM (cI (fJ (eB (bC (cO T kb nb) (hr.mono (by decide)) (saN (aB 3) (saC aD (saN (dB T.i_MOST_PRICE) aH))) al3))) (aM (fN jL rfl XX.cC XX.xC XX.mC (kO (bU eZ (bU (iO (aB 2)) (bU eZ (bU (iO (dB T.i_MOST_PRICE)) kS))))))) bP))))))
def oM:List Str:=["machine", "prices"]
theorem vB:FnScope oM ["machine", "prices"] (aG (top 32)):=⟨rfl,rfl,rfl,by decide +kernel,rfl,by decide +kernel,by decide +kernel⟩
theorem uT:KnT P w K mg base 1 "costs_over" 2 iQ:=fun T kb nb =>
 cS T.d_costs_over kb nb vB rfl rfl (by decide) (fun _ _ _ _ _ _ us hl=>match us,hl with | [_,_],_=>rfl) fun f cdv A outer s H E hr =>
  (aM (bI (aQ (kC (aG (top 32)) oM ["deed", "prices"] 1 [1] rfl rfl rfl (jT (aK (aB 0) aD)) cJ (by decide +kernel) fun _ _ _ _=>⟨(dH 0 (show List.Nodup (["deed", "prices"]:List Str) from (by decide +kernel))),uN,(jR (aK (aB 0) aD) (aK (aB 1) (aK (aB 0) aD)))⟩))))
def aUo:List Str:=["machine", "prices", "purse", "come_to", "deed"]
theorem yK:FnScope aUo ["machine", "prices", "purse"] (aG (top 33)):=⟨rfl,rfl,rfl,by decide +kernel,rfl,by decide +kernel,by decide +kernel⟩
theorem aC8:KnT P w K mg base 7 "pays" 3 jI:=fun T kb nb =>
 cS T.d_pays kb nb yK rfl rfl (by decide) (fun _ _ _ _ _ _ us hl=>match us,hl with | [_,_,_],_=>rfl) fun f cdv A outer s H E hr =>
  (aF (fF (dD bY (lT T kb nb) (hr.mono (by decide)) (saN (aB 0) (saN (aB 1) aH)) al2)) (aF (cI (nO (mU (lC hr (fV T.n_len (aB 2)) (aK (aB 0) aD)) (mU (lC hr (aK (aB 2) aD) aD) (kR (aAl (aTf rfl T.n_min (aB 2)) aD))))) (aM (bI (aQ kZ))) bP) (aF (aY 3 yK.nd (dD bY (sD T kb nb) (hr.mono (by decide)) (saN (aB 0) aH) al1)) (aF (gJ bY.own rfl (jT (aK (aB 0) aD)) (dH 4 yK.nd) cJ (aM (cI (nO (kH (eB (aK (aB 3) (aK (aB 4) aD))) (mH (aAl (bN (aK (aB 2) (aK (aB 4) aD)) (aK (aB 1) (aK (aB 4) aD))) (bN (aK (aB 4) aD) (aK (aB 2) (aK (aB 4) aD))))))) (aM (bI (aQ kZ))) bP))) (aM (bI (aQ kZ)))))))
def pW:List Str:=["machine", "over", "ring", "way", "many"]
theorem gN:FnScope pW ["machine", "over", "ring"] (aG (top 34)):=⟨rfl,rfl,rfl,by decide +kernel,rfl,by decide +kernel,by decide +kernel⟩
theorem oF:KnT P w K mg base 4 "broken_by_ring" 3 fE:=fun T kb nb =>
 cS T.d_broken_by_ring kb nb gN rfl rfl (by decide) (fun _ _ _ _ _ _ us hl=>match us,hl with | [_,_,_],_=>rfl) fun f cdv A outer s H E hr =>
  (aF (aY 3 gN.nd (aQ (bC (aFd T kb nb) (hr.mono (by decide)) (saN (aB 0) (saS (aK (aK (aK (aB 0) aD) (aK (aB 2) aD)) aD) aH)) al2))) (aF (aY 4 gN.nd (aQ (aCn rfl T.n_max aD (bN (mI (aQ6 (bC (rP T kb nb) (hr.mono (by decide)) (saN (aB 1) (saN (aB 3) aH)) al2)) (bC (rP T kb nb) (hr.mono (by decide)) (saN (aB 1) (saN (aB 2) aH)) al2)) aD)))) (aM (nU [3] (bI (aQ (cE (saC iB (saN (aB 3) (saN (aB 2) (saN (aB 4) aH)))))))))))
def uZ:List Str:=["machine", "prices", "over", "found", "purse", "onward", "raised"]
theorem dX:FnScope uZ ["machine", "prices"] (aG (top 35)):=⟨rfl,rfl,rfl,by decide +kernel,rfl,by decide +kernel,by decide +kernel⟩
theorem eA:KnT P w K mg base 8 "least_purse" 2 aV:=fun T kb nb =>
 cS T.d_least_purse kb nb dX rfl rfl (by decide) (fun _ _ _ _ _ _ us hl=>match us,hl with | [_,_],_=>rfl) fun f cdv A outer s H E hr =>
  (aF (fF (dD bY (lT T kb nb) (hr.mono (by decide)) (saN (aB 0) (saN (aB 1) aH)) al2)) (aF (aY 2 dX.nd (aQ (bC (uT T kb nb) (hr.mono (by decide)) (saN (aB 0) (saN (aB 1) aH)) al2))) (aF (nU [2] (aY 3 dX.nd (dD bY (vF T kb nb) (hr.mono (by decide)) (saN (aB 0) (saN (aB 2) aH)) al2))) (aF (aY 4 dX.nd (aQ (aK (aB 3) aD))) (aF (aY 5 dX.nd (aQ (aK (aB 3) aD))) (aF (aY 6 dX.nd (aQ (aK (aB 3) aD))) (aF (cI (oD (aB 6) fK) (aM (bI (aQ (bC (oF T kb nb) (hr.mono (by decide)) (saN (aB 0) (saN (aB 2) (saK (bC (tI T kb nb) (hr.mono (by decide)) (saN (aB 0) (saN (aB 5) (saN (aB 6) aH))) al3) aH))) al3)))) bP) (aF (cI (kX (aK (aB 4) aD) aD) (aM (bI (aQ (cE (saC iB (saK (bC (uU T kb nb) (hr.mono (by decide)) (saN (aB 0) (saN (aB 5) (saC aD aH))) al3) (saL (dF aH) (saC aD aH)))))))) bP) (aM (bI (aQ (cE (saC iB (saN (aB 4) aH))))))))))))))
def tP:List Str:=["word", "number", "least", "most"]
theorem qS:FnScope tP ["word", "number", "least", "most"] (aG (top 43)):=⟨rfl,rfl,rfl,by decide +kernel,rfl,by decide +kernel,by decide +kernel⟩
theorem eO:KnT P w K mg base 3 "look_measure" 4 eD:=fun T kb nb=>by
 obtain ⟨_,_,_,XX⟩:=T.xc
 exact cS T.d_look_measure kb nb qS rfl rfl (by decide) (fun _ _ _ _ _ _ us hl=>match us,hl with | [_,_,_,_],_=>rfl) fun f cdv A outer s H E hr =>
  (aM (cI (fJ (eB (bC (cO T kb nb) (hr.mono (by decide)) (saN (aB 1) (saN (aB 2) (saN (aB 3) aH))) al3))) (aM (fN jL rfl XX.cD XX.xD XX.mD (kO (bU (aOf (aB 0)) (bU eZ (bU (iO (aB 2)) (bU eZ (bU (iO (aB 3)) kS)))))))) bP))
def aK3:List Str:=["first", "steps", "states", "numbers", "deeds", "at", "kind", "step", "led"]
theorem gH:FnScope aK3 ["first", "steps"] (aG (top 44)):=⟨rfl,rfl,rfl,by decide +kernel,rfl,by decide +kernel,by decide +kernel⟩
theorem rM (T:Txt K mg) (kb:K.In base) (nb:base.Ns mainGlobals mg) (k:Nat):StepFn P w K mg base k "grown" eI eV :=
 aD8 T.d_grown kb nb gH rfl rfl (by decide) (fun _ _ _ _ _ _ us hl=>match us,hl with | [_,_],_=>rfl) fun L f cdv A outer s H E hr hL =>
  (aF (aY 2 gH.nd (aQ (dF (saN (aB 0) aH)))) (aF (aY 3 gH.nd (aQ (aF6 T.nt hr (aB 0) aD))) (aF (aY 4 gH.nd (aQ (dF aH))) (aF (aY 5 gH.nd (aQ aD)) (aF (hV fuel bY.own (aAl (aB 5) (fV T.n_len (aB 2))) (aF (gJ bY.own rfl (lZ T.n_enumerate (aB 1)) (nD rfl (eE (dH 6 gH.nd) (eE (dH 7 gH.nd) kW)) rfl rfl) (mG rfl) (aF (aY 8 gH.nd (aQ (aIn hL (saS (aK (aB 2) (aB 5)) aH) al1 (i:=7)))) (aM (cI (oD (aB 8) fK) (aF (cI (aEx 3 T.nt hr (aK (aB 8) aD)) (aF (aLe 3 T.nt hr (aK (aB 8) aD) (fV T.n_len (aB 2))) (aM (fZ 2 (aK (aB 8) aD)))) bP) (aM (fZ 4 (cE (saN (aB 5) (saN (aB 6) (saS (aNh 3 T.nt hr (aK (aB 8) aD)) (saS (aK (aB 8) aD) aH)))))))) bP)))) (aM (wR 5 gH.nd xN aD)))) (aM (nU [2,4] (bI (aQ (cE (saT (cE (saK (fV T.n_len (aB 2)) (saK (fV T.n_len (aB 1)) (saN (aB 4) aH)))) (saN (aB 2) aH))))))))))))
def yT:List Str:=["state", "most", "grow", "items"]
theorem oZ:FnScope yT ["state", "most", "grow"] (aG (top 45)):=⟨rfl,rfl,rfl,by decide +kernel,rfl,by decide +kernel,by decide +kernel⟩
theorem xJ:KnT P w K mg base 1 "shelf_put" 3 qP:=fun T kb nb =>
 cS T.d_shelf_put kb nb oZ rfl rfl (by decide) (fun _ _ _ _ _ _ us hl=>match us,hl with | [_,_,_],_=>rfl) fun f cdv A outer s H E hr =>
  (aF (aY 3 oZ.nd (aQ (aK (aB 0) aD))) (aF (cI (aOz (aB 3) (aB 1)) (aM (bI (aQ fK))) bP) (aF (cI (oH hr (aB 3) (aK (aB 0) aD)) (aM (bI (aQ (cE (saT (cE (saB (bN (aB 3) aD) (saB (eN (aK (aB 0) aD) (aB 2)) aH))) (saB (bN aD (aB 3)) aH)))))) bP) (aM (bI (aQ (cE (saT (cE (saB (bN (aB 3) aD) (saS (aK (aB 0) aD) aH))) (saC aD aH)))))))))
def wX:List Str:=["state", "grow", "shrink", "left", "places"]
theorem jS:FnScope wX ["state", "grow", "shrink"] (aG (top 46)):=⟨rfl,rfl,rfl,by decide +kernel,rfl,by decide +kernel,by decide +kernel⟩
theorem uV:KnT P w K mg base 1 "shelf_take" 3 oW:=fun T kb nb =>
 cS T.d_shelf_take kb nb jS rfl rfl (by decide) (fun _ _ _ _ _ _ us hl=>match us,hl with | [_,_,_],_=>rfl) fun f cdv A outer s H E hr =>
  (aF (cI (oH hr (aK (aB 0) aD) aD) (aM (bI (aQ fK))) bP) (aF (aY 3 jS.nd (aQ (jR (aK (aB 0) aD) aD))) (aF (aY 4 jS.nd (aQ (aK (aB 0) aD))) (aF (cI (nO (kH (lC hr (aB 2) aD) (kH (kX (aB 4) aD) (mH (aWz (eN (aB 3) (aB 2)) (aB 4)))))) (aM (bI (aQ (cE (saT (cE (saN (aB 3) (saB (mI (aB 4) (aB 1)) aH))) (saB (bN aD (aB 3)) aH)))))) bP) (aM (bI (aQ (cE (saT (cE (saN (aB 3) (saN (aB 4) aH))) (saC aD aH))))))))))
def aKz:List Str:=["most", "grow", "shrink", "0shelf", "put", "take"]
theorem aAi:FnScope aKz ["most", "grow", "shrink"] (aG (top 47)):=⟨rfl,rfl,rfl,by decide +kernel,rfl,by decide +kernel,by decide +kernel⟩
theorem tF (T:Txt K mg) (kb:K.In base) (nb:base.Ns mainGlobals mg):CloTx P w K mg base 1 "put" "shelf.<locals>.put" "state" ["most", "grow"] (eK (nst 47 3)) (cL (nst 47 3)) (aG (nst 47 3)) jP :=
 ⟨hZ (by decide +kernel),fun cl doc pm cdv ctv u=>rfl,3,mW,rfl,rfl,fun f cdv cl A outer s H E hr=>(aM (bI (aQ (bC (xJ T kb nb) (hr.mono (by decide)) (saN (aB 0) (saN (aB 1) (saN (aB 2) aH))) al3))))⟩
theorem qT (T:Txt K mg) (kb:K.In base) (nb:base.Ns mainGlobals mg):CloTx P w K mg base 1 "take" "shelf.<locals>.take" "state" ["grow", "shrink"] (eK (nst 47 4)) (cL (nst 47 4)) (aG (nst 47 4)) iZ :=
 ⟨hZ (by decide +kernel),fun cl doc pm cdv ctv u=>rfl,3,lW,rfl,rfl,fun f cdv cl A outer s H E hr=>(aM (bI (aQ (bC (uV T kb nb) (hr.mono (by decide)) (saN (aB 0) (saN (aB 1) (saN (aB 2) aH))) al3))))⟩
theorem aFg {ρ:Env} {f1 f2:Addr} (e1:ρ[4]?=some (.val (.fn f1))) (e2:ρ[5]?=some (.val (.fn f2))):(aA (cQ (aA (vC (.int 0)) (aA (vC (.int 1)) aE))) (aA (cN (aA (aC 4) (aA (aC 5) aE))) aE)) ρ=.ok [((.tup [.int 0,.int 1]),true),(.lst true [.fn f1,.fn f2],true)]:=by
 simp only [aA,cQ,cN,vC,aE,aC,e1,e2,R.bind];rfl
theorem aHj (c1 c2:List D) (d:D) (f1 f2:Addr) (h:yM c1 c2=.ok d) (ne:f1 ≠ f2):∃os,fnOf eI (eV [(f1,fW c1 jP),(f2,fW c2 iZ)]) [D.frz (.tup [.int 0,.int 1]),.lst false [.fn f1,.fn f2]]=.ok (d,os):=nT (d0:=(.tup [.int 0,.int 1])) rfl h ne
theorem aGy:aKs P w K mg base 4 "shelf" 3 ["shelf"] aL:=fun T kb nb bt=>by
 obtain ⟨c,Pl,ht,hC,hB⟩:=bt.shelf
 exact xI T.d_shelf kb nb aAi rfl rfl (by decide) (tS (by decide +kernel)) (fun _ _ _ _ _ _ us hl=>match us,hl with | [_,_,_],_=>rfl) fun f cdv A outer s H E hcode hr =>
  (aF (fF (dD bY (eO T kb nb) (hr.mono (by decide)) (saC iB (saN (aB 0) (saC aD (saN (dB T.i_MOST_ITEMS) aH)))) al4)) (aF (fF (dD bY (eO T kb nb) (hr.mono (by decide)) (saC iB (saN (aB 1) (saN (dB T.i_LEAST_GROW) (saN (dB T.i_MOST_GROW) aH)))) al4)) (aF (cI (fJ (eB (bC (cO T kb nb) (hr.mono (by decide)) (saN (aB 2) (saC aD (saC aD aH))) al3))) (aM (fF (dD bY (eO T kb nb) (hr.mono (by decide)) (saC iB (saN (aB 2) (saN (aB 1) (saN (dB T.i_MOST_SHRINK) aH)))) al4))) bP) (yU (wJ ht (hcode _ _ ht) hC hB aAi.nd) (lI (fs:=["most", "grow"]) rfl rfl (by decide +kernel) (tF T kb nb) rfl rfl rfl rfl) (lI (fs:=["grow", "shrink"]) rfl rfl (by decide +kernel) (qT T kb nb) rfl rfl rfl rfl) (by decide) (by decide) (by decide) (rM T kb nb _) (hr.mono (by decide)) (bZ (cE (saC aD (saC aD aH))) (bZ (dF (bZ (aB 4) (bZ (aB 5) aH))) aH)) al2 (fun ρ f1 f2 e1 e2=>aFg e1 e2) aHj))))
def vH:List Str:=["one", "other", "apart", "turned"]
theorem eY:FnScope vH ["one", "other"] (aG (top 48)):=⟨rfl,rfl,rfl,by decide +kernel,rfl,by decide +kernel,by decide +kernel⟩
theorem lV:KnT P w K mg base 1 "turned_bits" 2 jG:=fun T kb nb =>
 cS T.d_turned_bits kb nb eY rfl rfl (by decide) (fun _ _ _ _ _ _ us hl=>match us,hl with | [_,_],_=>rfl) fun f cdv A outer s H E hr =>
  (aF (aY 2 eY.nd (aQ (aUq (aB 0) (aB 1)))) (aF (aY 3 eY.nd (aQ aD)) (aF (hV fuel bY.own (kX (aB 2) aD) (aF (wR 3 eY.nd xN (gF (aB 2) aD)) (aM (aY 2 eY.nd (aQ (mI (aB 2) aD)))))) (aM (fU 3)))))
def aBc:List Str:=["number", "bits"]
theorem zA:FnScope aBc ["number", "bits"] (aG (top 49)):=⟨rfl,rfl,rfl,by decide +kernel,rfl,by decide +kernel,by decide +kernel⟩
theorem zX:KnT P w K mg base 2 "count_up" 2 sW:=fun T kb nb =>
 cS T.d_count_up kb nb zA rfl rfl (by decide) (fun _ _ _ _ _ _ us hl=>match us,hl with | [_,_],_=>rfl) fun f cdv A outer s H E hr =>
  (aF (cI (kX (aK0 (bN (aB 0) aD)) (aB 1)) (aM (bI (aQ fK))) bP) (aM (bI (aQ (cE (saB (bN (aB 0) aD) (saK (bC (lV T kb nb) (hr.mono (by decide)) (saN (aB 0) (saB (bN (aB 0) aD) aH)) al2) aH)))))))
def wM:List Str:=["number", "down"]
theorem uS:FnScope wM ["number", "down"] (aG (top 50)):=⟨rfl,rfl,rfl,by decide +kernel,rfl,by decide +kernel,by decide +kernel⟩
theorem vD:KnT P w K mg base 2 "count_down" 2 oQ:=fun T kb nb =>
 cS T.d_count_down kb nb uS rfl rfl (by decide) (fun _ _ _ _ _ _ us hl=>match us,hl with | [_,_],_=>rfl) fun f cdv A outer s H E hr =>
  (aF (cI (nO (mU (fJ (eB (aB 1))) (kR (oH hr (aB 0) aD)))) (aM (bI (aQ fK))) bP) (aM (bI (aQ (cE (saB (jR (aB 0) aD) (saK (bC (lV T kb nb) (hr.mono (by decide)) (saN (aB 0) (saB (jR (aB 0) aD) aH)) al2) aH)))))))
def aEi:List Str:=["bits", "down", "0counter", "go_up", "go_down"]
theorem sJ:FnScope aEi ["bits", "down"] (aG (top 51)):=⟨rfl,rfl,rfl,by decide +kernel,rfl,by decide +kernel,by decide +kernel⟩
theorem nF (T:Txt K mg) (kb:K.In base) (nb:base.Ns mainGlobals mg):CloTx P w K mg base 2 "go_up" "counter.<locals>.go_up" "number" ["bits"] (eK (nst 51 2)) (cL (nst 51 2)) (aG (nst 51 2)) gL :=
 ⟨hZ (by decide +kernel),fun cl doc pm cdv ctv u=>rfl,2,jC,rfl,rfl,fun f cdv cl A outer s H E hr=>(aM (bI (aQ (bC (zX T kb nb) (hr.mono (by decide)) (saN (aB 0) (saN (aB 1) aH)) al2))))⟩
theorem lO (T:Txt K mg) (kb:K.In base) (nb:base.Ns mainGlobals mg):CloTx P w K mg base 2 "go_down" "counter.<locals>.go_down" "number" ["down"] (eK (nst 51 3)) (cL (nst 51 3)) (aG (nst 51 3)) fM :=
 ⟨hZ (by decide +kernel),fun cl doc pm cdv ctv u=>rfl,2,iE,rfl,rfl,fun f cdv cl A outer s H E hr=>(aM (bI (aQ (bC (vD T kb nb) (hr.mono (by decide)) (saN (aB 0) (saN (aB 1) aH)) al2))))⟩
theorem zP {ρ:Env} {f1 f2:Addr} (e1:ρ[3]?=some (.val (.fn f1))) (e2:ρ[4]?=some (.val (.fn f2))):(aA (vC (.int 0)) (aA (cN (aA (aC 3) (aA (aC 4) aE))) aE)) ρ=.ok [((.int 0),true),(.lst true [.fn f1,.fn f2],true)]:=by
 simp only [aA,cQ,cN,vC,aE,aC,e1,e2,R.bind];rfl
theorem aBk (c1 c2:List D) (d:D) (f1 f2:Addr) (h:pZ c1 c2=.ok d) (ne:f1 ≠ f2):∃os,fnOf eI (eV [(f1,fW c1 gL),(f2,fW c2 fM)]) [D.frz (.int 0),.lst false [.fn f1,.fn f2]]=.ok (d,os):=nT (d0:=(.int 0)) rfl h ne
theorem uB:aKs P w K mg base 5 "counter" 2 ["counter"] bA:=fun T kb nb bt=>by
 obtain ⟨_,_,_,XX⟩:=T.xc
 obtain ⟨c,Pl,ht,hC,hB⟩:=bt.counter
 exact xI T.d_counter kb nb sJ rfl rfl (by decide) (tS (by decide +kernel)) (fun _ _ _ _ _ _ us hl=>match us,hl with | [_,_],_=>rfl) fun f cdv A outer s H E hcode hr =>
  (aF (fF (dD bY (eO T kb nb) (hr.mono (by decide)) (saC iB (saN (aB 0) (saC aD (saN (dB T.i_MOST_BITS) aH)))) al4)) (aF (cI (fJ (eB (nQ (T' := "bool") (by decide) (aB 1) T.n_isinstance T.n_bool (by decide +kernel)))) (aM (fN jL rfl XX.cD XX.xD XX.mD eZ)) bP) (yU (wJ ht (hcode _ _ ht) hC hB sJ.nd) (lI (fs:=["bits"]) rfl rfl (by decide +kernel) (nF T kb nb) rfl rfl rfl rfl) (lI (fs:=["down"]) rfl rfl (by decide +kernel) (lO T kb nb) rfl rfl rfl rfl) (by decide) (by decide) (by decide) (rM T kb nb _) (hr.mono (by decide)) (bZ aD (bZ (dF (bZ (aB 3) (bZ (aB 4) aH))) aH)) al2 (fun ρ f1 f2 e1 e2=>zP e1 e2) aBk)))
def zC:List Str:=["state", "most"]
theorem yF:FnScope zC ["state", "most"] (aG (top 52)):=⟨rfl,rfl,rfl,by decide +kernel,rfl,by decide +kernel,by decide +kernel⟩
theorem yD:KnT P w K mg base 1 "queue_put" 2 qK:=fun T kb nb =>
 cS T.d_queue_put kb nb yF rfl rfl (by decide) (fun _ _ _ _ _ _ us hl=>match us,hl with | [_,_],_=>rfl) fun f cdv A outer s H E hr =>
  (aF (cI (aOz (bN (aK (aB 0) aD) (aK (aB 0) aD)) (aB 1)) (aM (bI (aQ fK))) bP) (aM (bI (aQ (cE (saT (cE (saB (bN (aK (aB 0) aD) aD) (saS (aK (aB 0) aD) aH))) (saC aD aH)))))))
def yN:List Str:=["state", "behind", "ahead"]
theorem jM:FnScope yN ["state"] (aG (top 53)):=⟨rfl,rfl,rfl,by decide +kernel,rfl,by decide +kernel,by decide +kernel⟩
theorem vA:KnT P w K mg base 1 "queue_take" 1 kE:=fun T kb nb =>
 cS T.d_queue_take kb nb jM rfl rfl (by decide) (fun _ _ _ _ _ _ us hl=>match us,hl with | [_],_=>rfl) fun f cdv A outer s H E hr =>
  (aF (aY 1 jM.nd (aQ (aK (aB 0) aD))) (aF (aY 2 jM.nd (aQ (aK (aB 0) aD))) (aF (cI (kX (aB 2) aD) (aM (bI (aQ (cE (saT (cE (saN (aB 1) (saB (jR (aB 2) aD) aH))) (saC aD aH)))))) bP) (aF (cI (kX (aB 1) aD) (aM (bI (aQ (cE (saT (cE (saC aD (saB (jR (aB 1) aD) aH))) (saB (bN (eN aD (aB 1)) aD) aH)))))) bP) (aM (bI (aQ fK)))))))
def aKc:List Str:=["most", "0queue", "put"]
theorem zR:FnScope aKc ["most"] (aG (top 54)):=⟨rfl,rfl,rfl,by decide +kernel,rfl,by decide +kernel,by decide +kernel⟩
theorem tZ (T:Txt K mg) (kb:K.In base) (nb:base.Ns mainGlobals mg):CloTx P w K mg base 1 "put" "queue.<locals>.put" "state" ["most"] (eK (nst 54 1)) (cL (nst 54 1)) (aG (nst 54 1)) jO :=
 ⟨hZ (by decide +kernel),fun cl doc pm cdv ctv u=>rfl,2,mV,rfl,rfl,fun f cdv cl A outer s H E hr=>(aM (bI (aQ (bC (yD T kb nb) (hr.mono (by decide)) (saN (aB 0) (saN (aB 1) aH)) al2))))⟩
theorem aE0 {ρ:Env} {f1 fq:Addr} (e1:ρ[2]?=some (.val (.fn f1))):(aA (cQ (aA (vC (.int 0)) (aA (vC (.int 0)) aE))) (aA (cN (aA (aC 2) (aA (vC (.fn fq)) aE))) aE)) ρ=.ok [((.tup [.int 0,.int 0]),true),(.lst true [.fn f1,.fn fq],true)]:=by
 simp only [aA,cQ,cN,vC,aE,aC,e1,R.bind];rfl
theorem aFj {fq:Addr} (c1:List D) (d:D) (f1:Addr) (h:xG c1=.ok d) (ne:f1 ≠ fq):∃os,fnOf eI (eV [(f1,fW c1 jO),(fq,kE)]) [D.frz (.tup [.int 0,.int 0]),.lst false [.fn f1,.fn fq]]=.ok (d,os):=nT (d0:=(.tup [.int 0,.int 0])) rfl h ne
theorem aAa:aKs P w K mg base 4 "queue" 1 ["queue"] bE:=fun T kb nb bt=>by
 obtain ⟨c,Pl,ht,hC,hB⟩:=bt.queue
 obtain ⟨fq,VQ⟩:=aT5 (k:=2) (P:=P) (w:=w) T.d_queue_take kb nb ((vA T kb nb).mono (by decide))
 exact xI T.d_queue kb nb zR rfl rfl (by decide) (tS (by decide +kernel)) (fun _ _ _ _ _ _ us hl=>match us,hl with | [_],_=>rfl) fun f cdv A outer s H E hcode hr =>
  (aF (fF (dD bY (eO T kb nb) (hr.mono (by decide)) (saC iB (saN (aB 0) (saC aD (saN (dB T.i_MOST_QUEUE) aH)))) al4)) (aHa (wJ ht (hcode _ _ ht) hC hB zR.nd) (lI (fs:=["most"]) rfl rfl (by decide +kernel) (tZ T kb nb) rfl rfl rfl rfl) VQ (rM T kb nb _) (hr.mono (by decide)) (bZ (cE (saC aD (saC aD aH))) (bZ (dF (bZ (aB 2) (bZ (aRv VQ) aH))) aH)) al2 (fun ρ f1 e1=>aE0 e1) aFj))
def aHe:List Str:=["_law_script", "_law_k"]
theorem aEy:FnScope aHe ["_law_script", "_law_k"] (aG (top 56)):=⟨rfl,rfl,rfl,by decide +kernel,rfl,by decide +kernel,by decide +kernel⟩
theorem aEn:KnT P w K mg base 1 "_law_cell" 2 tH:=fun T kb nb =>
 cS T.d_q_cell kb nb aEy rfl rfl (by decide) (fun _ _ _ _ _ _ us hl=>match us,hl with | [_,_],_=>rfl) fun f cdv A outer s H E hr =>
  (aF (cI (eB (aB 0)) (aM (bI (aQ (aK (aB 0) (gF (aB 1) (fV T.n_len (aB 0))))))) bP) (aM (bI (aQ aD))))
def aLu:List Str:=["_law_script", "_law_k", "_law_number"]
theorem rN:FnScope aLu ["_law_script", "_law_k"] (aG (top 57)):=⟨rfl,rfl,rfl,by decide +kernel,rfl,by decide +kernel,by decide +kernel⟩
theorem lU:KnT P w K mg base 2 "_law_mix" 2 cK:=fun T kb nb =>
 cS T.d_q_mix kb nb rN rfl rfl (by decide) (fun _ _ _ _ _ _ us hl=>match us,hl with | [_,_],_=>rfl) fun f cdv A outer s H E hr =>
  (aF (aY 2 rN.nd (aQ (gF (bN (bC (aEn T kb nb) (hr.mono (by decide)) (saN (aB 0) (saN (aB 1) aH)) al2) (eN aD (bN (aB 1) aD))) aD))) (aF (aY 2 rN.nd (aQ (gF (eN (aB 2) aD) aD))) (aM (bI (aQ (gF (bN (eN (mI (aB 2) aD) aD) (aB 2)) aD))))))
def aIc:List Str:=["_law_way", "_law_state", "_law_found"]
theorem mF:FnScope aIc ["_law_way", "_law_state"] (aG (top 58)):=⟨rfl,rfl,rfl,by decide +kernel,rfl,by decide +kernel,by decide +kernel⟩
theorem aEs:KnT P w K mg base 1 "_law_most" 2 pC:=fun T kb nb =>
 cS T.d_q_most kb nb mF rfl rfl (by decide) (fun _ _ _ _ _ _ us hl=>match us,hl with | [_,_],_=>rfl) fun f cdv A outer s H E hr =>
  (aF (cI (oH hr (aB 0) aD) (aF (aY 2 mF.nd (aQ aD)) (aF (hV fuel bY.own (kX (aB 1) aD) (aF (aY 2 mF.nd (aQ (bN (aB 2) (gF (aB 1) aD)))) (aM (aY 1 mF.nd (aQ (mI (aB 1) aD)))))) (aM (fU 2)))) bP) (aM (bI (aQ (aVh (oH hr (aB 0) aD) (eN aD (aK (aB 1) aD)) (aCn rfl T.n_max aD (jR (eN aD (aK (aB 1) aD)) (aK (aB 1) aD))))))))
def aFe:List Str:=["_law_script", "_law_k", "0shelf", "0counter", "0queue", "_law_way", "_law_number", "_law_machine", "_law_states"]
theorem eL:FnScope aFe ["_law_script", "_law_k"] (aG (top 59)):=⟨rfl,rfl,rfl,by decide +kernel,rfl,by decide +kernel,by decide +kernel⟩
theorem aA6:aKs P w K mg base 6 "_law_model" 2 ["shelf", "counter", "queue"] dW:=fun T kb nb bt=>by
 exact xI T.d_q_model kb nb eL rfl rfl (by decide) (tS (by decide +kernel)) (fun _ _ _ _ _ _ us hl=>match us,hl with | [_,_],_=>rfl) fun f cdv A outer s H E hcode hr =>
  (aF (aY 5 eL.nd (aQ (gF (bC (lU T kb nb) (hr.mono (by decide)) (saN (aB 0) (saN (aB 1) aH)) al2) aD))) (aF (aY 6 eL.nd (aQ (bC (lU T kb nb) (hr.mono (by decide)) (saN (aB 0) (saB (bN (aB 1) aD) aH)) al2))) (aF (cI (oH hr (aB 5) aD) (aF (iU rfl (kA [3] bY (uB T kb nb bt) (hr.mono (by decide)) (saB (bN aD (gF (aB 6) aD)) (saC kZ aH)) al2) (eE (dH 7 eL.nd) (eE (dH 8 eL.nd) kW)) rfl) (aM (bI (aQ (cE (saN (aB 5) (saN (aB 7) (saN (aB 8) (saL (dF (saC aD (saC aD aH))) aH))))))))) bP) (aF (cI (oH hr (aB 5) aD) (aF (iU rfl (kA [4] bY (aAa T kb nb bt) (hr.mono (by decide)) (saB (bN aD (gF (aB 6) aD)) aH) al1) (eE (dH 7 eL.nd) (eE (dH 8 eL.nd) kW)) rfl) (aM (bI (aQ (cE (saN (aB 5) (saN (aB 7) (saN (aB 8) (saL (dF (saC aD (saC aD aH))) aH))))))))) bP) (aF (iU rfl (kA [2] bY (aGy T kb nb bt) (hr.mono (by decide)) (saB (bN aD (gF (aB 6) aD)) (saB (bN aD (gF (mI (aB 6) aD) aD)) (saC aD aH))) al3) (eE (dH 7 eL.nd) (eE (dH 8 eL.nd) kW)) rfl) (aM (bI (aQ (cE (saN (aB 5) (saN (aB 7) (saN (aB 8) (saL (dF (saC aD (saC aD aH))) aH)))))))))))))
def yS:List Str:=["_law_first", "_law_second", "_law_found", "_law_one"]
theorem mB:FnScope yS ["_law_first", "_law_second"] (aG (top 60)):=⟨rfl,rfl,rfl,by decide +kernel,rfl,by decide +kernel,by decide +kernel⟩
theorem aEc:KnT P w K mg base 1 "_law_sums" 2 oJ:=fun T kb nb =>
 cS T.d_q_sums kb nb mB rfl rfl (by decide) (fun _ _ _ _ _ _ us hl=>match us,hl with | [_,_],_=>rfl) fun f cdv A outer s H E hr =>
  (aF (aY 2 mB.nd (aQ (dF aH))) (aF (gJ bY.own rfl (jT (aB 0)) (dH 3 mB.nd) cJ (aM (aY 2 mB.nd (aQ (bN (aB 2) (kC (aG (top 60)) yS ["_law_other", "_law_one"] 1 [3] rfl rfl rfl (jT (aB 1)) cJ (by decide +kernel) fun _ _ _ _=>⟨(dH 0 (show List.Nodup (["_law_other", "_law_one"]:List Str) from (by decide +kernel))),uN,(bN (aB 1) (aB 0))⟩)))))) (aM (fU 2))))
def aDb:List Str:=["_law_script", "0shelf", "0counter", "0queue", "_law_way", "_law_machine", "_law_states", "_law_prices", "_law_word", "_law_purse", "_law_bounds", "_law_small", "_law_first", "_law_second", "_law_both"]
theorem gQ:FnScope aDb ["_law_script"] (aG (top 61)):=⟨rfl,rfl,rfl,by decide +kernel,rfl,by decide +kernel,by decide +kernel⟩
end
end K31
end VL
end
section
namespace VL
open PySem PySem.Spec PyProof.Rows L2
namespace K31
section
variable {P:Program} {w:World} {K:FG} {mg:Y6} {base:Heap}
def ls (j:Nat):Stmt:=(cL (top 61)).getD j (.Pass ⟨0,0,0,0⟩)
abbrev LX (P:Program) (w:World) (K:FG) (mg:Y6) (base:Heap) (f:Addr) (cdv:Value) (A:Around) (outer:List PySem.Env) (s:Shared) (H:Hp) (E:XK):Cx:=gE (CX1 P w) P w K mg base aDb "law" (aG (top 61)) f cdv A outer s H E
theorem bAt (T:Txt K mg) (base:Heap) (kb:K.In base) (nb:base.Ns mainGlobals mg) (bt:BT K mg base) (f:Addr) (cdv:Value) (A:Around) (outer:List PySem.Env) (s:Shared) (H:Hp) (E:XK) (hr:Room 8 (A.deeper (envOfC "law" (aG (top 61)) s.heap.objs.size f cdv))):SS (LX P w K mg base f cdv A outer s H E) (wOf K E) (ls 0) (bM [4,5,6,7] (bT dW (aA (aC 0) (aA (vC (.int 0)) aE)) [1,2,3] ["shelf", "counter", "queue"])) :=
 (iU rfl (kA [1,2,3] bY (aA6 T kb nb bt) (hr.mono (by decide)) (saN (aB 0) (saC aD aH)) al2) (eE (dH 4 gQ.nd) (eE (dH 5 gQ.nd) (eE (dH 6 gQ.nd) (eE (dH 7 gQ.nd) kW)))) rfl)
theorem aZ1 (T:Txt K mg) (base:Heap) (kb:K.In base) (nb:base.Ns mainGlobals mg) (bt:BT K mg base) (f:Addr) (cdv:Value) (A:Around) (outer:List PySem.Env) (s:Shared) (H:Hp) (E:XK) (hr:Room 8 (A.deeper (envOfC "law" (aG (top 61)) s.heap.objs.size f cdv))):SS (LX P w K mg base f cdv A outer s H E) (wOf K E) (ls 1) (bM [8,9] (bO aV (aA (aC 5) (aA (aC 7) aE)))) :=
 (iU rfl (dD bY (eA T kb nb) (hr.mono (by decide)) (saN (aB 5) (saN (aB 7) aH)) al2) (eE (dH 8 gQ.nd) (eE (dH 9 gQ.nd) kW)) rfl)
theorem bAv (T:Txt K mg) (base:Heap) (kb:K.In base) (nb:base.Ns mainGlobals mg) (bt:BT K mg base) (f:Addr) (cdv:Value) (A:Around) (outer:List PySem.Env) (s:Shared) (H:Hp) (E:XK) (hr:Room 8 (A.deeper (envOfC "law" (aG (top 61)) s.heap.objs.size f cdv))):SS (LX P w K mg base f cdv A outer s H E) (wOf K E) (ls 2) (sIf (gR (aN (v2 (kEq true) (aC 8) (vC (.str "purse")))) (dA (dS (aO jI (aA (aC 5) (aA (aC 7) (aA (aC 9) aE))))))) (bD (xOf (vC (.bl false)))) aZ) :=
 (cI (nO (mU (lC hr (aB 8) iB) (kR (fJ (eB (bC (aC8 T kb nb) (hr.mono (by decide)) (saN (aB 5) (saN (aB 7) (saN (aB 9) aH))) al3)))))) (aM (bI (aQ kZ))) bP)
theorem bAy (T:Txt K mg) (base:Heap) (kb:K.In base) (nb:base.Ns mainGlobals mg) (bt:BT K mg base) (f:Addr) (cdv:Value) (A:Around) (outer:List PySem.Env) (s:Shared) (H:Hp) (E:XK) (hr:Room 8 (A.deeper (envOfC "law" (aG (top 61)) s.heap.objs.size f cdv))):SS (LX P w K mg base f cdv A outer s H E) (wOf K E) (ls 3) (aX 10 (xOf (dN (jH (aC 6)) 1 [4] (bW 0) eW (aO pC (aA (aC 1) (aA (aC 0) aE)))))) :=
 (aY 10 gQ.nd (aQ (kC (aG (top 61)) aDb ["_law_state", "_law_way"] 1 [4] rfl rfl rfl (jT (aB 6)) cJ (by decide +kernel) fun _ _ _ _=>⟨(dH 0 (show List.Nodup (["_law_state", "_law_way"]:List Str) from (by decide +kernel))),uN,(bC (aEs T kb nb) (hr.mono (by decide)) (saN (aB 1) (saN (aB 0) aH)) al2)⟩)))
theorem aZv (T:Txt K mg) (base:Heap) (kb:K.In base) (nb:base.Ns mainGlobals mg) (bt:BT K mg base) (f:Addr) (cdv:Value) (A:Around) (outer:List PySem.Env) (s:Shared) (H:Hp) (E:XK) (hr:Room 8 (A.deeper (envOfC "law" (aG (top 61)) s.heap.objs.size f cdv))):SS (LX P w K mg base f cdv A outer s H E) (wOf K E) (ls 4) (sIf (gR (dA (dS (aO jI (aA (aC 5) (aA (aC 7) (aA (aC 10) aE)))))) (dS (vCB rS (aA (dN (iR1 (aA (vCB dZ (aA (aC 6) aE)) aE)) 1 [9,10] (bW 0) eW (v2 kGt (v2 kIx (aC 1) (aC 0)) (v2 kIx (aC 2) (aC 0)))) aE)))) (bD (xOf (vC (.bl false)))) aZ) :=
 (cI (nO (mU (fJ (eB (bC (aC8 T kb nb) (hr.mono (by decide)) (saN (aB 5) (saN (aB 7) (saN (aB 10) aH))) al3))) (kR (eB (aU1 rfl T.n_any (kC (aG (top 61)) aDb ["_law_k", "_law_purse", "_law_bounds"] 1 [9,10] rfl rfl rfl (gA T.n_range (saK (fV T.n_len (aB 6)) aH)) cJ (by decide +kernel) fun _ _ _ _=>⟨(dH 0 (show List.Nodup (["_law_k", "_law_purse", "_law_bounds"]:List Str) from (by decide +kernel))),uN,(aWx (aK (aB 1) (aB 0)) (aK (aB 2) (aB 0)))⟩)))))) (aM (bI (aQ kZ))) bP)
theorem bAb (T:Txt K mg) (base:Heap) (kb:K.In base) (nb:base.Ns mainGlobals mg) (bt:BT K mg base) (f:Addr) (cdv:Value) (A:Around) (outer:List PySem.Env) (s:Shared) (H:Hp) (E:XK) (hr:Room 8 (A.deeper (envOfC "law" (aG (top 61)) s.heap.objs.size f cdv))):SS (LX P w K mg base f cdv A outer s H E) (wOf K E) (ls 5) (sIf (cZ (aN (v2 (kEq false) (aC 4) (vC (.int 1)))) (cZ (aN (v2 kGt (vCB dZ (aA (aC 6) aE)) (vC (.int 3)))) (aN (v2 (kEq true) (v2 kIx (aO aV (aA (aC 5) (aA (cN (aA (vC (.int 2)) (aA (vC (.int 1)) aE))) aE))) (vC (.int 0))) (vC (.str "row")))))) (bD (xOf (vC (.bl false)))) aZ) :=
 (cI (nO (kH (oH hr (aB 4) aD) (kH (kX (fV T.n_len (aB 6)) aD) (mH (lC hr (aK (bC (eA T kb nb) (hr.mono (by decide)) (saN (aB 5) (saL (dF (saC aD (saC aD aH))) aH)) al2) aD) iB))))) (aM (bI (aQ kZ))) bP)
theorem aZt (T:Txt K mg) (base:Heap) (kb:K.In base) (nb:base.Ns mainGlobals mg) (bt:BT K mg base) (f:Addr) (cdv:Value) (A:Around) (outer:List PySem.Env) (s:Shared) (H:Hp) (E:XK) (hr:Room 8 (A.deeper (envOfC "law" (aG (top 61)) s.heap.objs.size f cdv))):SS (LX P w K mg base f cdv A outer s H E) (wOf K E) (ls 6) (sIf (cZ (aN (v2 (kEq false) (aC 4) (vC (.int 0)))) (cZ (aN (v2 kGt (vCB dZ (aA (aC 6) aE)) (vC (.int 2)))) (aN (v2 (kEq true) (v2 kIx (aO aV (aA (aC 5) (aA (cN (aA (vC (.int 1)) (aA (vC (.int 0)) aE))) aE))) (vC (.int 0))) (vC (.str "row")))))) (bD (xOf (vC (.bl false)))) aZ) :=
 (cI (nO (kH (oH hr (aB 4) aD) (kH (kX (fV T.n_len (aB 6)) aD) (mH (lC hr (aK (bC (eA T kb nb) (hr.mono (by decide)) (saN (aB 5) (saL (dF (saC aD (saC aD aH))) aH)) al2) aD) iB))))) (aM (bI (aQ kZ))) bP)
theorem bAh (T:Txt K mg) (base:Heap) (kb:K.In base) (nb:base.Ns mainGlobals mg) (bt:BT K mg base) (f:Addr) (cdv:Value) (A:Around) (outer:List PySem.Env) (s:Shared) (H:Hp) (E:XK) (hr:Room 8 (A.deeper (envOfC "law" (aG (top 61)) s.heap.objs.size f cdv))):SS (LX P w K mg base f cdv A outer s H E) (wOf K E) (ls 7) (sIf (aN (v2 kGt (v2 dQ (aO cK (aA (aC 0) (aA (vC (.int 9)) aE))) (vC (.int 4))) (vC (.int 0)))) (bD (xOf (vC (.bl true)))) aZ) :=
 (cI (kX (gF (bC (lU T kb nb) (hr.mono (by decide)) (saN (aB 0) (saC aD aH)) al2) aD) aD) (aM (bI (aQ kZ))) bP)
theorem bAd (T:Txt K mg) (base:Heap) (kb:K.In base) (nb:base.Ns mainGlobals mg) (bt:BT K mg base) (f:Addr) (cdv:Value) (A:Around) (outer:List PySem.Env) (s:Shared) (H:Hp) (E:XK) (hr:Room 8 (A.deeper (envOfC "law" (aG (top 61)) s.heap.objs.size f cdv))):SS (LX P w K mg base f cdv A outer s H E) (wOf K E) (ls 8) (aX 11 (tX (uL (bT bE (aA (v2 bB (vC (.int 1)) (v2 dQ (aO cK (aA (aC 0) (aA (vC (.int 5)) aE))) (vC (.int 3)))) aE) [3] ["queue"])) (uL (bT bA (aA (v2 bB (vC (.int 1)) (v2 dQ (aO cK (aA (aC 0) (aA (vC (.int 6)) aE))) (vC (.int 3)))) (aA (vC (.bl false)) aE)) [2] ["counter"])))) :=
 (aY 11 gQ.nd (aN2 (aH6 (kA [3] bY (aAa T kb nb bt) (hr.mono (by decide)) (saB (bN aD (gF (bC (lU T kb nb) (hr.mono (by decide)) (saN (aB 0) (saC aD aH)) al2) aD)) aH) al1)) (aH6 (kA [2] bY (uB T kb nb bt) (hr.mono (by decide)) (saB (bN aD (gF (bC (lU T kb nb) (hr.mono (by decide)) (saN (aB 0) (saC aD aH)) al2) aD)) (saC kZ aH)) al2))))
theorem bAe (T:Txt K mg) (base:Heap) (kb:K.In base) (nb:base.Ns mainGlobals mg) (bt:BT K mg base) (f:Addr) (cdv:Value) (A:Around) (outer:List PySem.Env) (s:Shared) (H:Hp) (E:XK) (hr:Room 8 (A.deeper (envOfC "law" (aG (top 61)) s.heap.objs.size f cdv))):SS (LX P w K mg base f cdv A outer s H E) (wOf K E) (ls 9) (aX 12 (xOf (v2 kIx (aO aV (aA (v2 kIx (aC 11) (vC (.int 0))) (aA (cN (aA (vC (.int 3)) (aA (vC (.int 1)) aE))) aE))) (vC (.int 1))))) :=
 (aY 12 gQ.nd (aQ (aK (bC (eA T kb nb) (hr.mono (by decide)) (saS (aK (aB 11) aD) (saL (dF (saC aD (saC aD aH))) aH)) al2) aD)))
theorem aYh (T:Txt K mg) (base:Heap) (kb:K.In base) (nb:base.Ns mainGlobals mg) (bt:BT K mg base) (f:Addr) (cdv:Value) (A:Around) (outer:List PySem.Env) (s:Shared) (H:Hp) (E:XK) (hr:Room 8 (A.deeper (envOfC "law" (aG (top 61)) s.heap.objs.size f cdv))):SS (LX P w K mg base f cdv A outer s H E) (wOf K E) (ls 10) (aX 13 (xOf (v2 kIx (aO aV (aA (v2 kIx (aC 11) (vC (.int 1))) (aA (cN (aA (vC (.int 2)) (aA (vC (.int 0)) aE))) aE))) (vC (.int 1))))) :=
 (aY 13 gQ.nd (aQ (aK (bC (eA T kb nb) (hr.mono (by decide)) (saS (aK (aB 11) aD) (saL (dF (saC aD (saC aD aH))) aH)) al2) aD)))
theorem aYb (T:Txt K mg) (base:Heap) (kb:K.In base) (nb:base.Ns mainGlobals mg) (bt:BT K mg base) (f:Addr) (cdv:Value) (A:Around) (outer:List PySem.Env) (s:Shared) (H:Hp) (E:XK) (hr:Room 8 (A.deeper (envOfC "law" (aG (top 61)) s.heap.objs.size f cdv))):SS (LX P w K mg base f cdv A outer s H E) (wOf K E) (ls 11) (bM [8,14] (bO aV (aA (aO jZ (aA (v2 kIx (aC 11) (vC (.int 0))) (aA (v2 kIx (aC 11) (vC (.int 1))) aE))) (aA (cN (aA (vC (.int 3)) (aA (vC (.int 1)) (aA (vC (.int 2)) (aA (vC (.int 0)) aE))))) aE)))) :=
 (iU rfl (dD bY (eA T kb nb) (hr.mono (by decide)) (saK (bC (aE9 T kb nb) (hr.mono (by decide)) (saS (aK (aB 11) aD) (saS (aK (aB 11) aD) aH)) al2) (saL (dF (saC aD (saC aD (saC aD (saC aD aH))))) aH)) al2) (eE (dH 8 gQ.nd) (eE (dH 14 gQ.nd) kW)) rfl)
theorem aW9 (T:Txt K mg) (base:Heap) (kb:K.In base) (nb:base.Ns mainGlobals mg) (bt:BT K mg base) (f:Addr) (cdv:Value) (A:Around) (outer:List PySem.Env) (s:Shared) (H:Hp) (E:XK) (hr:Room 8 (A.deeper (envOfC "law" (aG (top 61)) s.heap.objs.size f cdv))):SS (LX P w K mg base f cdv A outer s H E) (wOf K E) (ls 12) (bD (xOf (wY (v2 (kEq false) (aC 8) (vC (.str "purse"))) (v2 (kEq false) (aC 14) (aO oJ (aA (aC 12) (aA (aC 13) aE))))))) :=
 (bI (aQ (yO (aGs hr (aB 8) iB) (rJ (aGs hr (aB 14) (bC (aEc T kb nb) (hr.mono (by decide)) (saN (aB 12) (saN (aB 13) aH)) al2))))))
theorem aUf (T:Txt K mg) (base:Heap) (kb:K.In base) (nb:base.Ns mainGlobals mg) (bt:BT K mg base) (f:Addr) (cdv:Value) (A:Around) (outer:List PySem.Env) (s:Shared) (H:Hp) (E:XK) (hr:Room 8 (A.deeper (envOfC "law" (aG (top 61)) s.heap.objs.size f cdv))):SSs (LX P w K mg base f cdv A outer s H E) (wOf K E) (cL (top 61)) aAb :=
 (@aF _ _ _ _ _ _ (@bAt _ _ _ _ T base kb nb bt f cdv A outer s H E hr) (@aF _ _ _ _ _ _ (@aZ1 _ _ _ _ T base kb nb bt f cdv A outer s H E hr) (@aF _ _ _ _ _ _ (@bAv _ _ _ _ T base kb nb bt f cdv A outer s H E hr) (@aF _ _ _ _ _ _ (@bAy _ _ _ _ T base kb nb bt f cdv A outer s H E hr) (@aF _ _ _ _ _ _ (@aZv _ _ _ _ T base kb nb bt f cdv A outer s H E hr) (@aF _ _ _ _ _ _ (@bAb _ _ _ _ T base kb nb bt f cdv A outer s H E hr) (@aF _ _ _ _ _ _ (@aZt _ _ _ _ T base kb nb bt f cdv A outer s H E hr) (@aF _ _ _ _ _ _ (@bAh _ _ _ _ T base kb nb bt f cdv A outer s H E hr) (@aF _ _ _ _ _ _ (@bAd _ _ _ _ T base kb nb bt f cdv A outer s H E hr) (@aF _ _ _ _ _ _ (@bAe _ _ _ _ T base kb nb bt f cdv A outer s H E hr) (@aF _ _ _ _ _ _ (@aYh _ _ _ _ T base kb nb bt f cdv A outer s H E hr) (@aF _ _ _ _ _ _ (@aYb _ _ _ _ T base kb nb bt f cdv A outer s H E hr) (@aM _ _ _ _ (@aW9 _ _ _ _ T base kb nb bt f cdv A outer s H E hr))))))))))))))
end
end K31
end VL
end
section
namespace VL.K31
open VL PySem L2
def lw0:SemS:=(bM [4,5,6,7] (bT dW (aA (aC 0) (aA (vC (.int 0)) aE)) [1,2,3] ["shelf", "counter", "queue"]))
def lw1:SemS:=(bM [8,9] (bO aV (aA (aC 5) (aA (aC 7) aE))))
def lw2:SemS:=(sIf (gR (aN (v2 (kEq true) (aC 8) (vC (.str "purse")))) (dA (dS (aO jI (aA (aC 5) (aA (aC 7) (aA (aC 9) aE))))))) (bD (xOf (vC (.bl false)))) aZ)
def lw3:SemS:=(aX 10 (xOf (dN (jH (aC 6)) 1 [4] (bW 0) eW (aO pC (aA (aC 1) (aA (aC 0) aE))))))
def lw4:SemS:=(sIf (gR (dA (dS (aO jI (aA (aC 5) (aA (aC 7) (aA (aC 10) aE)))))) (dS (vCB rS (aA (dN (iR1 (aA (vCB dZ (aA (aC 6) aE)) aE)) 1 [9,10] (bW 0) eW (v2 kGt (v2 kIx (aC 1) (aC 0)) (v2 kIx (aC 2) (aC 0)))) aE)))) (bD (xOf (vC (.bl false)))) aZ)
def lw5:SemS:=(sIf (cZ (aN (v2 (kEq false) (aC 4) (vC (.int 1)))) (cZ (aN (v2 kGt (vCB dZ (aA (aC 6) aE)) (vC (.int 3)))) (aN (v2 (kEq true) (v2 kIx (aO aV (aA (aC 5) (aA (cN (aA (vC (.int 2)) (aA (vC (.int 1)) aE))) aE))) (vC (.int 0))) (vC (.str "row")))))) (bD (xOf (vC (.bl false)))) aZ)
def lw6:SemS:=(sIf (cZ (aN (v2 (kEq false) (aC 4) (vC (.int 0)))) (cZ (aN (v2 kGt (vCB dZ (aA (aC 6) aE)) (vC (.int 2)))) (aN (v2 (kEq true) (v2 kIx (aO aV (aA (aC 5) (aA (cN (aA (vC (.int 1)) (aA (vC (.int 0)) aE))) aE))) (vC (.int 0))) (vC (.str "row")))))) (bD (xOf (vC (.bl false)))) aZ)
def lw7:SemS:=(sIf (aN (v2 kGt (v2 dQ (aO cK (aA (aC 0) (aA (vC (.int 9)) aE))) (vC (.int 4))) (vC (.int 0)))) (bD (xOf (vC (.bl true)))) aZ)
def lw8:SemS:=(aX 11 (tX (uL (bT bE (aA (v2 bB (vC (.int 1)) (v2 dQ (aO cK (aA (aC 0) (aA (vC (.int 5)) aE))) (vC (.int 3)))) aE) [3] ["queue"])) (uL (bT bA (aA (v2 bB (vC (.int 1)) (v2 dQ (aO cK (aA (aC 0) (aA (vC (.int 6)) aE))) (vC (.int 3)))) (aA (vC (.bl false)) aE)) [2] ["counter"]))))
def lw9:SemS:=(aX 12 (xOf (v2 kIx (aO aV (aA (v2 kIx (aC 11) (vC (.int 0))) (aA (cN (aA (vC (.int 3)) (aA (vC (.int 1)) aE))) aE))) (vC (.int 1)))))
def aLy:SemS:=(aX 13 (xOf (v2 kIx (aO aV (aA (v2 kIx (aC 11) (vC (.int 1))) (aA (cN (aA (vC (.int 2)) (aA (vC (.int 0)) aE))) aE))) (vC (.int 1)))))
def aN4:SemS:=(bM [8,14] (bO aV (aA (aO jZ (aA (v2 kIx (aC 11) (vC (.int 0))) (aA (v2 kIx (aC 11) (vC (.int 1))) aE))) (aA (cN (aA (vC (.int 3)) (aA (vC (.int 1)) (aA (vC (.int 2)) (aA (vC (.int 0)) aE))))) aE))))
def aU2:SemS:=(bD (xOf (wY (v2 (kEq false) (aC 8) (vC (.str "purse"))) (v2 (kEq false) (aC 14) (aO oJ (aA (aC 12) (aA (aC 13) aE)))))))
def lT1:SemS:=(aI lw1 (aI lw2 (aI lw3 (aI lw4 (aI lw5 lw6)))))
def lT3:SemS:=(aI lw9 (aI aLy (aI aN4 aU2)))
theorem aT1:aAb=(aI lw0 (aI lw1 (aI lw2 (aI lw3 (aI lw4 (aI lw5 (aI lw6 (aI lw7 (aI lw8 (aI lw9 (aI aLy (aI aN4 aU2)))))))))))):=rfl
def two (r:R D):D×D:=match r with | .ok (.tup [m,s])=>(m,s) | _=>(.non,.non)
def mC (a:Int):D×D:=two (pZ [.int a] [.bl false])
def mQ (a:Int):D×D:=two (xG [.int a])
def mS (a g:Int):D×D:=two (yM [.int a,.int g] [.int g,.int 0])
def EV (s0 g1 g2 g3:Slot) (w:Int) (mm:D×D) (p:Y0):Env:=[s0,g1,g2,g3,.val (.int w),.val mm.1,.val mm.2,.val (.lst false (p.map D.int)),.un,.un,.un,.un,.un,.un,.un]
def pick (o:Out):Option (List Slot):=match o with | .next [a,b,c,d,.val _,.val _,.val _,.val _,.val _,.val _,.val _,.un,.un,.un,.un]=>some [a,b,c,d] | _=>none
def EW (s0 g1 g2 g3:Slot) (d4 d5 d6 d7 d8 d9 d10:D) (a b:D):Env:=[s0,g1,g2,g3,.val d4,.val d5,.val d6,.val d7,.val d8,.val d9,.val d10,.val (.lst true [a,b]),.un,.un,.un]
def isT (o:Out):Bool:=match o with | .ret (.bl b) _=>b | _=>false
end VL.K31
end
section
namespace VL.K31
open VL PySem L2
def aCa (ns:Y0) (k:Nat):Int:=if ns=[] then 0 else gt ns (k % ns.length)
theorem aZs {xs:Y0}:(I xs).isEmpty=decide (xs=[]):=by cases xs<;>simp [I]
theorem aWh {xs:Y0} {k:Nat} (h:k<xs.length):atI (I xs) (k:Int)=some (.int (gt xs k)):=by
 rw [iH,aVp h]
theorem aTd {ns:Y0} {k:Nat}:Ret tH [.lst false (I ns),.int k] (.int (aCa ns k)):=by
 refine aHr ?_
 by_cases h:ns=[]
 ·subst h
  simp [uE,entry,qE,zD,aCa]
 ·have hl:0<ns.length:=List.length_pos_iff.mpr h
  have e:((k:Int) % (ns.length:Nat))=((k % ns.length:Nat):Int):=by simp
  simp [uE,entry,qE,zD,aCa,aZs,h,hl,-Int.natCast_emod]
  rw [e,aWh (Nat.mod_lt _ hl)]
  simp
def aBa (ns:Y0) (k:Nat):Int:=(aCa ns k+104729 * ((k:Int)+1)) % 4294967291
def aB4 (ns:Y0) (k:Nat):Int:=aBa ns k * 48271 % 4294967279
def cF (ns:Y0) (k:Nat):Int:=(aB4 ns k / 64 * 69621+aB4 ns k) % 4294967231
theorem fits_of {i:Int} (h:i.natAbs<2 ^ 200):fits i=true:=by
 unfold fits;rw [Bool.and_eq_true,decide_eq_true_iff,decide_eq_true_iff];omega
theorem eF {x:Int} (h:-1000000000000<=x) (h2:x<=1000000000000):fits x=true:=fits_of (Nat.lt_of_le_of_lt (show x.natAbs<=1000000000000 by omega) (by decide))
theorem aXp {ns:Y0} {k:Nat} (hk:k<=1000000):Ret cK [.lst false (I ns),.int k] (.int (cF ns k)):=by
 refine aHr ?_
 have h1:0<=aBa ns k:=Int.emod_nonneg _ (by decide)
 have h1':aBa ns k<4294967291:=Int.emod_lt_of_pos _ (by decide)
 have h2:0<=aB4 ns k:=Int.emod_nonneg _ (by decide)
 have h2':aB4 ns k<4294967279:=Int.emod_lt_of_pos _ (by decide)
 have f0:fits 104729=true:=eF (by decide) (by decide)
 have f1:fits ((k:Int)+1)=true:=eF (by omega) (by omega)
 have f2:fits 48271=true:=eF (by decide) (by decide)
 have f3:fits 69621=true:=eF (by decide) (by decide)
 have f4:fits 64=true:=eF (by decide) (by decide)
 have f5:fits (aBa ns k)=true:=eF (by omega) (by omega)
 have f6:fits (aB4 ns k / 64)=true:=eF (by omega) (by omega)
 unfold aBa at f5
 unfold aB4 aBa at f6
 simp -implicitDefEqProofs [aCh,entry,iI (aTd (ns:=ns) (k:=k)),f0,f1,f2,f3,f4,f5,f6,cF,aB4,aBa]
end VL.K31
end
section
namespace VL.K31
open VL PySem L2
def LS:List (Pos×Str):=[(⟨215,4,216,43⟩, "shelf.<locals>.put"),(⟨218,4,219,46⟩, "shelf.<locals>.take")]
def LC:List (Pos×Str):=[(⟨241,4,242,37⟩, "counter.<locals>.go_up"),(⟨244,4,245,39⟩, "counter.<locals>.go_down")]
def LQ:List (Pos×Str):=[(⟨262,4,263,37⟩, "queue.<locals>.put")]
theorem aQd:bA [.int 1,.bl false,.ext false (.tab "counter" [])]=.bad:=by kernel_rfl
theorem aPu:bA [.int 1,.bl false,.ext true (.tab "counter" [])]=.ok (.tup [(mC 1).1,(mC 1).2],[.int 1,.bl false,.ext true (.tab "counter" LC)]):=by kernel_rfl
theorem aP2:bA [.int 2,.bl false,.ext false (.tab "counter" [])]=.bad:=by kernel_rfl
theorem aPg:bA [.int 2,.bl false,.ext true (.tab "counter" [])]=.ok (.tup [(mC 2).1,(mC 2).2],[.int 2,.bl false,.ext true (.tab "counter" LC)]):=by kernel_rfl
theorem aPs:bA [.int 3,.bl false,.ext false (.tab "counter" [])]=.bad:=by kernel_rfl
theorem aOv:bA [.int 3,.bl false,.ext true (.tab "counter" [])]=.ok (.tup [(mC 3).1,(mC 3).2],[.int 3,.bl false,.ext true (.tab "counter" LC)]):=by kernel_rfl
theorem aX1:bA [.int 4,.bl false,.ext false (.tab "counter" [])]=.bad:=by kernel_rfl
theorem aXg:bA [.int 4,.bl false,.ext true (.tab "counter" [])]=.ok (.tup [(mC 4).1,(mC 4).2],[.int 4,.bl false,.ext true (.tab "counter" LC)]):=by kernel_rfl
theorem aYg:bA [.int 5,.bl false,.ext false (.tab "counter" [])]=.bad:=by kernel_rfl
theorem aV5:bA [.int 5,.bl false,.ext true (.tab "counter" [])]=.ok (.tup [(mC 5).1,(mC 5).2],[.int 5,.bl false,.ext true (.tab "counter" LC)]):=by kernel_rfl
theorem aXd:bA [.int 1,.bl false,.ext false (.tab "counter" LC)]=.bad:=by kernel_rfl
theorem aWg:bA [.int 1,.bl false,.ext true (.tab "counter" LC)]=.ok (.tup [(mC 1).1,(mC 1).2],[.int 1,.bl false,.ext true (.tab "counter" LC)]):=by kernel_rfl
theorem aVk:bA [.int 2,.bl false,.ext false (.tab "counter" LC)]=.bad:=by kernel_rfl
theorem aVn:bA [.int 2,.bl false,.ext true (.tab "counter" LC)]=.ok (.tup [(mC 2).1,(mC 2).2],[.int 2,.bl false,.ext true (.tab "counter" LC)]):=by kernel_rfl
theorem aW3:bA [.int 3,.bl false,.ext false (.tab "counter" LC)]=.bad:=by kernel_rfl
theorem aX3:bA [.int 3,.bl false,.ext true (.tab "counter" LC)]=.ok (.tup [(mC 3).1,(mC 3).2],[.int 3,.bl false,.ext true (.tab "counter" LC)]):=by kernel_rfl
theorem aP5:bE [.int 1,.ext false (.tab "queue" [])]=.bad:=by kernel_rfl
theorem aPa:bE [.int 1,.ext true (.tab "queue" [])]=.ok (.tup [(mQ 1).1,(mQ 1).2],[.int 1,.ext true (.tab "queue" LQ)]):=by kernel_rfl
theorem aQc:bE [.int 2,.ext false (.tab "queue" [])]=.bad:=by kernel_rfl
theorem aPq:bE [.int 2,.ext true (.tab "queue" [])]=.ok (.tup [(mQ 2).1,(mQ 2).2],[.int 2,.ext true (.tab "queue" LQ)]):=by kernel_rfl
theorem aO8:bE [.int 3,.ext false (.tab "queue" [])]=.bad:=by kernel_rfl
theorem aO4:bE [.int 3,.ext true (.tab "queue" [])]=.ok (.tup [(mQ 3).1,(mQ 3).2],[.int 3,.ext true (.tab "queue" LQ)]):=by kernel_rfl
theorem aXj:bE [.int 4,.ext false (.tab "queue" [])]=.bad:=by kernel_rfl
theorem aWa:bE [.int 4,.ext true (.tab "queue" [])]=.ok (.tup [(mQ 4).1,(mQ 4).2],[.int 4,.ext true (.tab "queue" LQ)]):=by kernel_rfl
theorem aWl:bE [.int 5,.ext false (.tab "queue" [])]=.bad:=by kernel_rfl
theorem aXn:bE [.int 5,.ext true (.tab "queue" [])]=.ok (.tup [(mQ 5).1,(mQ 5).2],[.int 5,.ext true (.tab "queue" LQ)]):=by kernel_rfl
theorem aVs:bE [.int 6,.ext false (.tab "queue" [])]=.bad:=by kernel_rfl
theorem aXm:bE [.int 6,.ext true (.tab "queue" [])]=.ok (.tup [(mQ 6).1,(mQ 6).2],[.int 6,.ext true (.tab "queue" LQ)]):=by kernel_rfl
theorem aX0:bE [.int 7,.ext false (.tab "queue" [])]=.bad:=by kernel_rfl
theorem aX9:bE [.int 7,.ext true (.tab "queue" [])]=.ok (.tup [(mQ 7).1,(mQ 7).2],[.int 7,.ext true (.tab "queue" LQ)]):=by kernel_rfl
theorem aW6:bE [.int 8,.ext false (.tab "queue" [])]=.bad:=by kernel_rfl
theorem aWq:bE [.int 8,.ext true (.tab "queue" [])]=.ok (.tup [(mQ 8).1,(mQ 8).2],[.int 8,.ext true (.tab "queue" LQ)]):=by kernel_rfl
theorem aWs:bE [.int 1,.ext false (.tab "queue" LQ)]=.bad:=by kernel_rfl
theorem aYf:bE [.int 1,.ext true (.tab "queue" LQ)]=.ok (.tup [(mQ 1).1,(mQ 1).2],[.int 1,.ext true (.tab "queue" LQ)]):=by kernel_rfl
theorem aWk:bE [.int 2,.ext false (.tab "queue" LQ)]=.bad:=by kernel_rfl
theorem aWi:bE [.int 2,.ext true (.tab "queue" LQ)]=.ok (.tup [(mQ 2).1,(mQ 2).2],[.int 2,.ext true (.tab "queue" LQ)]):=by kernel_rfl
theorem aYe:bE [.int 3,.ext false (.tab "queue" LQ)]=.bad:=by kernel_rfl
theorem aW2:bE [.int 3,.ext true (.tab "queue" LQ)]=.ok (.tup [(mQ 3).1,(mQ 3).2],[.int 3,.ext true (.tab "queue" LQ)]):=by kernel_rfl
theorem aOg:aL [.int 1,.int 2,.int 0,.ext false (.tab "shelf" [])]=.bad:=by kernel_rfl
theorem aNu:aL [.int 1,.int 2,.int 0,.ext true (.tab "shelf" [])]=.ok (.tup [(mS 1 2).1,(mS 1 2).2],[.int 1,.int 2,.int 0,.ext true (.tab "shelf" LS)]):=by kernel_rfl
theorem aOj:aL [.int 1,.int 3,.int 0,.ext false (.tab "shelf" [])]=.bad:=by kernel_rfl
theorem aKu:aL [.int 1,.int 3,.int 0,.ext true (.tab "shelf" [])]=.ok (.tup [(mS 1 3).1,(mS 1 3).2],[.int 1,.int 3,.int 0,.ext true (.tab "shelf" LS)]):=by kernel_rfl
theorem aKa:aL [.int 1,.int 4,.int 0,.ext false (.tab "shelf" [])]=.bad:=by kernel_rfl
theorem aKw:aL [.int 1,.int 4,.int 0,.ext true (.tab "shelf" [])]=.ok (.tup [(mS 1 4).1,(mS 1 4).2],[.int 1,.int 4,.int 0,.ext true (.tab "shelf" LS)]):=by kernel_rfl
theorem aLg:aL [.int 2,.int 2,.int 0,.ext false (.tab "shelf" [])]=.bad:=by kernel_rfl
theorem aL8:aL [.int 2,.int 2,.int 0,.ext true (.tab "shelf" [])]=.ok (.tup [(mS 2 2).1,(mS 2 2).2],[.int 2,.int 2,.int 0,.ext true (.tab "shelf" LS)]):=by kernel_rfl
theorem aLb:aL [.int 2,.int 3,.int 0,.ext false (.tab "shelf" [])]=.bad:=by kernel_rfl
theorem aNt:aL [.int 2,.int 3,.int 0,.ext true (.tab "shelf" [])]=.ok (.tup [(mS 2 3).1,(mS 2 3).2],[.int 2,.int 3,.int 0,.ext true (.tab "shelf" LS)]):=by kernel_rfl
theorem aNd:aL [.int 2,.int 4,.int 0,.ext false (.tab "shelf" [])]=.bad:=by kernel_rfl
theorem aKt:aL [.int 2,.int 4,.int 0,.ext true (.tab "shelf" [])]=.ok (.tup [(mS 2 4).1,(mS 2 4).2],[.int 2,.int 4,.int 0,.ext true (.tab "shelf" LS)]):=by kernel_rfl
theorem aM3:aL [.int 3,.int 2,.int 0,.ext false (.tab "shelf" [])]=.bad:=by kernel_rfl
theorem aJ5:aL [.int 3,.int 2,.int 0,.ext true (.tab "shelf" [])]=.ok (.tup [(mS 3 2).1,(mS 3 2).2],[.int 3,.int 2,.int 0,.ext true (.tab "shelf" LS)]):=by kernel_rfl
theorem aLk:aL [.int 3,.int 3,.int 0,.ext false (.tab "shelf" [])]=.bad:=by kernel_rfl
theorem aJ7:aL [.int 3,.int 3,.int 0,.ext true (.tab "shelf" [])]=.ok (.tup [(mS 3 3).1,(mS 3 3).2],[.int 3,.int 3,.int 0,.ext true (.tab "shelf" LS)]):=by kernel_rfl
theorem aL9:aL [.int 3,.int 4,.int 0,.ext false (.tab "shelf" [])]=.bad:=by kernel_rfl
theorem aMc:aL [.int 3,.int 4,.int 0,.ext true (.tab "shelf" [])]=.ok (.tup [(mS 3 4).1,(mS 3 4).2],[.int 3,.int 4,.int 0,.ext true (.tab "shelf" LS)]):=by kernel_rfl
theorem aOn:aL [.int 4,.int 2,.int 0,.ext false (.tab "shelf" [])]=.bad:=by kernel_rfl
theorem aKe:aL [.int 4,.int 2,.int 0,.ext true (.tab "shelf" [])]=.ok (.tup [(mS 4 2).1,(mS 4 2).2],[.int 4,.int 2,.int 0,.ext true (.tab "shelf" LS)]):=by kernel_rfl
theorem aOa:aL [.int 4,.int 3,.int 0,.ext false (.tab "shelf" [])]=.bad:=by kernel_rfl
theorem aMw:aL [.int 4,.int 3,.int 0,.ext true (.tab "shelf" [])]=.ok (.tup [(mS 4 3).1,(mS 4 3).2],[.int 4,.int 3,.int 0,.ext true (.tab "shelf" LS)]):=by kernel_rfl
theorem aMn:aL [.int 4,.int 4,.int 0,.ext false (.tab "shelf" [])]=.bad:=by kernel_rfl
theorem aMs:aL [.int 4,.int 4,.int 0,.ext true (.tab "shelf" [])]=.ok (.tup [(mS 4 4).1,(mS 4 4).2],[.int 4,.int 4,.int 0,.ext true (.tab "shelf" LS)]):=by kernel_rfl
theorem aN9:aL [.int 5,.int 2,.int 0,.ext false (.tab "shelf" [])]=.bad:=by kernel_rfl
theorem aMr:aL [.int 5,.int 2,.int 0,.ext true (.tab "shelf" [])]=.ok (.tup [(mS 5 2).1,(mS 5 2).2],[.int 5,.int 2,.int 0,.ext true (.tab "shelf" LS)]):=by kernel_rfl
theorem aLn:aL [.int 5,.int 3,.int 0,.ext false (.tab "shelf" [])]=.bad:=by kernel_rfl
theorem aL3:aL [.int 5,.int 3,.int 0,.ext true (.tab "shelf" [])]=.ok (.tup [(mS 5 3).1,(mS 5 3).2],[.int 5,.int 3,.int 0,.ext true (.tab "shelf" LS)]):=by kernel_rfl
theorem aJ8:aL [.int 5,.int 4,.int 0,.ext false (.tab "shelf" [])]=.bad:=by kernel_rfl
theorem aLt:aL [.int 5,.int 4,.int 0,.ext true (.tab "shelf" [])]=.ok (.tup [(mS 5 4).1,(mS 5 4).2],[.int 5,.int 4,.int 0,.ext true (.tab "shelf" LS)]):=by kernel_rfl
theorem aJ4:aL [.int 6,.int 2,.int 0,.ext false (.tab "shelf" [])]=.bad:=by kernel_rfl
theorem aNf:aL [.int 6,.int 2,.int 0,.ext true (.tab "shelf" [])]=.ok (.tup [(mS 6 2).1,(mS 6 2).2],[.int 6,.int 2,.int 0,.ext true (.tab "shelf" LS)]):=by kernel_rfl
theorem aK1:aL [.int 6,.int 3,.int 0,.ext false (.tab "shelf" [])]=.bad:=by kernel_rfl
theorem aOb:aL [.int 6,.int 3,.int 0,.ext true (.tab "shelf" [])]=.ok (.tup [(mS 6 3).1,(mS 6 3).2],[.int 6,.int 3,.int 0,.ext true (.tab "shelf" LS)]):=by kernel_rfl
theorem aN7:aL [.int 6,.int 4,.int 0,.ext false (.tab "shelf" [])]=.bad:=by kernel_rfl
theorem aLz:aL [.int 6,.int 4,.int 0,.ext true (.tab "shelf" [])]=.ok (.tup [(mS 6 4).1,(mS 6 4).2],[.int 6,.int 4,.int 0,.ext true (.tab "shelf" LS)]):=by kernel_rfl
theorem aOc:aL [.int 7,.int 2,.int 0,.ext false (.tab "shelf" [])]=.bad:=by kernel_rfl
theorem aLf:aL [.int 7,.int 2,.int 0,.ext true (.tab "shelf" [])]=.ok (.tup [(mS 7 2).1,(mS 7 2).2],[.int 7,.int 2,.int 0,.ext true (.tab "shelf" LS)]):=by kernel_rfl
theorem aNg:aL [.int 7,.int 3,.int 0,.ext false (.tab "shelf" [])]=.bad:=by kernel_rfl
theorem aLl:aL [.int 7,.int 3,.int 0,.ext true (.tab "shelf" [])]=.ok (.tup [(mS 7 3).1,(mS 7 3).2],[.int 7,.int 3,.int 0,.ext true (.tab "shelf" LS)]):=by kernel_rfl
theorem aL4:aL [.int 7,.int 4,.int 0,.ext false (.tab "shelf" [])]=.bad:=by kernel_rfl
theorem aMx:aL [.int 7,.int 4,.int 0,.ext true (.tab "shelf" [])]=.ok (.tup [(mS 7 4).1,(mS 7 4).2],[.int 7,.int 4,.int 0,.ext true (.tab "shelf" LS)]):=by kernel_rfl
theorem aMu:aL [.int 8,.int 2,.int 0,.ext false (.tab "shelf" [])]=.bad:=by kernel_rfl
theorem aOk:aL [.int 8,.int 2,.int 0,.ext true (.tab "shelf" [])]=.ok (.tup [(mS 8 2).1,(mS 8 2).2],[.int 8,.int 2,.int 0,.ext true (.tab "shelf" LS)]):=by kernel_rfl
theorem aL2:aL [.int 8,.int 3,.int 0,.ext false (.tab "shelf" [])]=.bad:=by kernel_rfl
theorem aN8:aL [.int 8,.int 3,.int 0,.ext true (.tab "shelf" [])]=.ok (.tup [(mS 8 3).1,(mS 8 3).2],[.int 8,.int 3,.int 0,.ext true (.tab "shelf" LS)]):=by kernel_rfl
theorem aOq:aL [.int 8,.int 4,.int 0,.ext false (.tab "shelf" [])]=.bad:=by kernel_rfl
theorem aMi:aL [.int 8,.int 4,.int 0,.ext true (.tab "shelf" [])]=.ok (.tup [(mS 8 4).1,(mS 8 4).2],[.int 8,.int 4,.int 0,.ext true (.tab "shelf" LS)]):=by kernel_rfl
theorem aOp:aL [.int 9,.int 2,.int 0,.ext false (.tab "shelf" [])]=.bad:=by kernel_rfl
theorem aM2:aL [.int 9,.int 2,.int 0,.ext true (.tab "shelf" [])]=.ok (.tup [(mS 9 2).1,(mS 9 2).2],[.int 9,.int 2,.int 0,.ext true (.tab "shelf" LS)]):=by kernel_rfl
theorem aJ9:aL [.int 9,.int 3,.int 0,.ext false (.tab "shelf" [])]=.bad:=by kernel_rfl
theorem aN5:aL [.int 9,.int 3,.int 0,.ext true (.tab "shelf" [])]=.ok (.tup [(mS 9 3).1,(mS 9 3).2],[.int 9,.int 3,.int 0,.ext true (.tab "shelf" LS)]):=by kernel_rfl
theorem aNp:aL [.int 9,.int 4,.int 0,.ext false (.tab "shelf" [])]=.bad:=by kernel_rfl
theorem aN0:aL [.int 9,.int 4,.int 0,.ext true (.tab "shelf" [])]=.ok (.tup [(mS 9 4).1,(mS 9 4).2],[.int 9,.int 4,.int 0,.ext true (.tab "shelf" LS)]):=by kernel_rfl
theorem aJk:aL [.int 10,.int 2,.int 0,.ext false (.tab "shelf" [])]=.bad:=by kernel_rfl
theorem aG7:aL [.int 10,.int 2,.int 0,.ext true (.tab "shelf" [])]=.ok (.tup [(mS 10 2).1,(mS 10 2).2],[.int 10,.int 2,.int 0,.ext true (.tab "shelf" LS)]):=by kernel_rfl
theorem aGv:aL [.int 10,.int 3,.int 0,.ext false (.tab "shelf" [])]=.bad:=by kernel_rfl
theorem aHt:aL [.int 10,.int 3,.int 0,.ext true (.tab "shelf" [])]=.ok (.tup [(mS 10 3).1,(mS 10 3).2],[.int 10,.int 3,.int 0,.ext true (.tab "shelf" LS)]):=by kernel_rfl
theorem aG0:aL [.int 10,.int 4,.int 0,.ext false (.tab "shelf" [])]=.bad:=by kernel_rfl
theorem aHi:aL [.int 10,.int 4,.int 0,.ext true (.tab "shelf" [])]=.ok (.tup [(mS 10 4).1,(mS 10 4).2],[.int 10,.int 4,.int 0,.ext true (.tab "shelf" LS)]):=by kernel_rfl
theorem aH7:aL [.int 11,.int 2,.int 0,.ext false (.tab "shelf" [])]=.bad:=by kernel_rfl
theorem aH5:aL [.int 11,.int 2,.int 0,.ext true (.tab "shelf" [])]=.ok (.tup [(mS 11 2).1,(mS 11 2).2],[.int 11,.int 2,.int 0,.ext true (.tab "shelf" LS)]):=by kernel_rfl
theorem aGb:aL [.int 11,.int 3,.int 0,.ext false (.tab "shelf" [])]=.bad:=by kernel_rfl
theorem aGz:aL [.int 11,.int 3,.int 0,.ext true (.tab "shelf" [])]=.ok (.tup [(mS 11 3).1,(mS 11 3).2],[.int 11,.int 3,.int 0,.ext true (.tab "shelf" LS)]):=by kernel_rfl
theorem aJs:aL [.int 11,.int 4,.int 0,.ext false (.tab "shelf" [])]=.bad:=by kernel_rfl
theorem aGe:aL [.int 11,.int 4,.int 0,.ext true (.tab "shelf" [])]=.ok (.tup [(mS 11 4).1,(mS 11 4).2],[.int 11,.int 4,.int 0,.ext true (.tab "shelf" LS)]):=by kernel_rfl
theorem aIu:aL [.int 12,.int 2,.int 0,.ext false (.tab "shelf" [])]=.bad:=by kernel_rfl
theorem aFq:aL [.int 12,.int 2,.int 0,.ext true (.tab "shelf" [])]=.ok (.tup [(mS 12 2).1,(mS 12 2).2],[.int 12,.int 2,.int 0,.ext true (.tab "shelf" LS)]):=by kernel_rfl
theorem aIl:aL [.int 12,.int 3,.int 0,.ext false (.tab "shelf" [])]=.bad:=by kernel_rfl
theorem aJo:aL [.int 12,.int 3,.int 0,.ext true (.tab "shelf" [])]=.ok (.tup [(mS 12 3).1,(mS 12 3).2],[.int 12,.int 3,.int 0,.ext true (.tab "shelf" LS)]):=by kernel_rfl
theorem aIo:aL [.int 12,.int 4,.int 0,.ext false (.tab "shelf" [])]=.bad:=by kernel_rfl
theorem aI9:aL [.int 12,.int 4,.int 0,.ext true (.tab "shelf" [])]=.ok (.tup [(mS 12 4).1,(mS 12 4).2],[.int 12,.int 4,.int 0,.ext true (.tab "shelf" LS)]):=by kernel_rfl
end VL.K31
end
section
namespace VL.K31
open VL PySem L2
theorem aVq (a:Int) (n:Nat) (hn:0<n):∃r:Nat,r<n/\a % (n:Int)=(r:Int):=by
 have h1:=Int.emod_nonneg a (b:=(n:Int)) (by omega)
 have h2:=Int.emod_lt_of_pos a (b:=(n:Int)) (by omega)
 exact ⟨(a % (n:Int)).toNat,by omega,by omega⟩
theorem aJl {ns:Y0} (k:Nat) (hk:k<=1000) (b:Bool):lM cK [.lst false (I ns),.int (k:Int)] b=.ok (.int (cF ns k),true):=aL7 (aXp (by omega)) rfl
theorem mk0 {ns:Y0} {b:Bool}:lM cK [.lst false (I ns),.int 0] b=.ok (.int (cF ns 0),true):=aJl 0 (by omega) b
theorem mk1 {ns:Y0} {b:Bool}:lM cK [.lst false (I ns),.int 1] b=.ok (.int (cF ns 1),true):=aJl 1 (by omega) b
theorem mk5 {ns:Y0} {b:Bool}:lM cK [.lst false (I ns),.int 5] b=.ok (.int (cF ns 5),true):=aJl 5 (by omega) b
theorem mk6 {ns:Y0} {b:Bool}:lM cK [.lst false (I ns),.int 6] b=.ok (.int (cF ns 6),true):=aJl 6 (by omega) b
theorem mk9 {ns:Y0} {b:Bool}:lM cK [.lst false (I ns),.int 9] b=.ok (.int (cF ns 9),true):=aJl 9 (by omega) b
theorem vX {fn:Fn} {g:cH} {js:T0} {gx:List Str} {ρ:Env} {xs:List (D×Bool)} {gds:List D} {y:D×List D} (hg:g ρ=.ok xs) (hd:cY js ρ=some gds) (hk:(jB gx gds && fI js && D.bS (xs.map (·.1)))=true)
  (h1:fn (xs.map (·.1)++D.frzs gds)=.bad) (h2:fn (xs.map (·.1)++gds)=.ok y):bT fn g js gx ρ=.ok (y.1,true,cA js gds (y.2.drop xs.length) ρ):=by
 unfold bT
 rw [hg,hd]
 dsimp only
 rw [if_pos hk,h1,h2]
theorem aBp {fn:Fn} {g:cH} {js:T0} {gx:List Str} {ρ:Env} {xs:List (D×Bool)} {gds:List D} (hg:g ρ=.ok xs) (hd:cY js ρ=some gds)
  (h1:fn (xs.map (·.1)++D.frzs gds)=.bad) (h2:fn (xs.map (·.1)++gds)=.bad):bT fn g js gx ρ=.bad:=by
 unfold bT
 rw [hg,hd]
 dsimp only
 rw [h1,h2]
 split<;>rfl
def EM (ns:Y0) (x2 x3 x4:Slot) (w m:Int):Env:=[.val (.lst false (I ns)),.val (.int 0),x2,x3,x4,.val (.int w),.val (.int m),.un,.un]
def bm3:SemS:=(aI (sIf (aN (v2 (kEq false) (aC 5) (vC (.int 0)))) (aI (bM [7,8] (bT bA (aA (v2 bB (vC (.int 1)) (v2 dQ (aC 6) (vC (.int 5)))) (aA (vC (.bl false)) aE)) [3] ["counter"])) (bD (xOf (cQ (aA (aC 5) (aA (aC 7) (aA (aC 8) (aA (cN (aA (vC (.int 2)) (aA (vC (.int 0)) aE))) aE)))))))) aZ) (aI (sIf (aN (v2 (kEq false) (aC 5) (vC (.int 1)))) (aI (bM [7,8] (bT bE (aA (v2 bB (vC (.int 1)) (v2 dQ (aC 6) (vC (.int 8)))) aE) [4] ["queue"])) (bD (xOf (cQ (aA (aC 5) (aA (aC 7) (aA (aC 8) (aA (cN (aA (vC (.int 3)) (aA (vC (.int 1)) aE))) aE)))))))) aZ) (aI (bM [7,8] (bT aL (aA (v2 bB (vC (.int 1)) (v2 dQ (aC 6) (vC (.int 12)))) (aA (v2 bB (vC (.int 2)) (v2 dQ (v2 kY (aC 6) (vC (.int 16))) (vC (.int 3)))) (aA (vC (.int 0)) aE))) [2] ["shelf"])) (bD (xOf (cQ (aA (aC 5) (aA (aC 7) (aA (aC 8) (aA (cN (aA (vC (.int 3)) (aA (vC (.int 1)) aE))) aE))))))))))
theorem gO (ns:Y0) (x2 x3 x4:Slot):jW [.val (.lst false (I ns)),.val (.int 0),x2,x3,x4,.un,.un,.un,.un]=bm3 (EM ns x2 x3 x4 (cF ns 0 % 3) (cF ns 1)):=by
 unfold jW
 rw [cB,aG3]
 have e1:(v2 dQ (aO cK (aA (aC 0) (aA (aC 1) aE))) (vC (.int 3))) [.val (.lst false (I ns)),.val (.int 0),x2,x3,x4,.un,.un,.un,.un]=.ok (.int (cF ns 0 % 3),true):=by
  simp [mk0]
 rw [e1,aC6]
 show Out.andThen (.next [.val (.lst false (I ns)),.val (.int 0),x2,x3,x4,.val (.int (cF ns 0 % 3)),.un,.un,.un]) _=_
 rw [bQ,cB,aG3]
 have e2:(aO cK (aA (aC 0) (aA (v2 bB (aC 1) (vC (.int 1))) aE))) [.val (.lst false (I ns)),.val (.int 0),x2,x3,x4,.val (.int (cF ns 0 % 3)),.un,.un,.un]=.ok (.int (cF ns 1),true):=by
  simp [mk1]
 rw [e2,aC6]
 rfl
end VL.K31
end
section
namespace VL.K31
open VL PySem L2
def cg (l:List (Pos×Str)):Slot:=.pin (.ext true (.tab "counter" l))
def qg (l:List (Pos×Str)):Slot:=.pin (.ext true (.tab "queue" l))
def sg (l:List (Pos×Str)):Slot:=.pin (.ext true (.tab "shelf" l))
theorem aZy (ns:Y0) (x2 x4:Slot) {m a:Int} {p q:D} (ha:1+m % 5=a) (hb:bA [.int a,.bl false,.ext false (.tab "counter" [])]=.bad) (hg:bA [.int a,.bl false,.ext true (.tab "counter" [])]=.ok (.tup [p,q],[.int a,.bl false,.ext true (.tab "counter" LC)])) (hp:p.calm=true) (hq:q.calm=true) :
  bm3 (EM ns x2 (cg []) x4 0 m)=.ret (.tup [.int 0,p,q,.lst false [.int 2,.int 0]]) [.val (.lst false (I ns)),.val (.int 0),x2,cg LC,x4,.val (.int 0),.val (.int m),.val p,.val q]:=by
 have hx:bT bA (aA (v2 bB (vC (.int 1)) (v2 dQ (aC 6) (vC (.int 5)))) (aA (vC (.bl false)) aE)) [3] ["counter"] (EM ns x2 (cg []) x4 0 m)=.ok (.tup [p,q],true,EM ns x2 (cg LC) x4 0 m) :=
  vX (xs:=[(.int a,true),(.bl false,true)]) (gds:=[.ext true (.tab "counter" [])]) (by simp [EM,ha]) rfl rfl hb hg
 have hpf:=D.frz_calm p hp
 have hqf:=D.frz_calm q hq
 unfold bm3
 rw [cB,lF]
 have ht:(aN (v2 (kEq false) (aC 5) (vC (.int 0)))) (EM ns x2 (cg []) x4 0 m)=.ok true:=by simp [EM]
 rw [ht,aC2,cB]
 have hu:bM [7,8] (bT bA (aA (v2 bB (vC (.int 1)) (v2 dQ (aC 6) (vC (.int 5)))) (aA (vC (.bl false)) aE)) [3] ["counter"]) (EM ns x2 (cg []) x4 0 m)=.next [.val (.lst false (I ns)),.val (.int 0),x2,cg LC,x4,.val (.int 0),.val (.int m),.val p,.val q]:=by
  unfold bM
  rw [hx]
  simp [EM,cg,hp,hq]
 rw [hu,bQ]
 simp [cg,hp,hq,hpf,hqf]
theorem bBe (ns:Y0) (x2 x3:Slot) {m a:Int} {p q:D} (ha:1+m % 8=a) (hb:bE [.int a,.ext false (.tab "queue" [])]=.bad) (hg:bE [.int a,.ext true (.tab "queue" [])]=.ok (.tup [p,q],[.int a,.ext true (.tab "queue" LQ)])) (hp:p.calm=true) (hq:q.calm=true) :
  bm3 (EM ns x2 x3 (qg []) 1 m)=.ret (.tup [.int 1,p,q,.lst false [.int 3,.int 1]]) [.val (.lst false (I ns)),.val (.int 0),x2,x3,qg LQ,.val (.int 1),.val (.int m),.val p,.val q]:=by
 have hx:bT bE (aA (v2 bB (vC (.int 1)) (v2 dQ (aC 6) (vC (.int 8)))) aE) [4] ["queue"] (EM ns x2 x3 (qg []) 1 m)=.ok (.tup [p,q],true,EM ns x2 x3 (qg LQ) 1 m) :=
  vX (xs:=[(.int a,true)]) (gds:=[.ext true (.tab "queue" [])]) (by simp [EM,ha]) rfl rfl hb hg
 have hpf:=D.frz_calm p hp
 have hqf:=D.frz_calm q hq
 unfold bm3
 rw [cB,lF]
 have ht:(aN (v2 (kEq false) (aC 5) (vC (.int 0)))) (EM ns x2 x3 (qg []) 1 m)=.ok false:=by simp [EM]
 rw [ht,sO,iW,bQ,cB,lF]
 have ht2:(aN (v2 (kEq false) (aC 5) (vC (.int 1)))) (EM ns x2 x3 (qg []) 1 m)=.ok true:=by simp [EM]
 rw [ht2,aC2,cB]
 have hu:bM [7,8] (bT bE (aA (v2 bB (vC (.int 1)) (v2 dQ (aC 6) (vC (.int 8)))) aE) [4] ["queue"]) (EM ns x2 x3 (qg []) 1 m)=.next [.val (.lst false (I ns)),.val (.int 0),x2,x3,qg LQ,.val (.int 1),.val (.int m),.val p,.val q]:=by
  unfold bM
  rw [hx]
  simp [EM,qg,hp,hq]
 rw [hu,bQ]
 simp [qg,hp,hq,hpf,hqf]
theorem mod2 (ns:Y0) (x3 x4:Slot) {m a b:Int} {p q:D} (ha:1+m % 12=a) (hb':2+m / 16 % 3=b) (hb:aL [.int a,.int b,.int 0,.ext false (.tab "shelf" [])]=.bad) (hg:aL [.int a,.int b,.int 0,.ext true (.tab "shelf" [])]=.ok (.tup [p,q],[.int a,.int b,.int 0,.ext true (.tab "shelf" LS)])) (hp:p.calm=true) (hq:q.calm=true) :
  bm3 (EM ns (sg []) x3 x4 2 m)=.ret (.tup [.int 2,p,q,.lst false [.int 3,.int 1]]) [.val (.lst false (I ns)),.val (.int 0),sg LS,x3,x4,.val (.int 2),.val (.int m),.val p,.val q]:=by
 have f16:fits 16=true:=eF (by decide) (by decide)
 have hx:bT aL (aA (v2 bB (vC (.int 1)) (v2 dQ (aC 6) (vC (.int 12)))) (aA (v2 bB (vC (.int 2)) (v2 dQ (v2 kY (aC 6) (vC (.int 16))) (vC (.int 3)))) (aA (vC (.int 0)) aE))) [2] ["shelf"] (EM ns (sg []) x3 x4 2 m)=.ok (.tup [p,q],true,EM ns (sg LS) x3 x4 2 m) :=
  vX (xs:=[(.int a,true),(.int b,true),(.int 0,true)]) (gds:=[.ext true (.tab "shelf" [])]) (by simp [EM,ha,hb',f16]) rfl rfl hb hg
 have hpf:=D.frz_calm p hp
 have hqf:=D.frz_calm q hq
 unfold bm3
 rw [cB,lF]
 have ht:(aN (v2 (kEq false) (aC 5) (vC (.int 0)))) (EM ns (sg []) x3 x4 2 m)=.ok false:=by simp [EM]
 rw [ht,sO,iW,bQ,cB,lF]
 have ht2:(aN (v2 (kEq false) (aC 5) (vC (.int 1)))) (EM ns (sg []) x3 x4 2 m)=.ok false:=by simp [EM]
 rw [ht2,sO,iW,bQ,cB]
 have hu:bM [7,8] (bT aL (aA (v2 bB (vC (.int 1)) (v2 dQ (aC 6) (vC (.int 12)))) (aA (v2 bB (vC (.int 2)) (v2 dQ (v2 kY (aC 6) (vC (.int 16))) (vC (.int 3)))) (aA (vC (.int 0)) aE))) [2] ["shelf"]) (EM ns (sg []) x3 x4 2 m)=.next [.val (.lst false (I ns)),.val (.int 0),sg LS,x3,x4,.val (.int 2),.val (.int m),.val p,.val q]:=by
  unfold bM
  rw [hx]
  simp [EM,sg,hp,hq]
 rw [hu,bQ]
 simp [sg,hp,hq,hpf,hqf]
def fz' (x:Str):Slot:=.val (.ext false (.tab x []))
theorem bAf (ns:Y0) (x2 x4:Slot) {m a:Int} (ha:1+m % 5=a) (hb:bA [.int a,.bl false,.ext false (.tab "counter" [])]=.bad):bm3 (EM ns x2 (fz' "counter") x4 0 m)=.bad:=by
 have hx:bT bA (aA (v2 bB (vC (.int 1)) (v2 dQ (aC 6) (vC (.int 5)))) (aA (vC (.bl false)) aE)) [3] ["counter"] (EM ns x2 (fz' "counter") x4 0 m)=.bad :=
  aBp (xs:=[(.int a,true),(.bl false,true)]) (gds:=[.ext false (.tab "counter" [])]) (by simp [EM,ha]) rfl hb hb
 unfold bm3
 rw [cB,lF]
 have ht:(aN (v2 (kEq false) (aC 5) (vC (.int 0)))) (EM ns x2 (fz' "counter") x4 0 m)=.ok true:=by simp [EM]
 rw [ht,aC2,cB]
 have hu:bM [7,8] (bT bA (aA (v2 bB (vC (.int 1)) (v2 dQ (aC 6) (vC (.int 5)))) (aA (vC (.bl false)) aE)) [3] ["counter"]) (EM ns x2 (fz' "counter") x4 0 m)=.bad:=by
  unfold bM
  rw [hx]
 rw [hu];rfl
theorem bA8 (ns:Y0) (x2 x3:Slot) {m a:Int} (ha:1+m % 8=a) (hb:bE [.int a,.ext false (.tab "queue" [])]=.bad):bm3 (EM ns x2 x3 (fz' "queue") 1 m)=.bad:=by
 have hx:bT bE (aA (v2 bB (vC (.int 1)) (v2 dQ (aC 6) (vC (.int 8)))) aE) [4] ["queue"] (EM ns x2 x3 (fz' "queue") 1 m)=.bad :=
  aBp (xs:=[(.int a,true)]) (gds:=[.ext false (.tab "queue" [])]) (by simp [EM,ha]) rfl hb hb
 unfold bm3
 rw [cB,lF]
 have ht:(aN (v2 (kEq false) (aC 5) (vC (.int 0)))) (EM ns x2 x3 (fz' "queue") 1 m)=.ok false:=by simp [EM]
 rw [ht,sO,iW,bQ,cB,lF]
 have ht2:(aN (v2 (kEq false) (aC 5) (vC (.int 1)))) (EM ns x2 x3 (fz' "queue") 1 m)=.ok true:=by simp [EM]
 rw [ht2,aC2,cB]
 have hu:bM [7,8] (bT bE (aA (v2 bB (vC (.int 1)) (v2 dQ (aC 6) (vC (.int 8)))) aE) [4] ["queue"]) (EM ns x2 x3 (fz' "queue") 1 m)=.bad:=by
  unfold bM
  rw [hx]
 rw [hu];rfl
theorem bBc (ns:Y0) (x3 x4:Slot) {m a b:Int} (ha:1+m % 12=a) (hb':2+m / 16 % 3=b) (hb:aL [.int a,.int b,.int 0,.ext false (.tab "shelf" [])]=.bad):bm3 (EM ns (fz' "shelf") x3 x4 2 m)=.bad:=by
 have f16:fits 16=true:=eF (by decide) (by decide)
 have hx:bT aL (aA (v2 bB (vC (.int 1)) (v2 dQ (aC 6) (vC (.int 12)))) (aA (v2 bB (vC (.int 2)) (v2 dQ (v2 kY (aC 6) (vC (.int 16))) (vC (.int 3)))) (aA (vC (.int 0)) aE))) [2] ["shelf"] (EM ns (fz' "shelf") x3 x4 2 m)=.bad :=
  aBp (xs:=[(.int a,true),(.int b,true),(.int 0,true)]) (gds:=[.ext false (.tab "shelf" [])]) (by simp [EM,ha,hb',f16]) rfl hb hb
 unfold bm3
 rw [cB,lF]
 have ht:(aN (v2 (kEq false) (aC 5) (vC (.int 0)))) (EM ns (fz' "shelf") x3 x4 2 m)=.ok false:=by simp [EM]
 rw [ht,sO,iW,bQ,cB,lF]
 have ht2:(aN (v2 (kEq false) (aC 5) (vC (.int 1)))) (EM ns (fz' "shelf") x3 x4 2 m)=.ok false:=by simp [EM]
 rw [ht2,sO,iW,bQ,cB]
 have hu:bM [7,8] (bT aL (aA (v2 bB (vC (.int 1)) (v2 dQ (aC 6) (vC (.int 12)))) (aA (v2 bB (vC (.int 2)) (v2 dQ (v2 kY (aC 6) (vC (.int 16))) (vC (.int 3)))) (aA (vC (.int 0)) aE))) [2] ["shelf"]) (EM ns (fz' "shelf") x3 x4 2 m)=.bad:=by
  unfold bM
  rw [hx]
 rw [hu];rfl
end VL.K31
end
section
namespace VL.K31
open VL PySem L2
def aGk:List D:=[.ext false (.tab "shelf" []),.ext false (.tab "counter" []),.ext false (.tab "queue" [])]
def qR (ls lc lq:List (Pos×Str)):List D:=[.ext true (.tab "shelf" ls),.ext true (.tab "counter" lc),.ext true (.tab "queue" lq)]
theorem zO (ns:Y0):(D.lst false (I ns)).calm=true:=by show (!false && D.bS (I ns))=true;rw [VL.calms_I];rfl
theorem aB5 (ns:Y0):entry 9 (.lst false (I ns)::.int 0::qR [] [] [])=[.val (.lst false (I ns)),.val (.int 0),sg [],cg [],qg [],.un,.un,.un,.un]:=by
 unfold entry qR
 simp only [List.map_cons,List.map_nil,zO,if_pos]
 rfl
theorem aBh (ns:Y0):entry 9 (.lst false (I ns)::.int 0::aGk)=[.val (.lst false (I ns)),.val (.int 0),fz' "shelf",fz' "counter",fz' "queue",.un,.un,.un,.un]:=by
 unfold entry aGk
 simp only [List.map_cons,List.map_nil,zO,if_pos]
 rfl
inductive Md:Int->D×D->Y0->List (Pos×Str)->List (Pos×Str)->List (Pos×Str)->Prop
 | c {a:Int}:1<=a->a<=5->Md 0 (mC a) [2,0] [] LC []
 | q {a:Int}:1<=a->a<=8->Md 1 (mQ a) [3,1] [] [] LQ
 | s {a g:Int}:1<=a->a<=12->2<=g->g<=4->Md 2 (mS a g) [3,1] LS [] []
theorem aSu {ns:Y0} {d:D} {x2 x3 x4:D} {v:List Slot} (h:jW (entry 9 (.lst false (I ns)::.int 0::qR [] [] []))=.ret d ([.val (.lst false (I ns)),.val (.int 0),.pin x2,.pin x3,.pin x4]++v)):dW (.lst false (I ns)::.int 0::qR [] [] [])=.ok (d,[.lst false (I ns),.int 0,x2,x3,x4]):=by
 unfold dW fnOf
 rw [h]
 simp only [qR,List.cons_append,outs,zO,if_pos]
 rfl
theorem aPl {a:Int} (h1:1<=a) (h2:a<=5):bA [.int a,.bl false,.ext false (.tab "counter" [])]=.bad/\bA [.int a,.bl false,.ext true (.tab "counter" [])]=.ok (.tup [(mC a).1,(mC a).2],[.int a,.bl false,.ext true (.tab "counter" LC)])/\(mC a).1.calm=true/\(mC a).2.calm=true:=by
 have h:a=1\/a=2\/a=3\/a=4\/a=5:=by omega
 rcases h with rfl | rfl | rfl | rfl | rfl
 ·exact ⟨aQd,aPu,by kernel_rfl,by kernel_rfl⟩
 ·exact ⟨aP2,aPg,by kernel_rfl,by kernel_rfl⟩
 ·exact ⟨aPs,aOv,by kernel_rfl,by kernel_rfl⟩
 ·exact ⟨aX1,aXg,by kernel_rfl,by kernel_rfl⟩
 ·exact ⟨aYg,aV5,by kernel_rfl,by kernel_rfl⟩
theorem aQb {a:Int} (h1:1<=a) (h2:a<=8):bE [.int a,.ext false (.tab "queue" [])]=.bad/\bE [.int a,.ext true (.tab "queue" [])]=.ok (.tup [(mQ a).1,(mQ a).2],[.int a,.ext true (.tab "queue" LQ)])/\(mQ a).1.calm=true/\(mQ a).2.calm=true:=by
 have h:a=1\/a=2\/a=3\/a=4\/a=5\/a=6\/a=7\/a=8:=by omega
 rcases h with rfl | rfl | rfl | rfl | rfl | rfl | rfl | rfl
 ·exact ⟨aP5,aPa,by kernel_rfl,by kernel_rfl⟩
 ·exact ⟨aQc,aPq,by kernel_rfl,by kernel_rfl⟩
 ·exact ⟨aO8,aO4,by kernel_rfl,by kernel_rfl⟩
 ·exact ⟨aXj,aWa,by kernel_rfl,by kernel_rfl⟩
 ·exact ⟨aWl,aXn,by kernel_rfl,by kernel_rfl⟩
 ·exact ⟨aVs,aXm,by kernel_rfl,by kernel_rfl⟩
 ·exact ⟨aX0,aX9,by kernel_rfl,by kernel_rfl⟩
 ·exact ⟨aW6,aWq,by kernel_rfl,by kernel_rfl⟩
theorem aXy {a g:Int} (h1:1<=a) (h2:a<=12) (h3:2<=g) (h4:g<=4):aL [.int a,.int g,.int 0,.ext false (.tab "shelf" [])]=.bad/\aL [.int a,.int g,.int 0,.ext true (.tab "shelf" [])]=.ok (.tup [(mS a g).1,(mS a g).2],[.int a,.int g,.int 0,.ext true (.tab "shelf" LS)])/\(mS a g).1.calm=true/\(mS a g).2.calm=true:=by
 have h:a=1\/a=2\/a=3\/a=4\/a=5\/a=6\/a=7\/a=8\/a=9\/a=10\/a=11\/a=12:=by omega
 have h':g=2\/g=3\/g=4:=by omega
 rcases h with rfl | rfl | rfl | rfl | rfl | rfl | rfl | rfl | rfl | rfl | rfl | rfl<;>rcases h' with rfl | rfl | rfl
 ·exact ⟨aOg,aNu,by kernel_rfl,by kernel_rfl⟩
 ·exact ⟨aOj,aKu,by kernel_rfl,by kernel_rfl⟩
 ·exact ⟨aKa,aKw,by kernel_rfl,by kernel_rfl⟩
 ·exact ⟨aLg,aL8,by kernel_rfl,by kernel_rfl⟩
 ·exact ⟨aLb,aNt,by kernel_rfl,by kernel_rfl⟩
 ·exact ⟨aNd,aKt,by kernel_rfl,by kernel_rfl⟩
 ·exact ⟨aM3,aJ5,by kernel_rfl,by kernel_rfl⟩
 ·exact ⟨aLk,aJ7,by kernel_rfl,by kernel_rfl⟩
 ·exact ⟨aL9,aMc,by kernel_rfl,by kernel_rfl⟩
 ·exact ⟨aOn,aKe,by kernel_rfl,by kernel_rfl⟩
 ·exact ⟨aOa,aMw,by kernel_rfl,by kernel_rfl⟩
 ·exact ⟨aMn,aMs,by kernel_rfl,by kernel_rfl⟩
 ·exact ⟨aN9,aMr,by kernel_rfl,by kernel_rfl⟩
 ·exact ⟨aLn,aL3,by kernel_rfl,by kernel_rfl⟩
 ·exact ⟨aJ8,aLt,by kernel_rfl,by kernel_rfl⟩
 ·exact ⟨aJ4,aNf,by kernel_rfl,by kernel_rfl⟩
 ·exact ⟨aK1,aOb,by kernel_rfl,by kernel_rfl⟩
 ·exact ⟨aN7,aLz,by kernel_rfl,by kernel_rfl⟩
 ·exact ⟨aOc,aLf,by kernel_rfl,by kernel_rfl⟩
 ·exact ⟨aNg,aLl,by kernel_rfl,by kernel_rfl⟩
 ·exact ⟨aL4,aMx,by kernel_rfl,by kernel_rfl⟩
 ·exact ⟨aMu,aOk,by kernel_rfl,by kernel_rfl⟩
 ·exact ⟨aL2,aN8,by kernel_rfl,by kernel_rfl⟩
 ·exact ⟨aOq,aMi,by kernel_rfl,by kernel_rfl⟩
 ·exact ⟨aOp,aM2,by kernel_rfl,by kernel_rfl⟩
 ·exact ⟨aJ9,aN5,by kernel_rfl,by kernel_rfl⟩
 ·exact ⟨aNp,aN0,by kernel_rfl,by kernel_rfl⟩
 ·exact ⟨aJk,aG7,by kernel_rfl,by kernel_rfl⟩
 ·exact ⟨aGv,aHt,by kernel_rfl,by kernel_rfl⟩
 ·exact ⟨aG0,aHi,by kernel_rfl,by kernel_rfl⟩
 ·exact ⟨aH7,aH5,by kernel_rfl,by kernel_rfl⟩
 ·exact ⟨aGb,aGz,by kernel_rfl,by kernel_rfl⟩
 ·exact ⟨aJs,aGe,by kernel_rfl,by kernel_rfl⟩
 ·exact ⟨aIu,aFq,by kernel_rfl,by kernel_rfl⟩
 ·exact ⟨aIl,aJo,by kernel_rfl,by kernel_rfl⟩
 ·exact ⟨aIo,aI9,by kernel_rfl,by kernel_rfl⟩
theorem aJn (ns:Y0):∃(w:Int) (mm:D×D) (p:Y0) (ls lc lq:List (Pos×Str)),Md w mm p ls lc lq/\mm.1.calm=true/\mm.2.calm=true /\
  dW (.lst false (I ns)::.int 0::aGk)=.bad/\dW (.lst false (I ns)::.int 0::qR [] [] [])=.ok (.tup [.int w,mm.1,mm.2,.lst false (p.map D.int)],.lst false (I ns)::.int 0::qR ls lc lq):=by
 obtain ⟨w,hw,ew⟩:=aVq (cF ns 0) 3 (by decide)
 have ew:cF ns 0 % 3=(w:Int):=ew
 have bd:∀ {x:Out},jW (entry 9 (.lst false (I ns)::.int 0::aGk))=.bad->dW (.lst false (I ns)::.int 0::aGk)=.bad:=fun {x} h=>by
  unfold dW fnOf;rw [h]
 have hw':w=0\/w=1\/w=2:=by omega
 rcases hw' with rfl | rfl | rfl
 ·have m0:=Int.emod_nonneg (cF ns 1) (b:=5) (by decide)
  have m1:=Int.emod_lt_of_pos (cF ns 1) (b:=5) (by decide)
  obtain ⟨k1,k2,k3,k4⟩:=aPl (a:=1+cF ns 1 % 5) (by omega) (by omega)
  refine ⟨0,mC (1+cF ns 1 % 5),[2,0],[],LC,[],.c (by omega) (by omega),k3,k4,bd (x:=.bad) ?_,aSu (v:=[.val (.int 0),.val (.int (cF ns 1)),.val (mC (1+cF ns 1 % 5)).1,.val (mC (1+cF ns 1 % 5)).2]) ?_⟩
  ·rw [aBh,gO,ew];exact bAf ns _ _ rfl k1
  ·rw [aB5,gO,ew];exact aZy ns _ _ rfl k1 k2 k3 k4
 ·have m0:=Int.emod_nonneg (cF ns 1) (b:=8) (by decide)
  have m1:=Int.emod_lt_of_pos (cF ns 1) (b:=8) (by decide)
  obtain ⟨k1,k2,k3,k4⟩:=aQb (a:=1+cF ns 1 % 8) (by omega) (by omega)
  refine ⟨1,mQ (1+cF ns 1 % 8),[3,1],[],[],LQ,.q (by omega) (by omega),k3,k4,bd (x:=.bad) ?_,aSu (v:=[.val (.int 1),.val (.int (cF ns 1)),.val (mQ (1+cF ns 1 % 8)).1,.val (mQ (1+cF ns 1 % 8)).2]) ?_⟩
  ·rw [aBh,gO,ew];exact bA8 ns _ _ rfl k1
  ·rw [aB5,gO,ew];exact bBe ns _ _ rfl k1 k2 k3 k4
 ·have m0:=Int.emod_nonneg (cF ns 1) (b:=12) (by decide)
  have m1:=Int.emod_lt_of_pos (cF ns 1) (b:=12) (by decide)
  have m2:=Int.emod_nonneg (cF ns 1 / 16) (b:=3) (by decide)
  have m3:=Int.emod_lt_of_pos (cF ns 1 / 16) (b:=3) (by decide)
  obtain ⟨k1,k2,k3,k4⟩:=aXy (a:=1+cF ns 1 % 12) (g:=2+cF ns 1 / 16 % 3) (by omega) (by omega) (by omega) (by omega)
  refine ⟨2,mS (1+cF ns 1 % 12) (2+cF ns 1 / 16 % 3),[3,1],LS,[],[],.s (by omega) (by omega) (by omega) (by omega),k3,k4,bd (x:=.bad) ?_,aSu (v:=[.val (.int 2),.val (.int (cF ns 1)),.val (mS (1+cF ns 1 % 12) (2+cF ns 1 / 16 % 3)).1,.val (mS (1+cF ns 1 % 12) (2+cF ns 1 / 16 % 3)).2]) ?_⟩
  ·rw [aBh,gO,ew];exact bBc ns _ _ rfl rfl k1
  ·rw [aB5,gO,ew];exact mod2 ns _ _ rfl rfl k1 k2 k3 k4
end VL.K31
end
section
namespace VL.K31
open VL PySem L2
structure E where
 a:Nat
 k:Nat
 b:Nat
 c:Nat
 deriving Inhabited
def ed (es:List E) (d:Nat):E:=es.getD d default
abbrev nI (k:Nat):D:=.int (k:Int)
def E.l (e:E):Y0:=[(e.a:Int),(e.k:Int),(e.b:Int),(e.c:Int)]
def E.d (e:E):D:=.tup [nI e.a,nI e.k,nI e.b,nI e.c]
def ME (es:List E):List D:=es.map E.d
def dM (n kd:Nat) (es:List E):D:=.tup [nI n,nI kd,.lst false (ME es)]
@[simp] theorem E.calm (e:E):e.d.calm=true:=rfl
@[simp] theorem E.frz (e:E):e.d.frz=e.d:=rfl
theorem nE {α:Type} {φ:α->D} (h:∀x,(φ x).calm=true):∀xs:List α,D.bS (xs.map φ)=true
 | []=>rfl
 | x::xs=>by rw [List.map_cons,tJ,h x,nE h xs];rfl
theorem aFa {α:Type} {φ:α->D} (h:∀x,(φ x).calm=true) (xs:List α):D.frzs (xs.map φ)=xs.map φ:=iT _ (nE h xs)
@[simp] theorem aXi (es:List E):D.bS (ME es)=true:=nE E.calm es
@[simp] theorem aZc (es:List E):D.frzs (ME es)=ME es:=aFa E.calm es
@[simp] theorem bAw (es:List E):(ME es).length=es.length:=by simp [ME]
@[simp] theorem aCw {n kd:Nat} {es:List E}:(dM n kd es).calm=true:=by simp [dM,nI]
@[simp] theorem aZl {n kd:Nat} {es:List E}:(dM n kd es).frz=dM n kd es:=sV _ aCw
theorem aV7 {α:Type} {a:α} {xs:List α}:atI (a::xs) 0=some a:=by have:=iH (xs:=a::xs) (k:=0);simpa using this
theorem aXv {α:Type} {a b:α} {xs:List α}:atI (a::b::xs) 1=some b:=by have:=iH (xs:=a::b::xs) (k:=1);simpa using this
theorem aVx {α:Type} {a b c:α} {xs:List α}:atI (a::b::c::xs) 2=some c:=by have:=iH (xs:=a::b::c::xs) (k:=2);simpa using this
theorem bAm {α:Type} {a b c d:α} {xs:List α}:atI (a::b::c::d::xs) 3=some d:=by have:=iH (xs:=a::b::c::d::xs) (k:=3);simpa using this
@[simp] theorem bBy {n kd:Nat} {es:List E} {b c:Bool}:kIx (dM n kd es,b) (.int 0,c)=.ok (nI n,b):=by simp [dM,aV7]
@[simp] theorem bBx {n kd:Nat} {es:List E} {b c:Bool}:kIx (dM n kd es,b) (.int 1,c)=.ok (nI kd,b):=by simp [dM,aXv]
@[simp] theorem bBv {n kd:Nat} {es:List E} {b c:Bool}:kIx (dM n kd es,b) (.int 2,c)=.ok (.lst false (ME es),b):=by simp [dM,aVx]
@[simp] theorem E_0 {e:E} {b c:Bool}:kIx (e.d,b) (.int 0,c)=.ok (nI e.a,b):=by simp [E.d,aV7]
@[simp] theorem E_1 {e:E} {b c:Bool}:kIx (e.d,b) (.int 1,c)=.ok (nI e.k,b):=by simp [E.d,aXv]
@[simp] theorem E_2 {e:E} {b c:Bool}:kIx (e.d,b) (.int 2,c)=.ok (nI e.b,b):=by simp [E.d,aVx]
@[simp] theorem E_3 {e:E} {b c:Bool}:kIx (e.d,b) (.int 3,c)=.ok (nI e.c,b):=by simp [E.d,bAm]
theorem aPh {es:List E} {k:Nat} (h:k<es.length):es[k]?=some (ed es k):=by simp [ed,List.getElem?_eq_getElem h]
theorem bAj {es:List E} {k:Nat} (h:k<es.length):ed es k∈es:=List.mem_of_getElem? (aPh h)
theorem aPv {es:List E} {k:Nat} {b c:Bool} (h:k<es.length):kIx (.lst false (ME es),b) (.int (k:Int),c)=.ok ((ed es k).d,b):=by
 simp [iH,ME,aPh h]
structure OkM (n kd:Nat) (es:List E):Prop where
 n1:1<=n
 n2:n<=200
 k1:1<=kd
 k2:kd<=8
 ls:es.length<=600
 a:∀e∈es,e.a<n
 k:∀e∈es,e.k<kd
 b:∀e∈es,e.b<n
 c:∀e∈es,e.c<=1000
 up:∀i,i+1<es.length->ST.ltL (ed es i).l (ed es (i+1)).l=true
theorem aB1 (i:Int):Ret nK [.int i] (.bl true):=by
 refine yE ⟨[.val (.int i)],?_⟩
 simp [sS,entry,nR,xY,aMh]
theorem yH (i a b:Int):Ret bV [.int i,.int a,.int b] (.bl (decide (a<=i) && decide (i<=b))):=by
 refine yE ⟨[.val (.int i),.val (.int a),.val (.int b)],?_⟩
 simp [oX,entry,iI (aB1 i)]
 by_cases h:a<=i<;>simp [h]
theorem wG {x a b:Int} (h1:a<=x) (h2:x<=b):Ret bV [.int x,.int a,.int b] (.bl true):=by
 have:=yH x a b
 rwa [decide_eq_true h1,decide_eq_true h2] at this
@[simp] theorem bBo {e:E} {b:Bool}:nR "tuple" (e.d,b)=.ok (.bl true,true):=rfl
@[simp] theorem bBt {n kd:Nat} {es:List E} {b:Bool}:nR "tuple" (dM n kd es,b)=.ok (.bl true,true):=rfl
@[simp] theorem bBl {o:Bool} {ds:List D} {b:Bool}:nR "list" (.lst o ds,b)=.ok (.bl true,true):=rfl
@[simp] theorem bBu {e:E} {b:Bool}:dZ [(e.d,b)]=.ok (.int 4,true):=rfl
@[simp] theorem bBm {n kd:Nat} {es:List E} {b:Bool}:dZ [(dM n kd es,b)]=.ok (.int 3,true):=rfl
theorem aDr {n kd:Nat} {es:List E} {e:E} (ha:e.a<n) (hk:e.k<kd) (hb:e.b<n) (hc:e.c<=1000):Ret pR [dM n kd es,e.d] (.bl true):=by
 refine aHr ?_
 have e1:=iI (wG (x:=(e.a:Int)) (a:=0) (b:=(n:Int) - 1) (by omega) (by omega))
 have e2:=iI (wG (x:=(e.b:Int)) (a:=0) (b:=(n:Int) - 1) (by omega) (by omega))
 have e3:=iI (wG (x:=(e.k:Int)) (a:=0) (b:=(kd:Int) - 1) (by omega) (by omega))
 have e4:=iI (wG (x:=(e.c:Int)) (a:=0) (b:=1000) (by omega) (by omega))
 simp [vU,entry,qE,zD,nI,e1,e2,e3,e4]
theorem aT6 {x y:E} (h:ST.ltL x.l y.l=true) {b c:Bool}:aK9 (y.d,b) (x.d,c)=.ok (.bl false,true):=by
 show R.ok (D.bl (!ST.ltL x.l y.l),true)=_
 rw [h];rfl
def kR2:List (D×Bool)->R (List D)
 | [(.int i,_),(.int j,_)]=>if cW i && cW j then .ok (jA i (j - i).toNat) else .bad
 | _=>.bad
@[simp] theorem bA0 {g:cH} {ρ:Env}:iR2 g ρ=(g ρ).bind kR2:=by
 unfold iR2
 cases g ρ<;>rfl
theorem bA9 {n:Nat} {b c:Bool} (h:n<=1000000):kR2 [(.int 1,b),(.int (n:Int),c)]=.ok ((List.range (n - 1)).map fun i:Nat=>D.int (1+(i:Int))):=by
 show (if (cW 1 && cW (n:Int))=true then R.ok (jA 1 ((n:Int) - 1).toNat) else R.bad)=_
 rw [show (cW 1 && cW (n:Int))=true by rw [aD4 h];decide,if_pos rfl,show ((n:Int) - 1).toNat=n - 1 by omega]
 rfl
theorem aM0 (es:List E):qG (ME es)=es.zipIdx.map fun p=>.tup [.int (p.2:Nat),p.1.d]:=aIm
theorem yA {n kd:Nat} {es:List E} (h:OkM n kd es):Ret kK [dM n kd es] .non:=by
 refine aHr ?_
 have hl:¬ ((600:Int)<(es.length:Int)):=by have:=h.ls;omega
 simp -implicitDefEqProofs [nW,entry,qE,zD,nI,hl,aM0]
 refine aJe (aC4 (fun pre ρ=>∃t u,np t/\np u/\ρ=[.val (dM n kd es),.val (.lst false (ME es)),t,u]) es.zipIdx ⟨_,_,aAt,aAt,rfl⟩ ?_) ?_
 ·rintro pre ⟨x,k⟩ post ρ e ⟨t,u,ht,hu,rfl⟩
  have hx:x∈es:=by
   have:(x,k)∈es.zipIdx:=by rw [e];simp
   have:=List.mem_zipIdx this
   simp at this
   rw [this.2];exact List.getElem_mem _
  simp -implicitDefEqProofs [ht,hu,qE,zD,iI (aDr (es:=es) (h.a x hx) (h.k x hx) (h.b x hx) (h.c x hx))]
 ·rintro ρ ⟨t,u,ht,hu,rfl⟩
  simp -implicitDefEqProofs [bA9 (show es.length<=1000000 by have:=h.ls;omega)]
  refine aJq (aC4 (fun pre ρ=>∃t,np t/\ρ=[.val (dM n kd es),.val (.lst false (ME es)),t,u]) (List.range (es.length - 1)) ⟨_,ht,rfl⟩ ?_) (fun ρ h=>trivial) (fun _ h=>h)
  rintro pre i post ρ e ⟨t,ht,rfl⟩
  have hi:i<es.length - 1:=List.mem_range.mp (by rw [e];simp)
  have e1:(1+(i:Int))=((i+1:Nat):Int):=by omega
  have e2:(((i+1:Nat):Int) - 1)=(i:Int):=by omega
  have q1:=aPv (es:=es) (k:=i+1) (b:=false) (c:=false) (by omega)
  have q2:=aPv (es:=es) (k:=i) (b:=false) (c:=true) (by omega)
  have up:=h.up i (by omega)
  rw [e1]
  simp only [aIw,aRh,aQx ht,if_true,zE,List.set,lF,aIy,aV3,aVr,aTo,aCc,q1,aX6,aXb,e2,q2,aT6 up,sO,iW,aI3]
  exact ⟨_,nS,rfl⟩
theorem sL {n kd:Nat} {es:List E} (h:OkM n kd es):Ret bH [dM n kd es] .non:=by
 refine aHr ?_
 have e1:=iI (wG (x:=(n:Int)) (a:=1) (b:=200) (by have:=h.n1;omega) (by have:=h.n2;omega))
 have e2:=iI (wG (x:=(kd:Int)) (a:=1) (b:=8) (by have:=h.k1;omega) (by have:=h.k2;omega))
 simp [lQ,entry,qE,zD,nI,e1,e2,aLv (yA h)]
def aM7:List D->Option (List E)
 | []=>some []
 | .tup [.int (.ofNat a),.int (.ofNat k),.int (.ofNat b),.int (.ofNat c)]::r=>(match aM7 r with
  | some es=>some (⟨a,k,b,c⟩::es)
  | none=>none)
 | _::_=>none
theorem aDc:∀ {ds:List D} {es:List E},aM7 ds=some es->ds=ME es
 | [],es,h=>by cases h;rfl
 | d::r,es,h=>by
  unfold aM7 at h
  split at h
  ·rename_i e;cases e
  ·rename_i e
   cases e
   split at h
   ·rename_i e1
    cases h
    rw [aDc e1];rfl
   ·cases h
  ·cases h
def okE (n kd:Nat):List E->Bool
 | []=>true
 | e::r=>Nat.ble (e.a+1) n && (Nat.ble (e.k+1) kd && (Nat.ble (e.b+1) n && (Nat.ble e.c 1000 && okE n kd r)))
theorem sN {n kd:Nat}:∀ {es:List E},okE n kd es=true->∀e∈es,e.a<n/\e.k<kd/\e.b<n/\e.c<=1000
 | x::r,h,e,he=>by
  simp only [okE,Bool.and_eq_true,Nat.ble_eq] at h
  rcases List.mem_cons.mp he with rfl | he
  ·exact ⟨h.1,h.2.1,h.2.2.1,h.2.2.2.1⟩
  ·exact sN h.2.2.2.2 e he
def ltE (x y:E):Bool:=match Nat.ble (x.a+1) y.a with
 | true=>true
 | false=>match Nat.beq x.a y.a with
  | false=>false
  | true=>match Nat.ble (x.k+1) y.k with
   | true=>true
   | false=>match Nat.beq x.k y.k with
    | false=>false
    | true=>match Nat.ble (x.b+1) y.b with
     | true=>true
     | false=>match Nat.beq x.b y.b with
      | false=>false
      | true=>Nat.ble (x.c+1) y.c
theorem aSd {x y:E} (h:ltE x y=true):ST.ltL x.l y.l=true:=by
 unfold ltE at h
 show (if (x.a:Int)=(y.a:Int) then (if (x.k:Int)=(y.k:Int) then (if (x.b:Int)=(y.b:Int) then (if (x.c:Int)=(y.c:Int) then false else decide ((x.c:Int)<(y.c:Int))) else decide ((x.b:Int)<(y.b:Int))) else decide ((x.k:Int)<(y.k:Int))) else decide ((x.a:Int)<(y.a:Int)))=true
 split at h
 ·rename_i e
  have e:=Nat.le_of_ble_eq_true e
  rw [if_neg (by omega)];exact decide_eq_true (by omega)
 ·split at h
  ·cases h
  ·rename_i e
   have e:=Nat.eq_of_beq_eq_true e
   rw [if_pos (by omega)]
   split at h
   ·rename_i e
    have e:=Nat.le_of_ble_eq_true e
    rw [if_neg (by omega)];exact decide_eq_true (by omega)
   ·split at h
    ·cases h
    ·rename_i e
     have e:=Nat.eq_of_beq_eq_true e
     rw [if_pos (by omega)]
     split at h
     ·rename_i e
      have e:=Nat.le_of_ble_eq_true e
      rw [if_neg (by omega)];exact decide_eq_true (by omega)
     ·split at h
      ·cases h
      ·rename_i e
       have e:=Nat.eq_of_beq_eq_true e
       have h:=Nat.le_of_ble_eq_true h
       rw [if_pos (by omega),if_neg (by omega)];exact decide_eq_true (by omega)
def upE:List E->Bool
 | []=>true
 | x::r=>(match r with
  | []=>true
  | y::_=>ltE x y) && upE r
theorem aHx:∀ {es:List E},upE es=true->∀i,i+1<es.length->ST.ltL (ed es i).l (ed es (i+1)).l=true
 | [x],_,i,hi=>by simp at hi
 | x::y::r,h,0,hi=>by
  rw [upE,Bool.and_eq_true] at h
  exact aSd h.1
 | x::y::r,h,i+1,hi=>by
  rw [upE,Bool.and_eq_true] at h
  exact aHx h.2 i (by simpa using hi)
def okB (n kd:Nat) (es:List E):Bool:=Nat.ble 1 n && (Nat.ble n 200 && (Nat.ble 1 kd && (Nat.ble kd 8 && (Nat.ble es.length 600 && (okE n kd es && upE es)))))
theorem aUx {n kd:Nat} {es:List E} (h:okB n kd es=true):OkM n kd es:=by
 simp only [okB,Bool.and_eq_true,Nat.ble_eq] at h
 obtain ⟨h1,h2,h3,h4,h5,h6,h7⟩:=h
 exact ⟨h1,h2,h3,h4,h5,fun e he=>(sN h6 e he).1,fun e he=>(sN h6 e he).2.1,fun e he=>(sN h6 e he).2.2.1,fun e he=>(sN h6 e he).2.2.2,aHx h7⟩
theorem aWd {d:D} (hc:d.calm=true) (ρ:Env):outs [d] ρ=[d]:=by
 cases ρ with
 | nil=>rfl
 | cons s ρ=>show [if d.calm then d else _]=_;rw [if_pos hc]
theorem bAx {n:Nat} {b:SemS} {d x:D} (h:Ret (fnOf n b) [d] x) (hc:d.calm=true):fnOf n b [d]=.ok (x,[d]):=by
 obtain ⟨os,h⟩:=h
 rw [h]
 unfold fnOf at h
 split at h<;>cases h<;>rw [aWd hc]
def tE:Fn:=fun ds=>match ds with
 | [.tup [.int (.ofNat n),.int (.ofNat kd),.lst false es]]=>(match aM7 es with
  | some l=>(match okB n kd l with
   | true=>.ok (.non,[.tup [.int (.ofNat n),.int (.ofNat kd),.lst false es]])
   | false=>bH ds)
  | none=>bH ds)
 | _=>bH ds
theorem aBm:bH=tE:=by
 funext ds
 unfold tE
 split
 ·split
  ·rename_i e
   split
   ·rename_i h
    rw [aDc e]
    exact bAx (sL (aUx h)) aCw
   ·rfl
  ·rfl
 ·rfl
end VL.K31
end
section
namespace VL.K31
open VL PySem L2
@[simp] theorem aYr {c d:D} {ρ:Env}:putD (.pin c::ρ) 0 d=.pin d::ρ:=rfl
@[simp] theorem aUa {i:Nat} {h f:aR} {ρ:Env}:fO i h f ρ=oC (f ρ) fun d b=>oC (h ρ) fun k _=>match k with
  | .int k=>(match (getD ρ i).bind fun e=>aD7 e k (d,b) with | some e=>.next (putD ρ i e) | none=>.bad) | _=>.bad:=by
 unfold fO oC
 cases f ρ with
 | ok x =>
  cases h ρ with
  | ok y=>obtain ⟨y,c⟩:=y;cases y<;>rfl
  | exc _=>rfl
  | bad=>rfl
 | exc _=>rfl
 | bad=>rfl
@[simp] theorem aZ6 {i:Nat} {op:Int->Int->Int} {f:aR} {ρ:Env}:pT i op f ρ=match getD ρ i with
  | some (.int a)=>oC (f ρ) fun d _=>(match d with | .int b=>if free ρ i then .next (ρ.set i (.val (.int (op a b)))) else .bad | _=>.bad)
  | _=>.bad:=by
 unfold pT oC
 cases getD ρ i with
 | none=>rfl
 | some d =>
  cases d<;>try rfl
  cases f ρ with
  | ok x=>obtain ⟨x,b⟩:=x;cases x<;>rfl
  | exc _=>rfl
  | bad=>rfl
def bd1:SemS:=(aI (aX 7 (xOf (v2 kIx (v2 kIx (aC 0) (vC (.int 2))) (aC 6)))) (aI (aX 8 (xOf (v2 bB (v2 kIx (aC 1) (aC 6)) (v2 kIx (aC 3) (v2 kIx (aC 7) (vC (.int 2))))))) (sIf (aN (v2 kGt (aC 8) (v2 kIx (aC 3) (v2 kIx (aC 7) (vC (.int 0)))))) (aI (fO 3 (v2 kIx (aC 7) (vC (.int 0))) (aC 8)) (aI (fO 4 (v2 kIx (aC 7) (vC (.int 0))) (aC 6)) (aX 5 (xOf (v2 kIx (aC 7) (vC (.int 0))))))) aZ)))
structure Q4 where
 d:Nat
 a:Nat
 b:Nat
 c:Nat
 p:Nat
def isQ (es gs:List D) (x:D) (q:Q4):Prop:=x=.int (q.d:Int)/\(∃k c,es[q.d]?=some (.tup [.int (q.a:Int),.int k,.int (q.b:Int),.int c]))/\gs[q.d]?=some (.int ((q.c:Int) - (q.p:Int)))
def toQ (es gs:List D) (x:D):Option Q4:=match x with
 | .int (.ofNat d)=>match es[d]?,gs[d]? with
  | some (.tup [.int (.ofNat a),.int _,.int (.ofNat b),.int _]),some (.int (.ofNat c))=>some ⟨d,a,b,c,0⟩
  | some (.tup [.int (.ofNat a),.int _,.int (.ofNat b),.int _]),some (.int (.negSucc p))=>some ⟨d,a,b,0,p+1⟩
  | _,_=>none
 | _=>none
theorem aUl {es gs:List D} {x:D} {q:Q4} (h:toQ es gs x=some q):isQ es gs x q:=by
 unfold toQ at h
 split at h
 ·split at h
  ·rename_i c e1 e2
   cases h
   refine ⟨rfl,⟨_,_,e1⟩,e2.trans ?_⟩
   exact congrArg (fun i=>some (D.int i)) (show (c:Int)=(c:Int) - ((0:Nat):Int) by omega)
  ·rename_i p e1 e2
   cases h
   refine ⟨rfl,⟨_,_,e1⟩,e2.trans ?_⟩
   exact congrArg (fun i=>some (D.int i)) (show Int.negSucc p=((0:Nat):Int) - ((p+1:Nat):Int) by omega)
  ·cases h
 ·cases h
def aMz (es gs:List D):List D->Option (List Q4)
 | []=>some []
 | x::xs=>match toQ es gs x,aMz es gs xs with
  | some q,some qs=>some (q::qs)
  | _,_=>none
inductive IsQs (es gs:List D):List D->List Q4->Prop
 | nil:IsQs es gs [] []
 | cons {x q xs qs}:isQ es gs x q->IsQs es gs xs qs->IsQs es gs (x::xs) (q::qs)
theorem aDd {es gs:List D}:∀ {xs:List D} {qs:List Q4},aMz es gs xs=some qs->IsQs es gs xs qs
 | [],qs,h=>by cases h;exact .nil
 | x::xs,qs,h=>by
  unfold aMz at h
  split at h
  ·rename_i e1 e2
   cases h
   exact .cons (aUl e1) (aDd e2)
  ·cases h
def NI (xs:T0):List D:=xs.map fun (n:Nat)=>D.int (n:Int)
def aDq:T0->Nat->Option Nat
 | [],_=>none
 | x::_,0=>some x
 | _::xs,n+1=>aDq xs n
theorem aDj:∀(xs:T0) (n:Nat),aDq xs n=xs[n]?
 | [],_=>rfl
 | _::_,0=>rfl
 | _::xs,n+1=>by simp [aDq,aDj xs n]
def aFr {α:Type}:List α->Nat->α->Option (List α)
 | [],_,_=>none
 | _::xs,0,v=>some (v::xs)
 | x::xs,n+1,v=>match aFr xs n v with
  | some ys=>some (x::ys)
  | none=>none
theorem xZ {α:Type}:∀ {xs ys:List α} {n:Nat} {v:α},aFr xs n v=some ys->n<xs.length/\ys=xs.set n v
 | [],ys,n,v,h=>by cases h
 | x::xs,ys,0,v,h=>by cases h;exact ⟨by simp,rfl⟩
 | x::xs,ys,n+1,v,h=>by
  unfold aFr at h
  split at h
  ·rename_i zs e
   cases h
   obtain ⟨h1,h2⟩:=xZ e
   exact ⟨by simpa using h1,by rw [h2];rfl⟩
  ·cases h
def fr:List Q4->T0->List D->D->Option (T0×List D×D)
 | [],m,o,r=>some (m,o,r)
 | ⟨d,a,b,c,p⟩::qs,m,o,r=>match aDq m b,aDq m a with
  | some x,some y=>(match Nat.ble (y+p+1) (c+x) with
   | true=>(match aFr m a (c+x - p),aFr o a (.int (d:Int)) with
    | some m1,some o1=>fr qs m1 o1 (.int (a:Int))
    | _,_=>none)
   | false=>fr qs m o r)
  | _,_=>none
theorem aM6 {o:Bool} {xs:T0} {k:Nat} {v:Nat} {b c:Bool} (h:aDq xs k=some v):kIx (.lst o (NI xs),b) (.int (k:Int),c)=.ok (.int (v:Int),b):=by
 rw [aDj] at h
 simp [iH,NI,h]
theorem aNs {o:Bool} {xs:List D} {k:Nat} {v:D} {b c:Bool} (h:xs[k]?=some v):kIx (.lst o xs,b) (.int (k:Int),c)=.ok (v,b):=by
 have hl:k<xs.length:=(List.getElem?_eq_some_iff.mp h).1
 have e:atI xs (k:Int)=some v:=by
  unfold atI ixN
  rw [if_pos (Int.natCast_nonneg k),if_pos (by exact_mod_cast hl)]
  show xs[(k:Int).toNat]?=_
  rw [Int.toNat_natCast,h]
 rw [aW8,e];rfl
theorem aW0 {xs:T0} {v x:Nat} {b:Bool} (h:v<xs.length):aD7 (.lst true (NI xs)) (v:Int) (.int (x:Int),b)=some (.lst true (NI (xs.set v x))):=by
 have hl:(NI xs).length=xs.length:=by simp [NI]
 have e:ixN (NI xs).length (v:Int)=some v:=by
  unfold ixN
  rw [if_pos (Int.natCast_nonneg v),if_pos (by rw [hl];exact_mod_cast h),Int.toNat_natCast]
 show (if aS (D.int (x:Int),b)=true then (ixN (NI xs).length (v:Int)).map fun j=>D.lst true ((NI xs).set j (.int (x:Int))) else none)=_
 rw [if_pos (by simp [aS,D.calm]),e]
 simp [NI,List.map_set]
theorem aWv {xs:List D} {v:Nat} {x:Int} {b:Bool} (h:v<xs.length):aD7 (.lst true xs) (v:Int) (.int x,b)=some (.lst true (xs.set v (.int x))):=by
 have e:ixN xs.length (v:Int)=some v:=by
  unfold ixN
  rw [if_pos (Int.natCast_nonneg v),if_pos (by exact_mod_cast h),Int.toNat_natCast]
 show (if aS (D.int x,b)=true then (ixN xs.length (v:Int)).map fun j=>D.lst true (xs.set j (.int x)) else none)=_
 rw [if_pos (by simp [aS,D.calm]),e]
 simp
theorem aPc {x y z:D}:atI [x,y,z] 2=some z:=rfl
theorem aQl {x y z w:D}:atI [x,y,z,w] 2=some z:=rfl
theorem aO6 {x y z w:D}:atI [x,y,z,w] 0=some x:=rfl
theorem aO0 {a k b c:Int}:D.calm (.tup [.int a,.int k,.int b,.int c])=true:=rfl
theorem aFx {n kd:D} {es gs:List D} {N:D}:∀ {xs:List D} {qs:List Q4} {m m':T0} {o o':List D} {r r':D} {t6 t7 t8:Slot},IsQs es gs xs qs->fr qs m o r=some (m',o',r')->np t6->np t7->np t8 ->
  ∃u6 u7 u8,np u6/\np u7/\np u8/\forL (bW 6) bd1 xs [.val (.tup [n,kd,.lst false es]),.val (.lst false gs),.val N,.pin (.lst true (NI m)),.pin (.lst true o),.val r,t6,t7,t8]=.next [.val (.tup [n,kd,.lst false es]),.val (.lst false gs),.val N,.pin (.lst true (NI m')),.pin (.lst true o'),.val r',u6,u7,u8]
 | _,_,m,m',o,o',r,r',t6,t7,t8,.nil,h,h6,h7,h8=>by
  cases h
  exact ⟨_,_,_,h6,h7,h8,rfl⟩
 | _,⟨d,a,b,cc,p⟩::qs,m,m',o,o',r,r',t6,t7,t8,.cons hq hqs,h,h6,h7,h8=>by
  obtain ⟨rfl,⟨k,c,e1⟩,e2⟩:=hq
  dsimp only at e1 e2
  unfold fr at h
  split at h
  ·rename_i x y ex ey
   split at h
   ·rename_i hv
    have hv:=Nat.le_of_ble_eq_true hv
    have hv1:(y:Int)<(cc:Int) - (p:Int)+(x:Int):=by omega
    have hv2:(cc:Int) - (p:Int)+(x:Int)=((cc+x - p:Nat):Int):=by omega
    split at h
    case h_2=>cases h
    rename_i m1 o1 em eo
    obtain ⟨lm,rfl⟩:=xZ em
    obtain ⟨lo,rfl⟩:=xZ eo
    obtain ⟨u6,u7,u8,q6,q7,q8,qf⟩:=aFx (n:=n) (kd:=kd) (N:=N) (t6:=.val (.int (d:Int))) (t7:=.val (.tup [.int (a:Int),.int k,.int (b:Int),.int c])) (t8:=.val (.int ((cc:Int) - (p:Int)+(x:Int)))) hqs h nS nS nS
    refine ⟨u6,u7,u8,q6,q7,q8,?_⟩
    rw [<- qf]
    show (match bW 6 (.int (d:Int)) _ with | none=>Out.bad | some ρ1=>fR (bd1 ρ1) _)=_
    have eb:bW 6 (.int (d:Int)) [.val (.tup [n,kd,.lst false es]),.val (.lst false gs),.val N,.pin (.lst true (NI m)),.pin (.lst true o),.val r,t6,t7,t8]=some [.val (.tup [n,kd,.lst false es]),.val (.lst false gs),.val N,.pin (.lst true (NI m)),.pin (.lst true o),.val r,.val (.int (d:Int)),t7,t8]:=by simp [h6]
    rw [eb]
    dsimp only
    have e:bd1 [.val (.tup [n,kd,.lst false es]),.val (.lst false gs),.val N,.pin (.lst true (NI m)),.pin (.lst true o),.val r,.val (.int (d:Int)),t7,t8]=.next [.val (.tup [n,kd,.lst false es]),.val (.lst false gs),.val N,.pin (.lst true (NI (m.set a (cc+x - p)))),.pin (.lst true (o.set a (.int (d:Int)))),.val (.int (a:Int)),.val (.int (d:Int)),.val (.tup [.int (a:Int),.int k,.int (b:Int),.int c]),.val (.int ((cc:Int) - (p:Int)+(x:Int)))]:=by
     simp [bd1,aPc,aQl,aO6,aO0,h7,h8,aNs e1,aNs e2,aM6 ex,aM6 ey,hv2,show y<cc+x - p by omega,aW0 lm,aWv lo]
    rw [e];rfl
   ·rename_i hv
    have hv1:¬ (y:Int)<(cc:Int) - (p:Int)+(x:Int):=by
     intro z
     have:=Nat.ble_eq_true_of_le (show y+p+1<=cc+x by omega)
     rw [hv] at this;cases this
    obtain ⟨u6,u7,u8,q6,q7,q8,qf⟩:=aFx (n:=n) (kd:=kd) (N:=N) (t6:=.val (.int (d:Int))) (t7:=.val (.tup [.int (a:Int),.int k,.int (b:Int),.int c])) (t8:=.val (.int ((cc:Int) - (p:Int)+(x:Int)))) hqs h nS nS nS
    refine ⟨u6,u7,u8,q6,q7,q8,?_⟩
    rw [<- qf]
    show (match bW 6 (.int (d:Int)) _ with | none=>Out.bad | some ρ1=>fR (bd1 ρ1) _)=_
    have eb:bW 6 (.int (d:Int)) [.val (.tup [n,kd,.lst false es]),.val (.lst false gs),.val N,.pin (.lst true (NI m)),.pin (.lst true o),.val r,t6,t7,t8]=some [.val (.tup [n,kd,.lst false es]),.val (.lst false gs),.val N,.pin (.lst true (NI m)),.pin (.lst true o),.val r,.val (.int (d:Int)),t7,t8]:=by simp [h6]
    rw [eb]
    dsimp only
    have e:bd1 [.val (.tup [n,kd,.lst false es]),.val (.lst false gs),.val N,.pin (.lst true (NI m)),.pin (.lst true o),.val r,.val (.int (d:Int)),t7,t8]=.next [.val (.tup [n,kd,.lst false es]),.val (.lst false gs),.val N,.pin (.lst true (NI m)),.pin (.lst true o),.val r,.val (.int (d:Int)),.val (.tup [.int (a:Int),.int k,.int (b:Int),.int c]),.val (.int ((cc:Int) - (p:Int)+(x:Int)))]:=by
     simp [bd1,aPc,aQl,aO6,aO0,h7,h8,aNs e1,aNs e2,aM6 ex,aM6 ey,hv1]
    rw [e];rfl
  ·cases h
theorem IsQs.frzs {es gs:List D}:∀ {xs:List D} {qs:List Q4},IsQs es gs xs qs->D.bS xs=true
 | _,_,.nil=>rfl
 | _,_,.cons hq hqs=>by
  obtain ⟨rfl,_⟩:=hq
  show (true && D.bS _)=true
  rw [hqs.frzs];rfl
theorem aWm {n kd:D} {es gs:List D} {xs:List D} {qs:List Q4} {m m':T0} {o o':List D} {r':D} (cM:D.calm (.tup [n,kd,.lst false es])=true) (cG:D.bS gs=true) (hq:IsQs es gs xs qs) (h:fr qs m o .non=some (m',o',r')) :
  gM [.tup [n,kd,.lst false es],.lst false gs,.lst false xs,.lst true (NI m),.lst true o]=.ok (r',[.tup [n,kd,.lst false es],.lst false gs,.lst false xs,.lst true (NI m'),.lst true o']):=by
 obtain ⟨u6,u7,u8,q6,q7,q8,qf⟩:=aFx (n:=n) (kd:=kd) (N:=.lst false xs) hq h aAt aAt aAt
 have cx:=hq.frzs
 have cG':D.calm (.lst false gs)=true:=by show (!false && D.bS gs)=true;rw [cG];rfl
 have cX':D.calm (.lst false xs)=true:=by show (!false && D.bS xs)=true;rw [cx];rfl
 have hb:iM (entry 9 [.tup [n,kd,.lst false es],.lst false gs,.lst false xs,.lst true (NI m),.lst true o])=.ret r' [.val (.tup [n,kd,.lst false es]),.val (.lst false gs),.val (.lst false xs),.pin (.lst true (NI m')),.pin (.lst true o'),.un,u6,u7,u8]:=by
  have en:entry 9 [.tup [n,kd,.lst false es],.lst false gs,.lst false xs,.lst true (NI m),.lst true o]=[.val (.tup [n,kd,.lst false es]),.val (.lst false gs),.val (.lst false xs),.pin (.lst true (NI m)),.pin (.lst true o),.un,.un,.un,.un]:=by
   show [if D.calm (.tup [n,kd,.lst false es]) then Slot.val _ else .pin _,if D.calm (.lst false gs) then Slot.val _ else .pin _,if D.calm (.lst false xs) then Slot.val _ else .pin _,.pin (.lst true (NI m)),.pin (.lst true o),.un,.un,.un,.un]=_
   rw [if_pos cM,if_pos cG',if_pos cX']
  rw [en]
  rw [show iM=aI (aX 5 (xOf (vC .non))) (aI (iC (jH (aC 2)) (bW 6) bd1) (gC 5)) from rfl,cB]
  have e1:aX 5 (xOf (vC .non)) [.val (.tup [n,kd,.lst false es]),.val (.lst false gs),.val (.lst false xs),.pin (.lst true (NI m)),.pin (.lst true o),.un,.un,.un,.un]=.next [.val (.tup [n,kd,.lst false es]),.val (.lst false gs),.val (.lst false xs),.pin (.lst true (NI m)),.pin (.lst true o),.val .non,.un,.un,.un]:=rfl
  rw [e1,bQ,cB]
  have e2:jH (aC 2) [.val (.tup [n,kd,.lst false es]),.val (.lst false gs),.val (.lst false xs),.pin (.lst true (NI m)),.pin (.lst true o),.val .non,.un,.un,.un]=.ok xs:=by
   show aBy (.lst false xs,false)=_
   rw [aSr,if_pos (by simp [aS,cX']),iT _ cx]
  show (((match jH (aC 2) _ with | .ok ds=>forL (bW 6) bd1 ds _ | .exc _=>.bad | .bad=>.bad):Out).andThen (gC 5))=_
  rw [e2]
  dsimp only
  rw [qf]
  rfl
 show (match iM (entry 9 [.tup [n,kd,.lst false es],.lst false gs,.lst false xs,.lst true (NI m),.lst true o]) with | .ret d ρ'=>R.ok (d,outs _ ρ') | .next ρ'=>.ok (.non,outs _ ρ') | .exc c _=>.exc c | _=>.bad)=_
 rw [hb]
 show R.ok (r',[if D.calm (.tup [n,kd,.lst false es]) then _ else _,if D.calm (.lst false gs) then _ else _,if D.calm (.lst false xs) then _ else _,D.lst true (NI m'),D.lst true o'])=_
 rw [if_pos cM,if_pos cG',if_pos cX']
def wcM:dC:=(cZ (aN (v2 (jQ true) (aC 6) (vC .non))) (aN (v2 kLt (aC 7) (v2 kIx (aC 0) (vC (.int 0))))))
def wbM:SemS:=(aI (aX 6 (nP gM [0,1,3,4,5])) (pT 7 (fun i j=>i+j) (vC (.int 1))))
def WM:SemS:=cV wcM wbM fuel
def frs (qs:List Q4) (n:Int):Nat->T0->List D->D->Int->Option (T0×List D×D×Int)
 | 0,_,_,_,_=>none
 | f+1,m,o,r,k=>if lD r=true then some (m,o,r,k) else if k<n then (match fr qs m o .non with
  | some (m',o',r')=>frs qs n f m' o' r' (k+1)
  | none=>none) else some (m,o,r,k)
theorem aHd {n:Int} {kd:D} {es gs:List D} {t2:Slot} {xs:List D} {qs:List Q4} (cM:D.calm (.tup [.int n,kd,.lst false es])=true) (cG:D.bS gs=true) (hq:IsQs es gs xs qs):∀(f:Nat) {m m':T0} {o o':List D} {r r':D} {k k':Int},frs qs n f m o r k=some (m',o',r',k') ->
  cV wcM wbM f [.val (.tup [.int n,kd,.lst false es]),.val (.lst false gs),t2,.val (.lst false xs),.val (.lst true (NI m)),.val (.lst true o),.val r,.val (.int k)]=.next [.val (.tup [.int n,kd,.lst false es]),.val (.lst false gs),t2,.val (.lst false xs),.val (.lst true (NI m')),.val (.lst true o'),.val r',.val (.int k')]
 | 0,m,m',o,o',r,r',k,k',h=>by cases h
 | f+1,m,m',o,o',r,r',k,k',h=>by
  unfold frs at h
  have c1:aN (v2 (jQ true) (aC 6) (vC .non)) [.val (.tup [.int n,kd,.lst false es]),.val (.lst false gs),t2,.val (.lst false xs),.val (.lst true (NI m)),.val (.lst true o),.val r,.val (.int k)]=.ok (!lD r):=rfl
  have c2:aN (v2 kLt (aC 7) (v2 kIx (aC 0) (vC (.int 0)))) [.val (.tup [.int n,kd,.lst false es]),.val (.lst false gs),t2,.val (.lst false xs),.val (.lst true (NI m)),.val (.lst true o),.val r,.val (.int k)]=.ok (decide (k<n)):=rfl
  have cc:wcM [.val (.tup [.int n,kd,.lst false es]),.val (.lst false gs),t2,.val (.lst false xs),.val (.lst true (NI m)),.val (.lst true o),.val r,.val (.int k)]=if (!lD r)=true then .ok (decide (k<n)) else .ok false:=by
   unfold wcM
   rw [aMt,c1,aCc,c2]
  by_cases hr:lD r=true
  ·rw [if_pos hr] at h
   cases h
   exact aCt (by rw [cc,hr];rfl)
  ·rw [if_neg hr] at h
   have hr':(!lD r)=true:=by cases e:lD r<;>simp_all
   by_cases hk:k<n
   ·rw [if_pos hk] at h
    split at h
    ·rename_i m1 o1 r1 e
     have ef:=aWm cM cG hq e
     have ih:=aHd (t2:=t2) cM cG hq f h
     rw [<- ih]
     refine aKr (by rw [cc,if_pos hr'];simp [hk]) ?_
     unfold wbM
     have es6:aX 6 (nP gM [0,1,3,4,5]) [.val (.tup [.int n,kd,.lst false es]),.val (.lst false gs),t2,.val (.lst false xs),.val (.lst true (NI m)),.val (.lst true o),.val r,.val (.int k)]=.next [.val (.tup [.int n,kd,.lst false es]),.val (.lst false gs),t2,.val (.lst false xs),.val (.lst true (NI m1)),.val (.lst true o1),.val r1,.val (.int k)]:=by
      have eg:cY [0,1,3,4,5] [.val (.tup [.int n,kd,.lst false es]),.val (.lst false gs),t2,.val (.lst false xs),.val (.lst true (NI m)),.val (.lst true o),.val r,.val (.int k)]=some [.tup [.int n,kd,.lst false es],.lst false gs,.lst false xs,.lst true (NI m),.lst true o]:=rfl
      have cG':D.calm (.lst false gs)=true:=by show (!false && D.bS gs)=true;rw [cG];rfl
      have cX':D.calm (.lst false xs)=true:=by show (!false && D.bS xs)=true;rw [hq.frzs];rfl
      unfold aX nP
      rw [eg]
      dsimp only
      rw [if_pos (show fI [0,1,3,4,5]=true from rfl),ef]
      simp [cA,cM,cG',cX']
     rw [cB,es6]
     simp -implicitDefEqProofs
    ·cases h
   ·rw [if_neg hk] at h
    cases h
    exact aCt (by rw [cc,if_pos hr'];simp [hk])
def aMf:List D->Option (T0)
 | []=>some []
 | .int (.ofNat i)::xs=>match aMf xs with
  | some ys=>some (i::ys)
  | none=>none
 | _::_=>none
theorem aCk:∀ {xs:List D} {ys:T0},aMf xs=some ys->xs=NI ys
 | [],ys,h=>by cases h;rfl
 | x::xs,ys,h=>by
  cases x<;>try (cases h;done)
  rename_i i
  cases i<;>try (cases h;done)
  unfold aMf at h
  split at h
  ·rename_i e1
   cases h
   rw [aCk e1];rfl
  ·cases h
def WMq:SemS:=fun ρ=>match ρ with
 | [.val (.tup [.int n,kd,.lst false es]),.val (.lst false gs),t2,.val (.lst false xs),.val (.lst true ms),.val (.lst true o),.val r,.val (.int k)] =>
  if (D.calm (.tup [.int n,kd,.lst false es]) && D.bS gs)=true then (match aMz es gs xs,aMf ms with
   | some qs,some m=>(match frs qs n fuel m o r k with
    | some (m',o',r',k')=>.next [.val (.tup [.int n,kd,.lst false es]),.val (.lst false gs),t2,.val (.lst false xs),.val (.lst true (NI m')),.val (.lst true o'),.val r',.val (.int k')]
    | none=>WM ρ)
   | _,_=>WM ρ) else WM ρ
 | _=>WM ρ
theorem aR4:WM=WMq:=by
 funext ρ
 unfold WMq
 split
 ·split
  ·rename_i hc
   rw [Bool.and_eq_true] at hc
   split
   ·rename_i e1 e2
    split
    ·rename_i e3
     rw [aCk e2]
     exact aHd hc.1 hc.2 (aDd e1) _ e3
    ·rfl
   ·rfl
  ·rfl
 ·rfl
end VL.K31
end
section
namespace VL.K31
open VL PySem L2
def aO3:SemS:=(aI (cT (bO tE (aA (aC 0) aE))) (aI (sIf (gR (dA (dS (v1 (nR "list") (aC 1)))) (aN (v2 (kEq true) (vCB dZ (aA (aC 1) aE)) (v2 kIx (aC 0) (vC (.int 1)))))) (eX "BadPrices" (fun _=>some ("prices are a list of one for each kind" : Str).length)) aZ) (iC (kG (aC 1)) (eP [2,3]) (sIf (dA (dS (aO bV (aA (aC 3) (aA (vC (.int 0)) (aA (vC (.int 1000)) aE)))))) (eX "BadPrices" (zTop (fA (fun _=>some ("the price of kind " : Str).length) (fA (mT (aC 2)) (fA (fun _=>some (" is not from 0 to " : Str).length) (fA (mT (vC (.int 1000))) (fun _=>some 0))))))) aZ))))
def aIb:Fn:=fnOf 4 aO3
theorem aIf:eS=aIb:=by
 show fnOf 4 jN=fnOf 4 aO3
 rw [show jN=(aI (cT (bO bH (aA (aC 0) aE))) (aI (sIf (gR (dA (dS (v1 (nR "list") (aC 1)))) (aN (v2 (kEq true) (vCB dZ (aA (aC 1) aE)) (v2 kIx (aC 0) (vC (.int 1)))))) (eX "BadPrices" (fun _=>some ("prices are a list of one for each kind" : Str).length)) aZ) (iC (kG (aC 1)) (eP [2,3]) (sIf (dA (dS (aO bV (aA (aC 3) (aA (vC (.int 0)) (aA (vC (.int 1000)) aE)))))) (eX "BadPrices" (zTop (fA (fun _=>some ("the price of kind " : Str).length) (fA (mT (aC 2)) (fA (fun _=>some (" is not from 0 to " : Str).length) (fA (mT (vC (.int 1000))) (fun _=>some 0))))))) aZ)))) from rfl,aBm]
 rfl
def aPo:SemS:=(aI (cT (bO tE (aA (aC 0) aE))) (bD (xOf (dN (kG (aO jX (aA (aC 0) aE))) 2 [] (eP [0,1]) eW (vOr (v2 (kEq false) (aC 0) (vC (.int 0))) (v2 (jQ true) (aC 1) (vC .non)))))))
def aHp:Fn:=fnOf 1 aPo
theorem aJd:iS=aHp:=by
 show fnOf 1 pL=fnOf 1 aPo
 rw [show pL=(aI (cT (bO bH (aA (aC 0) aE))) (bD (xOf (dN (kG (aO jX (aA (aC 0) aE))) 2 [] (eP [0,1]) eW (vOr (v2 (kEq false) (aC 0) (vC (.int 0))) (v2 (jQ true) (aC 1) (vC .non))))))) from rfl,aBm]
 rfl
def aP0:SemS:=(aI (aX 2 (bO aHp (aA (aC 0) aE))) (aI (aX 3 (xOf (dN (kG (v2 kIx (aC 0) (vC (.int 2)))) 2 [2] (eP [0,1]) (dS (v2 kIx (aC 2) (v2 kIx (aC 1) (vC (.int 0))))) (aC 0)))) (aI (aX 4 (xOf (dN (iR1 (aA (v2 kIx (aC 0) (vC (.int 0))) aE)) 1 [] (bW 0) eW (vC (.int 0))))) (aI (aX 5 (xOf (dN (iR1 (aA (v2 kIx (aC 0) (vC (.int 0))) aE)) 1 [] (bW 0) eW (vC .non)))) (aI (aX 6 (xOf (vC (.int 0)))) (aI (aX 7 (xOf (vC (.int 0)))) (aI (jE [3] WMq) (jE [4,5] (bD (xOf (cQ (aA (aC 4) (aA (aC 5) (aA (aC 6) aE))))))))))))))
def aPy:Fn:=fnOf 8 aP0
theorem aSk:iK=aPy:=by
 show fnOf 8 kD=fnOf 8 aP0
 rw [show kD=(aI (aX 2 (bO iS (aA (aC 0) aE))) (aI (aX 3 (xOf (dN (kG (v2 kIx (aC 0) (vC (.int 2)))) 2 [2] (eP [0,1]) (dS (v2 kIx (aC 2) (v2 kIx (aC 1) (vC (.int 0))))) (aC 0)))) (aI (aX 4 (xOf (dN (iR1 (aA (v2 kIx (aC 0) (vC (.int 0))) aE)) 1 [] (bW 0) eW (vC (.int 0))))) (aI (aX 5 (xOf (dN (iR1 (aA (v2 kIx (aC 0) (vC (.int 0))) aE)) 1 [] (bW 0) eW (vC .non)))) (aI (aX 6 (xOf (vC (.int 0)))) (aI (aX 7 (xOf (vC (.int 0)))) (aI (jE [3] WM) (jE [4,5] (bD (xOf (cQ (aA (aC 4) (aA (aC 5) (aA (aC 6) aE)))))))))))))) from rfl,aJd,aR4]
 rfl
def aOu:SemS:=(aI (cT (bO aIb (aA (aC 0) (aA (aC 1) aE)))) (aI (aX 2 (xOf (aO iQ (aA (aC 0) (aA (aC 1) aE))))) (aI (jE [2] (aX 3 (bO aPy (aA (aC 0) (aA (aC 2) aE))))) (aI (aX 4 (xOf (v2 kIx (aC 3) (vC (.int 0))))) (aI (aX 5 (xOf (v2 kIx (aC 3) (vC (.int 1))))) (aI (aX 6 (xOf (v2 kIx (aC 3) (vC (.int 2))))) (aI (sIf (aN (v2 (jQ true) (aC 6) (vC .non))) (bD (xOf (aO fE (aA (aC 0) (aA (aC 2) (aA (aO gT (aA (aC 0) (aA (aC 5) (aA (aC 6) aE)))) aE)))))) aZ) (aI (sIf (aN (v2 kGt (v2 kIx (aC 4) (vC (.int 0))) (vC (.int 0)))) (bD (xOf (cQ (aA (vC (.str "row")) (aA (aO iJ (aA (aC 0) (aA (aC 5) (aA (vC (.int 0)) aE)))) (aA (cN aE) (aA (vC (.int 0)) aE))))))) aZ) (bD (xOf (cQ (aA (vC (.str "purse")) (aA (aC 4) aE)))))))))))))
def rK:Fn:=fnOf 7 aOu
theorem pU:aV=rK:=by
 show fnOf 7 jJ=fnOf 7 aOu
 rw [show jJ=(aI (cT (bO eS (aA (aC 0) (aA (aC 1) aE)))) (aI (aX 2 (xOf (aO iQ (aA (aC 0) (aA (aC 1) aE))))) (aI (jE [2] (aX 3 (bO iK (aA (aC 0) (aA (aC 2) aE))))) (aI (aX 4 (xOf (v2 kIx (aC 3) (vC (.int 0))))) (aI (aX 5 (xOf (v2 kIx (aC 3) (vC (.int 1))))) (aI (aX 6 (xOf (v2 kIx (aC 3) (vC (.int 2))))) (aI (sIf (aN (v2 (jQ true) (aC 6) (vC .non))) (bD (xOf (aO fE (aA (aC 0) (aA (aC 2) (aA (aO gT (aA (aC 0) (aA (aC 5) (aA (aC 6) aE)))) aE)))))) aZ) (aI (sIf (aN (v2 kGt (v2 kIx (aC 4) (vC (.int 0))) (vC (.int 0)))) (bD (xOf (cQ (aA (vC (.str "row")) (aA (aO iJ (aA (aC 0) (aA (aC 5) (aA (vC (.int 0)) aE)))) (aA (cN aE) (aA (vC (.int 0)) aE))))))) aZ) (bD (xOf (cQ (aA (vC (.str "purse")) (aA (aC 4) aE))))))))))))) from rfl,aIf,aSk]
 rfl
def aO1:SemS:=(aI (cT (bO aIb (aA (aC 0) (aA (aC 1) aE)))) (aI (sIf (gR (aN (v2 (kEq true) (vCB dZ (aA (aC 2) aE)) (v2 kIx (aC 0) (vC (.int 0))))) (gR (aN (v2 (kEq true) (v2 kIx (aC 2) (vC (.int 0))) (vC (.int 0)))) (aN (v2 kLt (vCB aGc (aA (aC 2) aE)) (vC (.int 0)))))) (bD (xOf (vC (.bl false)))) aZ) (aI (aX 3 (bO aHp (aA (aC 0) aE))) (aI (iC (jH (v2 kIx (aC 0) (vC (.int 2)))) (bW 4) (sIf (cZ (dS (v2 kIx (aC 3) (v2 kIx (aC 4) (vC (.int 0))))) (aN (v2 kLt (v2 bB (v2 kIx (aC 2) (v2 kIx (aC 4) (vC (.int 0)))) (v2 kIx (aC 1) (v2 kIx (aC 4) (vC (.int 1))))) (v2 bB (v2 kIx (aC 4) (vC (.int 3))) (v2 kIx (aC 2) (v2 kIx (aC 4) (vC (.int 2)))))))) (bD (xOf (vC (.bl false)))) aZ)) (bD (xOf (vC (.bl true))))))))
def aFp:Fn:=fnOf 5 aO1
theorem aI8:jI=aFp:=by
 show fnOf 5 aBd=fnOf 5 aO1
 rw [show aBd=(aI (cT (bO eS (aA (aC 0) (aA (aC 1) aE)))) (aI (sIf (gR (aN (v2 (kEq true) (vCB dZ (aA (aC 2) aE)) (v2 kIx (aC 0) (vC (.int 0))))) (gR (aN (v2 (kEq true) (v2 kIx (aC 2) (vC (.int 0))) (vC (.int 0)))) (aN (v2 kLt (vCB aGc (aA (aC 2) aE)) (vC (.int 0)))))) (bD (xOf (vC (.bl false)))) aZ) (aI (aX 3 (bO iS (aA (aC 0) aE))) (aI (iC (jH (v2 kIx (aC 0) (vC (.int 2)))) (bW 4) (sIf (cZ (dS (v2 kIx (aC 3) (v2 kIx (aC 4) (vC (.int 0))))) (aN (v2 kLt (v2 bB (v2 kIx (aC 2) (v2 kIx (aC 4) (vC (.int 0)))) (v2 kIx (aC 1) (v2 kIx (aC 4) (vC (.int 1))))) (v2 bB (v2 kIx (aC 4) (vC (.int 3))) (v2 kIx (aC 2) (v2 kIx (aC 4) (vC (.int 2)))))))) (bD (xOf (vC (.bl false)))) aZ)) (bD (xOf (vC (.bl true)))))))) from rfl,aIf,aJd]
 rfl
def aPm:SemS:=(aI (cT (bO tE (aA (aC 0) aE))) (aI (cT (bO tE (aA (aC 1) aE))) (aI (aX 2 (xOf (vCB kSL (aA (v2 bB (aO gK (aA (aC 0) (aA (v2 kIx (aC 1) (vC (.int 0))) aE))) (aO fG (aA (aC 0) (aA (aC 1) aE)))) aE)))) (aI (jE [2] (aX 3 (xOf (cQ (aA (v2 fL (v2 kIx (aC 0) (vC (.int 0))) (v2 kIx (aC 1) (vC (.int 0)))) (aA (v2 bB (v2 kIx (aC 0) (vC (.int 1))) (v2 kIx (aC 1) (vC (.int 1)))) (aA (aC 2) aE))))))) (aI (cT (bO tE (aA (aC 3) aE))) (gC 3))))))
def aP6:Fn:=fnOf 4 aPm
theorem aUm:jZ=aP6:=by
 show fnOf 4 tW=fnOf 4 aPm
 rw [show tW=(aI (cT (bO bH (aA (aC 0) aE))) (aI (cT (bO bH (aA (aC 1) aE))) (aI (aX 2 (xOf (vCB kSL (aA (v2 bB (aO gK (aA (aC 0) (aA (v2 kIx (aC 1) (vC (.int 0))) aE))) (aO fG (aA (aC 0) (aA (aC 1) aE)))) aE)))) (aI (jE [2] (aX 3 (xOf (cQ (aA (v2 fL (v2 kIx (aC 0) (vC (.int 0))) (v2 kIx (aC 1) (vC (.int 0)))) (aA (v2 bB (v2 kIx (aC 0) (vC (.int 1))) (v2 kIx (aC 1) (vC (.int 1)))) (aA (aC 2) aE))))))) (aI (cT (bO bH (aA (aC 3) aE))) (gC 3)))))) from rfl,aBm]
 rfl
def lq1:SemS:=(bM [8,9] (bO rK (aA (aC 5) (aA (aC 7) aE))))
theorem aS1:lw1=lq1:=by
 rw [show lw1=(bM [8,9] (bO aV (aA (aC 5) (aA (aC 7) aE)))) from rfl,pU]
 rfl
def lq2:SemS:=(sIf (gR (aN (v2 (kEq true) (aC 8) (vC (.str "purse")))) (dA (dS (aO aFp (aA (aC 5) (aA (aC 7) (aA (aC 9) aE))))))) (bD (xOf (vC (.bl false)))) aZ)
theorem aR8:lw2=lq2:=by
 rw [show lw2=(sIf (gR (aN (v2 (kEq true) (aC 8) (vC (.str "purse")))) (dA (dS (aO jI (aA (aC 5) (aA (aC 7) (aA (aC 9) aE))))))) (bD (xOf (vC (.bl false)))) aZ) from rfl,aI8]
 rfl
def lq4:SemS:=(sIf (gR (dA (dS (aO aFp (aA (aC 5) (aA (aC 7) (aA (aC 10) aE)))))) (dS (vCB rS (aA (dN (iR1 (aA (vCB dZ (aA (aC 6) aE)) aE)) 1 [9,10] (bW 0) eW (v2 kGt (v2 kIx (aC 1) (aC 0)) (v2 kIx (aC 2) (aC 0)))) aE)))) (bD (xOf (vC (.bl false)))) aZ)
theorem aQ9:lw4=lq4:=by
 rw [show lw4=(sIf (gR (dA (dS (aO jI (aA (aC 5) (aA (aC 7) (aA (aC 10) aE)))))) (dS (vCB rS (aA (dN (iR1 (aA (vCB dZ (aA (aC 6) aE)) aE)) 1 [9,10] (bW 0) eW (v2 kGt (v2 kIx (aC 1) (aC 0)) (v2 kIx (aC 2) (aC 0)))) aE)))) (bD (xOf (vC (.bl false)))) aZ) from rfl,aI8]
 rfl
def lq5:SemS:=(sIf (cZ (aN (v2 (kEq false) (aC 4) (vC (.int 1)))) (cZ (aN (v2 kGt (vCB dZ (aA (aC 6) aE)) (vC (.int 3)))) (aN (v2 (kEq true) (v2 kIx (aO rK (aA (aC 5) (aA (cN (aA (vC (.int 2)) (aA (vC (.int 1)) aE))) aE))) (vC (.int 0))) (vC (.str "row")))))) (bD (xOf (vC (.bl false)))) aZ)
theorem aTm:lw5=lq5:=by
 rw [show lw5=(sIf (cZ (aN (v2 (kEq false) (aC 4) (vC (.int 1)))) (cZ (aN (v2 kGt (vCB dZ (aA (aC 6) aE)) (vC (.int 3)))) (aN (v2 (kEq true) (v2 kIx (aO aV (aA (aC 5) (aA (cN (aA (vC (.int 2)) (aA (vC (.int 1)) aE))) aE))) (vC (.int 0))) (vC (.str "row")))))) (bD (xOf (vC (.bl false)))) aZ) from rfl,pU]
 rfl
def lq6:SemS:=(sIf (cZ (aN (v2 (kEq false) (aC 4) (vC (.int 0)))) (cZ (aN (v2 kGt (vCB dZ (aA (aC 6) aE)) (vC (.int 2)))) (aN (v2 (kEq true) (v2 kIx (aO rK (aA (aC 5) (aA (cN (aA (vC (.int 1)) (aA (vC (.int 0)) aE))) aE))) (vC (.int 0))) (vC (.str "row")))))) (bD (xOf (vC (.bl false)))) aZ)
theorem aQs:lw6=lq6:=by
 rw [show lw6=(sIf (cZ (aN (v2 (kEq false) (aC 4) (vC (.int 0)))) (cZ (aN (v2 kGt (vCB dZ (aA (aC 6) aE)) (vC (.int 2)))) (aN (v2 (kEq true) (v2 kIx (aO aV (aA (aC 5) (aA (cN (aA (vC (.int 1)) (aA (vC (.int 0)) aE))) aE))) (vC (.int 0))) (vC (.str "row")))))) (bD (xOf (vC (.bl false)))) aZ) from rfl,pU]
 rfl
def lq9:SemS:=(aX 12 (xOf (v2 kIx (aO rK (aA (v2 kIx (aC 11) (vC (.int 0))) (aA (cN (aA (vC (.int 3)) (aA (vC (.int 1)) aE))) aE))) (vC (.int 1)))))
theorem aQ0:lw9=lq9:=by
 rw [show lw9=(aX 12 (xOf (v2 kIx (aO aV (aA (v2 kIx (aC 11) (vC (.int 0))) (aA (cN (aA (vC (.int 3)) (aA (vC (.int 1)) aE))) aE))) (vC (.int 1))))) from rfl,pU]
 rfl
def aV6:SemS:=(aX 13 (xOf (v2 kIx (aO rK (aA (v2 kIx (aC 11) (vC (.int 1))) (aA (cN (aA (vC (.int 2)) (aA (vC (.int 0)) aE))) aE))) (vC (.int 1)))))
theorem aMo:aLy=aV6:=by
 rw [show aLy=(aX 13 (xOf (v2 kIx (aO aV (aA (v2 kIx (aC 11) (vC (.int 1))) (aA (cN (aA (vC (.int 2)) (aA (vC (.int 0)) aE))) aE))) (vC (.int 1))))) from rfl,pU]
 rfl
def aX5:SemS:=(bM [8,14] (bO rK (aA (aO aP6 (aA (v2 kIx (aC 11) (vC (.int 0))) (aA (v2 kIx (aC 11) (vC (.int 1))) aE))) (aA (cN (aA (vC (.int 3)) (aA (vC (.int 1)) (aA (vC (.int 2)) (aA (vC (.int 0)) aE))))) aE))))
theorem aNv:aN4=aX5:=by
 rw [show aN4=(bM [8,14] (bO aV (aA (aO jZ (aA (v2 kIx (aC 11) (vC (.int 0))) (aA (v2 kIx (aC 11) (vC (.int 1))) aE))) (aA (cN (aA (vC (.int 3)) (aA (vC (.int 1)) (aA (vC (.int 2)) (aA (vC (.int 0)) aE))))) aE)))) from rfl,pU,aUm]
 rfl
def lR1:SemS:=(aI lq1 (aI lq2 (aI lw3 (aI lq4 (aI lq5 lq6)))))
def lR3:SemS:=(aI lq9 (aI aV6 (aI aX5 aU2)))
theorem bK:lT1=lR1:=by
 unfold lT1 lR1
 rw [aS1,aR8,aQ9,aTm,aQs]
theorem kF:lT3=lR3:=by
 unfold lT3 lR3
 rw [aQ0,aMo,aNv]
end VL.K31
end
section
namespace VL.K31
open VL PySem L2
theorem bAg (s0 g1 g2 g3:Slot):pick (lT1 (EV s0 g1 g2 g3 0 (mC 1) [2,0]))=some [s0,g1,g2,g3]:=by
 rw [bK]
 kernel_rfl
theorem aZp (s0 g1 g2 g3:Slot):pick (lT1 (EV s0 g1 g2 g3 0 (mC 2) [2,0]))=some [s0,g1,g2,g3]:=by
 rw [bK]
 kernel_rfl
theorem aZ9 (s0 g1 g2 g3:Slot):pick (lT1 (EV s0 g1 g2 g3 0 (mC 3) [2,0]))=some [s0,g1,g2,g3]:=by
 rw [bK]
 kernel_rfl
theorem bBf (s0 g1 g2 g3:Slot):pick (lT1 (EV s0 g1 g2 g3 0 (mC 4) [2,0]))=some [s0,g1,g2,g3]:=by
 rw [bK]
 kernel_rfl
theorem aZq (s0 g1 g2 g3:Slot):pick (lT1 (EV s0 g1 g2 g3 0 (mC 5) [2,0]))=some [s0,g1,g2,g3]:=by
 rw [bK]
 kernel_rfl
theorem aS9 (s0 g1 g2 g3:Slot):pick (lT1 (EV s0 g1 g2 g3 2 (mS 1 2) [3,1]))=some [s0,g1,g2,g3]:=by
 rw [bK]
 kernel_rfl
theorem aSo (s0 g1 g2 g3:Slot):pick (lT1 (EV s0 g1 g2 g3 2 (mS 2 2) [3,1]))=some [s0,g1,g2,g3]:=by
 rw [bK]
 kernel_rfl
theorem aS8 (s0 g1 g2 g3:Slot):pick (lT1 (EV s0 g1 g2 g3 2 (mS 3 2) [3,1]))=some [s0,g1,g2,g3]:=by
 rw [bK]
 kernel_rfl
theorem aR0 (s0 g1 g2 g3:Slot):pick (lT1 (EV s0 g1 g2 g3 2 (mS 4 2) [3,1]))=some [s0,g1,g2,g3]:=by
 rw [bK]
 kernel_rfl
theorem aQ4 (s0 g1 g2 g3:Slot):pick (lT1 (EV s0 g1 g2 g3 2 (mS 5 2) [3,1]))=some [s0,g1,g2,g3]:=by
 rw [bK]
 kernel_rfl
theorem aRw (s0 g1 g2 g3:Slot):pick (lT1 (EV s0 g1 g2 g3 2 (mS 6 2) [3,1]))=some [s0,g1,g2,g3]:=by
 rw [bK]
 kernel_rfl
theorem aRb (s0 g1 g2 g3:Slot):pick (lT1 (EV s0 g1 g2 g3 2 (mS 7 2) [3,1]))=some [s0,g1,g2,g3]:=by
 rw [bK]
 kernel_rfl
theorem aRz (s0 g1 g2 g3:Slot):pick (lT1 (EV s0 g1 g2 g3 2 (mS 8 2) [3,1]))=some [s0,g1,g2,g3]:=by
 rw [bK]
 kernel_rfl
theorem aTn (s0 g1 g2 g3:Slot):pick (lT1 (EV s0 g1 g2 g3 2 (mS 9 2) [3,1]))=some [s0,g1,g2,g3]:=by
 rw [bK]
 kernel_rfl
theorem aNy (s0 g1 g2 g3:Slot):pick (lT1 (EV s0 g1 g2 g3 2 (mS 10 2) [3,1]))=some [s0,g1,g2,g3]:=by
 rw [bK]
 kernel_rfl
theorem aOm (s0 g1 g2 g3:Slot):pick (lT1 (EV s0 g1 g2 g3 2 (mS 11 2) [3,1]))=some [s0,g1,g2,g3]:=by
 rw [bK]
 kernel_rfl
theorem aK8 (s0 g1 g2 g3:Slot):pick (lT1 (EV s0 g1 g2 g3 2 (mS 12 2) [3,1]))=some [s0,g1,g2,g3]:=by
 rw [bK]
 kernel_rfl
end VL.K31
end
section
namespace VL.K31
open VL PySem L2
theorem aZn (s0 g1 g2 g3:Slot):pick (lT1 (EV s0 g1 g2 g3 1 (mQ 1) [3,1]))=some [s0,g1,g2,g3]:=by
 rw [bK]
 kernel_rfl
theorem bAa (s0 g1 g2 g3:Slot):pick (lT1 (EV s0 g1 g2 g3 1 (mQ 2) [3,1]))=some [s0,g1,g2,g3]:=by
 rw [bK]
 kernel_rfl
theorem aZ3 (s0 g1 g2 g3:Slot):pick (lT1 (EV s0 g1 g2 g3 1 (mQ 3) [3,1]))=some [s0,g1,g2,g3]:=by
 rw [bK]
 kernel_rfl
theorem aZ4 (s0 g1 g2 g3:Slot):pick (lT1 (EV s0 g1 g2 g3 1 (mQ 4) [3,1]))=some [s0,g1,g2,g3]:=by
 rw [bK]
 kernel_rfl
theorem bA2 (s0 g1 g2 g3:Slot):pick (lT1 (EV s0 g1 g2 g3 1 (mQ 5) [3,1]))=some [s0,g1,g2,g3]:=by
 rw [bK]
 kernel_rfl
theorem bBa (s0 g1 g2 g3:Slot):pick (lT1 (EV s0 g1 g2 g3 1 (mQ 6) [3,1]))=some [s0,g1,g2,g3]:=by
 rw [bK]
 kernel_rfl
theorem bBg (s0 g1 g2 g3:Slot):pick (lT1 (EV s0 g1 g2 g3 1 (mQ 7) [3,1]))=some [s0,g1,g2,g3]:=by
 rw [bK]
 kernel_rfl
theorem bAi (s0 g1 g2 g3:Slot):pick (lT1 (EV s0 g1 g2 g3 1 (mQ 8) [3,1]))=some [s0,g1,g2,g3]:=by
 rw [bK]
 kernel_rfl
end VL.K31
end
section
namespace VL.K31
open VL PySem L2
theorem aUu (s0 g1 g2 g3:Slot):pick (lT1 (EV s0 g1 g2 g3 2 (mS 1 3) [3,1]))=some [s0,g1,g2,g3]:=by
 rw [bK]
 kernel_rfl
theorem aS2 (s0 g1 g2 g3:Slot):pick (lT1 (EV s0 g1 g2 g3 2 (mS 1 4) [3,1]))=some [s0,g1,g2,g3]:=by
 rw [bK]
 kernel_rfl
theorem aSa (s0 g1 g2 g3:Slot):pick (lT1 (EV s0 g1 g2 g3 2 (mS 2 3) [3,1]))=some [s0,g1,g2,g3]:=by
 rw [bK]
 kernel_rfl
theorem aQw (s0 g1 g2 g3:Slot):pick (lT1 (EV s0 g1 g2 g3 2 (mS 2 4) [3,1]))=some [s0,g1,g2,g3]:=by
 rw [bK]
 kernel_rfl
theorem aTw (s0 g1 g2 g3:Slot):pick (lT1 (EV s0 g1 g2 g3 2 (mS 3 3) [3,1]))=some [s0,g1,g2,g3]:=by
 rw [bK]
 kernel_rfl
theorem aSp (s0 g1 g2 g3:Slot):pick (lT1 (EV s0 g1 g2 g3 2 (mS 3 4) [3,1]))=some [s0,g1,g2,g3]:=by
 rw [bK]
 kernel_rfl
theorem aUc (s0 g1 g2 g3:Slot):pick (lT1 (EV s0 g1 g2 g3 2 (mS 4 3) [3,1]))=some [s0,g1,g2,g3]:=by
 rw [bK]
 kernel_rfl
theorem aRc (s0 g1 g2 g3:Slot):pick (lT1 (EV s0 g1 g2 g3 2 (mS 4 4) [3,1]))=some [s0,g1,g2,g3]:=by
 rw [bK]
 kernel_rfl
theorem aUt (s0 g1 g2 g3:Slot):pick (lT1 (EV s0 g1 g2 g3 2 (mS 5 3) [3,1]))=some [s0,g1,g2,g3]:=by
 rw [bK]
 kernel_rfl
theorem aRu (s0 g1 g2 g3:Slot):pick (lT1 (EV s0 g1 g2 g3 2 (mS 5 4) [3,1]))=some [s0,g1,g2,g3]:=by
 rw [bK]
 kernel_rfl
theorem aUv (s0 g1 g2 g3:Slot):pick (lT1 (EV s0 g1 g2 g3 2 (mS 6 3) [3,1]))=some [s0,g1,g2,g3]:=by
 rw [bK]
 kernel_rfl
theorem aUg (s0 g1 g2 g3:Slot):pick (lT1 (EV s0 g1 g2 g3 2 (mS 6 4) [3,1]))=some [s0,g1,g2,g3]:=by
 rw [bK]
 kernel_rfl
theorem aR2 (s0 g1 g2 g3:Slot):pick (lT1 (EV s0 g1 g2 g3 2 (mS 7 3) [3,1]))=some [s0,g1,g2,g3]:=by
 rw [bK]
 kernel_rfl
theorem aRd (s0 g1 g2 g3:Slot):pick (lT1 (EV s0 g1 g2 g3 2 (mS 7 4) [3,1]))=some [s0,g1,g2,g3]:=by
 rw [bK]
 kernel_rfl
theorem aTp (s0 g1 g2 g3:Slot):pick (lT1 (EV s0 g1 g2 g3 2 (mS 8 3) [3,1]))=some [s0,g1,g2,g3]:=by
 rw [bK]
 kernel_rfl
theorem aSt (s0 g1 g2 g3:Slot):pick (lT1 (EV s0 g1 g2 g3 2 (mS 8 4) [3,1]))=some [s0,g1,g2,g3]:=by
 rw [bK]
 kernel_rfl
theorem aUs (s0 g1 g2 g3:Slot):pick (lT1 (EV s0 g1 g2 g3 2 (mS 9 3) [3,1]))=some [s0,g1,g2,g3]:=by
 rw [bK]
 kernel_rfl
theorem aRy (s0 g1 g2 g3:Slot):pick (lT1 (EV s0 g1 g2 g3 2 (mS 9 4) [3,1]))=some [s0,g1,g2,g3]:=by
 rw [bK]
 kernel_rfl
theorem aKv (s0 g1 g2 g3:Slot):pick (lT1 (EV s0 g1 g2 g3 2 (mS 10 3) [3,1]))=some [s0,g1,g2,g3]:=by
 rw [bK]
 kernel_rfl
theorem aLj (s0 g1 g2 g3:Slot):pick (lT1 (EV s0 g1 g2 g3 2 (mS 10 4) [3,1]))=some [s0,g1,g2,g3]:=by
 rw [bK]
 kernel_rfl
theorem aMm (s0 g1 g2 g3:Slot):pick (lT1 (EV s0 g1 g2 g3 2 (mS 11 3) [3,1]))=some [s0,g1,g2,g3]:=by
 rw [bK]
 kernel_rfl
theorem aMk (s0 g1 g2 g3:Slot):pick (lT1 (EV s0 g1 g2 g3 2 (mS 11 4) [3,1]))=some [s0,g1,g2,g3]:=by
 rw [bK]
 kernel_rfl
theorem aOe (s0 g1 g2 g3:Slot):pick (lT1 (EV s0 g1 g2 g3 2 (mS 12 3) [3,1]))=some [s0,g1,g2,g3]:=by
 rw [bK]
 kernel_rfl
theorem aOo (s0 g1 g2 g3:Slot):pick (lT1 (EV s0 g1 g2 g3 2 (mS 12 4) [3,1]))=some [s0,g1,g2,g3]:=by
 rw [bK]
 kernel_rfl
end VL.K31
end
section
namespace VL.K31
open VL PySem L2
theorem aTg (s0 g1 g2 g3:Slot) (d4 d5 d6 d7 d8 d9 d10:D):isT (lT3 (EW s0 g1 g2 g3 d4 d5 d6 d7 d8 d9 d10 (mQ 1).1 (mC 1).1))=true:=by
 rw [kF]
 kernel_rfl
theorem aRt (s0 g1 g2 g3:Slot) (d4 d5 d6 d7 d8 d9 d10:D):isT (lT3 (EW s0 g1 g2 g3 d4 d5 d6 d7 d8 d9 d10 (mQ 1).1 (mC 2).1))=true:=by
 rw [kF]
 kernel_rfl
theorem aTt (s0 g1 g2 g3:Slot) (d4 d5 d6 d7 d8 d9 d10:D):isT (lT3 (EW s0 g1 g2 g3 d4 d5 d6 d7 d8 d9 d10 (mQ 1).1 (mC 3).1))=true:=by
 rw [kF]
 kernel_rfl
theorem aSi (s0 g1 g2 g3:Slot) (d4 d5 d6 d7 d8 d9 d10:D):isT (lT3 (EW s0 g1 g2 g3 d4 d5 d6 d7 d8 d9 d10 (mQ 2).1 (mC 1).1))=true:=by
 rw [kF]
 kernel_rfl
theorem aU0 (s0 g1 g2 g3:Slot) (d4 d5 d6 d7 d8 d9 d10:D):isT (lT3 (EW s0 g1 g2 g3 d4 d5 d6 d7 d8 d9 d10 (mQ 2).1 (mC 2).1))=true:=by
 rw [kF]
 kernel_rfl
theorem aT9 (s0 g1 g2 g3:Slot) (d4 d5 d6 d7 d8 d9 d10:D):isT (lT3 (EW s0 g1 g2 g3 d4 d5 d6 d7 d8 d9 d10 (mQ 2).1 (mC 3).1))=true:=by
 rw [kF]
 kernel_rfl
theorem aSj (s0 g1 g2 g3:Slot) (d4 d5 d6 d7 d8 d9 d10:D):isT (lT3 (EW s0 g1 g2 g3 d4 d5 d6 d7 d8 d9 d10 (mQ 3).1 (mC 1).1))=true:=by
 rw [kF]
 kernel_rfl
theorem aR1 (s0 g1 g2 g3:Slot) (d4 d5 d6 d7 d8 d9 d10:D):isT (lT3 (EW s0 g1 g2 g3 d4 d5 d6 d7 d8 d9 d10 (mQ 3).1 (mC 2).1))=true:=by
 rw [kF]
 kernel_rfl
theorem aUw (s0 g1 g2 g3:Slot) (d4 d5 d6 d7 d8 d9 d10:D):isT (lT3 (EW s0 g1 g2 g3 d4 d5 d6 d7 d8 d9 d10 (mQ 3).1 (mC 3).1))=true:=by
 rw [kF]
 kernel_rfl
end VL.K31
end
section
namespace VL.K31
open VL PySem L2
theorem aWc {w:Int} {mm:D×D} {p:Y0} {ls lc lq:List (Pos×Str)} (h:Md w mm p ls lc lq) (s0 g1 g2 g3:Slot):pick (lT1 (EV s0 g1 g2 g3 w mm p))=some [s0,g1,g2,g3]:=by
 cases h with
 | @c a h1 h2 =>
  have h:a=1\/a=2\/a=3\/a=4\/a=5:=by omega
  rcases h with rfl | rfl | rfl | rfl | rfl
  ·exact bAg s0 g1 g2 g3
  ·exact aZp s0 g1 g2 g3
  ·exact aZ9 s0 g1 g2 g3
  ·exact bBf s0 g1 g2 g3
  ·exact aZq s0 g1 g2 g3
 | @q a h1 h2 =>
  have h:a=1\/a=2\/a=3\/a=4\/a=5\/a=6\/a=7\/a=8:=by omega
  rcases h with rfl | rfl | rfl | rfl | rfl | rfl | rfl | rfl
  ·exact aZn s0 g1 g2 g3
  ·exact bAa s0 g1 g2 g3
  ·exact aZ3 s0 g1 g2 g3
  ·exact aZ4 s0 g1 g2 g3
  ·exact bA2 s0 g1 g2 g3
  ·exact bBa s0 g1 g2 g3
  ·exact bBg s0 g1 g2 g3
  ·exact bAi s0 g1 g2 g3
 | @s a g h1 h2 h3 h4 =>
  have h:a=1\/a=2\/a=3\/a=4\/a=5\/a=6\/a=7\/a=8\/a=9\/a=10\/a=11\/a=12:=by omega
  have h':g=2\/g=3\/g=4:=by omega
  rcases h with rfl | rfl | rfl | rfl | rfl | rfl | rfl | rfl | rfl | rfl | rfl | rfl<;>rcases h' with rfl | rfl | rfl
  ·exact aS9 s0 g1 g2 g3
  ·exact aUu s0 g1 g2 g3
  ·exact aS2 s0 g1 g2 g3
  ·exact aSo s0 g1 g2 g3
  ·exact aSa s0 g1 g2 g3
  ·exact aQw s0 g1 g2 g3
  ·exact aS8 s0 g1 g2 g3
  ·exact aTw s0 g1 g2 g3
  ·exact aSp s0 g1 g2 g3
  ·exact aR0 s0 g1 g2 g3
  ·exact aUc s0 g1 g2 g3
  ·exact aRc s0 g1 g2 g3
  ·exact aQ4 s0 g1 g2 g3
  ·exact aUt s0 g1 g2 g3
  ·exact aRu s0 g1 g2 g3
  ·exact aRw s0 g1 g2 g3
  ·exact aUv s0 g1 g2 g3
  ·exact aUg s0 g1 g2 g3
  ·exact aRb s0 g1 g2 g3
  ·exact aR2 s0 g1 g2 g3
  ·exact aRd s0 g1 g2 g3
  ·exact aRz s0 g1 g2 g3
  ·exact aTp s0 g1 g2 g3
  ·exact aSt s0 g1 g2 g3
  ·exact aTn s0 g1 g2 g3
  ·exact aUs s0 g1 g2 g3
  ·exact aRy s0 g1 g2 g3
  ·exact aNy s0 g1 g2 g3
  ·exact aKv s0 g1 g2 g3
  ·exact aLj s0 g1 g2 g3
  ·exact aOm s0 g1 g2 g3
  ·exact aMm s0 g1 g2 g3
  ·exact aMk s0 g1 g2 g3
  ·exact aK8 s0 g1 g2 g3
  ·exact aOe s0 g1 g2 g3
  ·exact aOo s0 g1 g2 g3
theorem aEd {o:Out} {a b c d:Slot} (h:pick o=some [a,b,c,d]):∃d4 d5 d6 d7 d8 d9 d10:D,o=.next [a,b,c,d,.val d4,.val d5,.val d6,.val d7,.val d8,.val d9,.val d10,.un,.un,.un,.un]:=by
 unfold pick at h
 split at h
 ·rename_i a' b' c' d' d4 d5 d6 d7 d8 d9 d10
  cases h
  exact ⟨d4,d5,d6,d7,d8,d9,d10,rfl⟩
 ·cases h
theorem aX4 {a b:Int} (h1:1<=a) (h2:a<=3) (h3:1<=b) (h4:b<=3) (s0 g1 g2 g3:Slot) (d4 d5 d6 d7 d8 d9 d10:D):∃ρ',lT3 (EW s0 g1 g2 g3 d4 d5 d6 d7 d8 d9 d10 (mQ a).1 (mC b).1)=.ret (.bl true) ρ':=by
 have k:isT (lT3 (EW s0 g1 g2 g3 d4 d5 d6 d7 d8 d9 d10 (mQ a).1 (mC b).1))=true:=by
  have h:a=1\/a=2\/a=3:=by omega
  have h':b=1\/b=2\/b=3:=by omega
  rcases h with rfl | rfl | rfl<;>rcases h' with rfl | rfl | rfl
  ·exact aTg s0 g1 g2 g3 d4 d5 d6 d7 d8 d9 d10
  ·exact aRt s0 g1 g2 g3 d4 d5 d6 d7 d8 d9 d10
  ·exact aTt s0 g1 g2 g3 d4 d5 d6 d7 d8 d9 d10
  ·exact aSi s0 g1 g2 g3 d4 d5 d6 d7 d8 d9 d10
  ·exact aU0 s0 g1 g2 g3 d4 d5 d6 d7 d8 d9 d10
  ·exact aT9 s0 g1 g2 g3 d4 d5 d6 d7 d8 d9 d10
  ·exact aSj s0 g1 g2 g3 d4 d5 d6 d7 d8 d9 d10
  ·exact aR1 s0 g1 g2 g3 d4 d5 d6 d7 d8 d9 d10
  ·exact aUw s0 g1 g2 g3 d4 d5 d6 d7 d8 d9 d10
 generalize lT3 (EW s0 g1 g2 g3 d4 d5 d6 d7 d8 d9 d10 (mQ a).1 (mC b).1)=o at k
 unfold isT at k
 split at k
 ·rename_i b' ρ
  subst k
  exact ⟨ρ,rfl⟩
 ·cases k
end VL.K31
end
section
namespace VL.K31
open VL PySem L2
def e0 (ns:Y0):Env:=[.val (.lst false (I ns)),sg [],cg [],qg [],.un,.un,.un,.un,.un,.un,.un,.un,.un,.un,.un]
theorem aJb (ns:Y0):entry 15 (.lst false (I ns)::qR [] [] [])=e0 ns:=by
 unfold entry qR
 simp only [List.map_cons,List.map_nil,zO,if_pos]
 rfl
theorem aOi (ns:Y0):∃(w:Int) (mm:D×D) (p:Y0) (ls lc lq:List (Pos×Str)),Md w mm p ls lc lq/\lw0 (e0 ns)=.next (EV (.val (.lst false (I ns))) (sg ls) (cg lc) (qg lq) w mm p):=by
 obtain ⟨w,mm,p,ls,lc,lq,h,k3,k4,k1,k2⟩:=aJn ns
 refine ⟨w,mm,p,ls,lc,lq,h,?_⟩
 have hx:bT dW (aA (aC 0) (aA (vC (.int 0)) aE)) [1,2,3] ["shelf", "counter", "queue"] (e0 ns)=.ok (.tup [.int w,mm.1,mm.2,.lst false (p.map D.int)],true,[.val (.lst false (I ns)),sg ls,cg lc,qg lq,.un,.un,.un,.un,.un,.un,.un,.un,.un,.un,.un]):=by
  have hc:(jB ["shelf", "counter", "queue"] (qR [] [] []) && fI [1,2,3] && D.bS ([(D.lst false (I ns),false),(.int 0,true)].map (·.1)))=true:=by
   have:D.bS ([(D.lst false (I ns),false),(.int 0,true)].map (·.1))=true:=by
    show ((D.lst false (I ns)).calm && ((D.int 0).calm && true))=true
    rw [zO];rfl
   rw [this];rfl
  exact vX (xs:=[(.lst false (I ns),false),(.int 0,true)]) (gds:=qR [] [] []) rfl rfl hc k1 k2
 unfold lw0 bM
 rw [hx]
 have hp:D.bS (p.map D.int)=true:=VL.calms_I p
 simp [EV,k3,k4,hp,sg,cg,qg]
def EX (ns:Y0) (g1 g2 g3:Slot) (d4 d5 d6 d7 d8 d9 d10:D):Env:=[.val (.lst false (I ns)),g1,g2,g3,.val d4,.val d5,.val d6,.val d7,.val d8,.val d9,.val d10,.un,.un,.un,.un]
theorem s7 (ns:Y0) (g1 g2 g3:Slot) (d4 d5 d6 d7 d8 d9 d10:D):lw7 (EX ns g1 g2 g3 d4 d5 d6 d7 d8 d9 d10)=.ret (.bl true) (EX ns g1 g2 g3 d4 d5 d6 d7 d8 d9 d10)\/lw7 (EX ns g1 g2 g3 d4 d5 d6 d7 d8 d9 d10)=.next (EX ns g1 g2 g3 d4 d5 d6 d7 d8 d9 d10):=by
 by_cases h:0<cF ns 9 % 4
 ·left;simp [lw7,EX,mk9,h]
 ·right;simp [lw7,EX,mk9,h]
theorem qf2 {a:Int} (h1:1<=a) (h2:a<=3) {l:List (Pos×Str)} (hl:l=[]\/l=LQ):bE [.int a,.ext false (.tab "queue" l)]=.bad/\bE [.int a,.ext true (.tab "queue" l)]=.ok (.tup [(mQ a).1,(mQ a).2],[.int a,.ext true (.tab "queue" LQ)]):=by
 have h:a=1\/a=2\/a=3:=by omega
 rcases hl with rfl | rfl<;>rcases h with rfl | rfl | rfl
 ·exact ⟨aP5,aPa⟩
 ·exact ⟨aQc,aPq⟩
 ·exact ⟨aO8,aO4⟩
 ·exact ⟨aWs,aYf⟩
 ·exact ⟨aWk,aWi⟩
 ·exact ⟨aYe,aW2⟩
theorem cf2 {a:Int} (h1:1<=a) (h2:a<=3) {l:List (Pos×Str)} (hl:l=[]\/l=LC):bA [.int a,.bl false,.ext false (.tab "counter" l)]=.bad/\bA [.int a,.bl false,.ext true (.tab "counter" l)]=.ok (.tup [(mC a).1,(mC a).2],[.int a,.bl false,.ext true (.tab "counter" LC)]):=by
 have h:a=1\/a=2\/a=3:=by omega
 rcases hl with rfl | rfl<;>rcases h with rfl | rfl | rfl
 ·exact ⟨aQd,aPu⟩
 ·exact ⟨aP2,aPg⟩
 ·exact ⟨aPs,aOv⟩
 ·exact ⟨aXd,aWg⟩
 ·exact ⟨aVk,aVn⟩
 ·exact ⟨aW3,aX3⟩
theorem s8 (ns:Y0) (g1:Slot) (d4 d5 d6 d7 d8 d9 d10:D) {lc lq:List (Pos×Str)} (hc:lc=[]\/lc=LC) (hq:lq=[]\/lq=LQ):∃a b:Int,1<=a/\a<=3/\1<=b/\b<=3 /\
  lw8 (EX ns g1 (cg lc) (qg lq) d4 d5 d6 d7 d8 d9 d10)=.next (EW (.val (.lst false (I ns))) g1 (cg LC) (qg LQ) d4 d5 d6 d7 d8 d9 d10 (mQ a).1 (mC b).1):=by
 have m0:=Int.emod_nonneg (cF ns 5) (b:=3) (by decide)
 have m1:=Int.emod_lt_of_pos (cF ns 5) (b:=3) (by decide)
 have m2:=Int.emod_nonneg (cF ns 6) (b:=3) (by decide)
 have m3:=Int.emod_lt_of_pos (cF ns 6) (b:=3) (by decide)
 refine ⟨1+cF ns 5 % 3,1+cF ns 6 % 3,by omega,by omega,by omega,by omega,?_⟩
 obtain ⟨q1,q2⟩:=qf2 (a:=1+cF ns 5 % 3) (by omega) (by omega) hq
 obtain ⟨c1,c2⟩:=cf2 (a:=1+cF ns 6 % 3) (by omega) (by omega) hc
 obtain ⟨_,_,kq,_⟩:=aQb (a:=1+cF ns 5 % 3) (by omega) (by omega)
 obtain ⟨_,_,kc,_⟩:=aPl (a:=1+cF ns 6 % 3) (by omega) (by omega)
 have hx:bT bE (aA (v2 bB (vC (.int 1)) (v2 dQ (aO cK (aA (aC 0) (aA (vC (.int 5)) aE))) (vC (.int 3)))) aE) [3] ["queue"] (EX ns g1 (cg lc) (qg lq) d4 d5 d6 d7 d8 d9 d10)=.ok (.tup [(mQ (1+cF ns 5 % 3)).1,(mQ (1+cF ns 5 % 3)).2],true,EX ns g1 (cg lc) (qg LQ) d4 d5 d6 d7 d8 d9 d10) :=
  vX (xs:=[(.int (1+cF ns 5 % 3),true)]) (gds:=[.ext true (.tab "queue" lq)]) (by simp [EX,mk5]) rfl rfl q1 q2
 have hy:bT bA (aA (v2 bB (vC (.int 1)) (v2 dQ (aO cK (aA (aC 0) (aA (vC (.int 6)) aE))) (vC (.int 3)))) (aA (vC (.bl false)) aE)) [2] ["counter"] (EX ns g1 (cg lc) (qg LQ) d4 d5 d6 d7 d8 d9 d10)=.ok (.tup [(mC (1+cF ns 6 % 3)).1,(mC (1+cF ns 6 % 3)).2],true,EX ns g1 (cg LC) (qg LQ) d4 d5 d6 d7 d8 d9 d10) :=
  vX (xs:=[(.int (1+cF ns 6 % 3),true),(.bl false,true)]) (gds:=[.ext true (.tab "counter" lc)]) (by simp [EX,mk6]) rfl rfl c1 c2
 unfold lw8 aX tX uL
 rw [hx]
 dsimp only
 rw [hy]
 dsimp only
 rw [kq,kc]
 rfl
theorem Md.lcq {w:Int} {mm:D×D} {p:Y0} {ls lc lq:List (Pos×Str)} (h:Md w mm p ls lc lq):(lc=[]\/lc=LC)/\(lq=[]\/lq=LQ):=by
 cases h
 ·exact ⟨.inr rfl,.inl rfl⟩
 ·exact ⟨.inl rfl,.inr rfl⟩
 ·exact ⟨.inl rfl,.inl rfl⟩
theorem bAc (f g h:SemS):aI (aI f g) h=aI f (aI g h):=by
 funext ρ
 show ((f ρ).andThen g).andThen h=(f ρ).andThen (aI g h)
 cases f ρ<;>rfl
theorem aE2:aAb=aI lw0 (aI lT1 (aI lw7 (aI lw8 lT3))):=by
 rw [aT1]
 unfold lT1 lT3
 simp only [bAc]
theorem aX2 {ns:Y0}:∃os,aC3 (.lst false (ns.map D.int)::(["shelf", "counter", "queue"]:List Str).map fun x=>.ext true (.tab x []))=.ok (.bl true,os):=by
 show ∃os,fnOf 15 aAb (.lst false (I ns)::qR [] [] [])=.ok (.bl true,os)
 refine yE ?_
 obtain ⟨w,mm,p,ls,lc,lq,h,e1⟩:=aOi ns
 obtain ⟨hc,hq⟩:=h.lcq
 obtain ⟨d4,d5,d6,d7,d8,d9,d10,e2⟩:=aEd (aWc h (.val (.lst false (I ns))) (sg ls) (cg lc) (qg lq))
 rw [aJb,aE2,cB,e1,bQ,cB,e2,bQ,cB]
 rcases s7 ns (sg ls) (cg lc) (qg lq) d4 d5 d6 d7 d8 d9 d10 with e3 | e3
 ·exact ⟨_,by
   show (lw7 (EX ns (sg ls) (cg lc) (qg lq) d4 d5 d6 d7 d8 d9 d10)).andThen _=_
   rw [e3];rfl⟩
 ·obtain ⟨a,b,h1,h2,h3,h4,e4⟩:=s8 ns (sg ls) d4 d5 d6 d7 d8 d9 d10 hc hq
  obtain ⟨ρ',e5⟩:=aX4 h1 h2 h3 h4 (.val (.lst false (I ns))) (sg ls) (cg LC) (qg LQ) d4 d5 d6 d7 d8 d9 d10
  refine ⟨ρ',?_⟩
  show (lw7 (EX ns (sg ls) (cg lc) (qg lq) d4 d5 d6 d7 d8 d9 d10)).andThen _=_
  rw [e3,bQ,cB,e4,bQ,e5]
end VL.K31
end
section
namespace VL.K31
open VL PySem PySem.Spec PyProof.Rows L2
abbrev FO (n:Str) (t:Stmt) (kV dc pm:Value) (an:Option Addr) (cd ct:Value):=W.fnOf n n (eK t) (cL t) (aG t) .none kV dc pm an cd ct
theorem all_mk {P:Program} {w:World} {K:W.Frag} {h:Heap} {mg:Y6} {fa:Addr} (X:K.In h) (G:h.Ns mainGlobals mg) (hfa:mg "law" = some (.ref fa)) (nt:fX K=true)
  {t0 t1 t2 t3 t4 t5 t6 t7 t8 t9 t10:Tok} {q1 q2 q3:Addr×Addr} (g1:W.tabIn K "shelf" = some q1) (g2:W.tabIn K "counter" = some q2) (g3:W.tabIn K "queue" = some q3)
  (a0:W.nsIn K mainGlobals "is_whole" = some (some (.ref f0))) (l0:K.lookup f0=some ⟨oc0,od0,.func (FO "is_whole" (top 6) kV0 dc0 pm0 an0 cd0 ct0),sl0⟩) (c0:W.codeIn K cd0 "is_whole" = true) (k0:W.keepIn K (.ref f0)=true)
  (a1:W.nsIn K mainGlobals "is_between" = some (some (.ref f1))) (l1:K.lookup f1=some ⟨oc1,od1,.func (FO "is_between" (top 7) kV1 dc1 pm1 an1 cd1 ct1),sl1⟩) (c1:W.codeIn K cd1 "is_between" = true) (k1:W.keepIn K (.ref f1)=true)
  (a2:W.nsIn K mainGlobals "is_deed" = some (some (.ref f2))) (l2:K.lookup f2=some ⟨oc2,od2,.func (FO "is_deed" (top 13) kV2 dc2 pm2 an2 cd2 ct2),sl2⟩) (c2:W.codeIn K cd2 "is_deed" = true) (k2:W.keepIn K (.ref f2)=true)
  (a3:W.nsIn K mainGlobals "look_deeds" = some (some (.ref f3))) (l3:K.lookup f3=some ⟨oc3,od3,.func (FO "look_deeds" (top 14) kV3 dc3 pm3 an3 cd3 ct3),sl3⟩) (c3:W.codeIn K cd3 "look_deeds" = true) (k3:W.keepIn K (.ref f3)=true)
  (a4:W.nsIn K mainGlobals "look_machine" = some (some (.ref f4))) (l4:K.lookup f4=some ⟨oc4,od4,.func (FO "look_machine" (top 15) kV4 dc4 pm4 an4 cd4 ct4),sl4⟩) (c4:W.codeIn K cd4 "look_machine" = true) (k4:W.keepIn K (.ref f4)=true)
  (a5:W.nsIn K mainGlobals "deeds_from" = some (some (.ref f5))) (l5:K.lookup f5=some ⟨oc5,od5,.func (FO "deeds_from" (top 16) kV5 dc5 pm5 an5 cd5 ct5),sl5⟩) (c5:W.codeIn K cd5 "deeds_from" = true) (k5:W.keepIn K (.ref f5)=true)
  (a6:W.nsIn K mainGlobals "came_by" = some (some (.ref f6))) (l6:K.lookup f6=some ⟨oc6,od6,.func (FO "came_by" (top 17) kV6 dc6 pm6 an6 cd6 ct6),sl6⟩) (c6:W.codeIn K cd6 "came_by" = true) (k6:W.keepIn K (.ref f6)=true)
  (a7:W.nsIn K mainGlobals "reached" = some (some (.ref f7))) (l7:K.lookup f7=some ⟨oc7,od7,.func (FO "reached" (top 18) kV7 dc7 pm7 an7 cd7 ct7),sl7⟩) (c7:W.codeIn K cd7 "reached" = true) (k7:W.keepIn K (.ref f7)=true)
  (a8:W.nsIn K mainGlobals "deeds_of_one" = some (some (.ref f8))) (l8:K.lookup f8=some ⟨oc8,od8,.func (FO "deeds_of_one" (top 19) kV8 dc8 pm8 an8 cd8 ct8),sl8⟩) (c8:W.codeIn K cd8 "deeds_of_one" = true) (k8:W.keepIn K (.ref f8)=true)
  (a9:W.nsIn K mainGlobals "deeds_of_other" = some (some (.ref f9))) (l9:K.lookup f9=some ⟨oc9,od9,.func (FO "deeds_of_other" (top 20) kV9 dc9 pm9 an9 cd9 ct9),sl9⟩) (c9:W.codeIn K cd9 "deeds_of_other" = true) (k9:W.keepIn K (.ref f9)=true)
  (a10:W.nsIn K mainGlobals "beside" = some (some (.ref f10))) (l10:K.lookup f10=some ⟨oc10,od10,.func (FO "beside" (top 21) kV10 dc10 pm10 an10 cd10 ct10),sl10⟩) (c10:W.codeIn K cd10 "beside" = true) (k10:W.keepIn K (.ref f10)=true)
  (a11:W.nsIn K mainGlobals "gain_of" = some (some (.ref f11))) (l11:K.lookup f11=some ⟨oc11,od11,.func (FO "gain_of" (top 23) kV11 dc11 pm11 an11 cd11 ct11),sl11⟩) (c11:W.codeIn K cd11 "gain_of" = true) (k11:W.keepIn K (.ref f11)=true)
  (a12:W.nsIn K mainGlobals "way_to" = some (some (.ref f12))) (l12:K.lookup f12=some ⟨oc12,od12,.func (FO "way_to" (top 24) kV12 dc12 pm12 an12 cd12 ct12),sl12⟩) (c12:W.codeIn K cd12 "way_to" = true) (k12:W.keepIn K (.ref f12)=true)
  (a13:W.nsIn K mainGlobals "row_onward" = some (some (.ref f13))) (l13:K.lookup f13=some ⟨oc13,od13,.func (FO "row_onward" (top 25) kV13 dc13 pm13 an13 cd13 ct13),sl13⟩) (c13:W.codeIn K cd13 "row_onward" = true) (k13:W.keepIn K (.ref f13)=true)
  (a14:W.nsIn K mainGlobals "ring_onward" = some (some (.ref f14))) (l14:K.lookup f14=some ⟨oc14,od14,.func (FO "ring_onward" (top 26) kV14 dc14 pm14 an14 cd14 ct14),sl14⟩) (c14:W.codeIn K cd14 "ring_onward" = true) (k14:W.keepIn K (.ref f14)=true)
  (a15:W.nsIn K mainGlobals "raise_once" = some (some (.ref f15))) (l15:K.lookup f15=some ⟨oc15,od15,.func (FO "raise_once" (top 27) kV15 dc15 pm15 an15 cd15 ct15),sl15⟩) (c15:W.codeIn K cd15 "raise_once" = true) (k15:W.keepIn K (.ref f15)=true)
  (a16:W.nsIn K mainGlobals "most_gains" = some (some (.ref f16))) (l16:K.lookup f16=some ⟨oc16,od16,.func (FO "most_gains" (top 28) kV16 dc16 pm16 an16 cd16 ct16),sl16⟩) (c16:W.codeIn K cd16 "most_gains" = true) (k16:W.keepIn K (.ref f16)=true)
  (a17:W.nsIn K mainGlobals "look_prices" = some (some (.ref f17))) (l17:K.lookup f17=some ⟨oc17,od17,.func (FO "look_prices" (top 31) kV17 dc17 pm17 an17 cd17 ct17),sl17⟩) (c17:W.codeIn K cd17 "look_prices" = true) (k17:W.keepIn K (.ref f17)=true)
  (a18:W.nsIn K mainGlobals "costs_over" = some (some (.ref f18))) (l18:K.lookup f18=some ⟨oc18,od18,.func (FO "costs_over" (top 32) kV18 dc18 pm18 an18 cd18 ct18),sl18⟩) (c18:W.codeIn K cd18 "costs_over" = true) (k18:W.keepIn K (.ref f18)=true)
  (a19:W.nsIn K mainGlobals "pays" = some (some (.ref f19))) (l19:K.lookup f19=some ⟨oc19,od19,.func (FO "pays" (top 33) kV19 dc19 pm19 an19 cd19 ct19),sl19⟩) (c19:W.codeIn K cd19 "pays" = true) (k19:W.keepIn K (.ref f19)=true)
  (a20:W.nsIn K mainGlobals "broken_by_ring" = some (some (.ref f20))) (l20:K.lookup f20=some ⟨oc20,od20,.func (FO "broken_by_ring" (top 34) kV20 dc20 pm20 an20 cd20 ct20),sl20⟩) (c20:W.codeIn K cd20 "broken_by_ring" = true) (k20:W.keepIn K (.ref f20)=true)
  (a21:W.nsIn K mainGlobals "least_purse" = some (some (.ref f21))) (l21:K.lookup f21=some ⟨oc21,od21,.func (FO "least_purse" (top 35) kV21 dc21 pm21 an21 cd21 ct21),sl21⟩) (c21:W.codeIn K cd21 "least_purse" = true) (k21:W.keepIn K (.ref f21)=true)
  (a22:W.nsIn K mainGlobals "look_measure" = some (some (.ref f22))) (l22:K.lookup f22=some ⟨oc22,od22,.func (FO "look_measure" (top 43) kV22 dc22 pm22 an22 cd22 ct22),sl22⟩) (c22:W.codeIn K cd22 "look_measure" = true) (k22:W.keepIn K (.ref f22)=true)
  (a23:W.nsIn K mainGlobals "grown" = some (some (.ref f23))) (l23:K.lookup f23=some ⟨oc23,od23,.func (FO "grown" (top 44) kV23 dc23 pm23 an23 cd23 ct23),sl23⟩) (c23:W.codeIn K cd23 "grown" = true) (k23:W.keepIn K (.ref f23)=true)
  (a24:W.nsIn K mainGlobals "shelf_put" = some (some (.ref f24))) (l24:K.lookup f24=some ⟨oc24,od24,.func (FO "shelf_put" (top 45) kV24 dc24 pm24 an24 cd24 ct24),sl24⟩) (c24:W.codeIn K cd24 "shelf_put" = true) (k24:W.keepIn K (.ref f24)=true)
  (a25:W.nsIn K mainGlobals "shelf_take" = some (some (.ref f25))) (l25:K.lookup f25=some ⟨oc25,od25,.func (FO "shelf_take" (top 46) kV25 dc25 pm25 an25 cd25 ct25),sl25⟩) (c25:W.codeIn K cd25 "shelf_take" = true) (k25:W.keepIn K (.ref f25)=true)
  (a26:W.nsIn K mainGlobals "shelf" = some (some (.ref f26))) (l26:K.lookup f26=some ⟨oc26,od26,.func (FO "shelf" (top 47) kV26 dc26 pm26 an26 cd26 ct26),sl26⟩) (c26:W.codeIn K cd26 "shelf" = true) (k26:W.keepIn K (.ref f26)=true)
  (a27:W.nsIn K mainGlobals "turned_bits" = some (some (.ref f27))) (l27:K.lookup f27=some ⟨oc27,od27,.func (FO "turned_bits" (top 48) kV27 dc27 pm27 an27 cd27 ct27),sl27⟩) (c27:W.codeIn K cd27 "turned_bits" = true) (k27:W.keepIn K (.ref f27)=true)
  (a28:W.nsIn K mainGlobals "count_up" = some (some (.ref f28))) (l28:K.lookup f28=some ⟨oc28,od28,.func (FO "count_up" (top 49) kV28 dc28 pm28 an28 cd28 ct28),sl28⟩) (c28:W.codeIn K cd28 "count_up" = true) (k28:W.keepIn K (.ref f28)=true)
  (a29:W.nsIn K mainGlobals "count_down" = some (some (.ref f29))) (l29:K.lookup f29=some ⟨oc29,od29,.func (FO "count_down" (top 50) kV29 dc29 pm29 an29 cd29 ct29),sl29⟩) (c29:W.codeIn K cd29 "count_down" = true) (k29:W.keepIn K (.ref f29)=true)
  (a30:W.nsIn K mainGlobals "counter" = some (some (.ref f30))) (l30:K.lookup f30=some ⟨oc30,od30,.func (FO "counter" (top 51) kV30 dc30 pm30 an30 cd30 ct30),sl30⟩) (c30:W.codeIn K cd30 "counter" = true) (k30:W.keepIn K (.ref f30)=true)
  (a31:W.nsIn K mainGlobals "queue_put" = some (some (.ref f31))) (l31:K.lookup f31=some ⟨oc31,od31,.func (FO "queue_put" (top 52) kV31 dc31 pm31 an31 cd31 ct31),sl31⟩) (c31:W.codeIn K cd31 "queue_put" = true) (k31:W.keepIn K (.ref f31)=true)
  (a32:W.nsIn K mainGlobals "queue_take" = some (some (.ref f32))) (l32:K.lookup f32=some ⟨oc32,od32,.func (FO "queue_take" (top 53) kV32 dc32 pm32 an32 cd32 ct32),sl32⟩) (c32:W.codeIn K cd32 "queue_take" = true) (k32:W.keepIn K (.ref f32)=true)
  (a33:W.nsIn K mainGlobals "queue" = some (some (.ref f33))) (l33:K.lookup f33=some ⟨oc33,od33,.func (FO "queue" (top 54) kV33 dc33 pm33 an33 cd33 ct33),sl33⟩) (c33:W.codeIn K cd33 "queue" = true) (k33:W.keepIn K (.ref f33)=true)
  (a34:W.nsIn K mainGlobals "_law_cell" = some (some (.ref f34))) (l34:K.lookup f34=some ⟨oc34,od34,.func (FO "_law_cell" (top 56) kV34 dc34 pm34 an34 cd34 ct34),sl34⟩) (c34:W.codeIn K cd34 "_law_cell" = true) (k34:W.keepIn K (.ref f34)=true)
  (a35:W.nsIn K mainGlobals "_law_mix" = some (some (.ref f35))) (l35:K.lookup f35=some ⟨oc35,od35,.func (FO "_law_mix" (top 57) kV35 dc35 pm35 an35 cd35 ct35),sl35⟩) (c35:W.codeIn K cd35 "_law_mix" = true) (k35:W.keepIn K (.ref f35)=true)
  (a36:W.nsIn K mainGlobals "_law_most" = some (some (.ref f36))) (l36:K.lookup f36=some ⟨oc36,od36,.func (FO "_law_most" (top 58) kV36 dc36 pm36 an36 cd36 ct36),sl36⟩) (c36:W.codeIn K cd36 "_law_most" = true) (k36:W.keepIn K (.ref f36)=true)
  (a37:W.nsIn K mainGlobals "_law_model" = some (some (.ref f37))) (l37:K.lookup f37=some ⟨oc37,od37,.func (FO "_law_model" (top 59) kV37 dc37 pm37 an37 cd37 ct37),sl37⟩) (c37:W.codeIn K cd37 "_law_model" = true) (k37:W.keepIn K (.ref f37)=true)
  (a38:W.nsIn K mainGlobals "_law_sums" = some (some (.ref f38))) (l38:K.lookup f38=some ⟨oc38,od38,.func (FO "_law_sums" (top 60) kV38 dc38 pm38 an38 cd38 ct38),sl38⟩) (c38:W.codeIn K cd38 "_law_sums" = true) (k38:W.keepIn K (.ref f38)=true)
  (a39:W.nsIn K mainGlobals "law" = some (some (.ref f39))) (l39:K.lookup f39=some ⟨oc39,od39,.func (FO "law" (top 61) kV39 dc39 pm39 an39 cd39 ct39),sl39⟩) (c39:W.codeIn K cd39 "law" = true) (k39:W.keepIn K (.ref f39)=true)
  (i0:W.nsIn K mainGlobals "MOST_PLACES" = some (some (.int 200 t0)))
  (i1:W.nsIn K mainGlobals "MOST_KINDS" = some (some (.int 8 t1)))
  (i2:W.nsIn K mainGlobals "MOST_DEEDS" = some (some (.int 600 t2)))
  (i3:W.nsIn K mainGlobals "MOST_COST" = some (some (.int 1000 t3)))
  (i4:W.nsIn K mainGlobals "MOST_PRICE" = some (some (.int 1000 t4)))
  (i5:W.nsIn K mainGlobals "MOST_ITEMS" = some (some (.int 30 t5)))
  (i6:W.nsIn K mainGlobals "LEAST_GROW" = some (some (.int 2 t6)))
  (i7:W.nsIn K mainGlobals "MOST_GROW" = some (some (.int 4 t7)))
  (i8:W.nsIn K mainGlobals "MOST_SHRINK" = some (some (.int 9 t8)))
  (i9:W.nsIn K mainGlobals "MOST_BITS" = some (some (.int 6 t9)))
  (i10:W.nsIn K mainGlobals "MOST_QUEUE" = some (some (.int 15 t10)))
  (z0:W.nsIn K mainGlobals "any" = some none)
  (z1:W.nsIn K mainGlobals "bool" = some none)
  (z2:W.nsIn K mainGlobals "enumerate" = some none)
  (z3:W.nsIn K mainGlobals "int" = some none)
  (z4:W.nsIn K mainGlobals "isinstance" = some none)
  (z5:W.nsIn K mainGlobals "len" = some none)
  (z6:W.nsIn K mainGlobals "list" = some none)
  (z7:W.nsIn K mainGlobals "max" = some none)
  (z8:W.nsIn K mainGlobals "min" = some none)
  (z9:W.nsIn K mainGlobals "range" = some none)
  (z10:W.nsIn K mainGlobals "sorted" = some none)
  (z11:W.nsIn K mainGlobals "sum" = some none)
  (z12:W.nsIn K mainGlobals "tuple" = some none)
  {qM qC qD:Addr}
  (xM:W.nsIn K mainGlobals "BadMachine" = some (some (.ref qM))) (yXM:W.excIn K qM bmV "ValueError.__new__" = true)
  (xC:W.nsIn K mainGlobals "BadPrices" = some (some (.ref qC))) (yXC:W.excIn K qC bmV "ValueError.__new__" = true)
  (xD:W.nsIn K mainGlobals "BadModel" = some (some (.ref qD))) (yXD:W.excIn K qD bmV "ValueError.__new__" = true) :
  ∃fd:FuncData,(∀(s:Shared) (u:Value),BindsTo s fd ⟨[u],[]⟩ [("_law_script",u)])/\∀base:Heap,K.In base->base.Ns mainGlobals mg->(∀q∈[q1,q2,q3],W.CodeHd base q.1 q.2/\base.BuiltinsAt mg q.2)->FnOk P w K mg base (CX1 P w) 9 fa fd ["_law_script"] (spG K 1 ["shelf", "counter", "queue"] aC3):=by
 have T:Txt K mg:=⟨W.mg_none_of X G z0,W.mg_none_of X G z1,W.mg_none_of X G z2,W.mg_none_of X G z3,W.mg_none_of X G z4,W.mg_none_of X G z5,W.mg_none_of X G z6,W.mg_none_of X G z7,W.mg_none_of X G z8,W.mg_none_of X G z9,W.mg_none_of X G z10,W.mg_none_of X G z11,W.mg_none_of X G z12,
  ⟨t0,W.mg_of X G i0⟩,⟨t1,W.mg_of X G i1⟩,⟨t2,W.mg_of X G i2⟩,⟨t3,W.mg_of X G i3⟩,⟨t4,W.mg_of X G i4⟩,⟨t5,W.mg_of X G i5⟩,⟨t6,W.mg_of X G i6⟩,⟨t7,W.mg_of X G i7⟩,⟨t8,W.mg_of X G i8⟩,⟨t9,W.mg_of X G i9⟩,⟨t10,W.mg_of X G i10⟩,
  bF a0 l0 c0 k0,bF a1 l1 c1 k1,bF a2 l2 c2 k2,bF a3 l3 c3 k3,bF a4 l4 c4 k4,bF a5 l5 c5 k5,bF a6 l6 c6 k6,bF a7 l7 c7 k7,bF a8 l8 c8 k8,bF a9 l9 c9 k9,bF a10 l10 c10 k10,bF a11 l11 c11 k11,bF a12 l12 c12 k12,bF a13 l13 c13 k13,bF a14 l14 c14 k14,bF a15 l15 c15 k15,bF a16 l16 c16 k16,bF a17 l17 c17 k17,bF a18 l18 c18 k18,bF a19 l19 c19 k19,bF a20 l20 c20 k20,bF a21 l21 c21 k21,bF a22 l22 c22 k22,bF a23 l23 c23 k23,bF a24 l24 c24 k24,bF a25 l25 c25 k25,bF a26 l26 c26 k26,bF a27 l27 c27 k27,bF a28 l28 c28 k28,bF a29 l29 c29 k29,bF a30 l30 c30 k30,bF a31 l31 c31 k31,bF a32 l32 c32 k32,bF a33 l33 c33 k33,bF a34 l34 c34 k34,bF a35 l35 c35 k35,bF a36 l36 c36 k36,bF a37 l37 c37 k37,bF a38 l38 c38 k38,bF a39 l39 c39 k39,nt,⟨qM,qC,qD,W.mg_of X G xM,xM,yXM,W.mg_of X G xC,xC,yXC,W.mg_of X G xD,xD,yXD⟩⟩
 obtain ⟨f,fd,e,hb,hF⟩:=aJ3 (P:=P) (w:=w) (gx:=["shelf", "counter", "queue"]) (B:=BT K mg) T.d_law X G gQ rfl rfl (by decide) (tS (by decide +kernel)) (fun _ _ _ _ _ _ us hl=>match us,hl with | [_],_=>rfl) (fun base kb nb bt=>aUf T base kb nb bt)
 have e:=hfa.symm.trans e
 cases e
 refine ⟨fd,fun s u=>hb s [u] rfl,fun base kb nb hq=>hF base kb nb ⟨⟨q1.1,q1.2,g1,hq q1 (by simp)⟩,⟨q2.1,q2.2,g2,hq q2 (by simp)⟩,⟨q3.1,q3.2,g3,hq q3 (by simp)⟩⟩⟩
def tabs:List (Addr×Addr):=[(239,235),(267,263),(288,284)]
theorem walk {l:PySem.W.OpenLaw} {q:Program} {loose:List Str} {XP:(Str->Option Value)->Heap->Prop} {YP:World->Heap->Prop} {d:DefRec} {K:Params->FG} (hn:l.most=some 63) (hdf:d.params.defaults=[])
  (hY:∀(w:World) (h:Heap),YP w h->(K w.params).In h/\∀q∈tabs,h.get? q.2=some (PySem.W.tabObj #[]))
  (g1:∀p:Params,PySem.W.tabIn (K p) "shelf" = some (239,235)) (g2:∀p:Params,PySem.W.tabIn (K p) "counter" = some (267,263)) (g3:∀p:Params,PySem.W.tabIn (K p) "queue" = some (288,284))
  (hC:∀p:Params,∀q∈tabs,PySem.W.codeHdIn (K p) q.1 q.2=true) (hnt:∀p:Params,PySem.W.noTabs (K p)=true) (hnl:∀p:Params,oG (K p)=true)
  (F:∀(w:World) (mg:Y6) (fa:Addr) (h:Heap),(K w.params).In h->h.Ns mainGlobals mg->mg d.name=some (.ref fa) ->
   ∃fd:FuncData,(∀(s:Shared) (u:Value),BindsTo s fd ⟨[u],[]⟩ [("_law_script",u)])/\∀base:Heap,(K w.params).In base->base.Ns mainGlobals mg->(∀q∈tabs,PySem.W.CodeHd base q.1 q.2/\base.BuiltinsAt mg q.2)->FnOk l.prog w (K w.params) mg base (CX1 l.prog w) 9 fa fd ["_law_script"] (spG (K w.params) 1 ["shelf", "counter", "queue"] aC3)) :
  PySem.W.WalkO q loose XP YP l.row.toRowW d [] (fun f vs=>PySem.call f vs) :=
 aS3 (n:=63) (k:=9) (x := "_law_script") (CX:=fun w=>CX1 l.prog w) (sp:=fun w=>spG (K w.params) 1 ["shelf", "counter", "queue"] aC3) (tabs:=tabs) hn (by decide) hdf ⟨rfl,by decide,by decide⟩ hY hC hnt hnl F
  (fun w H a ns hl hS hH ha=>aJw (tabs:=tabs) (by rw [List.map_cons,List.map_cons,List.map_cons,List.map_nil,g1,g2,g3];rfl) (by decide) aX2 hS hH ha) fun _ _ _ _ _ z=>aJj z
end VL.K31
namespace PySem.W.Fast
def tw1855868158814971480:=()
def tw5468115639397604593:=()
def tw6191375007013862141:=()
def tw18436218857352118189:=()
def tw15679755206839950684:=()
def tw12151578695848421125:=()
def tw12782328841479413513:=()
def tw11641273215848214352:=()
def tw17447279221852978203:=()
def tw16738262134608045307:=()
def tw2734428121585662456:=()
def tw352521743765378709:=()
def tw14055284997543856923:=()
def tw4039415179955543011:=()
def tw9393224580498090025:=()
def tw13140142079890414602:=()
def tw8597070239265434130:=()
def tw10540063359124764553:=()
def tw14551679674688363705:=()
def tw13099323696655744662:=()
def tw2417379045401901586:=()
def tw4413948483028622093:=()
def tw12360689337337328107:=()
def tw16213997182258732485:=()
def tw16034569710514625673:=()
def tw17091394486329748402:=()
def tw17412772970139789304:=()
def tw14183776371192507664:=()
def tw12204048416974063839:=()
def tw2724117997601581806:=()
def tw18302981602367537750:=()
def tw11985383355337185910:=()
def tw16103500902660788702:=()
def tw8722767861323280385:=()
def tw11527214128979406100:=()
def tw4369996674896391144:=()
def tw9887623320525447813:=()
def tw11908164160474924395:=()
def tw18352319191683053208:=()
def tw3173482687763787623:=()
def tw14661552357853733317:=()
def tw641768243266578171:=()
def tw4729897760574287338:=()
def tw9257396473484739467:=()
def tw16568944292437125142:=()
def tw15069108244721305965:=()
def tw9239202197668542390:=()
def tw431995503350540586:=()
def tw13500524673483250121:=()
def tw16132363057419010823:=()
def tw15152350375264369390:=()
def tw4315806321664210693:=()
def tw3021829087373257229:=()
def tw4171837354100985590:=()
def tw14580945266641986676:=()
def tw3961582427824593966:=()
def tw8547078774769435267:=()
def tw10739498085603121869:=()
def tw13729490669710023841:=()
def tw6933980312838184116:=()
def tw746901054636973469:=()
def tw4427953839718647169:=()
def tw5288045357536901507:=()
def tw9029800401714949776:=()
def tw15223754115512257281:=()
def tw18330824361042592818:=()
def tw14756201078304450450:=()
def tw8420026821673876346:=()
def tw2223527729774449688:=()
def tw13411784693989267057:=()
def tw3762951351523693462:=()
def tw16212541210151593734:=()
def tw14968062999565083620:=()
def tw12299814623776049371:=()
def tw17917723858648566916:=()
def tw6371434349680841829:=()
def tw2881373307871428833:=()
def tw16054780815951678811:=()
def tw3003145337141223279:=()
def tw388512701205811102:=()
def tw11444235684288495298:=()
def tw8967254565616712156:=()
def tw16046394704535241036:=()
def tw3280331024204425075:=()
def tw4587808102011360007:=()
def tw3791837254676610468:=()
def tw12506370101809943494:=()
def tw1399255968282308162:=()
def tw798287373304227342:=()
def tw14908372858248378817:=()
def tw81452407690280182:=()
def tw94336573045646387:=()
def tw5317214646989201557:=()
def tw17399809545296944104:=()
def tw883427166419941377:=()
def tw15860490434717327745:=()
def tw986896712948543745:=()
def tw8798366538479721299:=()
def tw3639750696637573756:=()
def tw15473228345567566317:=()
def tw16225782787636239428:=()
def tw3820979775889126231:=()
def tw3545223699300857516:=()
def tw14115778877692955396:=()
def tw15389341937646624613:=()
def tw2986866054807378843:=()
def tw18114089362770107634:=()
def tw3305447188586066565:=()
def tw8032251310690660652:=()
def tw10831565142903162270:=()
def tw1737391596254794280:=()
def tw18174645285980980976:=()
def tw7902805766385493054:=()
def tw399060742560569220:=()
def tw14767153766477771931:=()
def tw3777239445845892059:=()
def tw11145417493802202192:=()
def tw2997155957106168601:=()
def tw11754149307121542129:=()
def tw10720956589953191492:=()
end PySem.W.Fast
open PySem PySem.W PyProof.Rows
set_option maxRecDepth 100000 in
set_option maxHeartbeats 0 in
theorem PySem.Challenge.cw_pursehall_k31_whole_known_purses_holds : PySem.Challenge.rw_pursehall_k31_whole_known_purses.Holds := by
 w_on;o_law;k_head;(case hw=>w_witness2)
 k_fill
 refine VL.K31.walk (l:=PySem.Challenge.rw_pursehall_k31_whole_known_purses) rfl rfl (fun w h Y=>⟨PySem.W.km_in_of Y,fun q hq=>PySem.W.km_tabs_of Y q.2 ?hT⟩) ?g1 ?g2 ?g3 ?hC ?hnt ?hnl ?F
 case hT =>
  simp only [VL.K31.tabs,List.mem_cons,List.not_mem_nil,or_false] at hq
  rcases hq with rfl | rfl | rfl<;>simp
 case g1=>intro p;kernel_rfl
 case g2=>intro p;kernel_rfl
 case g3=>intro p;kernel_rfl
 case hC =>
  intro p q hq
  simp only [VL.K31.tabs,List.mem_cons,List.not_mem_nil,or_false] at hq
  rcases hq with rfl | rfl | rfl<;>kernel_rfl
 case hnt=>intro p;rfl
 case hnl=>intro p;rfl
 case F =>
  intro w mg fa h KX G hmg
  refine' VL.K31.all_mk KX G hmg ?nt ?g1 ?g2 ?g3 ?a0 ?l0 ?c0 ?k0 ?a1 ?l1 ?c1 ?k1 ?a2 ?l2 ?c2 ?k2 ?a3 ?l3 ?c3 ?k3 ?a4 ?l4 ?c4 ?k4 ?a5 ?l5 ?c5 ?k5 ?a6 ?l6 ?c6 ?k6 ?a7 ?l7 ?c7 ?k7 ?a8 ?l8 ?c8 ?k8 ?a9 ?l9 ?c9 ?k9 ?a10 ?l10 ?c10 ?k10 ?a11 ?l11 ?c11 ?k11 ?a12 ?l12 ?c12 ?k12 ?a13 ?l13 ?c13 ?k13 ?a14 ?l14 ?c14 ?k14 ?a15 ?l15 ?c15 ?k15 ?a16 ?l16 ?c16 ?k16 ?a17 ?l17 ?c17 ?k17 ?a18 ?l18 ?c18 ?k18 ?a19 ?l19 ?c19 ?k19 ?a20 ?l20 ?c20 ?k20 ?a21 ?l21 ?c21 ?k21 ?a22 ?l22 ?c22 ?k22 ?a23 ?l23 ?c23 ?k23 ?a24 ?l24 ?c24 ?k24 ?a25 ?l25 ?c25 ?k25 ?a26 ?l26 ?c26 ?k26 ?a27 ?l27 ?c27 ?k27 ?a28 ?l28 ?c28 ?k28 ?a29 ?l29 ?c29 ?k29 ?a30 ?l30 ?c30 ?k30 ?a31 ?l31 ?c31 ?k31 ?a32 ?l32 ?c32 ?k32 ?a33 ?l33 ?c33 ?k33 ?a34 ?l34 ?c34 ?k34 ?a35 ?l35 ?c35 ?k35 ?a36 ?l36 ?c36 ?k36 ?a37 ?l37 ?c37 ?k37 ?a38 ?l38 ?c38 ?k38 ?a39 ?l39 ?c39 ?k39 ?i0 ?i1 ?i2 ?i3 ?i4 ?i5 ?i6 ?i7 ?i8 ?i9 ?i10 ?z0 ?z1 ?z2 ?z3 ?z4 ?z5 ?z6 ?z7 ?z8 ?z9 ?z10 ?z11 ?z12 ?xM ?yXM ?xC ?yXC ?xD ?yXD
  (case nt=>rfl)
  (case g1=>kernel_rfl)
  (case g2=>kernel_rfl)
  (case g3=>kernel_rfl)
  any_goals first | k_is | k_exc | kts_exm | kit_is
end
