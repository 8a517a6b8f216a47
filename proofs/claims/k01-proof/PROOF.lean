import PyProof.Rows.All
import Wide.All
import OpenK.AllK
import Wide.FinOn
import PyProof.EqAt
import PyProof.EqKinds
import PyProof.TupleCall
import PyProof.TupleKey
import KE.KSortTup
import Lean
import PySem.Challenge.RW_pursehall_k01_machines
set_option Elab.async false
set_option maxRecDepth 100000
set_option maxHeartbeats 8000000
set_option linter.all false
set_option exponentiation.threshold 500
abbrev FG:=PySem.W.Frag
abbrev LQ:=List (Int×Int)
abbrev LI:=List (List Int)
abbrev Y9:=PySem.Value->PySem.Shared->Prop
abbrev Y8:=List (PySem.Addr×PySem.Obj)
abbrev Y7:=List (List Int×PySem.Addr)
abbrev Y6:=PySem.Str->Option PySem.Value
abbrev Y5:=List (List PySem.Addr)
abbrev Y4:=List (Option Nat)
abbrev Y3:=Array (Int×PySem.Value)
abbrev Y2:=List PySem.Addr
abbrev Y1:=List PySem.Value
abbrev Y0:=List Int
abbrev T0:=List Nat
section
namespace L2
open PySem PySem.Spec PyProof.Rows
abbrev Key:=Sum Int Str
def aLh:Key->Value->Bool
 | .inl k,v=>Value.isInt k v
 | .inr x,v=>Value.isStrOf x v
def aTu (w:World):Key->Int
 | .inl k=>hashInt k
 | .inr x=>hashStr w x
theorem cI:∀ {k:Key} {v:Value},aLh k v=true->(∃i t,k=Sum.inl i/\v=Value.int i t)\/(∃x t,k=Sum.inr x/\v=Value.str x t)
 | .inl i,v,h=>by
  obtain ⟨t,e⟩:=Value.isInt_shape (k:=i) (v:=v) h
  exact .inl ⟨i,t,rfl,e⟩
 | .inr x,v,h=>by
  obtain ⟨t,e⟩:=Value.isStrOf_shape (x:=x) (v:=v) h
  exact .inr ⟨x,t,rfl,e⟩
theorem aNn (a b:Int):decide ((Sum.inl a:Key)=Sum.inl b)=(a == b):=by
 by_cases e:a=b
 ·subst e;simp
 ·have h:¬ (Sum.inl a:Key)=Sum.inl b:=fun q=>e (Sum.inl.inj q)
  rw [decide_eq_false h]
  exact (beq_eq_false_iff_ne.mpr e).symm
theorem aLy (a b:Str):decide ((Sum.inr a:Key)=Sum.inr b)=decide (a=b):=by
 by_cases e:a=b
 ·subst e;simp
 ·have h:¬ (Sum.inr a:Key)=Sum.inr b:=fun q=>e (Sum.inr.inj q)
  rw [decide_eq_false h,decide_eq_false e]
theorem aNm (a:Int) (b:Str):decide ((Sum.inl a:Key)=Sum.inr b)=false:=decide_eq_false (fun q=>nomatch q)
theorem aM4 (a:Str) (b:Int):decide ((Sum.inr a:Key)=Sum.inl b)=false:=decide_eq_false (fun q=>nomatch q)
def vQ (prog:Program) (w:World):PySem.KeyKind prog w Key where
 is:=aLh
 hash:=aTu w
 inj:=fun v a b ha hb=>by
  rcases cI ha with ⟨i,t,rfl,rfl⟩ | ⟨x,t,rfl,rfl⟩
  ·rcases cI hb with ⟨j,u,rfl,e⟩ | ⟨y,u,rfl,e⟩
   ·injection e with e1 _;rw [e1]
   ·exact nomatch e
  ·rcases cI hb with ⟨j,u,rfl,e⟩ | ⟨y,u,rfl,e⟩
   ·exact nomatch e
   ·injection e with e1 _;rw [e1]
 byValue:=fun k v h=>by
  rcases cI h with ⟨i,t,rfl,rfl⟩ | ⟨x,t,rfl,rfl⟩<;>rfl
 pyHash:=fun hv h=>by
  rcases cI hv with ⟨i,t,rfl,rfl⟩ | ⟨x,t,rfl,rfl⟩
  ·exact wpAny_pyHash_int h
  ·exact wpAny_pyHash_str h
 eqBool:=fun hu hv h=>by
  rcases cI hu with ⟨i,t,rfl,rfl⟩ | ⟨x,t,rfl,rfl⟩
  ·rcases cI hv with ⟨j,u,rfl,rfl⟩ | ⟨y,u,rfl,rfl⟩
   ·rw [aNn] at h;exact wpAny_eqBool_int h
   ·rw [aNm] at h;exact SeqAt.EqAt.int_str i t y u _ _ _ _ h
  ·rcases cI hv with ⟨j,u,rfl,rfl⟩ | ⟨y,u,rfl,rfl⟩
   ·rw [aM4] at h;exact SeqAt.EqAt.str_int x t j u _ _ _ _ h
   ·rw [aLy] at h;exact wpAny_eqBool_str h
 «strs» :=fun k x t v h=>by
  rcases cI h with ⟨i,u,rfl,e⟩ | ⟨y,u,rfl,e⟩
  ·exact nomatch e
  ·injection e with e1 _
   subst e1
   cases v<;>rfl
end L2
namespace L2
open PySem PySem.Spec PyProof.Rows
inductive V where
 | non | bl (b:Bool) | int (i:Int) | str (x:Str) | byt (b:Array UInt8) | flt (b:UInt64) | ref (a:Addr) | ty (n:String)
 deriving DecidableEq
def RelV:V->Value->Prop
 | .non,u=>u=Value.none
 | .bl b,u=>u=Value.bool b
 | .int i,u=>∃t,u=Value.int i t
 | .str x,u=>∃t,u=Value.str x t
 | .byt b,u=>∃t,u=Value.bytes b t
 | .flt b,u=>∃t,u=Value.float b t
 | .ref a,u=>u=Value.ref a
 | .ty n,u=>u=Value.type n
abbrev Vals:List V->Y1->Prop:=Paired RelV
theorem Vals.length {xs:List V} {us:Y1} (r:Vals xs us):xs.length=us.length:=Paired.length r
theorem Vals.get:∀ {xs:List V} {us:Y1} {i:Nat} {x:V},Vals xs us->xs[i]?=some x->∃u,us[i]?=some u/\RelV x u
 | _,_,_,_,.nil,e=>by simp at e
 | _,_,0,_,.cons r _,e=>by simp at e;subst e;exact ⟨_,rfl,r⟩
 | _,_,i+1,x,.cons _ t,e=>by
  obtain ⟨u,h1,h2⟩:=Vals.get (i:=i) (x:=x) t (by simpa using e)
  exact ⟨u,by simpa using h1,h2⟩
theorem Vals.set {x:V} {u:Value} (r:RelV x u):∀ {xs:List V} {us:Y1} (i:Nat),Vals xs us->Vals (xs.set i x) (us.set i u)
 | _,_,_,.nil=>.nil
 | _,_,0,.cons _ t=>.cons r t
 | _,_,i+1,.cons q t=>.cons q (Vals.set r i t)
theorem Vals.append:∀ {xs ys:List V} {us ws:Y1},Vals xs us->Vals ys ws->Vals (xs++ys) (us++ws)
 | _,_,_,_,.nil,s=>s
 | _,_,_,_,.cons r t,s=>.cons r (Vals.append t s)
theorem Vals.take:∀ {xs:List V} {us:Y1} (n:Nat),Vals xs us->Vals (xs.take n) (us.take n)
 | _,_,0,_=>.nil
 | _,_,_+1,.nil=>.nil
 | _,_,n+1,.cons r t=>.cons r (Vals.take n t)
theorem Vals.drop:∀ {xs:List V} {us:Y1} (n:Nat),Vals xs us->Vals (xs.drop n) (us.drop n)
 | _,_,0,r=>r
 | _,_,_+1,.nil=>.nil
 | _,_,n+1,.cons _ t=>Vals.drop n t
def aMo:Option V->Option Value->Prop
 | some v,some u=>RelV v u
 | none,none=>True
 | _,_=>False
def KV {κ:Type}:List (κ×V)->List (κ×Value)->Prop:=Paired fun (p:κ×V) (q:κ×Value)=>p.1=q.1/\RelV p.2 q.2
def kV:Key->V
 | .inl i=>.int i
 | .inr x=>.str x
inductive HO where
 | lst (xs:List V)
 | tup (xs:List V)
 | dK (kvs:List (Key×V)) | dT (kvs:List (List Key×V))
 | set (S:Int->Bool) (n:Nat)
 | ins (C dx:Addr) (fs:List (Str×V))
 | own (x:Addr)
 | xd (fs:List (Str×V))
 | met (f x:Addr)
 | rng (lo hi:Int)
 | frz (o:Obj) (u:HO)
 | tbl (ps:Array Value)
 | ext (φ:Heap->Prop)
abbrev Hp:=Addr->Option HO
def upd (H:Hp) (a:Addr) (o:HO):Hp:=fun b=>if b=a then some o else H b
theorem bR {H:Hp} {a:Addr} {o:HO}:upd H a o a=some o:=by unfold upd;rw [if_pos rfl]
theorem aW {H:Hp} {a b:Addr} {o:HO} (h:b ≠ a):upd H a o b=H b:=by unfold upd;rw [if_neg h]
theorem bJ {H:Hp} {a b:Addr} {o:HO} (h:H a=some o) (h':H b=none):a ≠ b:=by
 intro e;subst e;rw [h] at h';cases h'
section
variable (P:Program) (w:World)
def dC (H:Hp) (h:Heap) (a:Addr):HO->Prop
 | .lst xs=>xs.length<=sizeLine/\∃(its:Y1) (n:Nat),Vals xs its/\h.get? a=some { cls:=.type "list",data:=.seq its.toArray n }
 | .tup xs=>xs.length<=sizeLine/\∃its:Y1,Vals xs its/\IsTup h a its.toArray
 | .dK kvs=>kvs.length<=sizeLine/\(a == sysModules)=false/\∃vs,KV kvs vs/\h.DictOf (vQ P w) a vs
 | .dT kvs=>kvs.length<=sizeLine/\(a == sysModules)=false/\∃xs:List (List Key×Addr×Value),
   Paired (fun (p:List Key×V) (q:List Key×Addr×Value)=>p.1=q.1/\H q.2.1=some (.tup (p.1.map kV))/\RelV p.2 q.2.2) kvs xs /\
   ∃o es ep,h.get? a=some o/\o.ExactDict/\o.data=.dict es ep/\es.toList=xs.map (entryOfKey (tupleKind (vQ P w)))/\(xs.map (·.1)).Nodup
 | .set S n=>h.SetOf (intKind P w) a S n
 | .ins C dx fs=>H dx=some (.own a)/\fs.length<=1000/\dx ≠ a/\h.get? a=some (PySem.W.instObj C dx) /\
   ∃mA,h.Ns1 dx mA/\(∀f,aMo (fs.lookup f) (mA f))/\PySem.Within mA (fs.map (·.1))
 | .own _=>∃o,h.get? a=some o
 | .xd fs=>∃mA,h.Ns1 a mA/\∀f,aMo (fs.lookup f) (mA f)
 | .rng lo hi=>∃t u v,h.get? a=some { cls:=.type "range",data:=.fields #[.int lo t,.int hi u,.int 1 v] }
 | .frz o u=>h.get? a=some o/\dC H h a u
 | .tbl ps=>h.get? a=some { cls:=.none,data:=.fields ps }
 | .met f x=>h.get? a=some (PySem.W.methodObj (.ref f) (.ref x))
 | .ext φ=>φ h/\(∃o,h.get? a=some o)/\∀h1 h2:Heap,φ h1->(∀o,h1.get? a=some o->h2.get? a=some o)->φ h2
def HOk (H:Hp) (h:Heap):Prop:=∀a o,H a=some o->dC P w H h a o
end
section
variable {P:Program} {w:World} {H H':Hp} {h h':Heap} {a:Addr} {o:HO}
theorem dC.lt (x:dC P w H h a o):a<h.objs.size:=by
 cases o with
 | lst xs=>obtain ⟨_,_,_,_,e⟩:=x;exact Heap.lt_size e
 | tup xs=>obtain ⟨_,_,_,p⟩:=x;exact p.lt
 | dK kvs=>obtain ⟨_,_,_,_,o,_,_,e,_⟩:=x;exact Heap.lt_size e
 | dT kvs=>obtain ⟨_,_,_,_,o,_,_,e,_⟩:=x;exact Heap.lt_size e
 | set S n=>obtain ⟨o,_,_,_,e,_⟩:=x;exact Heap.lt_size e
 | ins C dx fs=>obtain ⟨_,_,_,e,_⟩:=x;exact Heap.lt_size e
 | own y=>obtain ⟨_,e⟩:=x;exact Heap.lt_size e
 | xd fs=>obtain ⟨_,⟨_,_,_,e,_⟩,_⟩:=x;exact Heap.lt_size e
 | rng lo hi=>obtain ⟨_,_,_,e⟩:=x;exact Heap.lt_size e
 | frz ob u=>obtain ⟨e,_⟩:=x;exact Heap.lt_size e
 | tbl ps=>exact Heap.lt_size (show h.get? a=some _ from x)
 | met f y=>exact Heap.lt_size (show h.get? a=some _ from x)
 | ext φ=>obtain ⟨_,⟨_,e⟩,_⟩:=x;exact Heap.lt_size e
theorem Paired.aR7 {α β:Type} {F G:α->β->Prop}:∀ {l₁:List α} {l₂:List β},Paired F l₁ l₂->(∀a b,F a b->G a b)->Paired G l₁ l₂
 | _,_,.nil,_=>.nil
 | _,_,.cons r t,f=>.cons (f _ _ r) (Paired.aR7 t f)
theorem dC.stay (x:dC P w H h a o) (k:∀b u,(b=a\/H b=some (.own a))->h.get? b=some u->h'.get? b=some u)
  (ho:∀b,H b=some (.own a)->H' b=some (.own a)) (ht:∀b xs,H b=some (.tup xs)->H' b=some (.tup xs)):dC P w H' h' a o:=by
 induction o with
 | lst xs=>obtain ⟨z,its,n,r,e⟩:=x;exact ⟨z,its,n,r,k _ _ (.inl rfl) e⟩
 | tup xs=>obtain ⟨z,its,r,ob,e,c⟩:=x;exact ⟨z,its,r,ob,k _ _ (.inl rfl) e,c⟩
 | dK kvs=>obtain ⟨z,y,vs,r,ob,es,ep,e,c⟩:=x;exact ⟨z,y,vs,r,ob,es,ep,k _ _ (.inl rfl) e,c⟩
 | dT kvs =>
  obtain ⟨z,y,xs,r,ob,es,ep,e,c⟩:=x
  exact ⟨z,y,xs,Paired.aR7 r fun p q z=>⟨z.1,ht _ _ z.2.1,z.2.2⟩,ob,es,ep,k _ _ (.inl rfl) e,c⟩
 | set S n=>obtain ⟨ob,es,ep,t,e,c⟩:=x;exact ⟨ob,es,ep,t,k _ _ (.inl rfl) e,c⟩
 | ins C dx fs =>
  obtain ⟨d,z,ne,e,mA,⟨od,es,ep,e2,c⟩,r⟩:=x
  exact ⟨ho _ d,z,ne,k _ _ (.inl rfl) e,mA,⟨od,es,ep,k _ _ (.inr d) e2,c⟩,r⟩
 | own y=>obtain ⟨ob,e⟩:=x;exact ⟨ob,k _ _ (.inl rfl) e⟩
 | xd fs=>obtain ⟨mA,⟨od,es,ep,e,c⟩,r⟩:=x;exact ⟨mA,⟨od,es,ep,k _ _ (.inl rfl) e,c⟩,r⟩
 | rng lo hi=>obtain ⟨t,u,v,e⟩:=x;exact ⟨t,u,v,k _ _ (.inl rfl) e⟩
 | frz ob u ih=>obtain ⟨e,q⟩:=x;exact ⟨k _ _ (.inl rfl) e,ih q⟩
 | tbl ps =>
  have e:h.get? a=some { cls:=.none,data:=.fields ps }:=x
  show h'.get? a=some { cls:=.none,data:=.fields ps }
  exact k a _ (.inl rfl) e
 | met f y =>
  have e:h.get? a=some (PySem.W.methodObj (.ref f) (.ref y)):=x
  show h'.get? a=some (PySem.W.methodObj (.ref f) (.ref y))
  exact k a _ (.inl rfl) e
 | ext φ=>obtain ⟨p,⟨o,e⟩,st⟩:=x;exact ⟨st _ _ p fun o q=>k _ _ (.inl rfl) q,⟨o,k _ _ (.inl rfl) e⟩,st⟩
theorem HOk.lt (x:HOk P w H h) (e:H a=some o):a<h.objs.size:=(x a o e).lt
theorem HOk.fresh (x:HOk P w H h) (e:h.objs.size<=a):H a=none:=by
 cases q:H a with
 | none=>rfl
 | some u=>exact absurd (Nat.lt_of_lt_of_le (x.lt q) e) (Nat.lt_irrefl _)
theorem HOk.kept (x:HOk P w H h) (k:∀b u,h.get? b=some u->h'.get? b=some u):HOk P w H h':=fun a o e =>
 (x a o e).stay (fun b u _ q=>k b u q) (fun _ q=>q) fun _ _ q=>q
theorem HOk.laid (x:HOk P w H h) (k:∀b u,h.get? b=some u->h'.get? b=some u) (hp:h.objs.size<=a) (new:dC P w (upd H a o) h' a o):HOk P w (upd H a o) h':=fun b u e=>by
 have hn:=x.fresh hp
 by_cases hb:b=a
 ·subst hb;rw [bR] at e;cases e;exact new
 ·rw [aW hb] at e
  exact (x b u e).stay (fun c v _ q=>k c v q) (fun c q=>by rw [aW (bJ q hn)];exact q) fun c xs q=>by rw [aW (bJ q hn)];exact q
end
def Rd (H:Hp) (a:Addr) (u:HO):Prop:=H a=some u\/∃o,H a=some (.frz o u)
theorem Rd.ok {P:Program} {w:World} {H:Hp} {h:Heap} {a:Addr} {u:HO} (r:Rd H a u) (x:HOk P w H h):dC P w H h a u:=by
 rcases r with r | ⟨o,r⟩
 ·exact x a u r
 ·obtain ⟨_,q⟩:=x a _ r
  exact q
def Mut:Option HO->Prop
 | some (.lst _)=>True
 | some (.dK _)=>True
 | some (.dT _)=>True
 | some (.set _ _)=>True
 | some (.ins _ _ _)=>True
 | some (.ext _)=>True
 | _=>False
section
variable {P:Program} {w:World} {H:Hp} {h h':Heap} {x e:Addr} {o':HO}
theorem HOk.write (ok:HOk P w H h) (mu:Mut (H x)) (he:e=x\/H e=some (.own x)) (k:∀b u,b ≠ e->h.get? b=some u->h'.get? b=some u) (heo:∃u,h'.get? e=some u)
  (new:dC P w (upd H x o') h' x o'):HOk P w (upd H x o') h':=fun b u q=>by
 have nown:∀c y,H c=some (.own y)->c ≠ x:=fun c y r z=>by subst z;rw [r] at mu;exact mu
 have ntup:∀c xs,H c=some (.tup xs)->c ≠ x:=fun c xs r z=>by subst z;rw [r] at mu;exact mu
 by_cases hb:b=x
 ·subst hb;rw [bR] at q;cases q;exact new
 ·rw [aW hb] at q
  by_cases hbe:b=e
  ·have q':H b=some (.own x):=by
    rcases he with z | z
    ·exact absurd (hbe.trans z) hb
    ·rw [hbe];exact z
   rw [q] at q';cases q'
   obtain ⟨v,hv⟩:=heo
   exact ⟨v,by rw [hbe];exact hv⟩
  ·refine (ok b u q).stay (fun c v hc r=>k c v ?_ r) (fun c r=>by rw [aW (nown c b r)];exact r) fun c xs r=>by rw [aW (ntup c xs r)];exact r
   rcases hc with rfl | hc
   ·exact hbe
   ·rintro rfl
    rcases he with z | z
    ·exact nown c b hc z
    ·rw [hc] at z;cases z;exact hb rfl
end
structure Un (fs ex:Y2) (H H':Hp) (h h':Heap):Prop where
 keep:∀b o,h.get? b=some o->H b=none->b ∉ fs->b ∉ ex->h'.get? b=some o
 slot:∀b o,h.get? b=some o->H b=none->b∈fs->b ∉ ex->∃sl,h'.get? b=some { o with slots:=sl }
 free:∀b o,h.get? b=some o->H b=none->b ∉ ex->H' b=none
 there:∀b o,h.get? b=some o->b ∉ ex->∃o',h'.get? b=some o'
 tups:∀b xs,H b=some (.tup xs)->H' b=some (.tup xs)
 frzs:∀b o u,H b=some (.frz o u)->H' b=some (.frz o u)
 tbls:∀b ps,H b=some (.tbl ps)->∃more,H' b=some (.tbl (ps++more))
section
variable {fs fs' ex ex':Y2} {H H1 H2:Hp} {h h1 h2 h':Heap} {a x e:Addr} {o:HO}
theorem Un.any (u:Un fs ex H H1 h h1) {b:Addr} {ob:Obj} (q:h.get? b=some ob) (n:H b=none) (hx:b ∉ ex):∃sl,h1.get? b=some { ob with slots:=sl }:=by
 by_cases hb:b∈fs
 ·exact u.slot b ob q n hb hx
 ·exact ⟨ob.slots,u.keep b ob q n hb hx⟩
theorem Un.trans (a:Un fs ex H H1 h h1) (b:Un fs ex H1 H2 h1 h2):Un fs ex H H2 h h2 where
 keep:=fun c ob q n hc hx=>b.keep c ob (a.keep c ob q n hc hx) (a.free c ob q n hx) hc hx
 slot:=fun c ob q n hc hx=>by
  obtain ⟨sl,e1⟩:=a.slot c ob q n hc hx
  obtain ⟨sl',e2⟩:=b.slot c _ e1 (a.free c ob q n hx) hc hx
  exact ⟨sl',e2⟩
 free:=fun c ob q n hx=>by
  obtain ⟨o',e1⟩:=a.there c ob q hx
  exact b.free c o' e1 (a.free c ob q n hx) hx
 there:=fun c ob q hx=>by
  obtain ⟨o',e1⟩:=a.there c ob q hx
  exact b.there c o' e1 hx
 tups:=fun c xs q=>b.tups c xs (a.tups c xs q)
 frzs:=fun c ob xs q=>b.frzs c ob xs (a.frzs c ob xs q)
 tbls:=fun c ps q=>by
  obtain ⟨m1,e1⟩:=a.tbls c ps q
  obtain ⟨m2,e2⟩:=b.tbls c _ e1
  exact ⟨m1++m2,by rw [e2,Array.append_assoc]⟩
theorem Un.kept (k:∀b u,h.get? b=some u->h'.get? b=some u):Un fs ex H H h h' :=
 ⟨fun b ob q _ _ _=>k b ob q,fun b ob q _ _ _=>⟨ob.slots,k b ob q⟩,fun _ _ _ n _=>n,fun b ob q _=>⟨ob,k b ob q⟩,fun _ _ q=>q,fun _ _ _ q=>q,fun _ ps q=>⟨#[],by rw [q];simp⟩⟩
theorem Un.refl:Un fs ex H H h h:=Un.kept fun _ _ q=>q
theorem Un.laid (k:∀b u,h.get? b=some u->h'.get? b=some u) (hp:h.objs.size<=a) (hn:H a=none):Un fs ex H (upd H a o) h h' where
 keep:=fun b u q _ _ _=>k b u q
 slot:=fun b u q _ _ _=>⟨u.slots,k b u q⟩
 free:=fun b u q n _=>by rw [aW (Nat.ne_of_lt (Nat.lt_of_lt_of_le (Heap.lt_size q) hp))];exact n
 there:=fun b u q _=>⟨u,k b u q⟩
 tups:=fun b xs q=>by rw [aW (bJ q hn)];exact q
 frzs:=fun b u xs q=>by rw [aW (bJ q hn)];exact q
 tbls:=fun b ps q=>⟨#[],by rw [aW (bJ q hn),q];simp⟩
theorem Un.write (mu:Mut (H x)) (he:e=x\/H e=some (.own x)) (k:∀b u,b ≠ e->h.get? b=some u->h'.get? b=some u) (heo:∃u,h'.get? e=some u):Un fs ex H (upd H x o) h h':=by
 have hx:∀b,H b=none->b ≠ x:=fun b n z=>by subst z;rw [n] at mu;exact mu
 have hb:∀b,H b=none->b ≠ e:=fun b n z=>by
  subst z
  rcases he with r | r
  ·exact hx b n r
  ·rw [n] at r;cases r
 have hm:∀b u,H b=some u->¬ Mut (some u)->b ≠ x:=fun b u q nm z=>by subst z;rw [q] at mu;exact nm mu
 refine ⟨fun b u q n _ _=>k b u (hb b n) q,fun b u q n _ _=>⟨u.slots,k b u (hb b n) q⟩,fun b u q n _=>by rw [aW (hx b n)];exact n,fun b u q _=>?_,
  fun b xs q=>by rw [aW (hm b _ q fun z=>z)];exact q,fun b u xs q=>by rw [aW (hm b _ q fun z=>z)];exact q,fun b ps q=>⟨#[],by rw [aW (hm b _ q fun z=>z),q];simp⟩⟩
 by_cases hbe:b=e
 ·subst hbe;exact heo
 ·exact ⟨u,k b u hbe q⟩
end
def trk (h:Heap) (H:Hp):Y2:=(List.range h.objs.size).filter fun a=>(H a).isSome
def vF (h:Heap) (H:Hp):Heap:=PySem.W.hideAll h (trk h H)
theorem aC2 (h:Heap) (H:Hp):(vF h H).objs.size=h.objs.size:=PySem.W.hideAll_size _ _
theorem aGj {h:Heap} {H:Hp} {b:Addr} {o:Obj} (e:h.get? b=some o) (n:H b=none):(vF h H).get? b=some o :=
 PySem.W.hideAll_get _ e fun hm=>by
  have q:(H b).isSome=true:=(List.mem_filter.mp hm).2
  rw [n] at q;simp at q
theorem aH7 {h:Heap} {H:Hp} {b:Addr} {o:Obj} (e:(vF h H).get? b=some o):h.get? b=some o/\H b=none:=by
 have e':h.get? b=some o:=PySem.W.of_hideAll (trk h H) e
 refine ⟨e',?_⟩
 cases q:H b with
 | none=>rfl
 | some x =>
  have hm:b∈trk h H:=List.mem_filter.mpr ⟨List.mem_range.mpr (Heap.lt_size e'),by simp [q]⟩
  have z:(vF h H).get? b=none:=PySem.W.hideAll_none (trk h H) hm
  rw [z] at e;cases e
end L2
namespace L2
open PySem PySem.Spec PyProof.Rows
structure Mod (K:FG) (mg:Y6) (base:Heap):Prop where
 kin:K.In base
 glob:base.Ns mainGlobals mg
 blt:∃mb,base.Ns builtinsNs mb/\∀x:Str,x ≠ "__name__" ->mb x=bootBuiltins x
 nolimit:base.NoLimit
structure Cx where
 prog:Program
 w:World
 K:FG
 mg:Str->Option Value
 base:Heap
 A:Around
 N:List Str
 s₀:Shared
 H₀:Hp
 env:Env
 outer:List Env
 stack:List Env
 ex:Y2
 fn:Str->Bool
 calm:Bool
 pn:Y8
 xe:Value->Shared->Prop
def frs (l:List Env):Y2:=l.filterMap (·.frame)
abbrev Cx.fs (X:Cx):Y2:=frs X.outer
def Vis (sc:Scope) (x:Str):Prop:=sc.names.lookup x=some .local\/sc.names.lookup x=some .cell\/sc.names.lookup x=some .free
def Loc (sc:Scope) (x:Str):Prop:=sc.names.lookup x=some .local\/sc.names.lookup x=some .cell
def Look (env:Env) (h:Heap) (m:Y6) (x:Str) (u:Value):Prop :=
 (env.kindOf x=some .local/\m x=some u)\/((env.kindOf x=some .cell\/env.kindOf x=some .free)/\∃c,env.cells.lookup x=some c/\h.IsCell c (some u))
structure Cx.Ok (X:Cx):Prop where
 mod:Mod X.K X.mg X.base
 kind:X.env.scope.kind=.function
 glob:X.env.globals=mainGlobals
 blt:X.env.builtins=builtinsNs
 above:X.s₀.heap.objs.size<=X.env.locals
 inj:∀x y c,X.env.cells.lookup x=some c->X.env.cells.lookup y=some c->x=y
 has:∀x,(X.env.kindOf x=some .cell\/X.env.kindOf x=some .free)->∃c,X.env.cells.lookup x=some c
 cab:∀x c,X.fn x=true->X.env.cells.lookup x=some c->X.s₀.heap.objs.size<=c
 hd:X.calm=true->X.A.handled=none
 frames:X.A.frames=some X.stack
 stk:X.stack=X.outer\/(X.stack=X.env::X.outer/\X.env.frame=some X.env.locals)
 exf:∀b∈X.ex,b ≠ X.env.locals/\∀x c,X.env.cells.lookup x=some c->c ≠ b
 bs:∀b o,X.base.get? b=some o->X.s₀.heap.get? b=some o/\X.H₀ b=none
 bsz:X.base.objs.size<=X.s₀.heap.objs.size
 noex:∀b o,X.base.get? b=some o->b ∉ X.ex
 exfs:∀b∈X.ex,b ∉ X.fs
 funs:X.s₀.heap.FunFrames X.base X.outer
 frf:∀b∈X.fs,X.H₀ b=none
structure Inv (X:Cx) (pins:Y8) (σ:List (Option V)) (H:Hp) (s:Shared):Prop where
 ok:X.Ok
 os:s.os=X.s₀.os
 bare:AllBare s.gens
 base:Un X.fs X.ex X.H₀ H X.s₀.heap s.heap
 loc:∃m,s.heap.Ns X.env.locals m/\∀(i:Nat) (x:Str) (v:V),X.N[i]?=some x->σ[i]?=some (some v)->Vis X.env.scope x->∃u,RelV v u/\Look X.env s.heap m x u
 cell:∀x c,X.env.cells.lookup x=some c->∃v,s.heap.IsCell c v
 free:H X.env.locals=none
 freeC:∀x c,X.env.cells.lookup x=some c->H c=none
 pin:∀p∈X.pn++pins,s.heap.get? p.1=some p.2/\H p.1=none/\p.1 ≠ X.env.locals/\p.1 ∉ X.fs/\∀v,p.2.data ≠ .cell v
 hok:HOk X.prog X.w H s.heap
 len:σ.length=X.N.length
section
variable {X:Cx} {pins:Y8} {σ:List (Option V)} {H H':Hp} {s:Shared} {h':Heap}
theorem Cx.Ok.aU3 (ok:X.Ok) {b:Addr} {o:Obj} (e:X.base.get? b=some o):b ∉ X.fs:=fun hb=>by
 have:=(ok.funs.mem hb).1
 rw [e] at this;cases this
theorem Inv.bs (I:Inv X pins σ H s):∀b o,X.base.get? b=some o->s.heap.get? b=some o/\H b=none:=fun b o e =>
 ⟨I.base.keep b o (I.ok.bs b o e).1 (I.ok.bs b o e).2 (I.ok.aU3 e) (I.ok.noex b o e),I.base.free b o (I.ok.bs b o e).1 (I.ok.bs b o e).2 (I.ok.noex b o e)⟩
theorem Inv.bk (I:Inv X pins σ H s):∀b o,X.base.get? b=some o->s.heap.get? b=some o:=fun b o e=>(I.bs b o e).1
theorem Inv.mod (I:Inv X pins σ H s):Mod X.K X.mg X.base:=I.ok.mod
theorem Inv.kIn (I:Inv X pins σ H s):X.K.In s.heap:=I.ok.mod.kin.keeps I.bk
theorem Inv.lt (I:Inv X pins σ H s):X.env.locals<s.heap.objs.size:=let ⟨_,hn,_⟩:=I.loc;hn.lt
theorem Inv.sz (I:Inv X pins σ H s):X.s₀.heap.objs.size<=s.heap.objs.size:=Nat.le_trans I.ok.above (Nat.le_of_lt I.lt)
theorem Inv.aU4 (I:Inv X pins σ H s) {a:Addr} (h:s.heap.objs.size<=a):a ∉ X.fs:=fun hb=>by
 obtain ⟨_,o,ho,_⟩:=I.ok.funs.mem hb
 exact absurd (Nat.lt_of_lt_of_le (Heap.lt_size ho) (Nat.le_trans I.sz h)) (Nat.lt_irrefl _)
theorem Inv.cne (I:Inv X pins σ H s):∀x c,X.env.cells.lookup x=some c->c ≠ X.env.locals:=fun x c e z=>by
 obtain ⟨v,o,ho,hd⟩:=I.cell x c e
 obtain ⟨m,⟨o',es,ep,ho',hd',_⟩,_⟩:=I.loc
 rw [z,ho'] at ho;cases ho;rw [hd'] at hd;cases hd
theorem Inv.funs (I:Inv X pins σ H s):s.heap.FunFrames X.base X.outer:=by
 have all:∀(l:List Env),(∀b∈frs l,b∈X.fs)->X.s₀.heap.FunFrames X.base l->s.heap.FunFrames X.base l:=by
  intro l
  induction l with
  | nil=>intro _ _;trivial
  | cons env r ih =>
   intro hs hl
   obtain ⟨hk,⟨L,o,hf,hn,ho,hd⟩,hr⟩:=hl
   have hL:L∈X.fs:=hs L (by unfold frs;rw [List.filterMap_cons,hf];exact List.mem_cons_self)
   obtain ⟨sl,e⟩:=I.base.slot L o ho (I.ok.frf L hL) hL fun z=>I.ok.exfs L z hL
   exact ⟨hk,⟨L,_,hf,hn,e,hd⟩,ih (fun b hb=>hs b (by unfold frs;rw [List.filterMap_cons,hf];exact List.mem_cons_of_mem _ hb)) hr⟩
 exact all X.outer (fun _ hb=>hb) I.ok.funs
theorem Inv.stack (I:Inv X pins σ H s):s.heap.FunFrames X.base X.stack:=by
 rcases I.ok.stk with e | ⟨e,hf⟩
 ·rw [e];exact I.funs
 ·rw [e]
  obtain ⟨m,hn,_⟩:=I.loc
  refine .cons (by rw [I.ok.kind];decide) hf hn ?_ I.funs
  exact Heap.get?_none_of_le (Nat.le_trans I.ok.bsz I.ok.above)
theorem Inv.vU (I:Inv X pins σ H s):∀b∈frs X.stack,b∈X.env.locals::X.fs:=fun b hb=>by
 rcases I.ok.stk with e | ⟨e,hf⟩
 ·rw [e] at hb;exact List.mem_cons_of_mem _ hb
 ·rw [e] at hb
  unfold frs at hb
  rw [List.filterMap_cons,hf] at hb
  exact hb
theorem Inv.pX (I:Inv X pins σ H s):∀b∈frs X.stack,H b=none:=fun b hb=>by
 rcases List.mem_cons.mp (I.vU b hb) with e | hb
 ·rw [e];exact I.free
 ·obtain ⟨_,o,ho,_⟩:=I.ok.funs.mem hb
  exact I.base.free b o ho (I.ok.frf b hb) fun z=>I.ok.exfs b z hb
theorem Inv.step {g':Array GenState} {t':Nat} {d':Drawn} {ch:Y2} (I:Inv X pins σ H s)
  (hch:∀b∈ch,(b∈X.ex\/X.s₀.heap.objs.size<=b)/\b ≠ X.env.locals/\(∀x c,X.env.cells.lookup x=some c->c ≠ b)/\∀p∈X.pn++pins,p.1 ≠ b)
  (keep:∀b o,b ≠ X.env.locals->b ∉ X.fs->b ∉ ch->s.heap.get? b=some o->H b=none->h'.get? b=some o)
  (slot:∀b o,b ≠ X.env.locals->b∈X.fs->b ∉ ch->s.heap.get? b=some o->H b=none->∃sl,h'.get? b=some { o with slots:=sl }) (free:∀b o,b ∉ ch->s.heap.get? b=some o->H b=none->H' b=none)
  (there:∀b o,b ∉ ch->s.heap.get? b=some o->∃o',h'.get? b=some o')
  (tups:∀b xs,H b=some (.tup xs)->H' b=some (.tup xs)) (frzs:∀b o u,H b=some (.frz o u)->H' b=some (.frz o u)) (tbls:∀b ps,H b=some (.tbl ps)->∃more,H' b=some (.tbl (ps++more)))
  (ns:∀m,s.heap.Ns X.env.locals m->h'.Ns X.env.locals m) (hok:HOk X.prog X.w H' h') (hg:AllBare g') :
  Inv X pins σ H' { s with heap:=h',gens:=g',drawn:=d',toks:=t' }:=by
 have neL:∀b o,X.s₀.heap.get? b=some o->b ≠ X.env.locals:=fun b o e=>Nat.ne_of_lt (Nat.lt_of_lt_of_le (Heap.lt_size e) I.ok.above)
 have neC:∀b o,X.s₀.heap.get? b=some o->b ∉ X.ex->b ∉ ch:=fun b o e hx hb=>by
  rcases (hch b hb).1 with z | z
  ·exact hx z
  ·exact absurd (Nat.lt_of_lt_of_le (Heap.lt_size e) z) (Nat.lt_irrefl _)
 have cellK:∀x c,X.env.cells.lookup x=some c->∀v,s.heap.IsCell c v->h'.IsCell c v:=fun x c e v ⟨o,ho,hd⟩=>by
  have nch:c ∉ ch:=fun z=>(hch c z).2.2.1 x c e rfl
  by_cases hc:c∈X.fs
  ·obtain ⟨sl,q⟩:=slot c o (I.cne x c e) hc nch ho (I.freeC x c e)
   exact ⟨_,q,hd⟩
  ·exact ⟨o,keep c o (I.cne x c e) hc nch ho (I.freeC x c e),hd⟩
 refine ⟨I.ok,I.os,hg,⟨fun b o e n hb hx=>?_,fun b o e n hb hx=>?_,fun b o e n hx=>?_,fun b o e hx=>?_,fun b xs e=>tups b xs (I.base.tups b xs e),fun b o xs e=>frzs b o xs (I.base.frzs b o xs e),fun b ps e=>?_⟩,?_,fun x c e=>?_,?_,fun x c e=>?_,fun p hp=>?_,hok,I.len⟩
 ·exact keep b o (neL b o e) hb (neC b o e hx) (I.base.keep b o e n hb hx) (I.base.free b o e n hx)
 ·obtain ⟨sl,e1⟩:=I.base.slot b o e n hb hx
  obtain ⟨sl',e2⟩:=slot b _ (neL b o e) hb (neC b o e hx) e1 (I.base.free b o e n hx)
  exact ⟨sl',e2⟩
 ·obtain ⟨o',e1⟩:=I.base.there b o e hx
  exact free b o' (neC b o e hx) e1 (I.base.free b o e n hx)
 ·obtain ⟨o',e1⟩:=I.base.there b o e hx
  exact there b o' (neC b o e hx) e1
 ·obtain ⟨m1,e1⟩:=I.base.tbls b ps e
  obtain ⟨m2,e2⟩:=tbls b _ e1
  exact ⟨m1++m2,by rw [e2,Array.append_assoc]⟩
 ·obtain ⟨m,hn,hl⟩:=I.loc
  refine ⟨m,ns m hn,fun i x v e1 e2 e3=>?_⟩
  obtain ⟨u,r,l⟩:=hl i x v e1 e2 e3
  refine ⟨u,r,?_⟩
  rcases l with l | ⟨k,c,e,z⟩
  ·exact .inl l
  ·exact .inr ⟨k,c,e,cellK x c e _ z⟩
 ·obtain ⟨v,z⟩:=I.cell x c e
  exact ⟨v,cellK x c e v z⟩
 ·obtain ⟨m,⟨o,_,_,ho,_⟩,_⟩:=I.loc
  exact free _ o (fun z=>(hch _ z).2.1 rfl) ho I.free
 ·obtain ⟨v,o,ho,hd⟩:=I.cell x c e
  exact free c o (fun z=>(hch c z).2.2.1 x c e rfl) ho (I.freeC x c e)
 ·obtain ⟨e,n,ne,nf,d⟩:=I.pin p hp
  have nch:p.1 ∉ ch:=fun z=>(hch p.1 z).2.2.2 p hp rfl
  exact ⟨keep p.1 p.2 ne nf nch e n,free p.1 p.2 nch e n,ne,nf,d⟩
theorem Inv.un {t':Nat} (I:Inv X pins σ H s) (u:Un X.fs [] H H' s.heap h') (hok:HOk X.prog X.w H' h'):Inv X pins σ H' { s with heap:=h',toks:=t' }:=by
 obtain ⟨m,⟨o,es,ep,ho,r⟩,_⟩:=id I.loc
 obtain ⟨sl,hL⟩:=u.any ho I.free (by simp)
 exact I.step (g':=s.gens) (d':=s.drawn) (ch:=[]) (fun _ z=>nomatch z) (fun b o _ hb _ e n=>u.keep b o e n hb (by simp)) (fun b o _ hb _ e n=>u.slot b o e n hb (by simp)) (fun b o _ e n=>u.free b o e n (by simp)) (fun b o _ e=>u.there b o e (by simp)) u.tups u.frzs u.tbls (fun m' hm=>by
  obtain ⟨o',es',ep',ho',r'⟩:=hm
  rw [ho] at ho';cases ho'
  exact ⟨_,es',ep',hL,r'⟩) hok I.bare
theorem Inv.call {g':Array GenState} {t':Nat} {d':Drawn} {ch:Y2} (I:Inv X pins σ H s) (u:Un (frs X.stack) ch H H' s.heap h') (hok:HOk X.prog X.w H' h') (hg:AllBare g')
  (hch:∀b∈ch,(b∈X.ex\/X.s₀.heap.objs.size<=b)/\b ≠ X.env.locals/\(∀x c,X.env.cells.lookup x=some c->c ≠ b)/\∀p∈X.pn++pins,p.1 ≠ b) :
  Inv X pins σ H' { s with heap:=h',gens:=g',drawn:=d',toks:=t' }:=by
 obtain ⟨m,⟨o,es,ep,ho,r⟩,_⟩:=id I.loc
 obtain ⟨sl,hL⟩:=u.any ho I.free fun z=>(hch _ z).2.1 rfl
 exact I.step (ch:=ch) hch (fun b o hL hb hc e n=>u.keep b o e n (fun z=>(List.mem_cons.mp (I.vU b z)).elim hL hb) hc) (fun b o _ _ hc e n=>u.any e n hc) (fun b o hc e n=>u.free b o e n hc) (fun b o hc e=>u.there b o e hc) u.tups u.frzs u.tbls (fun m' hm=>by
  obtain ⟨o',es',ep',ho',r'⟩:=hm
  rw [ho] at ho';cases ho'
  exact ⟨_,es',ep',hL,r'⟩) hok hg
theorem Inv.turned {t':Nat} {it:Addr} (I:Inv X pins σ H s) (k:∀b o,b ≠ it->s.heap.get? b=some o->h'.get? b=some o) (hn:H it=none) (hL:it ≠ X.env.locals)
  (h1:it∈X.ex\/X.s₀.heap.objs.size<=it) (h2:∀x c,X.env.cells.lookup x=some c->c ≠ it) (h3:∀p∈X.pn++pins,p.1 ≠ it):Inv X pins σ H { s with heap:=h',toks:=t' }:=by
 have nit:∀b u,H b=some u->b ≠ it:=fun b u e z=>by rw [z,hn] at e;cases e
 refine I.step (g':=s.gens) (d':=s.drawn) (ch:=[it]) (fun b hb=>?_) (fun b o _ _ hc e _=>k b o (fun z=>hc (by simp [z])) e) (fun b o _ _ hc e _=>⟨o.slots,k b o (fun z=>hc (by simp [z])) e⟩) (fun _ _ _ _ n=>n)
  (fun b o hc e=>⟨o,k b o (fun z=>hc (by simp [z])) e⟩) (fun _ _ e=>e) (fun _ _ _ e=>e) (fun b ps e=>⟨#[],by rw [e];simp⟩) (fun m hm=>?_) (fun b u e=>?_) I.bare
 ·have e:b=it:=by simpa using hb
  subst e
  exact ⟨h1,hL,h2,h3⟩
 ·obtain ⟨o,es,ep,ho,r⟩:=hm
  exact ⟨o,es,ep,k _ o (Ne.symm hL) ho,r⟩
 ·refine (I.hok b u e).stay (fun c v hc q=>k c v ?_ q) (fun _ q=>q) fun _ _ q=>q
  rcases hc with z | z
  ·rw [z];exact nit b u e
  ·exact nit c _ z
theorem Inv.tok (I:Inv X pins σ H s) (t:Nat):Inv X pins σ H { s with toks:=t }:=I.un (h':=s.heap) (t':=t) Un.refl I.hok
theorem Inv.kept {t':Nat} (I:Inv X pins σ H s) (k:∀b u,s.heap.get? b=some u->h'.get? b=some u):Inv X pins σ H { s with heap:=h',toks:=t' }:=I.un (Un.kept k) (I.hok.kept k)
theorem Inv.laid {a:Addr} {o:HO} {t':Nat} (I:Inv X pins σ H s) (k:∀b u,s.heap.get? b=some u->h'.get? b=some u) (hp:s.heap.objs.size<=a) (new:dC X.prog X.w (upd H a o) h' a o) :
  Inv X pins σ (upd H a o) { s with heap:=h',toks:=t' }:=I.un (Un.laid k hp (I.hok.fresh hp)) (I.hok.laid k hp new)
theorem Inv.write {x e:Addr} {o:HO} {t':Nat} (I:Inv X pins σ H s) (mu:Mut (H x)) (he:e=x\/H e=some (.own x)) (k:∀b u,b ≠ e->s.heap.get? b=some u->h'.get? b=some u) (heo:∃u,h'.get? e=some u)
  (new:dC X.prog X.w (upd H x o) h' x o):Inv X pins σ (upd H x o) { s with heap:=h',toks:=t' }:=I.un (Un.write mu he k heo) (I.hok.write mu he k heo new)
theorem Inv.aCg {pins':Y8} (I:Inv X pins σ H s) (h:∀p∈pins',s.heap.get? p.1=some p.2/\H p.1=none/\p.1 ≠ X.env.locals/\p.1 ∉ X.fs/\∀v,p.2.data ≠ .cell v):Inv X pins' σ H s :=
 ⟨I.ok,I.os,I.bare,I.base,I.loc,I.cell,I.free,I.freeC,fun p hp=>(List.mem_append.mp hp).elim (fun z=>I.pin p (List.mem_append_left _ z)) (h p),I.hok,I.len⟩
theorem rG {N:List Str} (hN:N.Nodup) {i j:Nat} {x:Str} (a:N[i]?=some x) (b:N[j]?=some x):i=j:=by
 obtain ⟨h1,e1⟩:=List.getElem?_eq_some_iff.mp a
 obtain ⟨h2,e2⟩:=List.getElem?_eq_some_iff.mp b
 exact (List.getElem_inj hN).mp (e1.trans e2.symm)
theorem tE {M:Model} {A:Around} {E:Y9} {i:Nat} {x:Str} {v:V} {u:Value} {Q:Unit->Shared->Prop} (I:Inv X pins σ H s) (hN:X.N.Nodup) (hi:X.N[i]?=some x) (hx:Loc X.env.scope x) (r:RelV v u)
  (h:∀s',Inv X pins (σ.set i (some v)) H s'->(∃a,Heap.SameBut a s.heap s'.heap/\(a=X.env.locals\/X.env.cells.lookup x=some a))->Q () s') (hf:X.fn x=true\/X.env.scope.names.lookup x=some .local:=by first | exact .inl rfl | exact .inr rfl | assumption):wpAny M A (storeName X.env x u) Q E s:=by
 obtain ⟨m,hn,hl⟩:=id I.loc
 have hcls:(X.env.scope.kind == .class || (X.env.scope.kind == .module && X.env.locals != X.env.globals))=false:=by rw [I.ok.kind];rfl
 have hiσ:i < σ.length:=by rw [I.len];exact (List.getElem?_eq_some_iff.mp hi).1
 have cne:=I.cne
 have tracked:∀ {a:Addr} {h':Heap},(∃o,s.heap.get? a=some o/\H a=none)->Heap.SameBut a s.heap h'->HOk X.prog X.w H h':=fun {a h'} ha hs b ob e=>by
  obtain ⟨_,_,hfree⟩:=ha
  refine (I.hok b ob e).stay (fun c w' hc q=>(hs.2 c ?_).trans q) (fun _ q=>q) fun _ _ q=>q
  rintro rfl
  rcases hc with rfl | hc
  ·rw [hfree] at e;cases e
  ·rw [hfree] at hc;cases hc
 rcases hx with hk | hk
 ·refine wpAny_storeName_local hk hn (fun h' hn' hs=>?_) hcls
  obtain ⟨oL,_,_,hoL,_⟩:=id hn
  refine h _ ⟨I.ok,I.os,I.bare,⟨fun b o e n hb hx=>?_,fun b o e n hb hx=>?_,I.base.free,fun b o e hx=>?_,I.base.tups,I.base.frzs,I.base.tbls⟩,⟨_,hn',fun j y v' e1 e2 e3=>?_⟩,fun y c e=>?_,I.free,I.freeC,fun p hp=>?_,tracked ⟨oL,hoL,I.free⟩ hs,by simpa using I.len⟩ ⟨_,hs,.inl rfl⟩
  ·exact (hs.2 b (Nat.ne_of_lt (Nat.lt_of_lt_of_le (Heap.lt_size e) I.ok.above))).trans (I.base.keep b o e n hb hx)
  ·obtain ⟨sl,e1⟩:=I.base.slot b o e n hb hx
   exact ⟨sl,(hs.2 b (Nat.ne_of_lt (Nat.lt_of_lt_of_le (Heap.lt_size e) I.ok.above))).trans e1⟩
  ·obtain ⟨o',e1⟩:=I.base.there b o e hx
   exact ⟨o',(hs.2 b (Nat.ne_of_lt (Nat.lt_of_lt_of_le (Heap.lt_size e) I.ok.above))).trans e1⟩
  ·by_cases hj:j=i
   ·subst hj
    rw [hi] at e1;cases e1
    rw [List.getElem?_set_self hiσ] at e2
    cases e2
    exact ⟨u,r,.inl ⟨hk,by simp⟩⟩
   ·rw [List.getElem?_set_ne (Ne.symm hj)] at e2
    obtain ⟨u',r',q⟩:=hl j y v' e1 e2 e3
    refine ⟨u',r',?_⟩
    rcases q with ⟨k,e⟩ | ⟨k,c,e,z⟩
    ·refine .inl ⟨k,?_⟩
     have:y ≠ x:=fun e=>hj (rG hN e1 (e ▸ hi))
     simp [this,e]
    ·exact .inr ⟨k,c,e,z.sameBut hs (cne y c e)⟩
  ·obtain ⟨w',z⟩:=I.cell y c e
   exact ⟨w',z.sameBut hs (cne y c e)⟩
  ·obtain ⟨e,n,ne,nf,d⟩:=I.pin p hp
   exact ⟨(hs.2 p.1 ne).trans e,n,ne,nf,d⟩
 ·have hfn:X.fn x=true:=by
   rcases hf with z | z
   ·exact z
   ·rw [z] at hk;cases hk
  obtain ⟨c,hc⟩:=I.ok.has x (.inl hk)
  obtain ⟨w',z⟩:=I.cell x c hc
  refine wpAny_storeName_cell I.ok.kind hk hc z (fun h' hc' hs=>?_)
  obtain ⟨oc,hoc,hocd⟩:=id z
  refine h { s with heap:=h' } ⟨I.ok,I.os,I.bare,⟨fun b o e n hb hx=>?_,fun b o e n hb hx=>?_,I.base.free,fun b o e hx=>?_,I.base.tups,I.base.frzs,I.base.tbls⟩,⟨m,hn.sameBut hs (Ne.symm (cne x c hc)),fun j y v' e1 e2 e3=>?_⟩,fun y c' e=>?_,I.free,I.freeC,fun p hp=>?_,tracked ⟨oc,hoc,I.freeC x c hc⟩ hs,by simpa using I.len⟩ ⟨c,hs,.inr hc⟩
  ·exact (hs.2 b (Nat.ne_of_lt (Nat.lt_of_lt_of_le (Heap.lt_size e) (I.ok.cab x c hfn hc)))).trans (I.base.keep b o e n hb hx)
  ·obtain ⟨sl,e1⟩:=I.base.slot b o e n hb hx
   exact ⟨sl,(hs.2 b (Nat.ne_of_lt (Nat.lt_of_lt_of_le (Heap.lt_size e) (I.ok.cab x c hfn hc)))).trans e1⟩
  ·obtain ⟨o',e1⟩:=I.base.there b o e hx
   exact ⟨o',(hs.2 b (Nat.ne_of_lt (Nat.lt_of_lt_of_le (Heap.lt_size e) (I.ok.cab x c hfn hc)))).trans e1⟩
  ·by_cases hj:j=i
   ·subst hj
    rw [hi] at e1;cases e1
    rw [List.getElem?_set_self hiσ] at e2
    cases e2
    exact ⟨u,r,.inr ⟨.inl hk,c,hc,hc'⟩⟩
   ·rw [List.getElem?_set_ne (Ne.symm hj)] at e2
    obtain ⟨u',r',q⟩:=hl j y v' e1 e2 e3
    refine ⟨u',r',?_⟩
    rcases q with q | ⟨k,c',e,z'⟩
    ·exact .inl q
    ·refine .inr ⟨k,c',e,z'.sameBut hs ?_⟩
     rintro rfl
     exact hj (rG hN e1 (I.ok.inj _ _ _ e hc ▸ hi))
  ·by_cases hcc:c'=c
   ·subst hcc;exact ⟨_,hc'⟩
   ·obtain ⟨w2,z2⟩:=I.cell y c' e
    exact ⟨w2,z2.sameBut hs hcc⟩
  ·obtain ⟨e,n,ne,nf,d⟩:=I.pin p hp
   refine ⟨(hs.2 p.1 ?_).trans e,n,ne,nf,d⟩
   intro q
   rw [q,hoc] at e
   have q':oc=p.2:=Option.some.inj e
   exact d w' (by rw [<- q'];exact hocd)
theorem nM {M:Model} {A:Around} {E:Y9} {i:Nat} {x:Str} {v:V} {u:Value} {Q:Unit->Shared->Prop} (I:Inv X pins σ H s) (hN:X.N.Nodup) (hi:X.N[i]?=some x) (hx:Loc X.env.scope x) (r:RelV v u)
  (h:∀s',Inv X pins (σ.set i (some v)) H s'->Q () s') (hf:X.fn x=true\/X.env.scope.names.lookup x=some .local:=by first | exact .inl rfl | exact .inr rfl | assumption):wpAny M A (storeName X.env x u) Q E s :=
 tE I hN hi hx r (fun s' I' _=>h s' I') hf
theorem Inv.yX {s':Shared} {ch:Y2} (I:Inv X pins σ H s) (ho:s'.os=s.os) (u:Un (frs X.stack) ch H H' s.heap s'.heap) (hok:HOk X.prog X.w H' s'.heap) (hg:AllBare s'.gens)
  (hch:∀b∈ch,(b∈X.ex\/X.s₀.heap.objs.size<=b)/\b ≠ X.env.locals/\(∀x c,X.env.cells.lookup x=some c->c ≠ b)/\∀p∈X.pn++pins,p.1 ≠ b):Inv X pins σ H' s':=by
 obtain ⟨h',g',d',t',o'⟩:=s'
 have e:o'=s.os:=ho
 subst e
 exact I.call (g':=g') (t':=t') (d':=d') u hok hg hch
end
abbrev XK:=Value->Option Addr->Hp->Prop
abbrev St:=List (Option V)
abbrev VK:=V->Hp->Prop
abbrev TE:=St->Hp->VK->Prop
abbrev TT:=St->Hp->(Bool->Hp->Prop)->Prop
abbrev TA:=St->Hp->(List V->Hp->Prop)->Prop
structure Ends where
 nx:St->Hp->Prop
 rt:VK
 bk:St->Hp->Prop:=fun _ _=>False
 ct:St->Hp->Prop:=fun _ _=>False
abbrev TS:=Ends->St->Hp->Prop
def EP (X:Cx) (pins:Y8) (σ:St) (Q:VK) (u:Value) (s':Shared):Prop:=∃v H',Inv X pins σ H' s'/\RelV v u/\Q v H'
def TP (X:Cx) (pins:Y8) (σ:St) (Q:Bool->Hp->Prop) (b:Bool) (s':Shared):Prop:=∃H',Inv X pins σ H' s'/\Q b H'
def AP (X:Cx) (pins:Y8) (σ:St) (Q:List V->Hp->Prop) (us:Y1) (s':Shared):Prop:=∃vs H',Inv X pins σ H' s'/\Vals vs us/\Q vs H'
def SP (X:Cx) (pins:Y8) (D:Ends) (f:Flow) (s':Shared):Prop :=
 match f with
 | .next=>∃σ' H',Inv X pins σ' H' s'/\D.nx σ' H'
 | .brk=>∃σ' H',Inv X pins σ' H' s'/\D.bk σ' H'
 | .cont=>∃σ' H',Inv X pins σ' H' s'/\D.ct σ' H'
 | .ret u=>∃v σ' H',Inv X pins σ' H' s'/\RelV v u/\D.rt v H'
def PE (X:Cx) (e:Expr) (t:TE):Prop :=
 ∀(pins:Y8) (s:Shared) (σ:St) (H:Hp) (Q:VK),Inv X pins σ H s->t σ H Q->wpAny (model X.prog X.w) X.A (eval e X.env) (EP X pins σ Q) X.xe s
def PT (X:Cx) (e:Expr) (t:TT):Prop :=
 ∀(pins:Y8) (s:Shared) (σ:St) (H:Hp) (Q:Bool->Hp->Prop),Inv X pins σ H s->t σ H Q->wpAny (model X.prog X.w) X.A (isTrue e X.env (eval e X.env)) (TP X pins σ Q) X.xe s
def PW (X:Cx) (e:Expr) (t:TT):Prop :=
 ∀(whole:Sem Value) (pins:Y8) (s:Shared) (σ:St) (H:Hp) (Q:Bool->Hp->Prop),Inv X pins σ H s->t σ H Q->wpAny (model X.prog X.w) X.A (isTrue e X.env whole) (TP X pins σ Q) X.xe s
theorem PW.pt {X:Cx} {e:Expr} {t:TT} (h:PW X e t):PT X e t:=h _
def PA (X:Cx) (es:List Expr) (t:TA):Prop :=
 ∀(pos:Pos) (pins:Y8) (s:Shared) (σ:St) (H:Hp) (Q:List V->Hp->Prop),Inv X pins σ H s->t σ H Q->wpAny (model X.prog X.w) X.A (spliced (backTo pos (starEach es X.env))) (AP X pins σ Q) X.xe s
def PS (X:Cx) (st:Stmt) (t:TS):Prop :=
 ∀(pins:Y8) (s:Shared) (σ:St) (H:Hp) (D:Ends),Inv X pins σ H s->t D σ H->wpAny (model X.prog X.w) X.A (exec st X.env) (SP X pins D) X.xe s
def PSs (X:Cx) (st:List Stmt) (t:TS):Prop :=
 ∀(pins:Y8) (s:Shared) (σ:St) (H:Hp) (D:Ends),Inv X pins σ H s->t D σ H->wpAny (model X.prog X.w) X.A (execs st X.env) (SP X pins D) X.xe s
theorem thn {α:Type} {t:Sem α} {Q Q':α->Shared->Prop} {M:Model} {A:Around} {E:Y9} {s:Shared} (h:wpAny M A t Q E s) (hQ:∀a s,Q a s->Q' a s):wpAny M A t Q' E s:=wpAny_mono h hQ fun _ _ x=>x
end L2
namespace L2
open PySem PySem.Spec PyProof.Rows
section
variable {X:Cx}
def aDg (i:Nat):TE:=fun σ H Q=>∃v,σ[i]?=some (some v)/\Q v H
def tC (v:V):TE:=fun _ H Q=>Q v H
theorem rK {i:Nat} {x:Str} {pos:Pos} (hN:X.N[i]?=some x) (hv:Vis X.env.scope x) (hd:(x == ("__debug__" : Str))=false:=by decide) (hcd:(x == ("__classdict__" : Str))=false:=by decide):PE X (.Name x pos) (aDg i):=by
 intro pins s σ H Q I h
 obtain ⟨v,e,h⟩:=h
 obtain ⟨m,hn,hl⟩:=I.loc
 obtain ⟨u,r,l⟩:=hl i x v hN e hv
 have fin:EP X pins σ Q u s:=⟨v,H,I,r,h⟩
 rcases l with ⟨hk,hm⟩ | ⟨hk,c,hc,hcell⟩
 ·exact wpAny_Name (wpAny_loadName_local I.ok.kind hk hn hm fin) hd
 ·rcases hk with hk | hk
  ·exact wpAny_Name (wpAny_loadName_cell I.ok.kind hk hc hcell fin) hd
  ·exact wpAny_Name (wpAny_loadName_free I.ok.kind hk hc hcell fin hcd) hd
theorem aOe {i j pos}:PE X (.Constant (.int i) j pos) (tC (.int i)):=fun _ _ _ H _ I h=>wpAny_Constant_int ⟨.int i,H,I.tok _,⟨_,rfl⟩,h⟩
theorem aPj {b j pos}:PE X (.Constant (.bool b) j pos) (tC (.bl b)):=fun _ _ _ H _ I h=>Constant_bool ⟨.bl b,H,I,rfl,h⟩
theorem aM5 {j pos}:PE X (.Constant .none j pos) (tC .non):=fun _ _ _ H _ I h=>Constant_none ⟨.non,H,I,rfl,h⟩
theorem aFf {x j pos}:PE X (.Constant (.str x) j pos) (tC (.str x)):=fun _ _ _ H _ I h=>Calls.Constant_str ⟨.str x,H,I.tok _,⟨_,rfl⟩,h⟩
def Gl (X:Cx) (x:Str):Prop:=X.env.kindOf x=some .globalImplicit
theorem nW {E:Y9} {pins:Y8} {s:Shared} {σ:St} {H:Hp} {x:Str} {u:Value} {pos:Pos} {Q:Y9} (I:Inv X pins σ H s) (hg:Gl X x) (hm:X.mg x=some u) (h:Q u s)
  (hd:(x == ("__debug__" : Str))=false:=by decide):wpAny (model X.prog X.w) X.A (eval (.Name x pos) X.env) Q E s :=
 Calls.Name_function_global I.ok.kind hg (Calls.loadGlobal_global (by rw [I.ok.glob];exact I.mod.glob.keeps I.bk) hm h) hd
theorem iR {E:Y9} {pins:Y8} {s:Shared} {σ:St} {H:Hp} {x:Str} {u:Value} {pos:Pos} {Q:Y9} (I:Inv X pins σ H s) (hg:Gl X x) (hm:X.mg x=none) (hv:bootBuiltins x=some u) (h:Q u s)
  (hn:x ≠ "__name__" :=by decide) (hd:(x == ("__debug__" : Str))=false:=by decide):wpAny (model X.prog X.w) X.A (eval (.Name x pos) X.env) Q E s:=by
 obtain ⟨mb,h1,h2⟩:=I.mod.blt
 exact Calls.Name_function_global I.ok.kind hg (Calls.loadGlobal_builtin (by rw [I.ok.glob];exact I.mod.glob.keeps I.bk) hm (by rw [I.ok.blt];exact h1.keeps I.bk) ((h2 x hn).trans hv) h) hd
theorem lL {x:Str} {v:V} {u:Value} {pos:Pos} (hg:Gl X x) (hm:X.mg x=some u) (r:RelV v u) (hd:(x == ("__debug__" : Str))=false:=by decide):PE X (.Name x pos) (tC v) :=
 fun _ _ _ H _ I h=>nW I hg hm ⟨v,H,I,r,h⟩ hd
theorem aBi {x:Str} {v:V} {u:Value} {pos:Pos} (hg:Gl X x) (hm:X.mg x=none) (hv:bootBuiltins x=some u) (r:RelV v u) (hn:x ≠ "__name__" :=by decide) (hd:(x == ("__debug__" : Str))=false:=by decide):PE X (.Name x pos) (tC v) :=
 fun _ _ _ H _ I h=>iR I hg hm hv ⟨v,H,I,r,h⟩ hn hd
variable {a b:Expr} {ta tb:TE} {pos:Pos}
variable {tA tB':TT} {rest:List Expr}
def aPx (t u:TT):TT:=fun σ H Q=>t σ H fun c H1=>if c=true then u σ H1 Q else Q false H1
def tOr (t u:TT):TT:=fun σ H Q=>t σ H fun c H1=>if c=true then Q true H1 else u σ H1 Q
def aQg (t:TT):TT:=fun σ H Q=>t σ H fun c H1=>Q (!c) H1
theorem aHv (ha:PT X a tA):PW X (.BoolOp .And [a] pos) tA:=by
 intro wh pins s σ H Q I h
 refine isTrue_and (thn (ha pins s σ H Q I h) fun c s1 e=>?_)
 cases c with
 | true=>exact isTrue_and_nil e
 | false=>exact e
theorem aOd (ha:PT X a tA):PW X (.BoolOp .Or [a] pos) tA:=by
 intro wh pins s σ H Q I h
 refine isTrue_or (thn (ha pins s σ H Q I h) fun c s1 e=>?_)
 cases c with
 | false=>exact isTrue_or_nil e
 | true=>exact e
theorem aL9 (ha:PT X a tA) (hb:PW X (.BoolOp .And (b::rest) pos) tB'):PW X (.BoolOp .And (a::b::rest) pos) (aPx tA tB'):=by
 intro wh pins s σ H Q I h
 refine isTrue_and (thn (ha pins s σ H _ I h) fun c s1 ⟨H1,I1,q1⟩=>?_)
 cases c with
 | true=>exact hb wh pins s1 σ H1 Q I1 q1
 | false=>exact ⟨H1,I1,q1⟩
theorem aRo (ha:PT X a tA) (hb:PW X (.BoolOp .Or (b::rest) pos) tB'):PW X (.BoolOp .Or (a::b::rest) pos) (tOr tA tB'):=by
 intro wh pins s σ H Q I h
 refine isTrue_or (thn (ha pins s σ H _ I h) fun c s1 ⟨H1,I1,q1⟩=>?_)
 cases c with
 | true=>exact ⟨H1,I1,q1⟩
 | false=>exact hb wh pins s1 σ H1 Q I1 q1
theorem aMx (ha:PT X a tA):PT X (.UnaryOp .Not a pos) (aQg tA):=by
 intro pins s σ H Q I h
 exact isTrue_not (ha pins s σ H (fun c H1=>Q (!c) H1) I h)
def aLg (ta tb:TE):TE:=fun σ H Q=>ta σ H fun x H1=>∃c,x=.bl c/\if c=true then tb σ H1 Q else Q (.bl false) H1
def aQ2 (ta tb:TE):TE:=fun σ H Q=>ta σ H fun x H1=>∃c,x=.bl c/\if c=true then Q (.bl true) H1 else tb σ H1 Q
def aLm (ta:TE):TE:=fun σ H Q=>ta σ H fun x H1=>∃c,x=.bl c/\Q (.bl (!c)) H1
theorem aMb {op} {t:TE} (h:PE X a t):PE X (.BoolOp op [a] pos) t:=fun pins s σ H Q I hw=>BoolOp_one (h pins s σ H Q I hw)
theorem aO2 (ha:PE X a ta) (hb:PE X (.BoolOp .And (b::rest) pos) tb):PE X (.BoolOp .And (a::b::rest) pos) (aLg ta tb):=by
 intro pins s σ H Q I h
 refine BoolOp_and (thn (ha pins s σ H _ I h) fun v s1 ⟨x,H1,I1,r1,q1⟩=>?_)
 obtain ⟨c,rfl,q1⟩:=q1
 cases r1
 refine wpAny_truthy_bool ?_
 cases c with
 | true=>exact hb pins s1 σ H1 Q I1 q1
 | false=>exact ⟨.bl false,H1,I1,rfl,q1⟩
theorem aPp (ha:PE X a ta) (hb:PE X (.BoolOp .Or (b::rest) pos) tb):PE X (.BoolOp .Or (a::b::rest) pos) (aQ2 ta tb):=by
 intro pins s σ H Q I h
 refine BoolOp_or (thn (ha pins s σ H _ I h) fun v s1 ⟨x,H1,I1,r1,q1⟩=>?_)
 obtain ⟨c,rfl,q1⟩:=q1
 cases r1
 refine wpAny_truthy_bool ?_
 cases c with
 | false=>exact hb pins s1 σ H1 Q I1 q1
 | true=>exact ⟨.bl true,H1,I1,rfl,q1⟩
theorem aNe (ha:PE X a ta):PE X (.UnaryOp .Not a pos) (aLm ta):=by
 intro pins s σ H Q I h
 refine UnaryOp_ (thn (ha pins s σ H _ I h) fun v s1 ⟨x,H1,I1,r1,q1⟩=>?_)
 obtain ⟨c,rfl,q1⟩:=q1
 cases r1
 exact not_of (wpAny_truthy_bool ⟨.bl (!c),H1,I1,rfl,q1⟩)
def tIf (t:TT) (ta tb:TE):TE:=fun σ H Q=>t σ H fun c H1=>if c=true then ta σ H1 Q else tb σ H1 Q
theorem wN {c:Expr} (hc:PT X c tA) (ha:PE X a ta) (hb:PE X b tb):PE X (.IfExp c a b pos) (tIf tA ta tb):=by
 intro pins s σ H Q I h
 refine wpAny_IfExp (thn (hc pins s σ H _ I h) fun d s1 ⟨H1,I1,q1⟩=>?_)
 cases d with
 | true=>exact ha pins s1 σ H1 Q I1 q1
 | false=>exact hb pins s1 σ H1 Q I1 q1
end
end L2
namespace L2
open PySem PySem.Spec PyProof.Rows
def SqL (K:FG) (H:Hp) (a:Addr) (xs:List V):Prop :=
 Rd H a (.lst xs) \/
  ∃(o:Obj) (its:Array Value) (n:Nat),K.lookup a=some o/\o.cls=.type "list" /\o.dict=none/\o.data=.seq its n/\its.size<=sizeLine/\Vals xs its.toList
def SqT (K:FG) (H:Hp) (a:Addr) (xs:List V):Prop :=
 Rd H a (.tup xs) \/
  ∃(o:Obj) (its:Array Value) (n:Nat),K.lookup a=some o/\o.cls=.type "tuple" /\o.data=.seq its n/\its.size<=sizeLine/\Vals xs its.toList
def aT0:Value->Option V
 | .none=>some .non
 | .bool b=>some (.bl b)
 | .int i _=>some (.int i)
 | .str x _=>some (.str x)
 | .bytes b _=>some (.byt b)
 | .float b _=>some (.flt b)
 | .ref a=>some (.ref a)
 | .type n=>some (.ty n)
 | _=>none
theorem RelV.abs {x:V} {u:Value} (r:RelV x u):aT0 u=some x:=by
 cases x with
 | non=>cases r;rfl
 | bl _=>cases r;rfl
 | int _=>obtain ⟨t,rfl⟩:=r;rfl
 | str _=>obtain ⟨t,rfl⟩:=r;rfl
 | byt _=>obtain ⟨t,rfl⟩:=r;rfl
 | flt _=>obtain ⟨t,rfl⟩:=r;rfl
 | ref _=>cases r;rfl
 | ty _=>cases r;rfl
theorem RelV.inj {x y:V} {u:Value} (r:RelV x u) (q:RelV y u):x=y:=Option.some.inj (r.abs.symm.trans q.abs)
theorem Vals.inj:∀ {xs ys:List V} {us:Y1},Vals xs us->Vals ys us->xs=ys
 | _,_,_,.nil,.nil=>rfl
 | _,_,_,.cons r t,.cons r' t'=>by rw [r.inj r',Vals.inj t t']
section
variable {X:Cx} {pins:Y8} {σ:St} {H:Hp} {s:Shared} {a:Addr} {xs ys:List V}
theorem SqL.of {K:FG} (h:H a=some (.lst xs)):SqL K H a xs:=.inl (.inl h)
theorem SqT.of {K:FG} (h:H a=some (.tup xs)):SqT K H a xs:=.inl (.inl h)
theorem Inv.list (I:Inv X pins σ H s) (h:SqL X.K H a xs):∃its:Y1,Vals xs its/\PlainL s.heap a its.toArray/\xs.length<=sizeLine:=by
 rcases h with h | ⟨o,its,n,hk,hc,hd,hs,hz,r⟩
 ·obtain ⟨z,its,n,r,e⟩:=h.ok I.hok
  exact ⟨its,r,⟨_,n,e,rfl,rfl,rfl⟩,z⟩
 ·refine ⟨its.toList,r,⟨o,n,I.kIn a o hk,hc,hd,by simpa using hs⟩,?_⟩
  have e:=r.length
  simp only [Array.length_toList] at e
  omega
theorem Inv.tuple (I:Inv X pins σ H s) (h:SqT X.K H a xs):∃its:Y1,Vals xs its/\IsTup s.heap a its.toArray/\xs.length<=sizeLine:=by
 rcases h with h | ⟨o,its,n,hk,hc,hs,hz,r⟩
 ·obtain ⟨z,its,r,p⟩:=h.ok I.hok
  exact ⟨its,r,p,z⟩
 ·refine ⟨its.toList,r,⟨o,I.kIn a o hk,hc,n,by simpa using hs⟩,?_⟩
  have e:=r.length
  simp only [Array.length_toList] at e
  omega
theorem Inv.yU (I:Inv X pins σ H s) (h:SqL X.K H a xs) (h':SqL X.K H a ys):xs=ys:=by
 obtain ⟨its,r,⟨o,n,e,_,_,d⟩,_⟩:=I.list h
 obtain ⟨its',r',⟨o',n',e',_,_,d'⟩,_⟩:=I.list h'
 rw [e] at e';cases e'
 rw [d] at d'
 injection d' with d1 _
 have:its=its':=by simpa using congrArg Array.toList d1
 subst this
 exact r.inj r'
theorem Inv.aD0 (I:Inv X pins σ H s) (h:SqT X.K H a xs) (h':SqT X.K H a ys):xs=ys:=by
 obtain ⟨its,r,⟨o,e,_,n,d⟩,_⟩:=I.tuple h
 obtain ⟨its',r',⟨o',e',_,n',d'⟩,_⟩:=I.tuple h'
 rw [e] at e';cases e'
 rw [d] at d'
 injection d' with d1 _
 have:its=its':=by simpa using congrArg Array.toList d1
 subst this
 exact r.inj r'
end
section
variable {X:Cx} {pins:Y8} {σ:St} {H:Hp} {s:Shared} {E:Y9}
end
section
variable {X:Cx} {st:Stmt} {rest:List Stmt} {t u:TS} {e:Expr} {te:TE} {pos:Pos}
def aLi:TS:=fun D σ H=>D.nx σ H
def aRp (t u:TS):TS:=fun D σ H=>t { D with nx:=u D } σ H
theorem aJh:PSs X [] aLi:=fun _ _ σ H _ I h=>wpAny_execs_nil ⟨σ,H,I,h⟩
theorem aD9 (h1:PS X st t) (h2:PSs X rest u):PSs X (st::rest) (aRp t u):=by
 intro pins s σ H D I h
 refine wpAny_execs_cons (thn (h1 pins s σ H { D with nx:=u D } I h) fun f s1 q=>?_)
 cases f with
 | next =>
  obtain ⟨σ',H',I',q⟩:=q
  exact h2 pins s1 σ' H' D I' q
 | ret v=>exact q
 | brk=>exact q
 | cont=>exact q
theorem aJ4 (h1:PS X st t):PSs X [st] t:=by
 intro pins s σ H D I h
 refine wpAny_execs_cons (thn (h1 pins s σ H D I h) fun f s1 q=>?_)
 cases f with
 | next=>exact wpAny_execs_nil q
 | ret v=>exact q
 | brk=>exact q
 | cont=>exact q
theorem Inv.quiet {pins:Y8} {σ:St} {H:Hp} {s:Shared} (I:Inv X pins σ H s):interactive X.env=false:=by simp [interactive,I.ok.kind]
def aCd (te:TE):TS:=fun D σ H=>te σ H fun _ H1=>D.nx σ H1
theorem vK (he:PE X e te) (hs:swapsWith e none pos.line X.env=pure false:=by rfl):PS X (.Expr e pos) (aCd te):=by
 intro pins s σ H D I h
 exact wpAny_Expr_any (thn (he pins s σ H _ I h) fun v s1 ⟨x,H1,I1,r1,q1⟩=>⟨σ,H1,I1,q1⟩) I.quiet hs
def aMc (te:TE):TS:=fun D σ H=>te σ H D.rt
theorem aF6 (he:PE X e te):PS X (.Return (some e) pos) (aMc te):=by
 intro pins s σ H D I h
 exact wpAny_Return_some (thn (he pins s σ H _ I h) fun v s1 ⟨x,H1,I1,r1,q1⟩=>⟨x,σ,H1,I1,r1,q1⟩)
def aQ7 (c:TT) (t u:TS):TS:=fun D σ H=>c σ H fun b H1=>if b=true then t D σ H1 else u D σ H1
theorem aQe {c:Expr} {a b:List Stmt} {tc:TT} (hc:PT X c tc) (ha:PSs X a t) (hb:PSs X b u):PS X (.If c a b pos) (aQ7 tc t u):=by
 intro pins s σ H D I h
 refine wpAny_If (thn (hc pins s σ H _ I h) fun d s1 ⟨H1,I1,q1⟩=>?_)
 cases d with
 | true=>exact ha pins s1 σ H1 D I1 q1
 | false=>exact hb pins s1 σ H1 D I1 q1
end
abbrev TG:=V->St->Hp->(St->Hp->Prop)->Prop
abbrev TGs:=List V->St->Hp->(St->Hp->Prop)->Prop
def PG (X:Cx) (target:Expr) (t:TG):Prop :=
 ∀(pins:Y8) (s:Shared) (σ:St) (H:Hp) (v:V) (u:Value) (Q:St->Hp->Prop),Inv X pins σ H s->RelV v u->t v σ H Q ->
  wpAny (model X.prog X.w) X.A (assign target X.env u) (fun _ s'=>∃σ' H',Inv X pins σ' H' s'/\Q σ' H') X.xe s
def PGs (X:Cx) (ts:List Expr) (t:TGs):Prop :=
 ∀(pins:Y8) (s:Shared) (σ:St) (H:Hp) (vs:List V) (us:Y1) (Q:St->Hp->Prop),Inv X pins σ H s->Vals vs us->t vs σ H Q ->
  wpAny (model X.prog X.w) X.A (assignInOrder ((assignEach ts X.env).map (·.2)) us) (fun _ s'=>∃σ' H',Inv X pins σ' H' s'/\Q σ' H') X.xe s
abbrev aOl:=V->V->V->Hp->(Hp->Prop)->Prop
def aQa (X:Cx) (t:aOl):Prop :=
 ∀(pins:Y8) (s:Shared) (σ:St) (H:Hp) (o i v:V) (ov iv u:Value) (Q:Hp->Prop),Inv X pins σ H s->RelV o ov->RelV i iv->RelV v u->t o i v H Q ->
  wpAny (model X.prog X.w) X.A (setItem ov iv u) (fun _ s'=>∃H',Inv X pins σ H' s'/\Q H') X.xe s
abbrev TIp:=V->V->Hp->VK->Prop
def PIp (X:Cx) (op:Operator) (t:TIp):Prop :=
 ∀(pins:Y8) (s:Shared) (σ:St) (H:Hp) (x y:V) (v u:Value) (Q:VK),Inv X pins σ H s->RelV x v->RelV y u->t x y H Q ->
  wpAny (model X.prog X.w) X.A (inplaceOp op v u) (EP X pins σ Q) X.xe s
section
variable {X:Cx} {pos:Pos}
def oY (i:Nat):TG:=fun v σ H Q=>Q (σ.set i (some v)) H
theorem aIh {i:Nat} {x:Str} (hN:X.N.Nodup) (hi:X.N[i]?=some x) (hx:Loc X.env.scope x) (hf:X.fn x=true\/X.env.scope.names.lookup x=some .local:=by first | exact .inl rfl | exact .inr rfl | assumption):PG X (.Name x pos) (oY i):=by
 intro pins s σ H v u Q I r h
 exact wpAny_assign_Name (nM I hN hi hx r (fun s' I'=>⟨_,H,I',h⟩) hf)
def aPi:TGs:=fun vs σ H Q=>vs=[]/\Q σ H
def aK0 (t:TG) (u:TGs):TGs:=fun vs σ H Q=>∃v r,vs=v::r/\t v σ H fun σ' H'=>u r σ' H' Q
theorem aH2:PGs X [] aPi:=by
 intro pins s σ H vs us Q I r h
 obtain ⟨e,h⟩:=h
 subst e
 cases r
 exact assignInOrder_nil ⟨σ,H,I,h⟩
theorem aGb {e:Expr} {es:List Expr} {t:TG} {u:TGs} (h1:PG X e t) (h2:PGs X es u)
  (hs:(assignEach (e::es) X.env).map (·.2)=assign e X.env::(assignEach es X.env).map (·.2):=by rfl):PGs X (e::es) (aK0 t u):=by
 intro pins s σ H vs us Q I r h
 obtain ⟨v,vr,e1,h⟩:=h
 subst e1
 cases r with
 | cons r rr =>
  rw [hs]
  refine assignInOrder_cons (thn (h1 pins s σ H _ _ _ I r h) fun _ s1 ⟨σ1,H1,I1,q1⟩=>?_)
  exact h2 pins s1 σ1 H1 _ _ Q I1 rr q1
def aNd (K:FG) (n:Nat) (t:TGs):TG:=fun v σ H Q=>∃a xs,v=.ref a/\SqT K H a xs/\xs.length=n/\t xs σ H Q
theorem oW {es:List Expr} {k:Nat} {t:TGs} {n:Nat} (hc:X.calm=true) (h:PGs X es t)
  (hn:(assignEach es X.env).length=n:=by rfl) (hst:(assignEach es X.env).findIdx? (·.1)=none:=by rfl):PG X (.Tuple es k pos) (aNd X.K n t):=by
 intro pins s σ H v u Q I r hw
 obtain ⟨a,xs,e1,hq,hl,hw⟩:=hw
 subst e1
 cases r
 obtain ⟨its,rv,ht,hz⟩:=I.tuple hq
 refine assign_Tuple_tuple (I.ok.hd hc) ht (by simp [hn,<- hl,rv.length]) hst fun h' hx=>?_
 have I1:Inv X pins σ H { s with heap:=h' }:=I.kept (t':=s.toks) fun b o e=>hx b o (Nat.ne_of_lt (Heap.lt_size e)) e
 exact h pins _ σ H xs _ Q I1 (by simpa using rv) hw
def aPh (to ti:TE) (t:aOl):TG:=fun v σ H Q=>to σ H fun o H1=>ti σ H1 fun i H2=>t o i v H2 fun H3=>Q σ H3
theorem aOz {o i:Expr} {to ti:TE} {t:aOl} (ho:PE X o to) (hi:PE X i ti) (hs:aQa X t)
  (ha:∀v,assign (.Subscript o i pos) X.env v=(do
   let ov <- holding [v] (eval o X.env)
   let iv <- holding [v,ov] (eval i X.env)
   standAt pos
   holding [v,ov,iv] (setItem ov iv v)
   release [v,ov,iv] []):=by intro _;rfl):PG X (.Subscript o i pos) (aPh to ti t):=by
 intro pins s σ H v u Q I r h
 rw [ha]
 refine wpAny_bind (wpAny_holding (thn (ho pins s σ H _ I h) fun ov s1 ⟨x,H1,I1,r1,q1⟩=>?_))
 refine wpAny_bind (wpAny_holding (thn (hi pins s1 σ H1 _ I1 q1) fun iv s2 ⟨y,H2,I2,r2,q2⟩=>?_))
 refine wpAny_bind (wpAny_standAt (wpAny_bind (wpAny_holding (thn (hs pins s2 σ H2 x y v ov iv u _ I2 r1 r2 r q2) fun _ s3 ⟨H3,I3,q3⟩=>?_))))
 exact wpAny_release ⟨σ,H3,I3,q3⟩
def aDb (te:TE) (g:TG):TS:=fun D σ H=>te σ H fun x H1=>g x σ H1 D.nx
theorem aFg {tg e:Expr} {te:TE} {g:TG} (he:PE X e te) (hg:PG X tg g) (hs:swapsWithSole [tg] e pos.line X.env=pure false:=by rfl) (hw:swappedStores [tg] e X.env=pure none:=by rfl)
  (h1:(assignEach [tg] X.env).map (·.2)=[assign tg X.env]:=by rfl):PS X (.Assign [tg] e pos) (aDb te g):=by
 intro pins s σ H D I h
 refine wpAny_Assign_stores (thn (he pins s σ H _ I h) fun v s1 ⟨x,H1,I1,r1,q1⟩=>?_) hs hw
 rw [h1]
 exact thn (hg pins s1 σ H1 x v _ I1 r1 q1) fun _ s2 q=>q
theorem aMh {i:Nat} {x:Str} {e:Expr} {te:TE} {pos':Pos} (hN:X.N.Nodup) (hi:X.N[i]?=some x) (hx:Loc X.env.scope x) (he:PE X e te) (hs:swapsWith e (some (.Name x pos')) pos.line X.env=pure false:=by rfl) (hf:X.fn x=true\/X.env.scope.names.lookup x=some .local:=by first | exact .inl rfl | exact .inr rfl | assumption) :
  PS X (.Assign [.Name x pos'] e pos) (aDb te (oY i)):=by
 intro pins s σ H D I h
 refine wpAny_Assign_Name (thn (he pins s σ H _ I h) fun v s1 ⟨y,H1,I1,r1,q1⟩=>?_) hs
 exact nM I1 hN hi hx r1 (fun s2 I2=>⟨_,H1,I2,q1⟩) hf
def aPw (i:Nat) (te:TE) (ti:TIp):TS:=fun D σ H=>∃x,σ[i]?=some (some x)/\te σ H fun y H1=>ti x y H1 fun z H2=>D.nx (σ.set i (some z)) H2
theorem aO4 {i:Nat} {x:Str} {e:Expr} {te:TE} {op:Operator} {ti:TIp} {pos':Pos} (hN:X.N.Nodup) (hi:X.N[i]?=some x) (hx:Loc X.env.scope x) (he:PE X e te) (ho:PIp X op ti) (hf:X.fn x=true\/X.env.scope.names.lookup x=some .local:=by first | exact .inl rfl | exact .inr rfl | assumption) :
  PS X (.AugAssign (.Name x pos') op e pos) (aPw i te ti):=by
 intro pins s σ H D I h
 obtain ⟨v,e1,h⟩:=h
 obtain ⟨m,hn,hl⟩:=I.loc
 have vis:Vis X.env.scope x:=by rcases hx with k | k;exact .inl k;exact .inr (.inl k)
 obtain ⟨u,r,l⟩:=hl i x v hi e1 vis
 refine wpAny_AugAssign_Name ?_
 have go:wpAny (model X.prog X.w) X.A (eval e X.env) (fun w s₂=>wpAny (model X.prog X.w) X.A (inplaceOp op u w) (fun r s₃=>wpAny (model X.prog X.w) X.A (storeName X.env x r) (fun _=>SP X pins D .next) X.xe s₃) X.xe s₂) X.xe s:=by
  refine thn (he pins s σ H _ I h) fun w s1 ⟨y,H1,I1,r1,q1⟩=>?_
  refine thn (ho pins s1 σ H1 v y u w _ I1 r r1 q1) fun z s2 ⟨zv,H2,I2,r2,q2⟩=>?_
  exact nM I2 hN hi hx r2 (fun s3 I3=>⟨_,H2,I3,q2⟩) hf
 rcases l with ⟨hk,hm⟩ | ⟨hk,c,hc,hcell⟩
 ·exact wpAny_loadName_local I.ok.kind hk hn hm go
 ·rcases hk with hk | hk
  ·exact wpAny_loadName_cell I.ok.kind hk hc hcell go
  ·rcases hx with k | k
   ·have:X.env.scope.names.lookup x=some .free:=hk
    rw [k] at this;cases this
   ·have:X.env.scope.names.lookup x=some .free:=hk
    rw [k] at this;cases this
def ipI (f:Int->Int->Int):TIp:=fun x y H Q=>∃i j,x=.int i/\y=.int j/\Q (.int (f i j)) H
theorem aOb:PIp X .Add (ipI fun i j=>i+j):=by
 intro pins s σ H x y v u Q I r1 r2 h
 obtain ⟨i,j,e1,e2,q⟩:=h
 subst e1;subst e2
 obtain ⟨t,rfl⟩:=r1
 obtain ⟨t',rfl⟩:=r2
 exact iadd_int ⟨.int _,H,I.tok _,⟨_,rfl⟩,q⟩
end
section
variable {X:Cx} {pos:Pos}
def aFp (c:TT) (tb:TS):TS:=fun D σ H=>∃W:Nat->St->Hp->Prop,(∃m,W m σ H)/\∀m σ H,W m σ H ->
 c σ H fun b H1=>if b=true then ∃N:St->Hp->Prop,(∀σ' H',N σ' H'->∃m',m'<m/\W m' σ' H')/\tb { D with nx:=N,ct:=N,bk:=D.nx } σ H1 else D.nx σ H1
theorem aGr {c:Expr} {body:List Stmt} {tc:TT} {tb:TS} (hp:PassesOwn (model X.prog X.w) X.A X.env X.xe) (hc:PT X c tc) (hb:PSs X body tb):PS X (.While c body [] pos) (aFp tc tb):=by
 intro pins s σ H D I h
 obtain ⟨W,⟨m0,w0⟩,turn⟩:=h
 refine wpAny_While (codeAny_whileLoop (fun n s'=>∃σ' H',Inv X pins σ' H' s'/\W n σ' H') ?_ m0 ⟨σ,H,I,w0⟩)
 rintro n s1 ⟨σ1,H1,I1,w1⟩
 refine wpAny_passesOwn hp (thn (hc pins s1 σ1 H1 _ I1 (turn n σ1 H1 w1)) fun b s2 ⟨H2,I2,q2⟩=>?_)
 cases b with
 | true =>
  obtain ⟨N,hN,q2⟩:=q2
  rw [if_pos rfl]
  refine wpAny_passesOwn hp (thn (hb pins s2 σ1 H2 _ I2 q2) fun f s3 q3=>?_)
  cases f with
  | next =>
   obtain ⟨σ3,H3,I3,n3⟩:=q3
   obtain ⟨m',hm,w3⟩:=hN σ3 H3 n3
   exact ⟨m',hm,σ3,H3,I3,w3⟩
  | cont =>
   obtain ⟨σ3,H3,I3,n3⟩:=q3
   obtain ⟨m',hm,w3⟩:=hN σ3 H3 n3
   exact ⟨m',hm,σ3,H3,I3,w3⟩
  | brk=>exact q3
  | ret v=>exact q3
 | false =>
  rw [if_neg Bool.false_ne_true]
  exact wpAny_execs_nil ⟨σ1,H2,I2,q2⟩
end
structure It where
 go:Nat->Hp->Prop
 yld:Nat->Hp->V->Hp->Prop
 stop:Nat->Hp->Prop
def qY (X:Cx) (pins:Y8) (H:Hp) (b:Addr):Prop :=
 H b=none/\b ≠ X.env.locals/\b ∉ X.fs/\(b∈X.ex\/X.s₀.heap.objs.size<=b)/\(∀x c,X.env.cells.lookup x=some c->c ≠ b)/\∀p∈X.pn++pins,p.1 ≠ b
theorem Inv.aHl {X:Cx} {pins:Y8} {σ:St} {H H':Hp} {s:Shared} {b:Addr} (I:Inv X pins σ H s) (hb:s.heap.objs.size<=b) (hn:H' b=none):qY X pins H' b:=by
 refine ⟨hn,Nat.ne_of_gt (Nat.lt_of_lt_of_le I.lt hb),I.aU4 hb,.inr (Nat.le_trans I.sz hb),fun x c e z=>?_,fun p hp z=>?_⟩
 ·obtain ⟨v,q⟩:=I.cell x c e
  exact absurd (Nat.lt_of_lt_of_le q.lt (by rw [z];exact hb)) (Nat.lt_irrefl _)
 ·exact absurd (Nat.lt_of_lt_of_le (Heap.lt_size (I.pin p hp).1) (by rw [z];exact hb)) (Nat.lt_irrefl _)
structure Turn (P:Program) (w:World) (K:FG) (tg:Expr) (J:It) (fp:Y2) (it:Addr) (tn:Nat->Heap->Prop):Prop where
 mem:it∈fp
 obj:∀i h,tn i h->∀b∈fp,∃o,h.get? b=some o/\∀v,o.data ≠ .cell v
 keep:∀i h h',tn i h->(∀b∈fp,∀o,h.get? b=some o->h'.get? b=some o)->tn i h'
 item:∀(X:Cx),X.prog=P->X.w=w->X.K=K->X.calm=true->∀(i:Nat) (pins:Y8) (s:Shared) (σ:St) (H:Hp) (E:Y9),Inv X pins σ H s->(∀b∈fp,qY X pins H b)->tn i s.heap->J.go i H ->
  wpAny (model P w) X.A (pyNext (.ref it)) (fun r s1=>∃u,r=some u /\
   wpAny (model P w) X.A (letOwnedTupleGo tg (.ref it) u) (fun _ s2=>∃x H',Inv X pins σ H' s2/\RelV x u/\J.yld i H x H'/\tn (i+1) s2.heap/\∀b∈fp,H' b=none) E s1) E s
 done:∀(X:Cx),X.prog=P->X.w=w->X.K=K->X.calm=true->∀(i:Nat) (pins:Y8) (s:Shared) (σ:St) (H:Hp) (E:Y9),Inv X pins σ H s->(∀b∈fp,qY X pins H b)->tn i s.heap->J.stop i H ->
  wpAny (model P w) X.A (pyNext (.ref it)) (fun r s1=>r=none/\Inv X pins σ H s1) E s
 self:∀(A:Around) (i:Nat) (s:Shared) (Q:Y9) (E:Y9),tn i s.heap->Q (.ref it) s->wpAny (model P w) A (pyIter (.ref it)) Q E s
abbrev TI:=St->Hp->(It->Hp->Prop)->Prop
def PIE (X:Cx) (pins:Y8) (σ:St) (tg:Expr) (R:It->Hp->Prop) (itv:Value) (s2:Shared):Prop :=
 ∃(it:Addr) (fp:Y2) (tn:Nat->Heap->Prop) (J:It) (H':Hp),itv=.ref it/\Inv X pins σ H' s2/\Turn X.prog X.w X.K tg J fp it tn/\tn 0 s2.heap/\(∀b∈fp,qY X pins H' b)/\R J H'
def PI (X:Cx) (tg iter:Expr) (wi:TI):Prop :=
 ∀(pins:Y8) (s:Shared) (σ:St) (H:Hp) (R:It->Hp->Prop),Inv X pins σ H s->wi σ H R ->
  wpAny (model X.prog X.w) X.A (eval iter X.env) (fun v s1=>wpAny (model X.prog X.w) X.A (pyIter v) (PIE X pins σ tg R) X.xe s1) X.xe s
theorem aFm {M:Model} {A:Around} {E:Y9} {s:Shared} {tg:Expr} {it:Addr} {u:Value} {o:Obj} {n:String} {vs:Array Value} {Q:Unit->Shared->Prop} (ho:s.heap.get? it=some o) (hc:o.cls=.type n) (hd:o.data=.fields vs)
  (hn:["enumerate", "zip", "dict_itemiterator", "dict_reverseitemiterator", "odict_iterator", "itertools.zip_longest", "itertools.pairwise"].contains n=false) (hQ:Q () s):wpAny M A (letOwnedTupleGo tg (.ref it) u) Q E s:=by
 unfold letOwnedTupleGo
 cases tg<;>first
  | exact wpAny_pure hQ
  | (cases u<;>first
    | exact wpAny_pure hQ
    | (refine wpAny_bind (wpAny_load ho ?_)
       rw [hc,hd]
       show wpAny M A (if (["enumerate", "zip", "dict_itemiterator", "dict_reverseitemiterator", "odict_iterator", "itertools.zip_longest", "itertools.pairwise"].contains n && vs[0]? == some (rawInt _))=true then _ else _) Q E s
       rw [if_neg (by intro h;rw [hn,Bool.false_and] at h;cases h)]
       exact wpAny_pure hQ))
def Itl (K:FG) (a:Addr):It :=
 ⟨fun i H=>∃xs x,SqL K H a xs/\xs[i]?=some x,fun i H x H'=>H'=H/\∀xs,SqL K H a xs->xs[i]?=some x,fun i H=>∃xs,SqL K H a xs/\xs.length<=i⟩
def Itt (K:FG) (a:Addr):It :=
 ⟨fun i H=>∃xs x,SqT K H a xs/\xs[i]?=some x,fun i H x H'=>H'=H/\∀xs,SqT K H a xs->xs[i]?=some x,fun i H=>∃xs,SqT K H a xs/\xs.length<=i⟩
def Itr (lo:Int) (n:Nat):It:=⟨fun i _=>i<n,fun i H x H'=>H'=H/\x=.int (lo+i),fun i _=>n<=i⟩
theorem aDl {P:Program} {w:World} {K:FG} {tg:Expr} (a it:Addr):Turn P w K tg (Itl K a) [it] it (fun i h=>h.IsListIter it a i) where
 mem:=by simp
 obj:=fun i h st b hb=>by
  have e:b=it:=by simpa using hb
  subst e
  obtain ⟨o,e,c,d⟩:=st
  exact ⟨o,e,fun v z=>by rw [d] at z;cases z⟩
 keep:=fun i h h' st k=>st.at fun o e=>k it (by simp) o e
 item:=by
  intro X hP hw hK hc i pins s σ H E I hf st hg
  subst hP hw hK
  obtain ⟨xs,x,hq,hx⟩:=hg
  obtain ⟨its,rv,p,hz⟩:=I.list hq
  obtain ⟨u,hu,ru⟩:=rv.get hx
  obtain ⟨f0,f1,f2,f3,f4,f5⟩:=hf it (by simp)
  refine wpAny_pyNext_list_item st p.isList (x:=u) (by simpa using hu) fun h' st' sb=>?_
  have I1:Inv X pins σ H { s with heap:=h' }:=I.turned (t':=s.toks) (fun b o hb e=>(sb.2 b hb).trans e) f0 f1 f3 f4 f5
  obtain ⟨o,e,c,d⟩:=id st'
  exact ⟨u,rfl,aFm (s:={ s with heap:=h' }) e c d (by decide) ⟨x,H,I1,ru,⟨rfl,fun ys hy=>by rw [I.yU hy hq];exact hx⟩,st',fun b hb=>(hf b hb).1⟩⟩
 done:=by
  intro X hP hw hK hc i pins s σ H E I hf st hg
  subst hP hw hK
  obtain ⟨xs,hq,hx⟩:=hg
  obtain ⟨its,rv,p,hz⟩:=I.list hq
  obtain ⟨f0,f1,f2,f3,f4,f5⟩:=hf it (by simp)
  have hl:=rv.length
  exact wpAny_pyNext_list_end (I.ok.hd hc) st p.isList (by simp;omega) fun h' eb=>⟨rfl,I.turned (t':=s.toks) (fun b o hb e=>eb b o hb e) f0 f1 f3 f4 f5⟩
 self:=fun _ _ _ _ _ st h=>wpAny_pyIter_listiter st h
theorem aAl {P:Program} {w:World} {K:FG} {tg:Expr} (a it:Addr):Turn P w K tg (Itt K a) [it] it (fun i h=>h.IsTupleIter it a i) where
 mem:=by simp
 obj:=fun i h st b hb=>by
  have e:b=it:=by simpa using hb
  subst e
  obtain ⟨o,e,c,d⟩:=st
  exact ⟨o,e,fun v z=>by rw [d] at z;cases z⟩
 keep:=fun i h h' st k=>st.at fun o e=>k it (by simp) o e
 item:=by
  intro X hP hw hK hc i pins s σ H E I hf st hg
  subst hP hw hK
  obtain ⟨xs,x,hq,hx⟩:=hg
  obtain ⟨its,rv,p,hz⟩:=I.tuple hq
  obtain ⟨u,hu,ru⟩:=rv.get hx
  obtain ⟨f0,f1,f2,f3,f4,f5⟩:=hf it (by simp)
  refine wpAny_pyNext_tuple_item st (show s.heap.IsTuple a its.toArray from p) (x:=u) (by simpa using hu) fun h' st' sb=>?_
  have I1:Inv X pins σ H { s with heap:=h' }:=I.turned (t':=s.toks) (fun b o hb e=>(sb.2 b hb).trans e) f0 f1 f3 f4 f5
  obtain ⟨o,e,c,d⟩:=id st'
  exact ⟨u,rfl,aFm (s:={ s with heap:=h' }) e c d (by decide) ⟨x,H,I1,ru,⟨rfl,fun ys hy=>by rw [I.aD0 hy hq];exact hx⟩,st',fun b hb=>(hf b hb).1⟩⟩
 done:=by
  intro X hP hw hK hc i pins s σ H E I hf st hg
  subst hP hw hK
  obtain ⟨xs,hq,hx⟩:=hg
  obtain ⟨its,rv,p,hz⟩:=I.tuple hq
  obtain ⟨f0,f1,f2,f3,f4,f5⟩:=hf it (by simp)
  have hl:=rv.length
  exact wpAny_pyNext_tuple_end (I.ok.hd hc) st (show s.heap.IsTuple a its.toArray from p) (by simp;omega) fun h' eb=>⟨rfl,I.turned (t':=s.toks) (fun b o hb e=>eb b o hb e) f0 f1 f3 f4 f5⟩
 self:=fun _ _ _ _ _ st h=>wpAny_pyIter_tupleiter st h
theorem zP {P:Program} {w:World} {K:FG} {tg:Expr} (it:Addr) (lo:Int) (n:Nat):Turn P w K tg (Itr lo n) [it] it (fun i h=>IsRangeIter h it (lo+(i:Nat) * 1) ((n:Int) - (i:Nat)) 1) where
 mem:=by simp
 obj:=fun i h st b hb=>by
  have e:b=it:=by simpa using hb
  subst e
  exact ⟨_,st,fun v z=>by
   have z':Data.fields _=Data.cell v:=z
   cases z'⟩
 keep:=fun i h h' st k=>k it (by simp) _ st
 item:=by
  intro X hP hw hK hc i pins s σ H E I hf st hg
  subst hP hw hK
  obtain ⟨f0,f1,f2,f3,f4,f5⟩:=hf it (by simp)
  have W:=Walks.range (prog:=X.prog) (w:=X.w) (I.ok.hd hc) it lo 1 n
  refine W.item i s _ _ hg st fun v h' tk hv st' kk=>?_
  obtain ⟨t,rfl⟩:=hv
  have I1:Inv X pins σ H { s with heap:=h',toks:=tk }:=I.turned (fun b o hb e=>kk b o (by simpa using hb) e) f0 f1 f3 f4 f5
  refine ⟨_,rfl,aFm (s:={ s with heap:=h',toks:=tk }) (n := "range_iterator") st' rfl rfl (by decide) ⟨.int (lo+i),H,I1,⟨t,?_⟩,⟨rfl,rfl⟩,st',fun b hb=>(hf b hb).1⟩⟩
  rw [Int.mul_one]
 done:=by
  intro X hP hw hK hc i pins s σ H E I hf st hg
  subst hP hw hK
  obtain ⟨f0,f1,f2,f3,f4,f5⟩:=hf it (by simp)
  exact wpAny_pyNext_range_end (I.ok.hd hc) st (by have:n<=i:=hg;omega) fun h' eb=>⟨rfl,I.turned (t':=s.toks) (fun b o hb e=>eb b o hb e) f0 f1 f3 f4 f5⟩
 self:=fun _ _ _ _ _ st h=>wpAny_pyIter_rangeiter st h
end L2
namespace L2
open PySem PySem.Spec PyProof.Rows
section
variable {X:Cx} {tg:Expr}
def aGd (K:FG) (tl:TE):TI:=fun σ H R=>tl σ H fun x H1=>∃a,x=.ref a/\(∃xs,SqL K H1 a xs)/\R (Itl K a) H1
def aM7 (K:FG) (tl:TE):TI:=fun σ H R=>tl σ H fun x H1=>∃a,x=.ref a/\(∃xs,SqT K H1 a xs)/\R (Itt K a) H1
theorem aIq {l:Expr} {tl:TE} (hl:PE X l tl):PI X tg l (aGd X.K tl):=by
 intro pins s σ H R I h
 refine thn (hl pins s σ H _ I h) fun v s1 ⟨x,H1,I1,r1,q1⟩=>?_
 obtain ⟨a,e,⟨xs,hq⟩,q⟩:=q1
 subst e
 cases r1
 obtain ⟨its,rv,p,hz⟩:=I1.list hq
 refine wpAny_pyIter_list p.isList ?_
 refine ⟨s1.heap.objs.size,[s1.heap.objs.size],_,_,H1,rfl,I1.kept (t':=s1.toks) fun b o e=>Heap.get?_push_of_some _ e,aDl a _,⟨_,Heap.get?_push_size _ rfl,rfl,rfl⟩,fun b hb=>?_,q⟩
 have e:b=s1.heap.objs.size:=by simpa using hb
 subst e
 exact I1.aHl (Nat.le_refl _) (I1.hok.fresh (Nat.le_refl _))
theorem aOt {l:Expr} {tl:TE} (hl:PE X l tl):PI X tg l (aM7 X.K tl):=by
 intro pins s σ H R I h
 refine thn (hl pins s σ H _ I h) fun v s1 ⟨x,H1,I1,r1,q1⟩=>?_
 obtain ⟨a,e,⟨xs,hq⟩,q⟩:=q1
 subst e
 cases r1
 obtain ⟨its,rv,p,hz⟩:=I1.tuple hq
 refine wpAny_pyIter_tuple (show s1.heap.IsTuple a its.toArray from p) ?_
 refine ⟨s1.heap.objs.size,[s1.heap.objs.size],_,_,H1,rfl,I1.kept (t':=s1.toks) fun b o e=>Heap.get?_push_of_some _ e,aAl a _,⟨_,Heap.get?_push_size _ rfl,rfl,rfl⟩,fun b hb=>?_,q⟩
 have e:b=s1.heap.objs.size:=by simpa using hb
 subst e
 exact I1.aHl (Nat.le_refl _) (I1.hok.fresh (Nat.le_refl _))
theorem yA {pins:Y8} {σ:St} {H:Hp} {s:Shared} {R:It->Hp->Prop} {E:Y9} {lo hi:Int} {t u v:Tok} {tk:Nat} (I:Inv X pins σ H s) (h1:-(2 ^ 62)<=lo) (h2:lo<2 ^ 62) (h3:-(2 ^ 62)<=hi) (h4:hi<2 ^ 62)
  (q:R (Itr lo (hi - lo).toNat) H):wpAny (model X.prog X.w) X.A (pyIter (.ref s.heap.objs.size)) (PIE X pins σ tg R) E { s with heap:=s.heap.push { cls:=.type "range",data:=.fields #[.int lo t,.int hi u,.int 1 v] },toks:=tk }:=by
 refine wpAny_pyIter_range (IsRange.new ..) (small_one h1 h2 h3 h4) ?_
 have I1:Inv X pins σ H { s with heap:=s.heap.push { cls:=.type "range",data:=.fields #[.int lo t,.int hi u,.int 1 v] },toks:=tk }:=I.kept fun b o e=>Heap.get?_push_of_some _ e
 refine ⟨(s.heap.push { cls:=.type "range",data:=.fields #[.int lo t,.int hi u,.int 1 v] }).objs.size,[(s.heap.push { cls:=.type "range",data:=.fields #[.int lo t,.int hi u,.int 1 v] }).objs.size],_,_,H,rfl,
  I1.kept (t':=tk) fun b o e=>Heap.get?_push_of_some _ e,zP _ lo (hi - lo).toNat,?_,fun b hb=>?_,q⟩
 ·have e1:lo+((0:Nat):Int) * 1=lo:=by simp
  have e2:(((hi - lo).toNat:Nat):Int) - ((0:Nat):Int)=Builtin.Range.rangeSize lo hi 1:=by rw [rangeSize_one];split<;>omega
  show IsRangeIter _ _ (lo+((0:Nat):Int) * 1) ((((hi - lo).toNat:Nat):Int) - ((0:Nat):Int)) 1
  rw [e1,e2]
  exact Heap.get?_push_size _ rfl
 ·have e:b=(s.heap.push { cls:=.type "range",data:=.fields #[.int lo t,.int hi u,.int 1 v] }).objs.size:=by simpa using hb
  subst e
  exact I1.aHl (Nat.le_refl _) (I1.hok.fresh (Nat.le_refl _))
def aKs (ta:TA):TI:=fun σ H R=>ta σ H fun vs H1=>∃j:Int,vs=[.int j]/\-(2 ^ 62)<=j/\j<2 ^ 62/\R (Itr 0 j.toNat) H1
def aLn (ta:TA):TI:=fun σ H R=>ta σ H fun vs H1=>∃i j:Int,vs=[.int i,.int j]/\(-(2 ^ 62)<=i/\i<2 ^ 62/\-(2 ^ 62)<=j/\j<2 ^ 62)/\R (Itr i (j - i).toNat) H1
theorem aCw {a:Expr} {ta:TA} {p pos:Pos} (hg:Gl X "range") (hm:X.mg "range" = none) (ha:PA X [a] ta) (hs:starEach [a] X.env=[(false,eval a X.env)]:=by rfl):PI X tg (.Call (.Name "range" p) [a] [] pos) (aKs ta):=by
 intro pins s σ H R I h
 refine Call_ (iR I hg hm boot_range (PyProof.Rows.callWith_type1 (thn (ha pos pins s σ H _ I h) fun us s1 ⟨vs,H1,I1,r1,q1⟩=>?_) hs rfl))
 obtain ⟨j,e,q1,q2,q⟩:=q1
 subst e
 cases r1 with
 | cons r rr =>
  cases rr
  obtain ⟨t,rfl⟩:=r
  exact call_range_1 (yA I1 (by omega) (by omega) q1 q2 (by simpa using q))
theorem aC6 {a b:Expr} {ta:TA} {p pos:Pos} (hg:Gl X "range") (hm:X.mg "range" = none) (ha:PA X [a,b] ta) (hs:starEach [a,b] X.env=[(false,eval a X.env),(false,eval b X.env)]:=by rfl) (hs2:starEach [b] X.env=[(false,eval b X.env)]:=by rfl) :
  PI X tg (.Call (.Name "range" p) [a,b] [] pos) (aLn ta):=by
 intro pins s σ H R I h
 refine Call_ (iR I hg hm boot_range (PyProof.Rows.callWith_type1 (thn (ha pos pins s σ H _ I h) fun us s1 ⟨vs,H1,I1,r1,q1⟩=>?_) (by rw [hs,hs2]) (by rw [hs2];rfl)))
 obtain ⟨i,j,e,⟨q1,q2,q3,q4⟩,q⟩:=q1
 subst e
 cases r1 with
 | cons r rr =>
  cases rr with
  | cons r' rr =>
   cases rr
   obtain ⟨t,rfl⟩:=r
   obtain ⟨t',rfl⟩:=r'
   exact call_range_2 (yA I1 q1 q2 q3 q4 q)
def aQ1 (wi:TI) (g:TG) (tb:TS):TS:=fun D σ H=>wi σ H fun J H1=>∃W:Nat->Nat->St->Hp->Prop,(∃m,W 0 m σ H1)/\∀i m σ H,W i m σ H ->
 (J.stop i H/\D.nx σ H)\/(J.go i H/\∃N:St->Hp->Prop,(∀σ' H',N σ' H'->∃m',m'<m/\W (i+1) m' σ' H')/\∀x H',J.yld i H x H'->g x σ H' fun σ2 H2=>tb { D with nx:=N,ct:=N,bk:=D.nx } σ2 H2)
def rF (fp:Y2) (h:Heap):Y8:=fp.filterMap fun b=>(h.get? b).map fun o=>(b,o)
theorem jS {fp:Y2} {h:Heap} {b:Addr} {o:Obj} (hb:b∈fp) (e:h.get? b=some o):(b,o)∈rF fp h:=List.mem_filterMap.mpr ⟨b,hb,by rw [e];rfl⟩
theorem aCr {fp:Y2} {h:Heap} {p:Addr×Obj} (hp:p∈rF fp h):p.1∈fp/\h.get? p.1=some p.2:=by
 obtain ⟨b,hb,e⟩:=List.mem_filterMap.mp hp
 cases q:h.get? b with
 | none=>rw [q] at e;cases e
 | some o =>
  rw [q] at e
  have e':(b,o)=p:=Option.some.inj e
  subst e'
  exact ⟨hb,q⟩
theorem Inv.pinned {pins:Y8} {σ:St} {H:Hp} {s:Shared} {fp:Y2} (I:Inv X pins σ H s) (hf:∀b∈fp,qY X pins H b) (ho:∀b∈fp,∃o,s.heap.get? b=some o/\∀v,o.data ≠ .cell v):Inv X (pins++rF fp s.heap) σ H s :=
 I.aCg fun p hp=>(List.mem_append.mp hp).elim (fun z=>I.pin p (List.mem_append_right _ z)) fun z=>by
  obtain ⟨hb,e⟩:=aCr z
  obtain ⟨f0,f1,f2,_⟩:=hf p.1 hb
  obtain ⟨o,e',d⟩:=ho p.1 hb
  rw [e] at e';cases e'
  exact ⟨e,f0,f1,f2,d⟩
theorem Inv.oC {pins pl:Y8} {σ:St} {H:Hp} {s:Shared} (I:Inv X (pins++pl) σ H s):Inv X pins σ H s:=I.aCg fun p hp=>I.pin p (List.mem_append_right _ (List.mem_append_left _ hp))
theorem aN3 {iter:Expr} {body:List Stmt} {wi:TI} {g:TG} {tb:TS} {pos:Pos} (hp:PassesOwn (model X.prog X.w) X.A X.env X.xe) (hc:X.calm=true) (hi:PI X tg iter wi) (hg:PG X tg g) (hb:PSs X body tb)
  (hs:∀x,foldedSetIterable iter X.env x=pure x:=by intro _;rfl):PS X (.For tg iter body [] pos) (aQ1 wi g tb):=by
 intro pins s σ H D I h
 refine wpAny_For (thn (hi pins s σ H _ I h) fun v s1 h1=>thn h1 fun itv s2 h2=>?_) hs
 obtain ⟨it,fp,tn,J,H2,e,I2,T,st2,f2,W,⟨m0,w0⟩,turn⟩:=h2
 subst e
 have stat:∀ {H':Hp},(∀b∈fp,H' b=none)->∀b∈fp,qY X pins H' b:=fun hn b hb=>⟨hn b hb,(f2 b hb).2⟩
 refine codeAny_forLoop_any (fun n s'=>∃i σ' H',Inv X pins σ' H' s'/\tn i s'.heap/\(∀b∈fp,H' b=none)/\W i n σ' H') ?_ m0 ⟨0,σ,H2,I2,st2,fun b hb=>(f2 b hb).1,w0⟩
 rintro n s3 ⟨i,σ3,H3,I3,st3,fr3,w3⟩
 rcases turn i n σ3 H3 w3 with ⟨stop,qn⟩ | ⟨go,N,hN,step⟩
 ·refine wpAny_passesOwn hp (thn (T.done X rfl rfl rfl hc i pins s3 σ3 H3 X.xe I3 (stat fr3) st3 stop) fun r s4 ⟨hr,I4⟩=>?_)
  subst hr
  exact wpAny_execs_nil ⟨σ3,H3,I4,qn⟩
 ·refine wpAny_passesOwn hp (thn (T.item X rfl rfl rfl hc i pins s3 σ3 H3 X.xe I3 (stat fr3) st3 go) fun r s4 ⟨u,hr,h4⟩=>?_)
  subst hr
  refine wpAny_passesOwn hp (thn h4 fun _ s5 ⟨x,H5,I5,r5,y5,st5,fr5⟩=>?_)
  have I5':=I5.pinned (stat fr5) (T.obj _ _ st5)
  refine wpAny_passesOwn hp (thn (hg _ s5 σ3 H5 x u _ I5' r5 (step x H5 y5)) fun _ s6 ⟨σ6,H6,I6,q6⟩=>?_)
  refine wpAny_passesOwn hp (thn (hb _ s6 σ6 H6 _ I6 q6) fun f s7 q7=>?_)
  have again:∀ {σ7:St} {H7:Hp},Inv X (pins++rF fp s5.heap) σ7 H7 s7->N σ7 H7->∃m,m<n/\∃i σ' H',Inv X pins σ' H' s7/\tn i s7.heap/\(∀b∈fp,H' b=none)/\W i m σ' H':=fun {σ7 H7} I7 n7=>by
   obtain ⟨m',hm,w7⟩:=hN σ7 H7 n7
   refine ⟨m',hm,i+1,σ7,H7,I7.oC,T.keep _ _ _ st5 fun b hb o e=>(I7.pin (b,o) (List.mem_append_right _ (List.mem_append_right _ (jS hb e)))).1,fun b hb=>?_,w7⟩
   obtain ⟨o,e,d⟩:=T.obj _ _ st5 b hb
   exact (I7.pin (b,o) (List.mem_append_right _ (List.mem_append_right _ (jS hb e)))).2.1
  cases f with
  | next=>obtain ⟨σ7,H7,I7,n7⟩:=q7;exact again I7 n7
  | cont=>obtain ⟨σ7,H7,I7,n7⟩:=q7;exact again I7 n7
  | brk=>obtain ⟨σ7,H7,I7,q7⟩:=q7;exact ⟨σ7,H7,I7.oC,q7⟩
  | ret v=>obtain ⟨x7,σ7,H7,I7,r7,q7⟩:=q7;exact ⟨x7,σ7,H7,I7.oC,r7,q7⟩
end
end L2
namespace L2
open PySem PySem.Spec PyProof.Rows
abbrev R2:=V->V->Hp->VK->Prop
def OpR (X:Cx) (f:Value->Value->Sem Value) (r:R2):Prop :=
 ∀(pins:Y8) (s:Shared) (σ:St) (H:Hp) (x y:V) (v u:Value) (Q:VK),Inv X pins σ H s->RelV x v->RelV y u->r x y H Q ->
  wpAny (model X.prog X.w) X.A (f v u) (EP X pins σ Q) X.xe s
def UnR (X:Cx) (f:Value->Sem Value) (r:V->Hp->VK->Prop):Prop :=
 ∀(pins:Y8) (s:Shared) (σ:St) (H:Hp) (x:V) (v:Value) (Q:VK),Inv X pins σ H s->RelV x v->r x H Q ->
  wpAny (model X.prog X.w) X.A (f v) (EP X pins σ Q) X.xe s
def jI (X:Cx) (f:Value) (r:List V->Hp->VK->Prop):Prop :=
 ∀(pins:Y8) (s:Shared) (σ:St) (H:Hp) (xs:List V) (us:Y1) (Q:VK),Inv X pins σ H s->Vals xs us->r xs H Q ->
  wpAny (model X.prog X.w) X.A (call f us) (EP X pins σ Q) X.xe s
def aT2 (X:Cx) (r:V->Hp->(Bool->Hp->Prop)->Prop):Prop :=
 ∀(pins:Y8) (s:Shared) (σ:St) (H:Hp) (x:V) (v:Value) (Q:Bool->Hp->Prop),Inv X pins σ H s->RelV x v->r x H Q ->
  wpAny (model X.prog X.w) X.A (truthy v) (TP X pins σ Q) X.xe s
def tOp (r:R2) (ta tb:TE):TE:=fun σ H Q=>ta σ H fun x H1=>tb σ H1 fun y H2=>r x y H2 Q
def tUn (r:V->Hp->VK->Prop) (ta:TE):TE:=fun σ H Q=>ta σ H fun x H1=>r x H1 Q
def rI (C:Int->Int->Prop) (g:Int->Int->V):R2:=fun x y H Q=>∃i j,x=.int i/\y=.int j/\C i j/\Q (g i j) H
def rI0 (g:Int->Int->V):R2:=fun x y H Q=>∃i j,x=.int i/\y=.int j/\Q (g i j) H
def rU (g:Int->V):V->Hp->VK->Prop:=fun x H Q=>∃i,x=.int i/\Q (g i) H
section
variable {X:Cx} {a b c:Expr} {ta tb tc:TE} {pos:Pos}
theorem aOi (ha:PE X a ta) (hb:PE X b tb) {pins:Y8} {s:Shared} {σ:St} {H:Hp} {R:V->V->Hp->Prop} (I:Inv X pins σ H s)
  (h:ta σ H fun x H1=>tb σ H1 fun y H2=>R x y H2) {Q:Y9} {f:Value->Value->Sem Value}
  (hf:∀v u s2 x y H2,Inv X pins σ H2 s2->RelV x v->RelV y u->R x y H2->wpAny (model X.prog X.w) X.A (f v u) Q X.xe s2) :
  wpAny (model X.prog X.w) X.A (eval a X.env) (fun v s₁=>wpAny (model X.prog X.w) X.A (eval b X.env) (fun u s₂=>wpAny (model X.prog X.w) X.A (f v u) Q X.xe s₂) X.xe s₁) X.xe s:=by
 refine thn (ha pins s σ H _ I h) fun v s1 ⟨x,H1,I1,r1,q1⟩=>?_
 refine thn (hb pins s1 σ H1 _ I1 q1) fun u s2 ⟨y,H2,I2,r2,q2⟩=>?_
 exact hf v u s2 x y H2 I2 r1 r2 q2
theorem aQk {op:Operator} {r:R2} (ho:OpR X (binaryOp op) r) (ha:PE X a ta) (hb:PE X b tb):PE X (.BinOp a op b pos) (tOp r ta tb):=by
 intro pins s σ H Q I h
 exact wpAny_BinOp (aOi ha hb I h fun v u s2 x y H2 I2 rx ry q=>ho pins s2 σ H2 x y v u Q I2 rx ry q)
theorem aQf {op:UnaryOp} {r:V->Hp->VK->Prop} (ho:UnR X (unaryOp op) r) (ha:PE X a ta):PE X (.UnaryOp op a pos) (tUn r ta):=by
 intro pins s σ H Q I h
 exact UnaryOp_ (thn (ha pins s σ H _ I h) fun v s1 ⟨x,H1,I1,r1,q1⟩=>ho pins s1 σ H1 x v Q I1 r1 q1)
theorem opI {f:Value->Value->Sem Value} {C:Int->Int->Prop} {g:Int->Int->Int}
  (rule:∀(i j:Int) (t u:Tok) (s:Shared) (Q:Y9) (E:Y9),C i j->Q (.int (g i j) s.toks) { s with toks:=s.toks+1 }->wpAny (model X.prog X.w) X.A (f (.int i t) (.int j u)) Q E s) :
  OpR X f (rI C fun i j=>.int (g i j)):=by
 intro pins s σ H x y v u Q I rx ry h
 obtain ⟨i,j,rfl,rfl,hc,q⟩:=h
 obtain ⟨t,rfl⟩:=rx
 obtain ⟨t',rfl⟩:=ry
 exact rule i j t t' s _ _ hc ⟨.int (g i j),H,I.tok _,⟨_,rfl⟩,q⟩
theorem aRu {f:Value->Value->Sem Value} {g:Int->Int->Int}
  (rule:∀(i j:Int) (t u:Tok) (s:Shared) (Q:Y9) (E:Y9),Q (.int (g i j) s.toks) { s with toks:=s.toks+1 }->wpAny (model X.prog X.w) X.A (f (.int i t) (.int j u)) Q E s) :
  OpR X f (rI0 fun i j=>.int (g i j)):=by
 intro pins s σ H x y v u Q I rx ry h
 obtain ⟨i,j,rfl,rfl,q⟩:=h
 obtain ⟨t,rfl⟩:=rx
 obtain ⟨t',rfl⟩:=ry
 exact rule i j t t' s _ _ ⟨.int (g i j),H,I.tok _,⟨_,rfl⟩,q⟩
theorem aHt {f:Value->Value->Sem Value} {g:Int->Int->Bool}
  (rule:∀(i j:Int) (t u:Tok) (s:Shared) (Q:Y9) (E:Y9),Q (.bool (g i j)) s->wpAny (model X.prog X.w) X.A (f (.int i t) (.int j u)) Q E s) :
  OpR X f (rI0 fun i j=>.bl (g i j)):=by
 intro pins s σ H x y v u Q I rx ry h
 obtain ⟨i,j,rfl,rfl,q⟩:=h
 obtain ⟨t,rfl⟩:=rx
 obtain ⟨t',rfl⟩:=ry
 exact rule i j t t' s _ _ ⟨.bl (g i j),H,I,rfl,q⟩
theorem aNi:OpR X (binaryOp .Add) (rI0 fun i j=>.int (i+j)):=aRu fun _ _ _ _ _ _ _ q=>add_int q
theorem aMn:OpR X (binaryOp .Sub) (rI0 fun i j=>.int (i - j)):=aRu fun _ _ _ _ _ _ _ q=>sub_int q
theorem aM0:OpR X (binaryOp .Mod) (rI (fun _ j=>0<j) fun i j=>.int (i % j)):=opI fun i j _ _ _ _ _ hc q=>by
 have h1:(0:Int)<j:=hc
 exact mod_int' (by omega) (by rw [Int.fmod_eq_emod_of_nonneg i (by omega)];exact q)
theorem unI {f:Value->Sem Value} {g:Int->Int}
  (rule:∀(i:Int) (t:Tok) (s:Shared) (Q:Y9) (E:Y9),Q (.int (g i) s.toks) { s with toks:=s.toks+1 }->wpAny (model X.prog X.w) X.A (f (.int i t)) Q E s) :
  UnR X f (rU fun i=>.int (g i)):=by
 intro pins s σ H x v Q I rx h
 obtain ⟨i,rfl,q⟩:=h
 obtain ⟨t,rfl⟩:=rx
 exact rule i t s _ _ ⟨.int (g i),H,I.tok _,⟨_,rfl⟩,q⟩
theorem aN2:UnR X (unaryOp .USub) (rU fun i=>.int (-i)):=unI fun _ _ _ _ _ q=>neg_int q
end
section
variable {X:Cx} {a b c:Expr} {ta tb tc:TE} {pos:Pos}
theorem aGv {pins:Y8} {σ:St} {H:Hp} {s:Shared} {Q:VK} {k k':Bool} (I:Inv X pins σ H s) (q:Q (.bl k) H) (e:k=k'):EP X pins σ Q (.bool k') s:=by
 subst e
 exact ⟨.bl k,H,I,rfl,q⟩
theorem aK9:OpR X (compareOp .Lt) (rI0 fun i j=>.bl (decide (i<j))):=aHt fun _ _ _ _ _ _ _ q=>lt_int q
theorem rV:OpR X (compareOp .LtE) (rI0 fun i j=>.bl (decide (i<=j))):=aHt fun _ _ _ _ _ _ _ q=>le_int q
theorem aPf:OpR X (compareOp .Gt) (rI0 fun i j=>.bl (decide (j<i))):=aHt fun _ _ _ _ _ _ _ q=>gt_int q
theorem aQw:OpR X (compareOp .GtE) (rI0 fun i j=>.bl (decide (j<=i))):=aHt fun _ _ _ _ _ _ _ q=>ge_int q
theorem aM6:OpR X (compareOp .Is) (fun x y H Q=>y=.non/\Q (.bl (decide (x=.non))) H):=by
 intro pins s σ H x y v u Q I rx ry h
 obtain ⟨rfl,q⟩:=h
 cases ry
 refine is_none_gen (aGv I q ?_)
 cases x<;>first
  | (cases rx;rfl)
  | (obtain ⟨t,rfl⟩:=rx;rfl)
theorem aA0:OpR X (compareOp .IsNot) (fun x y H Q=>y=.non/\Q (.bl (!decide (x=.non))) H):=by
 intro pins s σ H x y v u Q I rx ry h
 obtain ⟨rfl,q⟩:=h
 cases ry
 refine isnot_none_gen (aGv I q ?_)
 cases x<;>first
  | (cases rx;rfl)
  | (obtain ⟨t,rfl⟩:=rx;rfl)
theorem OpR.or {f:Value->Value->Sem Value} {r r':R2} (h:OpR X f r) (h':OpR X f r'):OpR X f (fun x y H Q=>r x y H Q\/r' x y H Q):=by
 intro pins s σ H x y v u Q I rx ry q
 rcases q with q | q
 ·exact h pins s σ H x y v u Q I rx ry q
 ·exact h' pins s σ H x y v u Q I rx ry q
theorem iX (b:Expr) {op:CmpOp} (h:op ≠ .In:=by decide) (h2:op ≠ .NotIn:=by decide):behindInMarks op b=false:=by
 have e1:(op == CmpOp.In)=false:=by cases op<;>first | rfl | exact absurd rfl h
 have e2:(op == CmpOp.NotIn)=false:=by cases op<;>first | rfl | exact absurd rfl h2
 cases b<;>simp [behindInMarks,e1,e2]
theorem aHy {op:CmpOp} {r:R2} (ho:OpR X (compareOp op) r) (ha:PE X a ta) (hb:PE X b tb) (hm:behindInMarks op b=false):PE X (.Compare a [op] [b] pos) (tOp r ta tb):=by
 intro pins s σ H Q I h
 exact wpAny_Compare1 (aOi ha hb I h fun v u s2 x y H2 I2 rx ry q=>ho pins s2 σ H2 x y v u Q I2 rx ry q) hm
def xS (t:TE):TT:=fun σ H Q=>t σ H fun x H'=>∃k,x=.bl k/\Q k H'
theorem aHr {op:CmpOp} {r:R2} (ho:OpR X (compareOp op) r) (ha:PE X a ta) (hb:PE X b tb) (hm:behindInMarks op b=false):PT X (.Compare a [op] [b] pos) (xS (tOp r ta tb)):=by
 intro pins s σ H Q I h
 refine wpAny_isTrue_Compare1 (thn (ha pins s σ H _ I h) fun v s1 ⟨x,H1,I1,r1,q1⟩=>thn (hb pins s1 σ H1 _ I1 q1) fun u s2 ⟨y,H2,I2,r2,q2⟩ =>
  thn (ho pins s2 σ H2 x y v u _ I2 r1 r2 q2) fun c s3 ⟨z,H3,I3,r3,k,e,q3⟩=>?_) hm
 subst e
 cases r3
 exact wpAny_truthy_bool ⟨H3,I3,q3⟩
def zX (r r':R2) (ta tb tc:TE):TE:=fun σ H Q=>ta σ H fun x H1=>tb σ H1 fun y H2=>r x y H2 fun z H3=>∃k,z=.bl k /\
 (if k=true then tc σ H3 fun w' H4=>r' y w' H4 Q else Q (.bl false) H3)
theorem aG2 {op op':CmpOp} {r r':R2} (ho:OpR X (compareOp op) r) (ho':OpR X (compareOp op') r') (ha:PE X a ta) (hb:PE X b tb) (hc:PE X c tc)
  (hm:lastMarks [op,op'] [b,c]=false:=by with_unfolding_all rfl):PE X (.Compare a [op,op'] [b,c] pos) (zX r r' ta tb tc):=by
 intro pins s σ H Q I h
 refine Compare_chain (thn (ha pins s σ H _ I h) fun v s1 ⟨x,H1,I1,r1,q1⟩=>chain_link (thn (hb pins s1 σ H1 _ I1 q1) fun u s2 ⟨y,H2,I2,r2,q2⟩ =>
  thn (ho pins s2 σ H2 x y v u _ I2 r1 r2 q2) fun d s3 ⟨z,H3,I3,r3,k,e,q3⟩=>?_)) hm
 subst e
 cases r3
 refine wpAny_truthy_bool ?_
 cases k with
 | false=>exact ite_ff ⟨.bl false,H3,I3,rfl,q3⟩
 | true=>exact ite_tt (chain_last (thn (hc pins s3 σ H3 _ I3 q3) fun w' s4 ⟨z',H4,I4,r4,q4⟩=>ho' pins s4 σ H4 y z' u w' Q I4 r2 r4 q4))
theorem aEr {op op':CmpOp} {r r':R2} (ho:OpR X (compareOp op) r) (ho':OpR X (compareOp op') r') (ha:PE X a ta) (hb:PE X b tb) (hc:PE X c tc)
  (hm:lastMarks [op,op'] [b,c]=false:=by with_unfolding_all rfl):PT X (.Compare a [op,op'] [b,c] pos) (xS (zX r r' ta tb tc)):=by
 intro pins s σ H Q I h
 refine isTrue_chain (thn (ha pins s σ H _ I h) fun v s1 ⟨x,H1,I1,r1,q1⟩=>test_link (thn (hb pins s1 σ H1 _ I1 q1) fun u s2 ⟨y,H2,I2,r2,q2⟩ =>
  thn (ho pins s2 σ H2 x y v u _ I2 r1 r2 q2) fun d s3 ⟨z,H3,I3,r3,k,e,q3⟩=>?_)) hm
 subst e
 cases r3
 refine wpAny_truthy_bool ?_
 cases k with
 | false =>
  obtain ⟨k',e',q'⟩:=q3
  cases e'
  exact ite_ff ⟨H3,I3,q'⟩
 | true =>
  refine ite_tt (test_last (thn (hc pins s3 σ H3 _ I3 q3) fun w' s4 ⟨z',H4,I4,r4,q4⟩=>thn (ho' pins s4 σ H4 y z' u w' _ I4 r2 r4 q4) fun d' s5 ⟨z2,H5,I5,r5,k2,e2,q5⟩=>?_))
  subst e2
  cases r5
  exact wpAny_truthy_bool ⟨H5,I5,q5⟩
def aN1 (K:FG) (x:V) (H:Hp) (k:Bool):Prop :=
 match x with
 | .non=>k=false
 | .bl b=>k=b
 | .int i=>k=(i != 0)
 | .str y=>y.length<=sizeLine/\k=((y.length:Int) != 0)
 | .byt y=>y.size<=sizeLine/\k=((y.size:Int) != 0)
 | .ref p=>(∃xs,SqL K H p xs/\k = !xs.isEmpty)\/(∃xs,SqT K H p xs/\k = !xs.isEmpty)\/∃kvs,H p=some (.dK kvs)/\k = !kvs.isEmpty
 | _=>False
theorem aAx {κ:Type} {kvs:List (κ×V)} {vs:List (κ×Value)} (r:KV kvs vs):(!vs.isEmpty) = !kvs.isEmpty:=by
 cases r<;>rfl
theorem sE {xs:List V} {its:Y1} (r:Vals xs its):(!its.toArray.isEmpty) = !xs.isEmpty:=by
 cases r<;>simp
theorem sL:(sizeLine:Nat)<2 ^ 63:=by rw [sizeLine_eq];decide
theorem aLz:aT2 X (fun x H Q=>∃k,aN1 X.K x H k/\Q k H):=by
 intro pins s σ H x v Q I rx h
 obtain ⟨k,e,q⟩:=h
 have hl:=sL
 have hs:sizeLine=16777216:=sizeLine_eq
 cases x with
 | non =>
  cases rx
  have e':k=false:=e
  subst e'
  exact truthy_none ⟨H,I,q⟩
 | bl b =>
  cases rx
  have e':k=b:=e
  subst e'
  exact wpAny_truthy_bool ⟨H,I,q⟩
 | int i =>
  obtain ⟨t,rfl⟩:=rx
  have e':k=(i != 0):=e
  subst e'
  exact PySem.P.truthy_int ⟨H,I,q⟩
 | str y =>
  obtain ⟨t,rfl⟩:=rx
  obtain ⟨hy,e'⟩:y.length<=sizeLine/\k=((y.length:Int) != 0):=e
  subst e'
  exact PySem.P.truthy_str (by omega) ⟨H,I.tok _,q⟩
 | byt y =>
  obtain ⟨t,rfl⟩:=rx
  obtain ⟨hy,e'⟩:y.size<=sizeLine/\k=((y.size:Int) != 0):=e
  subst e'
  exact PySem.W.truthy_bytes (by omega) ⟨H,I.tok _,q⟩
 | ref p =>
  cases rx
  have e':(∃xs,SqL X.K H p xs/\k = !xs.isEmpty)\/(∃xs,SqT X.K H p xs/\k = !xs.isEmpty)\/∃kvs,H p=some (.dK kvs)/\k = !kvs.isEmpty:=e
  rcases e' with ⟨xs,hx,e'⟩ | ⟨xs,hx,e'⟩ | ⟨kvs,hx,e'⟩
  ·subst e'
   obtain ⟨its,r,pl,hz⟩:=I.list hx
   have hlen:=r.length
   exact wpAny_truthy_list pl.isList (by simp only [List.size_toArray];omega) ⟨H,I.tok _,by rw [sE r];exact q⟩
  ·subst e'
   obtain ⟨its,r,pl,hz⟩:=I.tuple hx
   have hlen:=r.length
   exact truthy_tuple pl (by simp only [List.size_toArray];omega) ⟨H,I.tok _,by rw [sE r];exact q⟩
  ·subst e'
   obtain ⟨hz,hS,vs,r,m⟩:kvs.length<=sizeLine/\(p == sysModules)=false/\∃vs,KV kvs vs/\s.heap.DictOf (vQ X.prog X.w) p vs:=I.hok p _ hx
   have hlen:kvs.length=vs.length:=Paired.length r
   exact wpAny_truthy_dict hS m (by omega) ⟨H,I.tok _,by rw [aAx r];exact q⟩
 | _=>exact (show False from e).elim
theorem aFe (ha:PE X a ta) (he:∀whole,isTrue a X.env whole=(do let v <- whole;standAt a.pos;holding [v] (truthy v))) :
  PT X a (fun σ H Q=>ta σ H fun x H'=>∃k,aN1 X.K x H' k/\Q k H'):=by
 intro pins s σ H Q I h
 exact isTrue_plain (thn (ha pins s σ H _ I h) fun v s1 ⟨x,H1,I1,r1,q1⟩=>aLz pins s1 σ H1 x v Q I1 r1 q1) (he _)
theorem vals1 {x:V} {us:Y1} (r:Vals [x] us):∃u,us=[u]/\RelV x u:=by
 cases r with
 | cons r1 r2=>cases r2;exact ⟨_,rfl,r1⟩
theorem vals2 {x y:V} {us:Y1} (r:Vals [x,y] us):∃u w',us=[u,w']/\RelV x u/\RelV y w':=by
 cases r with
 | cons r1 r2 =>
  cases r2 with
  | cons r3 r4=>cases r4;exact ⟨_,_,rfl,r1,r3⟩
theorem aCk (hc:X.calm=true):jI X (.builtin "max") (fun xs H Q=>∃i j,xs=[.int i,.int j]/\Q (.int (if j > i then j else i)) H):=by
 intro pins s σ H xs us Q I r h
 obtain ⟨i,j,rfl,q⟩:=h
 obtain ⟨u,w',rfl,⟨t,rfl⟩,⟨t',rfl⟩⟩:=vals2 r
 refine max_two_ints (I.ok.hd hc) fun h' tk k=>⟨_,H,I.kept k,?_,q⟩
 by_cases hj:j > i
 ·rw [if_pos hj,if_pos hj];exact ⟨_,rfl⟩
 ·rw [if_neg hj,if_neg hj];exact ⟨_,rfl⟩
end
end L2
namespace L2
open PySem PySem.Spec PyProof.Rows
structure ObjM (h:Heap) (x dx C:Addr) (mA:Y6):Prop where
 obj:h.get? x=some (PySem.W.instObj C dx)
 ns:h.Ns1 dx mA
 ne:dx ≠ x
theorem aDe {h:Heap} {dx:Addr} {mA:Y6} (n:h.Ns1 dx mA):∃od,h.get? dx=some od/\∀name,PySem.W.lookIn name od=some (mA name):=by
 obtain ⟨o,es,ep,ho,hd,hk,_,hm⟩:=n
 refine ⟨o,ho,fun name=>?_⟩
 have e:=hm name
 unfold nsFind findBy at e
 rw [<- Array.find?_toList] at e
 unfold PySem.W.lookIn
 rw [hd]
 dsimp only
 split
 ·rename_i y q
  rw [q] at e
  exact congrArg some e
 ·rename_i q
  rw [q] at e
  have a:es.toList.any (·.refKey)=false:=by
   rw [List.any_eq_false]
   intro y hy
   obtain ⟨z,t,hkey⟩:=hk y (Array.mem_toList_iff.mp hy)
   simp [DictEntry.refKey,hkey]
  have a':¬ es.toList.any (·.refKey)=true:=by rw [a];exact Bool.false_ne_true
  rw [if_neg a']
  exact congrArg some e
theorem ObjM.look {h:Heap} {x dx C:Addr} {mA:Y6} (I:ObjM h x dx C mA):∃od,PySem.W.InstAt h x (PySem.W.instObj C dx) C (some od)/\∀name,PySem.W.lookIn name od=some (mA name) :=
 let ⟨od,ho,hl⟩:=aDe I.ns
 ⟨od,⟨I.obj,rfl,rfl,ho⟩,hl⟩
section
variable {prog:Program} {w:World} {A:Around} {E:Y9} {s:Shared} {K:FG} {x dx C f:Addr} {mA:Y6} {name:Str} {v:Value}
end
section
variable {P:Program} {w:World} {H H':Hp} {h h':Heap} {a C dx:Addr} {fs fs':List (Str×V)}
theorem gR (hok:HOk P w H h) (e:H a=some (.ins C dx fs)):∃mA,ObjM h a dx C mA/\(∀f,aMo (fs.lookup f) (mA f))/\PySem.Within mA (fs.map (·.1))/\fs.length<=1000/\H dx=some (.own a):=by
 obtain ⟨d,z,ne,ob,mA,n,r,q⟩:=(show dC P w H h a (.ins C dx fs) from hok a _ e)
 exact ⟨mA,⟨ob,n,ne⟩,r,q,z,d⟩
end
structure Cls (K:FG) (C:Addr):Prop where
 pg:PySem.W.plainGet K C Str.empty=true
 hd:PySem.W.hasDictIn K C=true
 po:PySem.W.plainOver K C=true
 sa:PySem.W.findIn K (.ref C) "__setattr__" = some (some (.builtin "object.__setattr__"))
theorem Cls.get {K:FG} {C:Addr} (c:Cls K C) (f:Str):PySem.W.plainGet K C f=true:=c.pg
section
variable {X:Cx} {pins:Y8} {σ:St} {H:Hp} {s:Shared} {a C dx:Addr} {fs:List (Str×V)} {f:Str} {v:V} {A:Around} {E:Y9}
end
section
variable {X:Cx} {o e value:Expr} {f:Str} {pos pos' tpos:Pos} {ta tv:TE}
end
section
variable {X:Cx} {pins:Y8} {σ:St} {H:Hp} {s:Shared} {A:Around} {E:Y9} {Q:Y9} {c:Value} {b:Bool}
inductive TyOf (K:FG) (H:Hp):V->Value->Prop where
 | non:TyOf K H .non (.type "NoneType")
 | bl (x:Bool):TyOf K H (.bl x) (.type "bool")
 | int (i:Int):TyOf K H (.int i) (.type "int")
 | str (x:Str):TyOf K H (.str x) (.type "str")
 | flt (x:UInt64):TyOf K H (.flt x) (.type "float")
 | lst {a:Addr} {xs:List V} (e:H a=some (.lst xs)):TyOf K H (.ref a) (.type "list")
 | frz {a:Addr} {o:Obj} {xs:List V} (e:H a=some (.frz o (.lst xs))):TyOf K H (.ref a) (.type "list")
 | tup {a:Addr} {xs:List V} (e:H a=some (.tup xs)):TyOf K H (.ref a) (.type "tuple")
 | dK {a:Addr} {kvs:List (Key×V)} (e:H a=some (.dK kvs)):TyOf K H (.ref a) (.type "dict")
 | dT {a:Addr} {kvs:List (List Key×V)} (e:H a=some (.dT kvs)):TyOf K H (.ref a) (.type "dict")
 | ins {a C dx:Addr} {fs:List (Str×V)} (e:H a=some (.ins C dx fs)) (cl:Cls K C) (ha:PySem.W.findIn K (.ref C) "__class__" = some (some (.builtin "object.__class__")))
   (hn:PySem.W.specialIn K (.builtin "object.__class__") "__get__" = some (some (.builtin "getset_descriptor.__get__"))) (htk:PySem.W.takesIn K (.builtin "object.__class__")=some true)
   (hm:PySem.W.mroIn K C (.type "object")=some true):TyOf K H (.ref a) (.ref C)
theorem hG {x:V} {u t:Value} (I:Inv X pins σ H s) (rx:RelV x u) (ty:TyOf X.K H x t) (e:PySem.W.kitOne X.K t c=some b) (h:∀tk,Q (.bool b) { s with toks:=tk }) :
  wpAny (model X.prog X.w) A (call (.builtin "isinstance") [u,c]) Q E s:=by
 cases ty with
 | non=>cases (show u=Value.none from rx);exact PySem.W.kia_one PySem.W.kitx_none I.kIn True.intro e (fun z=>nomatch z) h
 | bl y=>cases (show u=Value.bool y from rx);exact PySem.W.kia_one PySem.W.kitx_bool I.kIn True.intro e (fun z=>nomatch z) h
 | int i=>obtain ⟨t,q⟩:=(show ∃t,u=Value.int i t from rx);cases q;exact PySem.W.kia_one PySem.W.kitx_int I.kIn True.intro e (fun z=>nomatch z) h
 | str y=>obtain ⟨t,q⟩:=(show ∃t,u=Value.str y t from rx);cases q;exact PySem.W.kia_one PySem.W.kitx_str I.kIn True.intro e (fun z=>nomatch z) h
 | flt y=>obtain ⟨t,q⟩:=(show ∃t,u=Value.float y t from rx);cases q;exact PySem.W.kia_one PySem.W.kitx_float I.kIn True.intro e (fun z=>nomatch z) h
 | @lst a xs ea =>
  cases (show u=Value.ref a from rx)
  obtain ⟨_,_,n,_,h1⟩:=(show dC X.prog X.w H s.heap a (.lst xs) from I.hok a _ ea)
  exact PySem.W.kia_one PySem.W.kitx_list I.kIn ⟨_,h1,rfl⟩ e (fun z=>nomatch z) h
 | @frz a ob xs ea =>
  cases (show u=Value.ref a from rx)
  obtain ⟨_,_,_,n,_,h1⟩:=(show dC X.prog X.w H s.heap a (.frz ob (.lst xs)) from I.hok a _ ea)
  exact PySem.W.kia_one PySem.W.kitx_list I.kIn ⟨_,h1,rfl⟩ e (fun z=>nomatch z) h
 | @tup a xs ea =>
  cases (show u=Value.ref a from rx)
  obtain ⟨_,_,_,p⟩:=(show dC X.prog X.w H s.heap a (.tup xs) from I.hok a _ ea)
  obtain ⟨o,h1,h2,_⟩:=p
  exact PySem.W.kia_one PySem.W.kitx_tuple I.kIn ⟨o,h1,h2⟩ e (fun z=>nomatch z) h
 | @dK a kvs ea =>
  cases (show u=Value.ref a from rx)
  obtain ⟨_,_,vs,_,p⟩:=(show dC X.prog X.w H s.heap a (.dK kvs) from I.hok a _ ea)
  obtain ⟨o,es,ep,h1,h2,_⟩:=p
  exact PySem.W.kia_one PySem.W.kitx_dict I.kIn ⟨o,h1,h2.1⟩ e (fun z=>nomatch z) h
 | @dT a kvs ea =>
  cases (show u=Value.ref a from rx)
  obtain ⟨_,_,xs,_,o,es,ep,h1,h2,_⟩:=(show dC X.prog X.w H s.heap a (.dT kvs) from I.hok a _ ea)
  exact PySem.W.kia_one PySem.W.kitx_dict I.kIn ⟨o,h1,h2.1⟩ e (fun z=>nomatch z) h
 | @ins a C dx fs ea cl ha hn htk hm =>
  cases (show u=Value.ref a from rx)
  obtain ⟨mA,O,_⟩:=gR I.hok ea
  obtain ⟨od,J,_⟩:=O.look
  exact PySem.W.kia_one (PySem.W.kitx_own (cl.get _) cl.hd ha hn htk hm) I.kIn J e (fun z=>nomatch z) h
end
end L2
namespace L2
open PySem PySem.Spec PyProof.Rows
structure Room (k:Nat) (A:Around):Prop where
 hd:A.handled=none
 dp:A.depth+3 * k+5<recursionLimit
 un:A.units+16 * k+200<cLine
theorem Room.mono {j k:Nat} {A:Around} (r:Room k A) (h:j<=k):Room j A:=⟨r.hd,by have:=r.dp;omega,by have:=r.un;omega⟩
theorem Room.deeper {k:Nat} {A:Around} (r:Room (k+1) A) (env:Env):Room k (A.deeper env) :=
 ⟨r.hd,by have:=r.dp;show A.depth+1+3 * k+5<_;omega,by have:=r.un;show A.units+3+16 * k+200<_;omega⟩
theorem Room.depth {k:Nat} {A:Around} (r:Room k A):A.depth<recursionLimit:=by have:=r.dp;omega
def aD6:TA:=fun _ H Q=>Q [] H
def xH (ta:TE) (tr:TA):TA:=fun σ H Q=>ta σ H fun x H1=>tr σ H1 fun xs H2=>Q (x::xs) H2
section
variable {X:Cx} {e:Expr} {es:List Expr} {te:TE} {t:TA} {pos:Pos}
theorem mS:PA X [] aD6:=fun _ _ _ _ H Q I h=>Calls.spliced_nil ⟨[],H,I,.nil,h⟩
theorem gN (ha:PE X e te) (hr:PA X es t) (hs:starEach (e::es) X.env=(false,eval e X.env)::starEach es X.env:=by rfl):PA X (e::es) (xH te t):=by
 intro pos pins s σ H Q I h
 rw [hs]
 show wpAny _ _ (spliced ((false,eval e X.env)::backTo pos (starEach es X.env))) _ _ s
 refine Calls.spliced_cons (thn (ha pins s σ H _ I h) fun u s1 ⟨x,H1,I1,r1,q1⟩=>?_)
 exact thn (hr pos pins s1 σ H1 _ I1 q1) fun us s2 ⟨xs,H2,I2,r2,q2⟩=>⟨x::xs,H2,I2,.cons r1 r2,q2⟩
def aQp (t:TA):TE:=fun σ H Q=>t σ H fun xs H1=>xs.length<=sizeLine/\∀p,H1 p=none->Q (.ref p) (upd H1 p (.tup xs))
def aPu (t:TA):TE:=fun σ H Q=>t σ H fun xs H1=>xs.length<=sizeLine/\∀p,H1 p=none->Q (.ref p) (upd H1 p (.lst xs))
theorem aNl {x1} (h:PA X es t):PE X (.Tuple es x1 pos) (aQp t):=by
 intro pins s σ H Q I hq
 refine wpAny_Tuple_spliced (thn (h pos pins s σ H _ I hq) fun us s1 ⟨xs,H1,I1,r,z,q⟩=>⟨by rw [<- r.length];exact z,?_⟩)
 have hf:H1 s1.heap.objs.size=none:=I1.hok.fresh (Nat.le_refl _)
 refine ⟨.ref s1.heap.objs.size,upd H1 s1.heap.objs.size (.tup xs),I1.laid (t':=s1.toks) (fun b u e=>Heap.get?_push_of_some _ e) (Nat.le_refl _) ?_,rfl,q _ hf⟩
 exact ⟨z,us,r,⟨_,Heap.get?_push_size _ rfl,rfl,_,rfl⟩⟩
theorem aLx (h:PA X es t):PE X (.List es pos) (aPu t):=by
 intro pins s σ H Q I hq
 refine wpAny_List_spliced (thn (h pos pins s σ H _ I hq) fun us s1 ⟨xs,H1,I1,r,z,q⟩=>⟨by rw [<- r.length];exact z,?_⟩)
 have hf:H1 s1.heap.objs.size=none:=I1.hok.fresh (Nat.le_refl _)
 refine ⟨.ref s1.heap.objs.size,upd H1 s1.heap.objs.size (.lst xs),I1.laid (t':=s1.toks) (fun b u e=>Heap.get?_push_of_some _ e) (Nat.le_refl _) ?_,rfl,q _ hf⟩
 exact ⟨z,us,0,r,Heap.get?_push_size _ rfl⟩
end
abbrev Sp:=List V->Hp->VK->XK->Prop
abbrev CXT:=List Env->Hp->Shared->XK->Value->Shared->Prop
structure Env0 (P:Program) (w:World) (K:FG) (mg:Y6) (base:Heap) (A:Around) (outer:List Env) (s:Shared) (H:Hp):Prop where
 frames:A.frames=some outer
 mod:Mod K mg base
 bs:∀b o,base.get? b=some o->s.heap.get? b=some o/\H b=none
 bsz:base.objs.size<=s.heap.objs.size
 funs:s.heap.FunFrames base outer
 frf:∀b∈frs outer,H b=none
 hok:HOk P w H s.heap
 bare:AllBare s.gens
def CE (outer:List Env) (P:Program) (w:World) (H:Hp) (s:Shared) (Q:VK) (u:Value) (s':Shared):Prop :=
 ∃v H',s'.os=s.os/\AllBare s'.gens/\Un (frs outer) [] H H' s.heap s'.heap/\HOk P w H' s'.heap/\RelV v u/\Q v H'
def CR (CX:CXT) (outer:List Env) (P:Program) (w:World) (H:Hp) (s:Shared) (Q:VK) (E:XK) (r:Result) (s':Shared):Prop :=
 match r with
 | .ok (.ret u)=>CE outer P w H s Q u s'
 | .ok _=>False
 | .error e=>CX outer H s E e s'
structure FnOk (P:Program) (w:World) (K:FG) (mg:Y6) (base:Heap) (CX:CXT) (k:Nat) (f:Addr) (fd:FuncData) (ps:List Str) (sp:Sp):Prop where
 len:∀vs H Q E,sp vs H Q E->vs.length=ps.length
 run:∀(A:Around) (outer:List Env) (s:Shared) (H:Hp) (args:Args) (us:Y1) (vs:List V) (Q:VK) (E:XK),Room k A->Env0 P w K mg base A outer s H->BindsTo s fd args (ps.zip us)->Vals vs us->sp vs H Q E ->
  codeAny (model P w) A (.call (.ref f) args) (CR CX outer P w H s Q E) s
section
variable {X:Cx} {pins:Y8} {σ:St} {H:Hp} {s s':Shared}
theorem Inv.aR9 (I:Inv X pins σ H s):Env0 X.prog X.w X.K X.mg X.base X.A X.stack s H :=
 ⟨I.ok.frames,I.ok.mod,I.bs,Nat.le_trans I.ok.bsz I.sz,I.stack,I.pX,I.hok,I.bare⟩
theorem Inv.after {Q:VK} {u:Value} (I:Inv X pins σ H s) (h:CE X.stack X.prog X.w H s Q u s'):EP X pins σ Q u s':=by
 obtain ⟨v,H',os,bare,un,hok,r,q⟩:=h
 obtain ⟨hh,g,d,t,os'⟩:=s'
 obtain rfl:os'=s.os:=os
 exact ⟨v,H',I.call (h':=hh) (g':=g) (d':=d) (t':=t) (ch:=[]) un hok bare (fun b z=>absurd z (by simp)),r,q⟩
end
def aKt (sp:Sp) (dvs:List V) (E:XK) (t:TA):TE:=fun σ H Q=>t σ H fun vs H1=>sp (vs++dvs) H1 Q E
def Binds (K:FG) (fd:FuncData) (ps:List Str) (ds:Y1):Prop :=
 ∀(s:Shared) (us:Y1),K.In s.heap->(us++ds).length=ps.length->BindsTo s fd ⟨us,[]⟩ (ps.zip (us++ds))
theorem Binds.all {K:FG} {fd:FuncData} {ps:List Str} (h:∀us:Y1,us.length=ps.length->bindArgs fd ⟨us,[]⟩=pure (ps.zip us)):Binds K fd ps []:=fun s us _ hl=>by
 rw [List.append_nil] at hl ⊢
 exact .of_eq (h us hl)
def Passes (CX:CXT) (X:Cx) (E:XK):Prop:=∀(pins:Y8) (σ:St) (H:Hp) (s:Shared) (e:Value) (s':Shared),Inv X pins σ H s->CX X.stack H s E e s'->X.xe e s'
section
variable {X:Cx} {CX:CXT} {k:Nat} {f C:Addr} {fd:FuncData} {ps:List Str} {sp:Sp} {dvs:List V} {ds:Y1} {E:XK} {x m:Str} {p pos apos:Pos} {e o:Expr} {es:List Expr} {ta:TE} {t:TA}
theorem aM9 {pins:Y8} {σ:St} {H:Hp} {s:Shared} {Q:VK} {us:Y1} {vs:List V} (F:FnOk X.prog X.w X.K X.mg X.base CX k f fd ps sp) (hr:Room k X.A) (hb:Binds X.K fd ps ds) (hd:Vals dvs ds) (hx:Passes CX X E)
  (I:Inv X pins σ H s) (r:Vals vs us) (h:sp (vs++dvs) H Q E):wpAny (model X.prog X.w) X.A (call (.ref f) us) (EP X pins σ Q) X.xe s:=by
 have r2:Vals (vs++dvs) (us++ds):=r.append hd
 have hl:(us++ds).length=ps.length:=by rw [<- r2.length];exact F.len _ _ _ _ h
 refine wpAny_call (codeAny_mono (F.run X.A X.stack s H ⟨us,[]⟩ (us++ds) (vs++dvs) Q E hr I.aR9 (hb s us I.kIn hl) r2 h) fun r s' hq=>?_)
 cases r with
 | error e=>exact hx pins σ H s e s' I hq
 | ok fl =>
  cases fl with
  | ret u=>exact I.after hq
  | next=>exact False.elim hq
  | brk=>exact False.elim hq
  | cont=>exact False.elim hq
theorem aHq (F:FnOk X.prog X.w X.K X.mg X.base CX k f fd ps sp) (hr:Room k X.A) (hg:Gl X x) (hm:X.mg x=some (.ref f)) (hk:PySem.W.keepIn X.K (.ref f)=true) (hb:Binds X.K fd ps ds) (hd:Vals dvs ds) (hx:Passes CX X E)
  (ha:PA X (e::es) t) (hdb:(x == ("__debug__" : Str))=false:=by decide) (he:starEach (e::es) X.env=(false,eval e X.env)::starEach es X.env:=by rfl) (hpl:(backTo pos (starEach es X.env)).any (·.1)=false:=by rfl) :
  PE X (.Call (.Name x p) (e::es) [] pos) (aKt sp dvs E t):=by
 intro pins s σ H Q I h
 refine wpAny_Call_Name_kw (nW I hg hm ?_ hdb)
 refine PySem.W.callWith_K (h₀:=X.base) I.ok.mod.kin hk (thn (ha pos pins s σ H _ I h) fun us s1 ⟨vs,H1,I1,r,q⟩=>⟨I1.kIn,?_⟩) he hpl
 exact aM9 F hr hb hd hx I1 r q
end
section
variable {X:Cx} {CX:CXT} {k:Nat} {f C:Addr} {fd:FuncData} {ps ks:List Str} {sp:Sp} {E:XK} {x m:Str} {p pos apos kpos:Pos} {e o:Expr} {es:List Expr} {kws:List Keyword} {te ta:TE} {t tk:TA} {nm:Option Str}
variable {g:Y1->Y1->Y1} {gV:List V->List V->List V}
end
structure FnScope (N P:List Str) (sc:Scope):Prop where
 kind:sc.kind=.function
 co:sc.isCoroutine=false
 gen:sc.isGenerator=false
 nd:N.Nodup
 pre:N.take P.length=P
 par:∀x∈P,sc.names.lookup x=some .local\/sc.names.lookup x=some .cell
 nofree:∀y∈sc.names,y.2 ≠ .free
theorem tF {kindOf:Str->Option NameKind} {x:Str}:∀ {binds:List (Str×Value)} {m:Y6},(∀v,(x,v) ∉ binds)->bindL kindOf binds m x=m x
 | [],_,_=>rfl
 | (n,v)::r,m,h=>by
  unfold bindL
  rw [tF fun w hw=>h w (List.mem_cons_of_mem _ hw)]
  split
  ·have:x ≠ n:=by rintro rfl;exact h v List.mem_cons_self
   simp [this]
  ·rfl
theorem tG {kindOf:Str->Option NameKind} {x:Str}:∀ {binds:List (Str×Value)} {m:Y6},(∀v,(x,v) ∉ binds)->bindC kindOf binds m x=m x
 | [],_,_=>rfl
 | (n,v)::r,m,h=>by
  unfold bindC
  rw [tG fun w hw=>h w (List.mem_cons_of_mem _ hw)]
  split
  ·rfl
  ·have:x ≠ n:=by rintro rfl;exact h v List.mem_cons_self
   simp [this]
theorem tQ {kindOf:Str->Option NameKind} {x:Str} {v:Value}:∀ {P:List Str} {vs:Y1} {i:Nat} {m:Y6},P.Nodup->P[i]?=some x->vs[i]?=some v->kindOf x=some .local ->
  bindL kindOf (P.zip vs) m x=some v
 | [],_,_,_,_,h,_,_=>by simp at h
 | _::_,[],_,_,_,_,h,_=>by simp at h
 | p::P,w::vs,0,m,nd,h1,h2,hk=>by
  simp at h1 h2;subst h1;subst h2
  show bindL kindOf ((p,w)::P.zip vs) m p=_
  unfold bindL
  rw [tF fun v hv=>(List.nodup_cons.mp nd).1 (List.of_mem_zip hv).1,if_pos hk]
  simp
 | p::P,w::vs,i+1,m,nd,h1,h2,hk=>by
  show bindL kindOf ((p,w)::P.zip vs) m x=_
  unfold bindL
  exact tQ (i:=i) (List.nodup_cons.mp nd).2 (by simpa using h1) (by simpa using h2) hk
theorem tY {kindOf:Str->Option NameKind} {x:Str} {v:Value}:∀ {P:List Str} {vs:Y1} {i:Nat} {m:Y6},P.Nodup->P[i]?=some x->vs[i]?=some v->kindOf x ≠ some .local ->
  bindC kindOf (P.zip vs) m x=some v
 | [],_,_,_,_,h,_,_=>by simp at h
 | _::_,[],_,_,_,_,h,_=>by simp at h
 | p::P,w::vs,0,m,nd,h1,h2,hk=>by
  simp at h1 h2;subst h1;subst h2
  show bindC kindOf ((p,w)::P.zip vs) m p=_
  unfold bindC
  rw [tG fun v hv=>(List.nodup_cons.mp nd).1 (List.of_mem_zip hv).1,if_neg hk]
  simp
 | p::P,w::vs,i+1,m,nd,h1,h2,hk=>by
  show bindC kindOf ((p,w)::P.zip vs) m x=_
  unfold bindC
  exact tY (i:=i) (List.nodup_cons.mp nd).2 (by simpa using h1) (by simpa using h2) hk
def start (N:List Str) (vs:List V):St:=vs.map some++List.replicate (N.length - vs.length) none
def lO (CX:CXT) (P:Program) (w:World) (K:FG) (mg:Y6) (base:Heap) (N:List Str) (qual:Str) (scope:Scope) (f:Addr) (cd:Value) (A:Around) (outer:List Env) (s:Shared) (H:Hp) (E:XK):Cx where
 prog:=P
 w:=w
 K:=K
 mg:=mg
 base:=base
 A:=A.deeper (envOfC qual scope s.heap.objs.size f cd)
 N:=N
 s₀:=s
 H₀:=H
 env:=envOfC qual scope s.heap.objs.size f cd
 outer:=outer
 stack:=envOfC qual scope s.heap.objs.size f cd::outer
 ex:=[]
 calm:=true
 fn:=fun _=>true
 pn:=[]
 xe:=fun e s'=>wpAny (model P w) (A.deeper (envOfC qual scope s.heap.objs.size f cd)) (leaving (envOfC qual scope s.heap.objs.size f cd) e) (fun _ s''=>CX outer H s E e s'') (fun e' s''=>CX outer H s E e' s'') s'
theorem yE {sc:Scope} {n:Nat} {x:Str} (h:sc.names.lookup x=some .cell):∃c,(cellsFrom n sc.names []).lookup x=some c:=by
 have q:=PySem.W.cellsFrom_some sc.names n [] (.inl h)
 exact Option.isSome_iff_exists.mp q
theorem aDk {CX:CXT} {P:Program} {w:World} {K:FG} {mg:Y6} {base:Heap} {N ps:List Str} {qual:Str} {scope:Scope} {f:Addr} {cd:Value} {A:Around} {outer:List Env} {s s1:Shared} {H:Hp} {E:XK} {us:Y1} {vs:List V}
  (S:FnScope N ps scope) (hd:A.handled=none) (e0:Env0 P w K mg base A outer s H) (hl:vs.length=ps.length) (r:Vals vs us)
  (x:InCallC s s.heap.objs.size (bindL (envOfC qual scope s.heap.objs.size f cd).kindOf (ps.zip us) fun _=>none) (cellsFrom (s.heap.objs.size+1) scope.names []) (bindC (envOfC qual scope s.heap.objs.size f cd).kindOf (ps.zip us) fun _=>none) s1) :
  Inv (lO CX P w K mg base N qual scope f cd A outer s H E) [] (start N vs) H s1:=by
 have hpl:ps.length<=N.length:=by have:=congrArg List.length S.pre;rw [List.length_take] at this;omega
 obtain ⟨h1,tk,rfl,hk⟩:=x.done
 have noA:∀b:Addr,b ∉ (lO CX P w K mg base N qual scope f cd A outer s H E).ex:=fun b z=>absurd (show b∈([]:Y2) from z) (by simp)
 refine ⟨⟨e0.mod,S.kind,rfl,rfl,Nat.le_refl _,fun y z c h1 h2=>?_,fun y hy=>?_,fun y c _ h=>?_,fun _=>hd,Around.frames_deeper e0.frames,.inr ⟨rfl,rfl⟩,fun b z=>absurd z (noA b),e0.bs,e0.bsz,fun b _ _=>noA b,fun b z=>absurd z (noA b),e0.funs,e0.frf⟩,
  rfl,e0.bare,Un.kept hk,⟨_,x.toInCall.ns,fun i y v h1 h2 h3=>?_⟩,fun y c h=>⟨_,x.cell y c h⟩,e0.hok.fresh (Nat.le_refl _),fun y c h=>?_,fun p hp=>absurd (show p∈([]:Y8) from hp) (by simp),e0.hok.kept hk,?_⟩
 ·exact name_of_addr x.apart (PySem.mem_of_lookup h1) (PySem.mem_of_lookup h2)
 ·have hy:scope.names.lookup y=some .cell\/scope.names.lookup y=some .free:=hy
  rcases hy with hy | hy
  ·exact yE hy
  ·exact absurd rfl (S.nofree _ (PySem.mem_of_lookup hy))
 ·exact Nat.le_of_lt (x.above y c (PySem.mem_of_lookup h))
 ·have hi:i<vs.length:=by
   unfold start at h2
   by_cases hi:i<vs.length
   ·exact hi
   ·rw [List.getElem?_append_right (by simpa using hi)] at h2
    rw [List.getElem?_replicate] at h2
    split at h2<;>cases h2
  have ha:vs[i]?=some v:=by
   unfold start at h2
   rw [List.getElem?_append_left (by simpa using hi),List.getElem?_map] at h2
   cases e:vs[i]? with
   | none=>rw [e] at h2;cases h2
   | some a=>rw [e] at h2;cases h2;rfl
  obtain ⟨u,hu,rv⟩:=r.get ha
  have hp:ps[i]?=some y:=by
   rw [<- S.pre,List.getElem?_take_of_lt (by omega)];exact h1
  have ndP:ps.Nodup:=by rw [<- S.pre];exact S.nd.sublist (List.take_sublist _ _)
  refine ⟨u,rv,?_⟩
  rcases S.par y (List.mem_of_getElem? hp) with k | k
  ·exact .inl ⟨k,tQ ndP hp hu k⟩
  ·obtain ⟨c,e⟩:=yE (n:=s.heap.objs.size+1) k
   refine .inr ⟨.inl k,c,e,?_⟩
   have q:=x.cell y c e
   rw [tY ndP hp hu (by show scope.names.lookup y ≠ _;rw [k];decide)] at q
   exact q
 ·exact e0.hok.fresh (Nat.le_of_lt (x.above y c (PySem.mem_of_lookup h)))
 ·unfold start
  show _=N.length
  rw [List.length_append,List.length_map,List.length_replicate]
  omega
theorem aK5 {CX:CXT} {P:Program} {w:World} {K:FG} {mg:Y6} {base:Heap} {k:Nat} {f:Addr} {name qual:Str} {params:Arguments} {body:List Stmt} {scope:Scope} {dV kV doc pm cdv ct oc:Value} {an od:Option Addr}
  {osl:Array (Option Value)} {N ps:List Str} {sp:Sp} (lk:K.lookup f=some ⟨oc,od,.func (PySem.W.fnOf name qual params body scope dV kV doc pm an cdv ct),osl⟩) (hcd:PySem.W.codeIn K cdv qual=true) (S:FnScope N ps scope)
  (len:∀vs H Q E,sp vs H Q E->vs.length=ps.length)
  (hbody:∀(A:Around) (outer:List Env) (s:Shared) (H:Hp) (vs:List V) (Q:VK) (E:XK),Room k (A.deeper (envOfC qual scope s.heap.objs.size f cdv))->sp vs H Q E ->
   ∃t,PSs (lO CX P w K mg base N qual scope f cdv A outer s H E) body t/\t { nx:=fun _ H'=>Q .non H',rt:=Q } (start N vs) H) :
  FnOk P w K mg base CX (k+1) f (PySem.W.fnOf name qual params body scope dV kV doc pm an cdv ct) ps sp:=by
 refine ⟨len,fun A outer s H args us vs Q E hr e0 hb r hsp=>?_⟩
 have hl:=len _ _ _ _ hsp
 have KX:K.In s.heap:=e0.mod.kin.keeps fun b o e=>(e0.bs b o e).1
 have lim:s.heap.NoLimit:=e0.mod.nolimit.keeps fun b o e=>(e0.bs b o e).1
 have hkind:∀y∈ps.zip us,scope.names.lookup y.1=some .local\/(scope.names.lookup y.1=some .cell/\((cellsFrom (s.heap.objs.size+1) scope.names []).lookup y.1).isSome=true):=fun ⟨n,v⟩ hy=>by
  rcases S.par n (List.of_mem_zip hy).1 with q | q
  ·exact .inl q
  ·exact .inr ⟨q,PySem.W.cellsFrom_some _ _ _ (.inl q)⟩
 refine codeAny_call_function hr.depth (KX _ _ lk) rfl S.co S.gen rfl (PySem.W.codeRec_of KX hcd) (hb _ _ _ _ ?_)
 refine wpAny_newFunctionEnv_cells S.kind hkind fun env he s1 x=>?_
 subst he
 refine ⟨lim.keeps x.toInCall.keep,codeAny_func ?_⟩
 obtain ⟨t,ht,hq⟩:=hbody A outer s H vs Q E (hr.deeper _) hsp
 have I:Inv (lO CX P w K mg base N qual scope f cdv A outer s H E) [] (start N vs) H s1:=aDk S hr.hd e0 hl r x
 refine wpAny_mono (ht [] s1 (start N vs) H _ I hq) (fun fl s' hs=>?_) fun e s' hs=>hs
 have fin:∀ {σ':St} {H':Hp} {v:V} {u:Value},Inv (lO CX P w K mg base N qual scope f cdv A outer s H E) [] σ' H' s'->RelV v u->Q v H'->CE outer P w H s Q u s' :=
  fun {σ' H' v u} J rv q=>⟨v,H',J.os,J.bare,J.base,J.hok,rv,q⟩
 cases fl with
 | ret u =>
  obtain ⟨v,σ',H',J,rv,q⟩:=hs
  exact fin J rv q
 | next =>
  obtain ⟨σ',H',J,q⟩:=hs
  exact fin (v:=V.non) (u:=Value.none) J rfl q
 | brk =>
  obtain ⟨_,_,_,q⟩:=hs
  exact False.elim q
 | cont =>
  obtain ⟨_,_,_,q⟩:=hs
  exact False.elim q
end L2
namespace L2
open PySem PySem.Spec PyProof.Rows
section
variable {X:Cx} {x:Str} {p pos:Pos} {e:Expr} {es:List Expr} {t:TA} {id T:String} {r:List V->Hp->VK->Prop}
def tCB (r:List V->Hp->VK->Prop) (t:TA):TE:=fun σ H Q=>t σ H fun vs H1=>r vs H1 Q
theorem sH (hc:jI X (.builtin id) r) (hg:Gl X x) (hm:X.mg x=none) (hv:bootBuiltins x=some (.builtin id)) (ha:PA X (e::es) t) (hn:x ≠ "__name__" :=by decide) (hdb:(x == ("__debug__" : Str))=false:=by decide)
  (he:starEach (e::es) X.env=(false,eval e X.env)::starEach es X.env:=by rfl) (hpl:(backTo pos (starEach es X.env)).any (·.1)=false:=by rfl):PE X (.Call (.Name x p) (e::es) [] pos) (tCB r t):=by
 intro pins s σ H Q I h
 refine wpAny_Call_Name_kw (iR I hg hm hv ?_ hn hdb)
 exact PyProof.Rows.callWith_builtin1 (thn (ha pos pins s σ H _ I h) fun us s1 ⟨vs,H1,I1,r1,q1⟩=>hc pins s1 σ H1 vs us Q I1 r1 q1) he hpl
theorem aDn (hc:jI X (.type T) r) (hg:Gl X x) (hm:X.mg x=none) (hv:bootBuiltins x=some (.type T)) (ha:PA X (e::es) t) (hn:x ≠ "__name__" :=by decide) (hdb:(x == ("__debug__" : Str))=false:=by decide)
  (he:starEach (e::es) X.env=(false,eval e X.env)::starEach es X.env:=by rfl) (hpl:(backTo pos (starEach es X.env)).any (·.1)=false:=by rfl):PE X (.Call (.Name x p) (e::es) [] pos) (tCB r t):=by
 intro pins s σ H Q I h
 refine wpAny_Call_Name_kw (iR I hg hm hv ?_ hn hdb)
 exact PyProof.Rows.callWith_type1 (thn (ha pos pins s σ H _ I h) fun us s1 ⟨vs,H1,I1,r1,q1⟩=>hc pins s1 σ H1 vs us Q I1 r1 q1) he hpl
end
end L2
namespace HT
open PySem PyProof.Rows
theorem aHg (A:Around) (s:Shared) (a:Int) (t:Tok) (c:Int) (u:Tok):∃e,SeqAt.EqAt A s (.int a t) (.int c u) e/\(e=true ↔ a=c) :=
 ⟨(a == c),SeqAt.EqAt.int_int a t c u,by simp⟩
section
open PySem.SeqAt
open PySem.AutoSeq1 (wpAny_loadPart')
open PySem.MeetsSeq PySem.MeetsSeq2 PySem.MeetsSeq3
end
section
variable {prog:Program} {w:World} {A:Around} {E:Y9} {s:Shared}
theorem cat_tup {t b:Addr} {vs ws:Y1} {Q:Y9} (ht:IsTup s.heap t vs.toArray) (hb:IsTup s.heap b ws.toArray) (hv:vs ≠ [])
  (h1:ws=[]->Q (.ref t) s) (h2:ws ≠ []->Q (.ref s.heap.objs.size) { s with heap:=s.heap.push { cls:=.type "tuple",data:=.seq (vs++ws).toArray } })
  (hsz:vs.length+ws.length<=sizeLine):wpAny (model prog w) A (binaryOp .Add (.ref t) (.ref b)) Q E s:=by
 obtain ⟨⟨cls,dd,data,sl⟩,ho,hc,n,hd⟩:=id ht
 obtain ⟨⟨cls2,dd2,data2,sl2⟩,ho2,hc2,n2,hd2⟩:=id hb
 simp only at hc hd hc2 hd2
 subst hc hd hc2 hd2
 have e:vs.toArray++ws.toArray=(vs++ws).toArray:=by simp
 by_cases hw:ws=[]
 ·exact concat_meets ⟨_,ho,rfl⟩ ⟨_,ho2,rfl⟩ noFill_tuple_add seq_tuple_add PySem.F.slot_tuple_add PySem.F.entry_tuple_add (PySem.F.args_tuple_add_2 _ _)
   (tuple_addW1 t b vs.toArray ws.toArray n n2 dd dd2 sl sl2 (by simpa using hv) (by simp [hw])) ⟨ho,ho2,h1 hw⟩
 ·refine concat_meets ⟨_,ho,rfl⟩ ⟨_,ho2,rfl⟩ noFill_tuple_add seq_tuple_add PySem.F.slot_tuple_add PySem.F.entry_tuple_add (PySem.F.args_tuple_add_2 _ _)
   (tuple_addW2 t b vs.toArray ws.toArray n n2 dd dd2 sl sl2 (by simpa using hv) (by simpa using hw) (by rw [List.size_toArray,List.size_toArray];exact hsz)) ⟨ho,ho2,?_⟩
  rw [e]
  exact h2 hw
def sIx (n d:Nat):Option Int->Nat
 | none=>d
 | some v=>if v<0 then (v+(n:Int)).toNat else min v.toNat n
end
end HT
namespace L2
open PySem PySem.Spec PyProof.Rows
abbrev TO:=St->Hp->(Option Int->Hp->Prop)->Prop
def PO (X:Cx) (e:Option Expr) (t:TO):Prop :=
 ∀(pins:Y8) (s:Shared) (σ:St) (H:Hp) (Q:Option Int->Hp->Prop),Inv X pins σ H s->t σ H Q ->
  wpAny (model X.prog X.w) X.A (evalPart e X.env) (fun u s'=>∃o H',Inv X pins σ H' s'/\IsPart u o/\Q o H') X.xe s
def aCc:TO:=fun _ H Q=>Q none H
def aLo (t:TE):TO:=fun σ H Q=>t σ H fun x H1=>∃i,x=.int i/\Q (some i) H1
theorem intsAre_of {ns:Y0}:∀ {us:Y1},Vals (ns.map V.int) us->IntsAre us ns:=by
 induction ns with
 | nil=>intro us r;rw [List.map_nil] at r;cases r;exact .nil
 | cons n ns ih =>
  intro us r
  rw [List.map_cons] at r
  cases r with
  | cons r1 r2 =>
   obtain ⟨t,e⟩:=r1
   subst e
   exact .cons n t (ih r2)
section
variable {X:Cx} {e:Expr} {te:TE} {lo hi:Option Expr} {tl th:TO} {pos p2:Pos}
theorem aH4:PO X none aCc:=by
 intro pins s σ H Q I h
 rw [evalPart_none]
 exact wpAny_pure ⟨none,H,I,.none,h⟩
theorem aJa (h:PE X e te):PO X (some e) (aLo te):=by
 intro pins s σ H Q I hw
 rw [evalPart_some]
 refine thn (h pins s σ H _ I hw) fun u s1 ⟨x,H1,I1,r1,q1⟩=>?_
 obtain ⟨i,rfl,q⟩:=q1
 obtain ⟨t,rfl⟩:=r1
 exact ⟨some i,H1,I1,.int i t,q⟩
def SlR (X:Cx) (r:V->Option Int->Option Int->Hp->VK->Prop):Prop :=
 ∀(pins:Y8) (s:Shared) (σ:St) (H:Hp) (x:V) (v vl vu:Value) (lo hi:Option Int) (sl:Addr) (Q:VK),Inv X pins σ H s->RelV x v->s.heap.IsSliceOf sl vl vu .none->IsPart vl lo->IsPart vu hi->r x lo hi H Q ->
  ∃T id,typeLookup (.type T) "__getitem__" = pure (some (.builtin id))/\s.TypeIs v T/\wpAny (model X.prog X.w) X.A (getItem v (.ref sl)) (EP X pins σ Q) X.xe s
def tSl (r:V->Option Int->Option Int->Hp->VK->Prop) (te:TE) (tl th:TO):TE:=fun σ H Q=>te σ H fun x H1=>tl σ H1 fun l H2=>th σ H2 fun u H3=>r x l u H3 Q
theorem aGw {r:V->Option Int->Option Int->Hp->VK->Prop} (hr:SlR X r) (he:PE X e te) (hl:PO X lo tl) (hu:PO X hi th):PE X (.Subscript e (.Slice lo hi none p2) pos) (tSl r te tl th):=by
 intro pins s σ H Q I h
 refine Subscript_ (thn (he pins s σ H _ I h) fun v s1 ⟨x,H1,I1,r1,q1⟩=>?_)
 refine wpAny_Slice (thn (hl pins s1 σ H1 _ I1 q1) fun vl s2 ⟨l,H2,I2,pl,q2⟩=>thn (hu pins s2 σ H2 _ I2 q2) fun vu s3 ⟨u,H3,I3,pu,q3⟩=>?_)
 rw [evalPart_none]
 refine wpAny_pure ?_
 have I4:Inv X pins σ H3 { s3 with heap:=s3.heap.push { cls:=.type "slice",data:=.fields #[vl,vu,.none] } }:=I3.kept (t':=s3.toks) fun b ob q=>Heap.get?_push_of_some _ q
 obtain ⟨T,id,hT,ht,hg⟩:=hr pins { s3 with heap:=s3.heap.push { cls:=.type "slice",data:=.fields #[vl,vu,.none] } } σ H3 x v vl vu l u s3.heap.objs.size Q I4 r1 (Heap.IsSliceOf.new ..) pl pu q3
 show wpAny (model X.prog X.w) X.A (subscriptTail e (.Slice lo hi none p2) v (.ref s3.heap.objs.size)) (EP X pins σ Q) X.xe { s3 with heap:=s3.heap.push { cls:=.type "slice",data:=.fields #[vl,vu,.none] } }
 exact tail_any (ops:=[.ref s3.heap.objs.size,v]) ht hT hg (by with_unfolding_all rfl)
def aC9 (xs:List V) (lo hi:Option Int):List V:=(xs.drop (HT.sIx xs.length 0 lo)).take (HT.sIx xs.length xs.length hi - HT.sIx xs.length 0 lo)
theorem yD (xs:List V) (lo hi:Option Int):(aC9 xs lo hi).length<=xs.length:=by
 unfold aC9
 rw [List.length_take,List.length_drop]
 omega
def aLq (K:FG):R2:=fun x y H Q=>∃a b xs ys,x=.ref a/\y=.ref b/\SqT K H a xs/\SqT K H b ys/\xs ≠ []/\xs.length+ys.length<=sizeLine /\
 (ys=[]->Q (.ref a) H)/\(ys ≠ []->∀p,H p=none->Q (.ref p) (upd H p (.tup (xs++ys))))
theorem Vals.vT {xs:List V} {us:Y1} (r:Vals xs us):us=[] ↔ xs=[]:=by
 cases r with
 | nil=>simp
 | cons _ _=>simp
theorem aJ8:OpR X (binaryOp .Add) (aLq X.K):=by
 intro pins s σ H x y v u Q I rx ry h
 obtain ⟨a,b,xs,ys,rfl,rfl,ha,hb,hx,hz,q1,q2⟩:=h
 cases rx
 cases ry
 obtain ⟨its,r1,p1,_⟩:=I.tuple ha
 obtain ⟨its2,r2,p2,_⟩:=I.tuple hb
 refine HT.cat_tup p1 p2 (fun z=>hx (r1.vT.mp z)) (fun z=>⟨.ref a,H,I,rfl,q1 (r2.vT.mp z)⟩) (fun z=>?_) (by rw [<- r1.length,<- r2.length];exact hz)
 refine ⟨.ref s.heap.objs.size,_,I.laid (t':=s.toks) (o:=.tup (xs++ys)) (fun b ob q=>Heap.get?_push_of_some _ q) (Nat.le_refl _) ?_,rfl,q2 (fun w=>z (r2.vT.mpr w)) _ (I.hok.fresh (Nat.le_refl _))⟩
 exact ⟨by rw [List.length_append];exact hz,_,r1.append r2,IsTup.new _ _⟩
end
end L2
namespace L2
open PySem PySem.Spec PyProof.Rows
def ixN (n:Nat) (i:Int):Option Nat:=if 0<=i then (if i<n then some i.toNat else none) else if -(n:Int)<=i then some (i+n).toNat else none
def atI {α:Type} (xs:List α) (i:Int):Option α:=(ixN xs.length i).bind fun j=>xs[j]?
theorem aA5 {n:Nat} {i:Int} {j:Nat} (h:ixN n i=some j):seqIndex? i n=some j/\j<n/\-(n:Int)<=i/\i<n:=by
 unfold ixN at h
 by_cases h0:0<=i
 ·rw [if_pos h0] at h
  by_cases h1:i<n
  ·rw [if_pos h1] at h
   have e:i.toNat=j:=Option.some.inj h
   exact ⟨by rw [seqIndex_of h0 h1,e],by omega,by omega,h1⟩
  ·rw [if_neg h1] at h;cases h
 ·rw [if_neg h0] at h
  by_cases h1:-(n:Int)<=i
  ·rw [if_pos h1] at h
   have e:(i+n).toNat=j:=Option.some.inj h
   exact ⟨by rw [seqIndex_neg (by omega) h1,e],by omega,h1,by omega⟩
  ·rw [if_neg h1] at h;cases h
theorem aBb {α:Type} {xs:List α} {i:Int} {v:α} (h:atI xs i=some v):∃j,seqIndex? i xs.length=some j/\xs[j]?=some v/\j<xs.length/\-(xs.length:Int)<=i/\i<xs.length:=by
 unfold atI at h
 cases e:ixN xs.length i with
 | none=>rw [e] at h;cases h
 | some j =>
  rw [e] at h
  obtain ⟨h1,h2,h3,h4⟩:=aA5 e
  exact ⟨j,h1,h,h2,h3,h4⟩
def vL (b:Expr):Prop:=∀o i,subscripted b false o i=operate [o,i] (getItem o i)
def IxR (X:Cx) (r:R2):Prop :=
 ∀(value slice:Expr) (pins:Y8) (s:Shared) (σ:St) (H:Hp) (x y:V) (v u:Value) (Q:VK),Inv X pins σ H s->RelV x v->RelV y u->r x y H Q ->
  subscripted slice false v u=operate [v,u] (getItem v u)->wpAny (model X.prog X.w) X.A (subscriptTail value slice v u) (EP X pins σ Q) X.xe s
def MtR (X:Cx) (id:String) (r:V->List V->Hp->VK->Prop):Prop :=
 ∀(pins:Y8) (s:Shared) (σ:St) (H:Hp) (x:V) (xs:List V) (v:Value) (us:Y1) (Q:VK),Inv X pins σ H s->RelV x v->Vals xs us->r x xs H Q ->
  wpAny (model X.prog X.w) X.A (call (.builtin id) (v::us)) (EP X pins σ Q) X.xe s
section
variable {X:Cx} {a b:Expr} {ta tb:TE} {pos:Pos}
theorem IxR.or {r r':R2} (h:IxR X r) (h':IxR X r'):IxR X (fun x y H Q=>r x y H Q\/r' x y H Q):=by
 intro value slice pins s σ H x y v u Q I rx ry q hs
 rcases q with q | q
 ·exact h value slice pins s σ H x y v u Q I rx ry q hs
 ·exact h' value slice pins s σ H x y v u Q I rx ry q hs
theorem aKq {r:R2} (hr:IxR X r) (ha:PE X a ta) (hb:PE X b tb) (hs:vL b):PE X (.Subscript a b pos) (tOp r ta tb):=by
 intro pins s σ H Q I h
 exact Subscript_ (aOi ha hb I h fun v u s2 x y H2 I2 rx ry q=>hr a b pins s2 σ H2 x y v u Q I2 rx ry q (hs _ _))
def aL8 (K:FG):R2:=fun x y H Q=>∃p xs i v,x=.ref p/\y=.int i/\SqL K H p xs/\atI xs i=some v/\Q v H
def aRm (K:FG):R2:=fun x y H Q=>∃p xs i v,x=.ref p/\y=.int i/\SqT K H p xs/\atI xs i=some v/\Q v H
theorem aBk:IxR X (aL8 X.K):=by
 intro value slice pins s σ H x y v u Q I rx ry h hs
 obtain ⟨p,xs,i,z,rfl,rfl,hq,he,q⟩:=h
 cases rx
 obtain ⟨t,rfl⟩:=ry
 obtain ⟨its,r,pl,hz⟩:=I.list hq
 obtain ⟨j,h1,h2,h3,h4,h5⟩:=aBb he
 obtain ⟨w,ew,rw'⟩:=r.get h2
 have hl:=r.length
 have hn:=sL
 have fin:EP X pins σ Q w s:=⟨z,H,I,rw',q⟩
 by_cases h0:0<=i
 ·have hj:i.toNat=j:=by
   rw [seqIndex_of h0 h5] at h1
   exact Option.some.inj h1
  exact item_listR pl.isList h0 (by omega) (by rw [hj];simpa using ew) fin hs
 ·have hj:(i+(its.toArray.size:Int)).toNat=j:=by
   rw [seqIndex_neg (by omega) h4] at h1
   rw [List.size_toArray,<- hl]
   exact Option.some.inj h1
  exact subscriptTail_builtinR (x:=w) pl.isList.typeIs slot_list_getitem.lookup
   (wpAny_getItem_list_neg (Q:=fun r s'=>r=w/\EP X pins σ Q r s') pl.isList (by omega) (by rw [List.size_toArray]<;>omega) (by omega) (by rw [hj];simpa using ew) ⟨rfl,fin⟩) hs
theorem aNc:IxR X (aRm X.K):=by
 intro value slice pins s σ H x y v u Q I rx ry h hs
 obtain ⟨p,xs,i,z,rfl,rfl,hq,he,q⟩:=h
 cases rx
 obtain ⟨t,rfl⟩:=ry
 obtain ⟨its,r,pl,hz⟩:=I.tuple hq
 obtain ⟨j,h1,h2,h3,h4,h5⟩:=aBb he
 obtain ⟨w,ew,rw'⟩:=r.get h2
 have hl:=r.length
 have hn:=sL
 have fin:EP X pins σ Q w s:=⟨z,H,I,rw',q⟩
 exact subscriptTail_builtinR (x:=w) pl.typeIs slot_tuple_getitem.lookup
  (getItem_tuple (j:=j) (Q:=fun r s'=>r=w/\EP X pins σ Q r s') pl (by omega) (by omega) (by rw [List.size_toArray,<- hl];exact h1) (by simpa using ew) ⟨rfl,fin⟩) hs
theorem aAd (its:Y1) (n j:Nat) (u:Value):Obj.mapSeq (·.setIfInBounds j u) { cls:=.type "list",data:=.seq its.toArray n }={ cls:=.type "list",data:=.seq (its.set j u).toArray n }:=by
 simp [Obj.mapSeq]
theorem Inv.lst {pins:Y8} {σ:St} {H:Hp} {s:Shared} {p:Addr} {xs:List V} (I:Inv X pins σ H s) (h:H p=some (.lst xs)) :
  ∃(its:Y1) (n:Nat),Vals xs its/\s.heap.get? p=some { cls:=.type "list",data:=.seq its.toArray n }/\xs.length<=sizeLine:=by
 obtain ⟨z,its,n,r,e⟩:=I.hok p _ h
 exact ⟨its,n,r,e,z⟩
theorem Inv.aO7 {pins:Y8} {σ:St} {H:Hp} {s:Shared} {p:Addr} {xs ys:List V} {its its':Y1} {n n':Nat} {f:Obj->Obj} (I:Inv X pins σ H s) (h:H p=some (.lst xs))
  (ho:s.heap.get? p=some { cls:=.type "list",data:=.seq its.toArray n }) (hf:f { cls:=.type "list",data:=.seq its.toArray n }={ cls:=.type "list",data:=.seq its'.toArray n' }) (r:Vals ys its') (hz:ys.length<=sizeLine) (t:Nat) :
  Inv X pins σ (upd H p (.lst ys)) { s with heap:=s.heap.update p f,toks:=t }:=by
 have e:(s.heap.update p f).get? p=some { cls:=.type "list",data:=.seq its'.toArray n' }:=by
  rw [Heap.get?_update_self f ho (by rw [hf]<;>rfl),hf]
 refine I.write (x:=p) (e:=p) (by rw [h];trivial) (.inl rfl) (fun b u hb q=>(Heap.get?_update_other _ _ (Ne.symm hb)).trans q) ⟨_,e⟩ ?_
 exact ⟨hz,its',n',r,e⟩
def aK7:V->V->V->Hp->(Hp->Prop)->Prop:=fun o i v H Q=>∃p xs k j,o=.ref p/\i=.int k/\H p=some (.lst xs)/\ixN xs.length k=some j/\Q (upd H p (.lst (xs.set j v)))
theorem set_list:aQa X aK7:=by
 intro pins s σ H o i v ov iv u Q I ro ri rv h
 obtain ⟨p,xs,k,j,rfl,rfl,hp,hj,q⟩:=h
 cases ro
 obtain ⟨t,rfl⟩:=ri
 obtain ⟨its,n,r,ho,hz⟩:=I.lst hp
 obtain ⟨h1,h2,h3,h4⟩:=aA5 hj
 have hl:=r.length
 have hn:=sL
 have I':Inv X pins σ (upd H p (.lst (xs.set j v))) { s with heap:=s.heap.update p (Obj.mapSeq (·.setIfInBounds j u)) } :=
  I.aO7 hp ho (aAd its n j u) (r.set rv j) (by rw [List.length_set];exact hz) s.toks
 by_cases h0:0<=k
 ·have hk:k.toNat=j:=by
   rw [seqIndex_of h0 h4] at h1
   exact Option.some.inj h1
  exact PySem.W.ki_setAt ho h0 (by omega) (by rw [List.size_toArray,<- hl];exact h4) (by rw [hk];exact ⟨_,I',q⟩)
 ·have hk:(k+(its.toArray.size:Int)).toNat=j:=by
   rw [seqIndex_neg (by omega) h3] at h1
   rw [List.size_toArray,<- hl]
   exact Option.some.inj h1
  exact PySem.W.ki_setBack ho (by omega) (by rw [List.size_toArray,<- hl];exact h3) (by omega) (by rw [hk];exact ⟨_,I',q⟩)
theorem uZ (lo hi:Option Int) (n:Nat):(sliceBounds lo hi none n).1=((HT.sIx n 0 lo:Nat):Int)/\(sliceBounds lo hi none n).2.1=((HT.sIx n n hi:Nat):Int)/\(sliceBounds lo hi none n).2.2=1:=by
 refine ⟨?_,?_,rfl⟩
 ·cases lo with
  | none=>simp [sliceBounds,HT.sIx]
  | some i =>
   simp only [sliceBounds,HT.sIx,Option.getD_none,show (1:Int) > 0 by decide,if_true]
   by_cases h:i<0
   ·simp only [h,if_true]<;>omega
   ·simp only [h,if_false]<;>omega
 ·cases hi with
  | none=>simp [sliceBounds,HT.sIx]
  | some i =>
   simp only [sliceBounds,HT.sIx,Option.getD_none,show (1:Int) > 0 by decide,if_true]
   by_cases h:i<0
   ·simp only [h,if_true]<;>omega
   ·simp only [h,if_false]<;>omega
theorem sW (its:Y1) (lo hi:Option Int):slicePick its.toArray lo hi none=((its.drop (HT.sIx its.length 0 lo)).take (HT.sIx its.length its.length hi - HT.sIx its.length 0 lo)).toArray:=by
 obtain ⟨h1,h2,h3⟩:=uZ lo hi its.toArray.size
 unfold slicePick
 rw [h1,h2,h3]
 simp only [sliceRange_one,pick_run,List.size_toArray]<;>rfl
def aQr (K:FG):V->Option Int->Option Int->Hp->VK->Prop:=fun x lo hi H Q=>∃a xs,x=.ref a/\SqL K H a xs/\∀p,H p=none->Q (.ref p) (upd H p (.lst (aC9 xs lo hi)))
theorem aJw:SlR X (aQr X.K):=by
 intro pins s σ H x v vl vu lo hi sl Q I rx hs pl pu h
 obtain ⟨a,xs,rfl,hx,q⟩:=h
 cases rx
 obtain ⟨its,r,ht,hz⟩:=I.list hx
 have hlen:=r.length
 refine ⟨"list",_,slot_list_getitem.lookup,ht.isList.typeIs,?_⟩
 refine wpAny_getItem_list_slice ht.isList hs pl pu .none (by simp) ?_ (by rw [List.size_toArray]<;>omega)
 rw [sW,<- hlen]
 refine ⟨.ref s.heap.objs.size,_,I.laid (t':=s.toks) (o:=.lst (aC9 xs lo hi)) (fun b ob q=>Heap.get?_push_of_some _ q) (Nat.le_refl _) ?_,rfl,q _ (I.hok.fresh (Nat.le_refl _))⟩
 exact ⟨Nat.le_trans (yD xs lo hi) hz,_,0,(r.drop (HT.sIx xs.length 0 lo)).take (HT.sIx xs.length xs.length hi - HT.sIx xs.length 0 lo),Heap.get?_push_size _ rfl⟩
theorem vH:jI X (.builtin "len") (fun xs H Q=>∃p ys,xs=[.ref p]/\(SqL X.K H p ys\/SqT X.K H p ys)/\Q (.int ys.length) H):=by
 intro pins s σ H xs us Q I r h
 obtain ⟨p,ys,rfl,hq,q⟩:=h
 obtain ⟨u,rfl,rx⟩:=vals1 r
 cases rx
 have hn:=sL
 rcases hq with hq | hq
 ·obtain ⟨its,r',pl,hz⟩:=I.list hq
  have hlen:=r'.length
  exact Calls.call_len_list pl.isList (by simp only [List.size_toArray]<;>omega) ⟨.int ys.length,H,I.tok _,⟨s.toks+1,by rw [List.size_toArray,hlen]⟩,q⟩
 ·obtain ⟨its,r',pl,hz⟩:=I.tuple hq
  have hlen:=r'.length
  exact len_tuple pl (by simp only [List.size_toArray]<;>omega) ⟨.int ys.length,H,I.tok _,⟨s.toks+1,by rw [List.size_toArray,hlen]⟩,q⟩
theorem uR:jI X (.type "list") (fun xs H Q=>∃p ys,xs=[.ref p]/\(SqL X.K H p ys\/SqT X.K H p ys)/\∀l,H l=none->Q (.ref l) (upd H l (.lst ys))):=by
 intro pins s σ H xs us Q I r h
 obtain ⟨p,ys,rfl,hq,q⟩:=h
 obtain ⟨u,rfl,rx⟩:=vals1 r
 cases rx
 have fin:∀(its:Y1),Vals ys its->ys.length<=sizeLine->∀(h':Heap) (c':Nat),(∀b o',s.heap.get? b=some o'->h'.get? b=some o') ->
   h'.get? s.heap.objs.size=some { cls:=.type "list",dict:=none,data:=.seq its.toArray c',slots:=#[] }->EP X pins σ Q (.ref s.heap.objs.size) { s with heap:=h' }:=fun its r' hz h' c' kp e =>
  ⟨.ref s.heap.objs.size,_,I.laid (t':=s.toks) kp (Nat.le_refl _) (show dC X.prog X.w _ h' _ (.lst ys) from ⟨hz,its,c',r',e⟩),rfl,q _ (I.hok.fresh (Nat.le_refl _))⟩
 rcases hq with hq | hq
 ·obtain ⟨its,r',pl,hz⟩:=I.list hq
  have hlen:=r'.length
  obtain ⟨o,ho,hc,n,hd⟩:=pl.isList
  exact call_list_seq p (.inl rfl) ho hc hd (fun h' c' kp e=>fin its r' hz h' c' kp e) (by simp only [List.size_toArray]<;>omega)
 ·obtain ⟨its,r',pl,hz⟩:=I.tuple hq
  have hlen:=r'.length
  obtain ⟨o,ho,hc,n,hd⟩:=pl
  exact call_list_seq p (.inr rfl) ho hc hd (fun h' c' kp e=>fin its r' hz h' c' kp e) (by simp only [List.size_toArray]<;>omega)
theorem sT:jI X (.type "tuple") (fun xs H Q=>∃p ys,xs=[.ref p]/\((SqL X.K H p ys/\∀l,H l=none->Q (.ref l) (upd H l (.tup ys)))\/(SqT X.K H p ys/\Q (.ref p) H))):=by
 intro pins s σ H xs us Q I r h
 obtain ⟨p,ys,rfl,h⟩:=h
 obtain ⟨u,rfl,rx⟩:=vals1 r
 cases rx
 rcases h with ⟨hq,q⟩ | ⟨hq,q⟩
 ·obtain ⟨its,r',pl,hz⟩:=I.list hq
  have hlen:=r'.length
  refine call_tuple_list pl.isList (fun h' kp=>?_) (by simp only [List.size_toArray]<;>omega)
  have I1:Inv X pins σ H { s with heap:=h' }:=I.kept (t':=s.toks) kp
  have I2:Inv X pins σ (upd H h'.objs.size (.tup ys)) { s with heap:=h'.push { cls:=.type "tuple",data:=.seq its.toArray } } :=
   I1.laid (t':=s.toks) (fun b o e=>Heap.get?_push_of_some _ e) (Nat.le_refl _) (show dC X.prog X.w _ _ _ (.tup ys) from ⟨hz,its,r',IsTup.new _ _⟩)
  exact ⟨.ref h'.objs.size,_,I2,rfl,q _ (I1.hok.fresh (Nat.le_refl _))⟩
 ·obtain ⟨its,r',pl,hz⟩:=I.tuple hq
  exact call_tuple_same pl ⟨.ref p,H,I,rfl,q⟩
def tyV (K:FG) (T:String) (x:V) (H:Hp):Prop:=match x with
 | .str _=>T = "str"
 | .int _=>T = "int"
 | .ref p=>(T = "list" /\∃xs,SqL K H p xs)\/(T = "tuple" /\∃o,K.lookup p=some o/\o.cls=.type "tuple" /\o.dict=none) \/
   (T = "dict" /\((∃kvs,H p=some (.dK kvs))\/∃kvs,H p=some (.dT kvs)))\/(T = "set" /\∃S n,H p=some (.set S n))
 | _=>False
theorem aNj {pins:Y8} {σ:St} {H:Hp} {s:Shared} {T:String} {x:V} {v:Value} (I:Inv X pins σ H s) (r:RelV x v) (ty:tyV X.K T x H) :
  s.TypeIs v T/\∀a,v=.ref a->∃ob,s.heap.get? a=some ob/\ob.dict=none:=by
 cases x with
 | str z =>
  obtain ⟨t,rfl⟩:=r
  cases (show T = "str" from ty)
  exact ⟨typeIs_str s z t,fun _ e=>nomatch e⟩
 | int i =>
  obtain ⟨t,rfl⟩:=r
  cases (show T = "int" from ty)
  exact ⟨typeIs_int s i t,fun _ e=>nomatch e⟩
 | ref p =>
  cases r
  rcases ty with ⟨rfl,xs,hq⟩ | ⟨rfl,o,hk,hc,hd⟩ | ⟨rfl,hk⟩ | ⟨rfl,S,n,hk⟩
  ·obtain ⟨its,_,pl,_⟩:=I.list hq
   refine ⟨pl.isList.typeIs,fun a e=>?_⟩
   cases e
   obtain ⟨o,n,e,c,hd,_⟩:=pl
   exact ⟨o,e,hd⟩
  ·refine ⟨⟨o,I.kIn p o hk,hc⟩,fun a e=>?_⟩
   cases e
   exact ⟨o,I.kIn _ o hk,hd⟩
  ·have z:∃o,s.heap.get? p=some o/\o.ExactDict:=by
    rcases hk with ⟨kvs,hk⟩ | ⟨kvs,hk⟩
    ·obtain ⟨_,_,_,_,o,_,_,e,ex,_⟩:=I.hok p _ hk
     exact ⟨o,e,ex⟩
    ·obtain ⟨_,_,_,_,o,_,_,e,ex,_⟩:=I.hok p _ hk
     exact ⟨o,e,ex⟩
   obtain ⟨o,e,ex⟩:=z
   refine ⟨⟨o,e,ex.1⟩,fun a e2=>?_⟩
   cases e2
   exact ⟨o,e,ex.2.1⟩
  ·obtain ⟨o,_,_,_,e,ex,_⟩:=I.hok p _ hk
   refine ⟨⟨o,e,ex.1⟩,fun a e2=>?_⟩
   cases e2
   exact ⟨o,e,ex.2.1⟩
 | _=>exact False.elim ty
def tBM (K:FG) (T:String) (r:V->List V->Hp->VK->Prop) (to:TE) (t:TA):TE:=fun σ H Q=>to σ H fun x H1=>tyV K T x H1/\t σ H1 fun xs H2=>r x xs H2 Q
variable {o e:Expr} {es:List Expr} {to:TE} {t:TA} {name:Str} {apos cpos:Pos} {T id:String} {r:V->List V->Hp->VK->Prop}
theorem aEk (pa:PlainAttrs T) (slot:Slot T name id) (hty:typeOf (.builtin id)=pure (.type "method_descriptor")) (hm:MtR X id r) (ho:PE X o to) (ha:PA X (e::es) t)
  (hbase:attributeBase o name X.env (eval o X.env)=eval o X.env:=by rfl)
  (hfew:((backTo cpos (starEach (e::es) X.env)).all (fun x=>!x.1) && (backToKw cpos (keywordEach [] X.env)).all (fun x=>x.1.isSome)
   && decide ((e::es).length+([]:List Keyword).length+(if ([]:List Keyword).isEmpty then 0 else 1)<30))=true:=by rfl)
  (hline:(apos.endLine == cpos.line)=true:=by rfl) (hs:starEach (e::es) X.env=(false,eval e X.env)::starEach es X.env:=by rfl) (hplain:(backTo cpos (starEach es X.env)).any (·.1)=false:=by rfl) :
  PE X (.Call (.Attribute o name apos) (e::es) [] cpos) (tBM X.K T r to t):=by
 intro pins s σ H Q I h
 refine wpAny_Call_method_late hbase hfew hline rfl (thn (ho pins s σ H _ I h) fun v s1 ⟨x,H1,I1,r1,ty,q1⟩=>?_)
 obtain ⟨h1,h2⟩:=aNj I1 r1 ty
 refine ⟨T,id,pa,slot,hty,h1,h2,?_⟩
 have hA:=ha cpos pins s1 σ H1 _ I1 q1
 rw [hs] at hA ⊢
 refine Calls.callWith_builtin (by show (false || (backTo cpos (starEach es X.env)).any (·.1))=false;rw [hplain]<;>rfl) (Calls.evalArgs_plain ?_)
 exact thn hA fun us s2 ⟨vs,H2,I2,r2,q2⟩=>hm pins s2 σ H2 x vs v us Q I2 r1 r2 q2
end
end L2
namespace L2
open PySem PySem.Spec PyProof.Rows
def MtM (X:Cx) (id:String) (r:V->List V->Hp->VK->Prop):Prop :=
 ∀(pins:Y8) (s:Shared) (σ:St) (H:Hp) (x:V) (xs:List V) (v:Value) (us:Y1) (Q:VK),Inv X pins σ H s->RelV x v->Vals xs us->r x xs H Q ->
  wpAny (model X.prog X.w) X.A (call (.builtin id) (v::us)) (EP X pins σ Q) X.xe s
theorem Vals.one:∀ {x:V} {us:Y1},Vals [x] us->∃u,us=[u]/\RelV x u
 | _,_,.cons r .nil=>⟨_,rfl,r⟩
theorem Vals.two:∀ {x y:V} {us:Y1},Vals [x,y] us->∃u v,us=[u,v]/\RelV x u/\RelV y v
 | _,_,_,.cons r (.cons q .nil)=>⟨_,_,rfl,r,q⟩
theorem Vals.rep {xs:List V} {us:Y1} (h:Vals xs us):∀k:Nat,Vals (List.replicate k xs).flatten (List.replicate k us).flatten
 | 0=>.nil
 | k+1=>by
  rw [List.replicate_succ,List.replicate_succ,List.flatten_cons,List.flatten_cons]
  exact Vals.append h (Vals.rep h k)
theorem foldl_rep (its:Y1):∀(k:Nat) (acc:Y1),
  List.foldl (fun x1 x2=>x1++x2) acc.toArray (List.replicate k its.toArray)=(acc++(List.replicate k its).flatten).toArray
 | 0,acc=>by simp
 | k+1,acc=>by
  have e:acc.toArray++its.toArray=(acc++its).toArray:=by simp
  have e2:(acc++its)++(List.replicate k its).flatten=acc++(List.replicate (k+1) its).flatten:=by
   rw [List.replicate_succ,List.flatten_cons,List.append_assoc]
  rw [<- e2,<- foldl_rep its k (acc++its),<- e,List.replicate_succ,List.foldl_cons]
section
variable {X:Cx} {pins:Y8} {σ:St} {H:Hp} {s:Shared} {l b:Addr} {xs ys zs:List V}
theorem Inv.aU2 {its its':Y1} {n:Nat} {f:Array Value->Array Value} {t':Nat} (I:Inv X pins σ H s) (hH:H l=some (.lst xs))
  (e:s.heap.get? l=some { cls:=.type "list",data:=.seq its.toArray n }) (hf:f its.toArray=its'.toArray) (hv:Vals ys its') (hz:ys.length<=sizeLine) :
  Inv X pins σ (upd H l (.lst ys)) { s with heap:=s.heap.update l (Obj.mapSeq f),toks:=t' }:=by
 have q:=PySem.IsL.update e f
 rw [hf] at q
 refine I.write (x:=l) (e:=l) (by rw [hH];exact trivial) (.inl rfl) (fun b' u hb hu=>(Heap.get?_update_other s.heap (Obj.mapSeq f) (Ne.symm hb)).trans hu) ⟨_,q⟩ ?_
 exact ⟨hz,its',_,hv,q⟩
theorem Inv.aO8 {its:Y1} {t':Nat} (I:Inv X pins σ H s) (hv:Vals ys its) (hz:ys.length<=sizeLine) :
  Inv X pins σ (upd H s.heap.objs.size (.lst ys)) { s with heap:=s.heap.push { cls:=.type "list",data:=.seq its.toArray },toks:=t' } :=
 I.laid (fun _ _ q=>Heap.get?_push_of_some _ q) (Nat.le_refl _) ⟨hz,its,0,hv,Heap.get?_push_size _ rfl⟩
theorem Inv.fresh (I:Inv X pins σ H s):H s.heap.objs.size=none:=I.hok.fresh (Nat.le_refl _)
theorem Inv.aR4 (I:Inv X pins σ H s) (hH:H l=some (.lst xs)):xs.length<=sizeLine/\∃(its:Y1) (n:Nat),Vals xs its/\xs.length=its.length/\s.heap.get? l=some { cls:=.type "list",data:=.seq its.toArray n }:=by
 obtain ⟨z,its,n,r,e⟩:=I.hok l _ hH
 exact ⟨z,its,n,r,r.length,e⟩
theorem aEa {n:Nat} (h:n<=sizeLine):Builtin.List.listTooLong n=false:=by
 unfold Builtin.List.listTooLong
 exact decide_eq_false (by omega)
end
section
variable {X:Cx}
def uI:V->List V->Hp->VK->Prop:=fun x vs H Q=>∃l xs y,x=.ref l/\vs=[y]/\H l=some (.lst xs)/\xs.length<sizeLine/\Q .non (upd H l (.lst (xs ++ [y])))
theorem oJ:MtM X "list.append" uI:=by
 intro pins s σ H x vs v us Q I rx rv h
 obtain ⟨l,xs,y,rfl,rfl,hH,hz,q⟩:=h
 cases rx
 obtain ⟨u,rfl,ru⟩:=rv.one
 obtain ⟨z,its,n,r,hl,e⟩:=I.aR4 hH
 refine call_meets F.slot_list_append ⟨_,e,rfl⟩ F.entry_list_append (F.args_list_append_2 _ _) (PySem.list_append l its.toArray n u (by rw [List.size_toArray];omega)) ⟨e,?_⟩
 refine ⟨.non,_,I.aU2 (its':=its ++ [u]) hH e (by simp) (r.append (.cons ru .nil)) ?_,rfl,q⟩
 rw [List.length_append,List.length_singleton]
 omega
def aQn:R2:=fun x y H Q=>∃l k xs,x=.ref l/\y=.int k/\H l=some (.lst xs)/\-(2 ^ 63)<=k/\k<2 ^ 63/\xs.length * k.toNat<=sizeLine /\
 ∀p,H p=none->Q (.ref p) (upd H p (.lst (List.replicate k.toNat xs).flatten))
theorem len_rep {α:Type} (xs:List α) (k:Nat):(List.replicate k xs).flatten.length=k * xs.length:=by
 induction k with
 | zero=>simp
 | succ k ih=>rw [List.replicate_succ,List.flatten_cons,List.length_append,ih,Nat.succ_mul,Nat.add_comm]
theorem aNg:OpR X (binaryOp .Mult) aQn:=by
 intro pins s σ H x y v u Q I rx ry h
 obtain ⟨l,k,xs,rfl,rfl,hH,h1,h2,hz,q⟩:=h
 cases rx
 obtain ⟨t,rfl⟩:=ry
 obtain ⟨z,its,n,r,hl,e⟩:=I.aR4 hH
 have hlen:its.toArray.size * k.toNat<=sizeLine:=by rw [List.size_toArray,<- hl];exact hz
 have hcap:¬ its.toArray.size * k.toNat > (2 ^ 63 - 1) / 8:=by
  have:(sizeLine:Nat)<=(2 ^ 63 - 1) / 8:=by decide
  omega
 have hfit:¬ (!Builtin.List.listFitsIndex k)=true:=by
  rw [fitsIndex_both h1 h2]
  exact Bool.false_ne_true
 have hlong:¬ Builtin.List.listTooLong (its.toArray.size * k.toNat)=true:=by
  rw [aEa hlen]
  exact Bool.false_ne_true
 have hnew:List.foldl (fun x1 x2=>x1++x2) #[] (List.replicate (if its.toArray.isEmpty=true then 0 else k.toNat) its.toArray)=(List.replicate k.toNat its).flatten.toArray:=by
  have f0:∀m:Nat,List.foldl (fun x1 x2=>x1++x2) #[] (List.replicate m its.toArray)=(List.replicate m its).flatten.toArray:=fun m=>by
   have:=foldl_rep its m []
   rw [List.nil_append] at this
   exact this
  rw [f0]
  cases its with
  | nil=>simp
  | cons a r'=>rw [if_neg (by simp)]
 refine wpAny_binaryOp_repeat_ref (T := "list") (U := "int") (by decide) ⟨_,e,rfl⟩ (fun s'=>typeIs_int s' k t) noFill_list_mul F.fills_int_mul F.slot_int_rmul repeat_list F.slot_int_index.lookup
  (call_meets F.slot_int_rmul (typeIs_int s k t) F.entry_int_rmul (F.args_int_rmul_2 _ _) (int___rmul___int_list k t l its.toArray n)
   ⟨e,rfl,⟨_,e,rfl⟩,call_meets F.slot_list_mul ⟨_,e,rfl⟩ F.entry_list_mul (F.args_list_mul_2 _ _) (AutoListH.list___mul___list_int_3 l its.toArray n k t hfit hcap hlong) ⟨e,?_⟩⟩)
 rw [hnew]
 exact ⟨.ref _,_,I.aO8 (t':=s.toks) (r.rep k.toNat) (by rw [len_rep,Nat.mul_comm];exact hz),rfl,q _ I.fresh⟩
end
section
variable {prog:Program} {w:World} {A:Around} {E:Y9} {s:Shared}
end
section
variable {X:Cx}
end
end L2
namespace Att
open PySem PySem.W PySem.Calls PyProof.Rows
theorem pJ {P:Params} {h:Heap}:∀(ns:Y0) (vs:Y1),WellAll P h vs (ns.map WData.int)->IntsAre vs ns:=by
 intro ns
 induction ns with
 | nil =>
  intro vs w
  rw [List.map_nil] at w
  cases w
  exact .nil
 | cons n ns ih =>
  intro vs w
  rw [List.map_cons] at w
  cases w with
  | cons a b =>
   cases a
   exact .cons _ _ (ih _ b)
theorem aDu {l:OpenLaw} {n:Nat} (hn:l.most=some n) {P:Params} {h:Heap} {args:List WData} {vals:Y1}
  (hpre:l.row.toRowW.claim.pre args=true) (hwl:WellAll P h vals args) :
  ∃a vs ns,vals=[Value.ref a]/\args=[WData.list (ns.map WData.int)]/\h.get? a=some { cls:=.type "list",data:=.seq vs.toArray }/\IntsAre vs ns/\ns.length<=n:=by
 have hsh:WShape.hasAll [] args [.list .int]=true:=(pre_splitW hpre).1
 have hc:l.pre.holds [] { args:=args }=true:=(pre_splitW hpre).2
 obtain ⟨d,r,rfl,h1,h2⟩:=hasAllW_cons hsh
 obtain rfl:=hasAllW_nil h2
 obtain ⟨xs,rfl,h3⟩:=hasW_list h1
 obtain ⟨ns,rfl⟩:=items_int h3
 have hlen:ns.length<=n:=by
  unfold OpenLaw.pre at hc
  have h4:(WTm.not (.lt (.lit (.int (n:Int))) (.len (.arg 0)))).holds [] { args:=[.list (ns.map .int)] }=true:=by
   have h4:=(holds_andW hc).1
   rw [hn] at h4
   exact h4
  have h5:=condW_of h4 (w_not (w_lt w_lit (w_len_list (w_arg rfl))))
  rw [List.length_map] at h5
  refine Nat.le_of_not_lt fun q=>?_
  have q':(n:Int)<((ns.length:Nat):Int):=by omega
  first
   | (rw [decide_eq_true q'] at h5;exact absurd h5 (by decide))
   | (simp at h5;omega)
 cases hwl with
 | cons w1 w2 =>
  cases w2
  cases w1 with
  | list ho hall=>exact ⟨_,_,ns,rfl,rfl,ho,pJ ns _ hall,hlen⟩
theorem aDt (l:OpenLaw) (args:List WData):l.row.toRowW.claim.post args (.bool true) args=true :=
 postW_of (r:=l.row.toRowW) (X:=(true == true))
  (show WShape.has [] (.bool true) .bool=true by first | rfl | decide | simp [WShape.has,WShape.arms,WShape.armsAll])
  (show (WTm.eq .res (.lit (.bool true))).value [] { args:=args,res:=some (.bool true),after:=args }=some (.bool (true == true)) from w_eq_bool (w_res rfl) w_lit) rfl
theorem attach_call {l:OpenLaw} {n:Nat} {q:Program} {loose:List Str} {XP:(Str->Option Value)->Heap->Prop} {YP:World->Heap->Prop} {d:DefRec}
  (hn:l.most=some n) (hdf:d.params.defaults=[])
  (call:∀(w:World) (s₀ s₁:Shared) (mg mb:Y6) (fa:Addr) (o:Obj) (pm cd doc:Value) (a:Addr) (vs:Y1) (ns:Y0),
   Ground q loose [] XP w s₀ mg mb s₁.heap->YP w s₁.heap ->
   s₁.heap.get? fa=some o->o.data=.func (docDef d.name d.params d.body d.scope pm cd doc)->s₁.heap.CodeRec cd d.name->mg d.name=some (.ref fa) ->
   s₁.heap.get? a=some { cls:=.type "list",data:=.seq vs.toArray }->IntsAre vs ns->ns.length<=n->s₁.gens = #[] ->
   codeAny (model l.prog w) callerA (.call (.ref fa) ⟨[.ref a],[]⟩) (fun r s'=>r=.ok (.ret (.bool true))/\OldK s₁.heap s'.heap/\s'.os=s₁.os/\AllBare s'.gens) s₁) :
  WalkO q loose XP YP l.row.toRowW d [] (fun f vs=>PySem.call f vs):=by
 intro w s₀ s₁ mg mb G Y fa o pm cd doc dV kV ho hd hcd hD hmg hg args vals as hpre hlay hrd hwl hlo
 obtain rfl:dV=.none:=Dflts.none hD hdf
 obtain rfl:kV=.none:=Dflts.noKw hD
 obtain ⟨a,vs,ns,rfl,rfl,hobj,hints,hlen⟩:=aDu hn hpre hwl
 refine enter_call (codeAny_mono (call w s₀ s₁ mg mb fa o pm cd doc a vs ns G Y ho (fd_plain hd) hcd hmg hobj hints hlen hg) fun r s' hq=>?_)
 obtain ⟨rfl,h2,h3,h4⟩:=hq
 exact ⟨.inl ⟨.bool true,.bool true,[],rfl,fun _=>rfl,.bool true,aDt l _,fun _=>⟨List.Pairwise.nil,fun _ hm=>(nomatch hm)⟩⟩,h2,h3,h4⟩
section
variable {prog:Program} {w:World} {A:Around} {E:Y9} {s:Shared} {K:Frag}
end
end Att
namespace L2
open PySem PySem.Spec PyProof.Rows
theorem tS:∀ {vs:Y1} {ns:Y0},IntsAre vs ns->Vals (ns.map V.int) vs
 | _,_,.nil=>.nil
 | _,_,.cons n t h=>.cons ⟨t,rfl⟩ (tS h)
def aMa (H:Hp):Prop:=∀b,H b=none\/∃o xs,H b=some (.frz o (.lst xs))
theorem aHf {P:Program} {w:World} {K:FG} {mg mb:Y6} {CX:CXT} {k:Nat} {fa a:Addr} {fd:FuncData} {x:Str} {sp:Sp} {s₁:Shared} {vs:Y1} {ns:Y0}
  (KX:K.In s₁.heap) (hns:s₁.heap.Ns mainGlobals mg) (hb:s₁.heap.Ns builtinsNs mb) (hbb:∀x:Str,x ≠ "__name__" ->mb x=bootBuiltins x) (hlim:s₁.heap.NoLimit) (hg:s₁.gens = #[])
  (ha:s₁.heap.get? a=some { cls:=.type "list",data:=.seq vs.toArray }) (hi:IntsAre vs ns) (hl:ns.length<=sizeLine) (hr:Room k callerA)
  (F:∀base:Heap,K.In base->base.Ns mainGlobals mg->FnOk P w K mg base CX k fa fd [x] sp) (hbind:∀(s:Shared) (u:Value),BindsTo s fd ⟨[u],[]⟩ [(x,u)])
  (hsp:∀H:Hp,aMa H->SqL K H a (ns.map V.int)->sp [.ref a] H (fun v _=>v=.bl true) fun _ _ _=>False)
  (hCX:∀H e s',CX [] H s₁ (fun _ _ _=>False) e s'->False) :
  codeAny (model P w) callerA (.call (.ref fa) ⟨[.ref a],[]⟩) (fun r s'=>r=.ok (.ret (.bool true))/\OldK s₁.heap s'.heap/\s'.os=s₁.os/\AllBare s'.gens) s₁:=by
 have rv:=tS hi
 have lenV:=hi.length
 have core:∀H:Hp,aMa H->SqL K H a (ns.map V.int)->HOk P w H s₁.heap->(∀b,H b ≠ none->b=a)->(H a ≠ none->K.lookup a=none) ->
   codeAny (model P w) callerA (.call (.ref fa) ⟨[.ref a],[]⟩) (fun r s'=>r=.ok (.ret (.bool true))/\OldK s₁.heap s'.heap/\s'.os=s₁.os/\AllBare s'.gens) s₁:=by
  intro H hO hS hok hA hK
  have base_of:∀ {b:Addr} {o:Obj},s₁.heap.get? b=some o->H b=none->(vF s₁.heap H).get? b=some o:=fun e n=>aGj e n
  have noA:∀ {b:Addr} {o:Obj} {es:Array DictEntry} {ep:Nat},s₁.heap.get? b=some o->o.data=.dict es ep->H b=none:=fun {b o es ep} e d=>by
   cases q:H b with
   | none=>rfl
   | some u =>
    have e':b=a:=hA b (by rw [q];simp)
    subst e'
    rw [ha] at e;cases e
    have d':Data.seq vs.toArray _=Data.dict es ep:=d
    cases d'
  have nsK:∀ {b:Addr} {m:Y6},s₁.heap.Ns b m->(vF s₁.heap H).Ns b m:=fun {b m} ⟨o,es,ep,e,d,r⟩=>⟨o,es,ep,base_of e (noA e d),d,r⟩
  have hKb:K.In (vF s₁.heap H):=fun b o e=>base_of (KX b o e) (by
   cases q:H b with
   | none=>rfl
   | some u =>
    have e':b=a:=hA b (by rw [q];simp)
    subst e'
    rw [hK (by rw [q];simp)] at e;cases e)
  have hM:Mod K mg (vF s₁.heap H):=⟨hKb,nsK hns,⟨mb,nsK hb,hbb⟩,let ⟨mc,h1,h2⟩:=hlim;⟨mc,nsK h1,h2⟩⟩
  have e0:Env0 P w K mg (vF s₁.heap H) callerA [] s₁ H:=⟨rfl,hM,fun b o e=>aH7 e,Nat.le_of_eq (aC2 _ _),trivial,fun b hb=>absurd (show b∈([]:Y2) from hb) (by simp),hok,.of_eq hg⟩
  refine codeAny_mono ((F _ hKb (nsK hns)).run callerA [] s₁ H ⟨[.ref a],[]⟩ [.ref a] [.ref a] _ _ hr e0 (hbind s₁ (.ref a)) (.cons rfl .nil) (hsp H hO hS)) fun r s' h=>?_
  cases r with
  | error e=>exact (hCX H e s' h).elim
  | ok fl =>
   cases fl with
   | next=>exact False.elim h
   | brk=>exact False.elim h
   | cont=>exact False.elim h
   | ret u =>
    obtain ⟨v,H',os,bare,un,hok',r',q⟩:=h
    have q':v=.bl true:=q
    subst q'
    obtain rfl:u=Value.bool true:=r'
    refine ⟨rfl,OldK.of_keep fun b o e=>?_,os,bare⟩
    cases q:H b with
    | none=>exact un.keep b o e q (by intro z;exact absurd (show b∈([]:Y2) from z) (by simp)) (by simp)
    | some u =>
     rcases hO b with z | ⟨ob,xs,z⟩
     ·rw [q] at z;cases z
     ·have z2:=un.frzs b ob _ z
      obtain ⟨e1,_⟩:=hok b _ z
      obtain ⟨e2,_⟩:=hok' b _ z2
      rw [e] at e1;cases e1
      exact e2
 cases hk:K.lookup a with
 | some o =>
  have e:=KX a o hk
  rw [ha] at e
  cases e
  refine core (fun _=>none) (fun _=>.inl rfl) (.inr ⟨_,vs.toArray,_,hk,rfl,rfl,rfl,by rw [List.size_toArray,lenV];exact hl,by simpa using rv⟩) (fun b u z=>by have z':(none:Option HO)=some u:=z;cases z') (fun b z=>absurd rfl z) fun z=>absurd rfl z
 | none =>
  refine core (fun b=>if b=a then some (.frz { cls:=.type "list",data:=.seq vs.toArray } (.lst (ns.map V.int))) else none) (fun b=>?_) (.inl (.inr ⟨{ cls:=.type "list",data:=.seq vs.toArray },if_pos rfl⟩)) (fun b u z=>?_) (fun b z=>?_) fun _=>hk
  ·by_cases hb:b=a
   ·exact .inr ⟨_,_,if_pos hb⟩
   ·exact .inl (if_neg hb)
  ·by_cases hb:b=a
   ·have z':=(if_pos hb).symm.trans z
    cases z'
    subst hb
    exact ⟨ha,by rw [List.length_map];exact hl,vs,_,rv,ha⟩
   ·have z':=(if_neg hb).symm.trans z
    cases z'
  ·by_cases hb:b=a
   ·exact hb
   ·exact absurd (if_neg hb) z
end L2
namespace L2
open PySem PySem.Spec PyProof.Rows
theorem walk_of {l:PySem.W.OpenLaw} {n k:Nat} {q:Program} {loose:List Str} {XP:(Str->Option Value)->Heap->Prop} {YP:World->Heap->Prop} {d:DefRec} {K:Params->FG} {CX:World->CXT} {sp:World->Sp} {x:Str}
  (hn:l.most=some n) (hn2:n<=sizeLine) (hdf:d.params.defaults=[]) (hr:Room k callerA)
  (hY:∀(w:World) (h:Heap),YP w h->(K w.params).In h)
  (F:∀(w:World) (mg:Y6) (fa:Addr) (h:Heap),(K w.params).In h->h.Ns mainGlobals mg->mg d.name=some (.ref fa) ->
   ∃fd:FuncData,(∀(s:Shared) (u:Value),BindsTo s fd ⟨[u],[]⟩ [(x,u)]) /\
    ∀base:Heap,(K w.params).In base->base.Ns mainGlobals mg->FnOk l.prog w (K w.params) mg base (CX w) k fa fd [x] (sp w))
  (hsp:∀(w:World) (H:Hp) (a:Addr) (ns:Y0),ns.length<=n->aMa H->SqL (K w.params) H a (ns.map V.int)->sp w [.ref a] H (fun v _=>v=.bl true) fun _ _ _=>False)
  (hCX:∀(w:World) (H:Hp) (s:Shared) (e:Value) (s':Shared),CX w [] H s (fun _ _ _=>False) e s'->False) :
  PySem.W.WalkO q loose XP YP l.row.toRowW d [] (fun f vs=>PySem.call f vs):=by
 refine Att.attach_call hn hdf fun w s₀ s₁ mg mb fa o pm cd doc a vs ns G Y ho hd hcd hmg hobj hints hlen hg=>?_
 have KX:=hY w _ Y
 obtain ⟨fd,hb,hF⟩:=F w mg fa _ KX G.T.g hmg
 exact aHf KX G.T.g G.T.b G.T.builtins G.T.nolimit hg hobj hints (Nat.le_trans hlen hn2) hr hF hb (fun H hO hS=>hsp w H a ns hlen hO hS) fun H e s'=>hCX w H s₁ e s'
end L2
namespace L2
open PySem PySem.Spec PyProof.Rows
def iJ (s:Stmt):Arguments:=match s with
 | .FunctionDef _ a _ _ _ _ _ _ _ _=>a
 | _=>{ posonlyargs:=[],args:=[],vararg:=none,kwonlyargs:=[],kw_defaults:=[],kwarg:=none,defaults:=[] }
def fB (s:Stmt):List Stmt:=match s with
 | .FunctionDef _ _ b _ _ _ _ _ _ _=>b
 | _=>[]
def aO (s:Stmt):Scope:=match s with
 | .FunctionDef _ _ _ _ _ _ sc _ _ _=>sc
 | _=>{ kind:=.function,names:=[],isGenerator:=false,isCoroutine:=false }
abbrev E0:XK:=fun _ _ _=>False
structure Fun (K:FG) (x qual:Str) (st:Stmt) (f:Addr) (fd:FuncData):Prop where
 ex:∃(oc:Value) (od:Option Addr) (kV doc pm:Value) (an:Option Addr) (cdv ct:Value) (osl:Array (Option Value)),
  fd=PySem.W.fnOf x qual (iJ st) (fB st) (aO st) .none kV doc pm an cdv ct/\K.lookup f=some ⟨oc,od,.func fd,osl⟩/\PySem.W.codeIn K cdv qual=true
 kp:PySem.W.keepIn K (.ref f)=true
section
variable {P:Program} {w:World} {K:FG} {mg:Y6} {base:Heap}
theorem Fun.binds {x qual:Str} {st:Stmt} {f:Addr} {fd:FuncData} {ps:List Str} (F:Fun K x qual st f fd)
  (h:∀(kV doc pm:Value) (an:Option Addr) (cdv ct:Value) (us:Y1),us.length=ps.length->bindArgs (PySem.W.fnOf x qual (iJ st) (fB st) (aO st) .none kV doc pm an cdv ct) ⟨us,[]⟩=pure (ps.zip us)):Binds K fd ps []:=by
 obtain ⟨oc,od,kV,doc,pm,an,cdv,ct,osl,rfl,lk,hcd⟩:=F.ex
 exact .all (h kV doc pm an cdv ct)
theorem aMg {x qual:Str} {st:Stmt} {f:Addr} {oc:Value} {od an:Option Addr} {osl:Array (Option Value)} {kV doc pm cdv ct:Value} (l:K.lookup f=some ⟨oc,od,.func (PySem.W.fnOf x qual (iJ st) (fB st) (aO st) .none kV doc pm an cdv ct),osl⟩)
  (c:PySem.W.codeIn K cdv qual=true) (k:PySem.W.keepIn K (.ref f)=true):Fun K x qual st f (PySem.W.fnOf x qual (iJ st) (fB st) (aO st) .none kV doc pm an cdv ct):=⟨⟨oc,od,kV,doc,pm,an,cdv,ct,osl,rfl,l,c⟩,k⟩
end
section
variable {X:Cx}
end
def Same (H H':Hp):Prop:=∀b o,H b=some o->H' b=some o
theorem Same.refl (H:Hp):Same H H:=fun _ _ h=>h
theorem Same.trans {H H1 H2:Hp} (a:Same H H1) (b:Same H1 H2):Same H H2:=fun c o h=>b c o (a c o h)
theorem Same.free {H H':Hp} (e:Same H H') {l:Addr} (h:H' l=Option.none):H l=Option.none:=by
 cases q:H l with
 | none=>rfl
 | some o =>
  rw [e l o q] at h
  cases h
theorem Same.seq {K:FG} {H H':Hp} {a:Addr} {xs:List V} (e:Same H H') (h:SqL K H a xs):SqL K H' a xs:=by
 rcases h with (h | ⟨o,h⟩) | h
 ·exact .inl (.inl (e _ _ h))
 ·exact .inl (.inr ⟨o,e _ _ h⟩)
 ·exact .inr h
end L2
end
section
namespace VL
open PySem PySem.Spec PyProof.Rows L2
theorem mQ (env:Env):∀(l:List (Str×NameKind)) (acc:List (Str×Addr)),(∀y∈l,y.2=.free->∃c,env.cells.lookup y.1=some c)->(∀x c,acc.lookup x=some c->env.cells.lookup x=some c) ->
  ∃cl,(forIn l acc (fun (x:Str×NameKind) (cs:List (Str×Addr))=>(if x.2 == NameKind.free then (do let a <- cellOf env x.1;pure (ForInStep.yield ((x.1,a)::cs))) else pure (ForInStep.yield cs):Sem (ForInStep (List (Str×Addr))))):Sem (List (Str×Addr)))=pure cl /\
   (∀x c,cl.lookup x=some c->env.cells.lookup x=some c)/\(∀x c,acc.lookup x=some c->cl.lookup x=some c)/\∀y∈l,y.2=.free->cl.lookup y.1=env.cells.lookup y.1
 | [],acc,_,ha=>⟨acc,by simp,ha,fun _ _ h=>h,fun y hy=>by cases hy⟩
 | (n,k)::l,acc,hl,ha=>by
  by_cases hk:k=.free
  ·subst hk
   obtain ⟨c,hc⟩:=hl (n,.free) List.mem_cons_self rfl
   have ha':∀x d,((n,c)::acc).lookup x=some d->env.cells.lookup x=some d:=fun x d e=>by
    rw [List.lookup_cons] at e
    cases q:x == n with
    | true =>
     rw [q] at e
     have:x=n:=by simpa using q
     subst this;cases e;exact hc
    | false=>rw [q] at e;exact ha x d e
   obtain ⟨cl,e1,e2,e3,e4⟩:=mQ env l ((n,c)::acc) (fun y hy=>hl y (List.mem_cons_of_mem _ hy)) ha'
   have up:∀x d,acc.lookup x=some d->((n,c)::acc).lookup x=some d:=fun x d e=>by
    rw [List.lookup_cons]
    cases q:x == n with
    | true =>
     have:x=n:=by simpa using q
     subst this
     have:=ha _ _ e
     rw [hc] at this;exact this
    | false=>exact e
   refine ⟨cl,?_,e2,fun x d e=>e3 x d (up x d e),fun y hy hf=>?_⟩
   ·rw [List.forIn_cons]
    have:cellOf env n=pure c:=by unfold cellOf;rw [hc]
    simp only [this,beq_self_eq_true,if_true,pure_bind]
    exact e1
   ·rcases List.mem_cons.mp hy with rfl | hy
    ·rw [hc]
     exact e3 n c (by rw [List.lookup_cons,beq_self_eq_true])
    ·exact e4 y hy hf
  ·obtain ⟨cl,e1,e2,e3,e4⟩:=mQ env l acc (fun y hy=>hl y (List.mem_cons_of_mem _ hy)) ha
   refine ⟨cl,?_,e2,e3,fun y hy hf=>?_⟩
   ·rw [List.forIn_cons]
    have:(k == NameKind.free)=false:=by simpa using hk
    simp only [this,Bool.false_eq_true,if_false,pure_bind]
    exact e1
   ·rcases List.mem_cons.mp hy with rfl | hy
    ·exact absurd hf hk
    ·exact e4 y hy hf
theorem yY (scope:Scope) (env:Env) (h:∀y∈scope.names,y.2=.free->∃c,env.cells.lookup y.1=some c) :
  ∃cl,closureFor scope env=pure cl/\(∀x c,cl.lookup x=some c->env.cells.lookup x=some c)/\∀y∈scope.names,y.2=.free->cl.lookup y.1=env.cells.lookup y.1:=by
 obtain ⟨cl,e1,e2,_,e4⟩:=mQ env scope.names [] h (fun x c e=>by simp at e)
 refine ⟨cl,?_,e2,e4⟩
 unfold closureFor
 have:(forIn scope.names ([]:List (Str×Addr)) fun (x:Str×NameKind) (r:List (Str×Addr))=>(match x with
   | (name,kind)=>if (kind == NameKind.free)=true then (do let a <- cellOf env name;pure (ForInStep.yield ((name,a)::r))) else pure (ForInStep.yield r):Sem (ForInStep (List (Str×Addr)))))=pure cl:=e1
 first
  | (simp only [this,pure_bind])
  | (rw [this];rfl)
  | (show (forIn _ _ _ >>= _)=_;rw [this];rfl)
theorem gL {env:Env}:∀ {names:List (Str×NameKind)} {x:Str},names.lookup x=some .free ->
  (names.map fun (n,k)=>if (k == NameKind.free && env.scope.kind == .function && env.kindOf n == some .cell) then (n,NameKind.cell) else (n,k)).lookup x=some .cell \/
  (names.map fun (n,k)=>if (k == NameKind.free && env.scope.kind == .function && env.kindOf n == some .cell) then (n,NameKind.cell) else (n,k)).lookup x=some .free
 | [],_,h=>by simp at h
 | (n,k)::r,x,h=>by
  have ih:=@gL env r x
  rw [List.map_cons]
  cases hx:x == n with
  | true =>
   simp only [List.lookup_cons,hx] at h
   cases h
   by_cases hc:(NameKind.free == NameKind.free && env.scope.kind == .function && env.kindOf n == some .cell)=true
   ·left;simp only [hc,if_true,List.lookup_cons,hx]
   ·right;simp only [hc,Bool.false_eq_true,if_false,List.lookup_cons,hx]
  | false =>
   simp only [List.lookup_cons,hx] at h
   by_cases hc:(k == NameKind.free && env.scope.kind == .function && env.kindOf n == some .cell)=true
   ·simp only [hc,if_true,List.lookup_cons,hx];exact ih h
   ·simp only [hc,Bool.false_eq_true,if_false,List.lookup_cons,hx];exact ih h
theorem kF {env:Env}:∀ {names:List (Str×NameKind)} {x:Str} {k:NameKind},(names.map fun (n,k)=>if (k == NameKind.free && env.scope.kind == .function && env.kindOf n == some .cell) then (n,NameKind.cell) else (n,k)).lookup x=some k->k=.cell\/k=.free ->
  ∃y∈names,y.1=x/\(y.2=.free\/y.2=.cell)
 | [],_,_,h,_=>by simp at h
 | (n,k)::r,x,k',h,hk=>by
  rw [List.map_cons] at h
  cases hx:x == n with
  | true =>
   have e:x=n:=by simpa using hx
   subst e
   by_cases hc:(k == NameKind.free && env.scope.kind == .function && env.kindOf x == some .cell)=true
   ·refine ⟨(x,k),List.mem_cons_self,rfl,.inl ?_⟩
    simp only [Bool.and_eq_true] at hc
    simpa using hc.1.1
   ·simp only [hc,Bool.false_eq_true,if_false,List.lookup_cons,hx] at h
    cases h
    exact ⟨(x,k),List.mem_cons_self,rfl,hk.symm⟩
  | false =>
   have h':(r.map fun (n,k)=>if (k == NameKind.free && env.scope.kind == .function && env.kindOf n == some .cell) then (n,NameKind.cell) else (n,k)).lookup x=some k':=by
    by_cases hc:(k == NameKind.free && env.scope.kind == .function && env.kindOf n == some .cell)=true
    ·simp only [hc,if_true,List.lookup_cons,hx] at h;exact h
    ·simp only [hc,Bool.false_eq_true,if_false,List.lookup_cons,hx] at h;exact h
   obtain ⟨y,hy,e⟩:=kF h' hk
   exact ⟨y,List.mem_cons_of_mem _ hy,e⟩
def blk (X:Cx) (scope:Scope) (cl:List (Str×Addr)) (N:List Str) (s3:Shared) (H3:Hp) (fp:Y2):Cx :=
 { X with N:=N,s₀:=s3,H₀:=H3,env:=compEnvC scope cl s3.heap.objs.size X.env,outer:=X.stack,ex:=fp,fn:=fun _=>false,pn:=[],xe:=fun _ _=>False }
def PTs (Y:Cx) (ifs:List Expr) (t:TT):Prop :=
 ∀(pins:Y8) (s:Shared) (σ:L2.St) (H:Hp) (Q:Bool->Hp->Prop),L2.Inv Y pins σ H s->t σ H Q ->
  wpAny (model Y.prog Y.w) Y.A (forIn ifs true fun c r=>if r=true then do let ok <- isTrue c Y.env (eval c Y.env);pure (ForInStep.yield ok) else pure (ForInStep.yield r)) (TP Y pins σ Q) Y.xe s
theorem aJb {Y:Cx}:PTs Y [] (fun _ H Q=>Q true H):=fun _ _ _ H _ I h=>wpAny_tests_nil ⟨H,I,h⟩
theorem aKe {Y:Cx} {c:Expr} {t:TT} (h:PT Y c t):PTs Y [c] t:=fun pins s σ H Q I q=>wpAny_tests_one (h pins s σ H Q I q)
def aBh (wi:TI) (nt:Nat) (js:T0) (g:TG) (tc:TT) (te:TE):TE:=fun σ H Q=>wi σ H fun J H1=>∀acc,H1 acc=none->∃W:Nat->Nat->L2.St->Hp->Prop,
 (∃m,W 0 m (List.replicate nt none++js.map fun j=>(σ[j]?).join) (upd H1 acc (.lst [])))/\∀i m σ' H',W i m σ' H' ->
  (J.stop i H'/\Q (.ref acc) H')\/(J.go i H'/\∀x H2,J.yld i H' x H2->g x σ' H2 fun σ2 H3=>tc σ2 H3 fun b H4 =>
   if b=true then te σ2 H4 fun y H5=>∃xs,H5 acc=some (.lst xs)/\xs.length<sizeLine/\∃m',m'<m/\W (i+1) m' σ2 (upd H5 acc (.lst (xs ++ [y])))
   else ∃m',m'<m/\W (i+1) m' σ2 H4)
section
variable {prog:Program} {w:World} {A:Around} {R:Result->Shared->Prop} {s:Shared}
theorem wX {elt target iter:Expr} {ifs:List Expr} {scope:Scope} {pos:Pos} {it acc:Value} {env:Env} (I:Nat->Shared->Prop)
  (turn:∀n s,I n s->wpAny (model prog w) A (pyNext it) (fun r s₁=>match r with
   | none=>R (.ok .next) s₁
   | some v=>wpAny (model prog w) A (letOwnedTupleGo target it v) (fun _ s₁=>wpAny (model prog w) A (assign target env v) (fun _ s₂ =>
     wpAny (model prog w) A (forIn ifs true fun c r=>if r=true then do let ok <- isTrue c env (eval c env);pure (ForInStep.yield ok) else pure (ForInStep.yield r)) (fun ok s₃ =>
      if ok=true then wpAny (model prog w) A (eval elt env) (fun x s₄ =>
       wpAny (model prog w) A (call (.builtin "list.append") [acc,x]) (fun _ s₅=>∃m,m<n/\I m s₅) (fun _ _=>False) s₄) (fun _ _=>False) s₃
      else ∃m,m<n/\I m s₃) (fun _ _=>False) s₂) (fun _ _=>False) s₁) (fun _ _=>False) s₁) (fun _ _=>False) s)
  (n:Nat) (h:I n s):codeAny (model prog w) A (.compLoop (.ListComp elt [⟨target,iter,ifs,0⟩] scope pos) 0 it acc env) R s:=by
 refine codeAny_loop rfl I (fun n s hI=>?_) n h
 show wpAny _ A ((compTurn (.ListComp elt [⟨target,iter,ifs,0⟩] scope pos) 0 it acc env).onRaise (fun x=>do noteFrame x env;theTreesLotGoes x)) _ _ s
 refine wpAny_noted ?_
 rw [compTurn_list]
 refine wpAny_bind (wpAny_standAt (wpAny_bind (wpAny_mono (turn n s hI) (fun r s₁ h₁=>?_) fun _ _ h'=>h'.elim)))
 cases r with
 | none=>exact wpAny_pure h₁
 | some v =>
  refine wpAny_bind (wpAny_mono h₁ (fun _ s₁' h₁'=>?_) fun _ _ h'=>h'.elim)
  refine wpAny_bind (wpAny_mono h₁' (fun _ s₂ h₂=>wpAny_bind (wpAny_mono h₂ (fun ok s₃ h₃=>?_) fun _ _ h'=>h'.elim)) fun _ _ h'=>h'.elim)
  cases ok with
  | false=>exact wpAny_pure ⟨rfl,h₃⟩
  | true =>
   exact wpAny_bind (wpAny_bind (wpAny_mono h₃ (fun x s₄ h₄=>wpAny_bind (wpAny_mono h₄ (fun _ s₅ h₅=>wpAny_pure (wpAny_pure ⟨rfl,h₅⟩)) fun _ _ h'=>h'.elim)) fun _ _ h'=>h'.elim))
end
section
variable {X:Cx} {pos:Pos}
theorem tR {elt iter tg:Expr} {ifs:List Expr} {scope:Scope} {wi:TI} {N:List Str} {nt:Nat} {js:T0} {g:TG} {tc:TT} {te:TE}
  (hc:X.calm=true) (hi:PI X tg iter wi) (hkind:scope.kind=.function) (hcell:∀y∈scope.names,y.2 ≠ .cell) (hnames:∀y∈scope.names,y.2=.local->scope.names.lookup y.1=some .local)
  (hfr:∀y∈scope.names,y.2=.free->X.env.kindOf y.1=some .cell\/X.env.kindOf y.1=some .free)
  (hlen:nt+js.length=N.length)
  (hjs:∀(k:Nat) (j:Nat),js[k]?=some j->∃x,N[nt+k]?=some x/\X.N[j]?=some x/\scope.names.lookup x=some .free)
  (hb:∀cl s3 H3 fp,PG (blk X scope cl N s3 H3 fp) tg g/\PTs (blk X scope cl N s3 H3 fp) ifs tc/\PE (blk X scope cl N s3 H3 fp) elt te)
  (hs:∀x,foldedSetIterable iter X.env x=pure x) {pins:Y8} {s:Shared} {σ:L2.St} {H:Hp} {Q:VK} {use:Option (Value->Sem Unit)} {QQ:Y9} (p0:Pos) (I:L2.Inv X pins σ H s) (h:aBh wi nt js g tc te σ H Q)
  (fin:∀(a C:Addr) (s6:Shared) (H5:Hp) (m:Y6),L2.Inv X pins σ H5 s6->s6.heap.Ns C m->qY X pins H5 C->Q (.ref a) H5->compPost (model X.prog X.w) X.A X.xe use QQ (.ref a) C (.ok .next) s6) :
  wpAny (model X.prog X.w) X.A (comprehension (.ListComp elt [⟨tg,iter,ifs,0⟩] scope pos) scope X.env p0 (newList []) false (eval iter X.env) use) QQ X.xe s:=by
 obtain ⟨cl,hcl,cl1,cl2⟩:=yY scope X.env fun y hy hf=>I.ok.has y.1 (hfr y hy hf)
 refine wpAny_comprehension_free (use:=use) rfl hs hcl hkind hnames (wpAny_mono (hi pins s σ H _ I h) (fun xv s1 h1=>wpAny_mono h1 (fun itv s2 h2=>?_) fun _ _ z=>z) fun _ _ z=>z)
 obtain ⟨it,fp,tn,J,H2,rfl,I2,T,st2,hfp,h2⟩:=h2
 obtain ⟨W,⟨m0,w0⟩,turn⟩:=h2 s2.heap.objs.size I2.fresh
 refine wpAny_newObj_type (wpAny_newFunctionEnv hcell (by intro y hy;simp at hy) (fun h₁ hns₁ hsb₁=>?_) hkind)
 dsimp only at hns₁ hsb₁ ⊢
 have I3:L2.Inv X pins σ (upd H2 s2.heap.objs.size (.lst [])) { s2 with heap:=s2.heap.push { cls:=.type "list",data:=.seq ([]:Y1).toArray } }:=I2.aO8 (its:=[]) (t':=s2.toks) .nil (Nat.zero_le _)
 generalize hs3:({ s2 with heap:=s2.heap.push { cls:=.type "list",data:=.seq ([]:Y1).toArray } }:Shared)=s3 at I3
 have e3:s3.heap=s2.heap.push { cls:=.type "list",dict:=none,data:=.seq ([]:Y1).toArray }:=by rw [<- hs3]
 rw [<- e3] at hns₁ hsb₁
 have hH3:∃H3,H3=upd H2 s2.heap.objs.size (.lst []):=⟨_,rfl⟩
 obtain ⟨H3,eH3⟩:=hH3
 rw [<- eH3] at I3 w0
 have hC:s3.heap.objs.size=s2.heap.objs.size+1:=by rw [e3,Heap.size_push]
 have k1:∀b u,s3.heap.get? b=some u->h₁.get? b=some u:=fun b u e=>hsb₁.extBut b u (Nat.ne_of_lt (Heap.lt_size e)) (Heap.get?_push_of_some _ e)
 have k2:∀b u,s2.heap.get? b=some u->s3.heap.get? b=some u:=fun b u e=>by rw [e3];exact Heap.get?_push_of_some _ e
 have hfpo:∀b∈fp,∃o,s2.heap.get? b=some o:=fun b hb=>let ⟨o,e,_⟩:=T.obj 0 _ st2 b hb;⟨o,e⟩
 have hfplt:∀b∈fp,b<s2.heap.objs.size:=fun b hb=>let ⟨o,e⟩:=hfpo b hb;Heap.lt_size e
 have hfn:∀b∈fp,b ∉ frs X.stack:=fun b hb z=>(List.mem_cons.mp (I2.vU b z)).elim (hfp b hb).2.1 (hfp b hb).2.2.1
 have hH3fp:∀b∈fp,H3 b=none:=fun b hb=>by rw [eH3,aW (Nat.ne_of_lt (hfplt b hb))];exact (hfp b hb).1
 let Y:=blk X scope cl N s3 H3 fp
 obtain ⟨pg,pt,pe⟩:=hb cl s3 H3 fp
 have okY:Y.Ok:=by
  refine ⟨I3.ok.mod,by show (relabel scope X.env).kind=_;exact hkind,I3.ok.glob,I3.ok.blt,Nat.le_refl _,fun x y c a b=>I3.ok.inj x y c (cl1 x c a) (cl1 y c b),fun x hx=>?_,(fun x c z=>by cases z),I3.ok.hd,I3.ok.frames,.inl rfl,fun b hb=>⟨?_,fun x c e=>(hfp b hb).2.2.2.2.1 x c (cl1 x c e)⟩,I3.bs,Nat.le_trans I3.ok.bsz I3.sz,fun b o e hb=>?_,hfn,I3.stack,I3.pX⟩
  ·have hx':(relabel scope X.env).names.lookup x=some .cell\/(relabel scope X.env).names.lookup x=some .free:=hx
   obtain ⟨y,hy,e1,e2⟩:∃y∈scope.names,y.1=x/\(y.2=.free\/y.2=.cell):=by
    rcases hx' with z | z
    ·exact kF z (.inl rfl)
    ·exact kF z (.inr rfl)
   have e2:y.2=.free:=e2.elim id fun z=>absurd z (hcell y hy)
   obtain ⟨c,ec⟩:=I3.ok.has y.1 (hfr y hy e2)
   exact ⟨c,by subst e1;exact (cl2 y hy e2).trans ec⟩
  ·exact Nat.ne_of_lt (by show b<s3.heap.objs.size;rw [hC];exact Nat.lt_succ_of_lt (hfplt b hb))
  ·rcases (hfp b hb).2.2.2.1 with z | z
   ·exact I3.ok.noex b o e z
   ·exact absurd (Nat.lt_of_lt_of_le (Heap.lt_size e) (Nat.le_trans I3.ok.bsz z)) (Nat.lt_irrefl _)
 have vals:∀(i:Nat) (x:Str) (v:V),N[i]?=some x->(List.replicate nt none++js.map fun j=>(σ[j]?).join)[i]?=some (some v)->∃u c,RelV v u/\X.env.cells.lookup x=some c/\s3.heap.IsCell c (some u)/\scope.names.lookup x=some .free:=by
  intro i x v a1 a2
  have hi:nt<=i:=by
   rcases Nat.lt_or_ge i nt with z | z
   ·rw [List.getElem?_append_left (by simpa using z),List.getElem?_replicate,if_pos z] at a2;cases a2
   ·exact z
  obtain ⟨k,rfl⟩:=Nat.exists_eq_add_of_le hi
  rw [List.getElem?_append_right (by simp)] at a2
  rw [List.length_replicate,Nat.add_sub_cancel_left,List.getElem?_map] at a2
  cases ej:js[k]? with
  | none=>rw [ej] at a2;cases a2
  | some j =>
   rw [ej] at a2
   have hv:σ[j]?=some (some v):=by
    have a2:(σ[j]?).join=some v:=Option.some.inj a2
    cases q:σ[j]? with
    | none=>rw [q] at a2;cases a2
    | some o=>rw [q] at a2;exact congrArg some a2
   obtain ⟨y,n1,n2,n3⟩:=hjs k j ej
   have ey:y=x:=by rw [n1] at a1;exact Option.some.inj a1
   subst ey
   have mem:(y,NameKind.free)∈scope.names:=PySem.mem_of_lookup n3
   have kd:=hfr _ mem rfl
   have vis:Vis X.env.scope y:=by
    rcases kd with z | z
    ·exact .inr (.inl z)
    ·exact .inr (.inr z)
   obtain ⟨m,hn,hl⟩:=I3.loc
   obtain ⟨u,ru,look⟩:=hl j y v n2 hv vis
   rcases look with ⟨kk,_⟩ | ⟨kk,c,ec,hce⟩
   ·rcases kd with z | z
    ·rw [z] at kk;cases kk
    ·rw [z] at kk;cases kk
   ·exact ⟨u,c,ru,ec,hce,n3⟩
 have IY:L2.Inv Y [] (List.replicate nt none++js.map fun j=>(σ[j]?).join) H3 { s3 with heap:=h₁,toks:=s3.toks+([]:List (Str×Value)).length }:=by
  refine ⟨okY,rfl,I3.bare,Un.kept k1,⟨_,hns₁,fun i x v a1 a2 a3=>?_⟩,fun x c e=>?_,I3.hok.fresh (Nat.le_refl _),fun x c e=>I3.freeC x c (cl1 x c e),(fun p hp=>by cases hp),I3.hok.kept k1,?_⟩
  ·obtain ⟨u,c,ru,ec,⟨o,ho,hd⟩,n3⟩:=vals i x v a1 a2
   exact ⟨u,ru,.inr ⟨gL n3,c,(cl2 (x,.free) (PySem.mem_of_lookup n3) rfl).trans ec,o,k1 c o ho,hd⟩⟩
  ·obtain ⟨v,o,ho,hd⟩:=I3.cell x c (cl1 x c e)
   exact ⟨v,o,k1 c o ho,hd⟩
  ·show _=N.length
   simp;omega
 have hfY:∀ {H':Hp},(∀b∈fp,H' b=none)->∀b∈fp,qY Y [] H' b:=fun hn b hb =>
  ⟨hn b hb,Nat.ne_of_lt (by show b<s3.heap.objs.size;rw [hC];exact Nat.lt_succ_of_lt (hfplt b hb)),hfn b hb,.inl hb,fun x c e=>(hfp b hb).2.2.2.2.1 x c (cl1 x c e),fun p hp=>by cases hp⟩
 have st1:tn 0 h₁:=T.keep 0 _ _ st2 fun b hb o e=>k1 b o (k2 b o e)
 have loop:∀s4:Shared,s4={ s3 with heap:=h₁,toks:=s3.toks+([]:List (Str×Value)).length }->codeAny (model X.prog X.w) X.A (.compLoop (.ListComp elt [⟨tg,iter,ifs,0⟩] scope pos) 0 (.ref it) (.ref s2.heap.objs.size) (compEnvC scope cl s3.heap.objs.size X.env))
   (compPost (model X.prog X.w) X.A X.xe use QQ (.ref s2.heap.objs.size) s3.heap.objs.size) s4:=by
  rintro s4 rfl
  refine wX (fun n s'=>∃i σ' H',L2.Inv Y [] σ' H' s'/\tn i s'.heap/\(∀b∈fp,H' b=none)/\W i n σ' H') ?_ m0 ⟨0,_,H3,IY,st1,hH3fp,w0⟩
  rintro n s5 ⟨i,σ5,H5,I5,st5,fr5,w5⟩
  rcases turn i n σ5 H5 w5 with ⟨stop,qn⟩ | ⟨go,step⟩
  ·refine wpAny_mono (T.done Y rfl rfl rfl hc i [] s5 σ5 H5 (fun _ _=>False) I5 (hfY fr5) st5 stop) (fun r s6 ⟨hr,I6⟩=>?_) fun _ _ z=>z
   subst hr
   obtain ⟨m,hn,_⟩:=I6.loc
   have U6:Un (frs X.stack) fp H3 H5 s3.heap s6.heap:=I6.base
   have U2:Un (frs X.stack) fp H2 H3 s2.heap s3.heap:=by rw [eH3];exact Un.laid k2 (Nat.le_refl _) I2.fresh
   have IX:L2.Inv X pins σ H5 s6:=by
    refine I2.yX (s':=s6) ?_ (U2.trans U6) I6.hok I6.bare fun b hb=>⟨(hfp b hb).2.2.2.1,(hfp b hb).2.1,(hfp b hb).2.2.2.2.1,(hfp b hb).2.2.2.2.2⟩
    rw [I6.os]
    show s3.os=s2.os
    rw [<- hs3]
   exact fin _ _ s6 H5 m IX hn (I2.aHl (by rw [hC];exact Nat.le_succ _) I6.free) qn
  ·refine wpAny_mono (T.item Y rfl rfl rfl hc i [] s5 σ5 H5 (fun _ _=>False) I5 (hfY fr5) st5 go) (fun r s6 ⟨u,hr,h6⟩=>?_) fun _ _ z=>z
   subst hr
   refine wpAny_mono h6 (fun _ s7 ⟨x,H7,I7,r7,y7,st7,fr7⟩=>?_) fun _ _ z=>z
   have I7':=I7.pinned (hfY fr7) (T.obj _ _ st7)
   refine wpAny_mono (pg _ s7 σ5 H7 x u _ I7' r7 (step x H7 y7)) (fun _ s8 ⟨σ8,H8,I8,q8⟩=>?_) fun _ _ z=>z
   refine wpAny_mono (pt _ s8 σ8 H8 _ I8 q8) (fun ok s9 ⟨H9,I9,q9⟩=>?_) fun _ _ z=>z
   have again:∀ {s':Shared} {H':Hp} {m':Nat},L2.Inv Y ([]++rF fp s7.heap) σ8 H' s'->m'<n->W (i+1) m' σ8 H'->∃m,m<n/\∃i σ' H',L2.Inv Y [] σ' H' s'/\tn i s'.heap/\(∀b∈fp,H' b=none)/\W i m σ' H':=fun {s' H' m'} I' hm w'=>by
    refine ⟨m',hm,i+1,σ8,H',I'.oC,T.keep _ _ _ st7 fun b hb o e=>(I'.pin (b,o) (List.mem_append_right _ (List.mem_append_right _ (jS hb e)))).1,fun b hb=>?_,w'⟩
    obtain ⟨o,e,d⟩:=T.obj _ _ st7 b hb
    exact (I'.pin (b,o) (List.mem_append_right _ (List.mem_append_right _ (jS hb e)))).2.1
   cases ok with
   | false =>
    rw [if_neg Bool.false_ne_true] at q9 ⊢
    obtain ⟨m',hm,w'⟩:=q9
    exact again I9 hm w'
   | true =>
    rw [if_pos rfl] at q9 ⊢
    refine wpAny_mono (pe _ s9 σ8 H9 _ I9 q9) (fun yv s10 ⟨y,H10,I10,r10,xs,hacc,hz,m',hm,w'⟩=>?_) fun _ _ z=>z
    refine wpAny_mono (oJ (X:=blk X scope cl N s3 H3 fp) _ s10 σ8 H10 (.ref s2.heap.objs.size) [y] (.ref s2.heap.objs.size) [yv] (fun _ H'=>H'=upd H10 s2.heap.objs.size (.lst (xs ++ [y]))) I10 rfl (.cons r10 .nil) ⟨s2.heap.objs.size,xs,y,rfl,rfl,hacc,hz,rfl⟩) (fun _ s11 ⟨_,H11,I11,_,e11⟩=>?_) fun _ _ z=>z
    subst e11
    exact again I11 hm w'
 subst hs3
 exact codeAny_compStart_list (loop _ rfl) (T.self _ 0 _ _ _ st1 (loop _ rfl))
theorem Inv.aLu {pins:Y8} {s:Shared} {σ:L2.St} {H:Hp} {C:Addr} {m:Y6} {h':Heap} (I:L2.Inv X pins σ H s) (n:s.heap.Ns C m) (f:qY X pins H C) (hs:Heap.SameBut C s.heap h'):L2.Inv X pins σ H { s with heap:=h' }:=by
 have hne:∀b,b ∉ [C]->b ≠ C:=fun b hb z=>hb (by rw [z];exact List.mem_cons_self)
 refine I.yX (s':={ s with heap:=h' }) (ch:=[C]) rfl ?_ ?_ I.bare fun b hb=>?_
 ·exact ⟨fun b o e _ _ hx=>(hs.2 b (hne b hx)).trans e,fun b o e _ _ hx=>⟨o.slots,(hs.2 b (hne b hx)).trans e⟩,fun b o _ q _=>q,fun b o e hx=>⟨o,(hs.2 b (hne b hx)).trans e⟩,fun _ _ q=>q,fun _ _ _ q=>q,fun _ ps q=>⟨#[],by simpa using q⟩⟩
 ·intro b u e
  have hbC:∀c,(c=b\/H c=some (.own b))->c ≠ C:=fun c hcb z=>by
   rcases hcb with q | q
   ·rw [<- q,z,f.1] at e;cases e
   ·rw [z,f.1] at q;cases q
  exact (I.hok b u e).stay (fun c w' hcb q=>(hs.2 c (hbC c hcb)).trans q) (fun _ q=>q) fun _ _ q=>q
 ·have:b=C:=by simpa using hb
  subst this
  exact ⟨f.2.2.2.1,f.2.1,f.2.2.2.2.1,f.2.2.2.2.2⟩
theorem aJ2 {elt iter tg:Expr} {ifs:List Expr} {scope:Scope} {wi:TI} {N:List Str} {nt:Nat} {js:T0} {g:TG} {tc:TT} {te:TE}
  (hc:X.calm=true) (hi:PI X tg iter wi) (hkind:scope.kind=.function) (hcell:∀y∈scope.names,y.2 ≠ .cell) (hnames:∀y∈scope.names,y.2=.local->scope.names.lookup y.1=some .local)
  (hfr:∀y∈scope.names,y.2=.free->X.env.kindOf y.1=some .cell\/X.env.kindOf y.1=some .free)
  (hlen:nt+js.length=N.length)
  (hjs:∀(k:Nat) (j:Nat),js[k]?=some j->∃x,N[nt+k]?=some x/\X.N[j]?=some x/\scope.names.lookup x=some .free)
  (hb:∀cl s3 H3 fp,PG (blk X scope cl N s3 H3 fp) tg g/\PTs (blk X scope cl N s3 H3 fp) ifs tc/\PE (blk X scope cl N s3 H3 fp) elt te)
  (hs:∀x,foldedSetIterable iter X.env x=pure x:=by intro _;rfl) :
  PE X (.ListComp elt [⟨tg,iter,ifs,0⟩] scope pos) (aBh wi nt js g tc te):=by
 intro pins s σ H Q I h
 rw [eval_ListComp]
 exact tR hc hi hkind hcell hnames hfr hlen hjs hb hs _ I h fun a C s6 H5 m IX hn hf q=>⟨m,hn,fun h' hs'=>⟨.ref a,H5,Inv.aLu IX hn hf hs',rfl,q⟩⟩
theorem aAt {i:Nat} {y:Str} {py spos:Pos} {elt iter tg:Expr} {ifs:List Expr} {scope:Scope} {wi:TI} {N:List Str} {nt:Nat} {js:T0} {g:TG} {tc:TT} {te:TE}
  (hN:X.N.Nodup) (hi0:X.N[i]?=some y) (hx:X.env.scope.names.lookup y=some .local) (hsw:swapsWith (.ListComp elt [⟨tg,iter,ifs,0⟩] scope pos) (some (.Name y py)) spos.line X.env=pure true) (hc:X.calm=true) (hi:PI X tg iter wi) (hkind:scope.kind=.function) (hcell:∀y∈scope.names,y.2 ≠ .cell) (hnames:∀y∈scope.names,y.2=.local->scope.names.lookup y.1=some .local)
  (hfr:∀y∈scope.names,y.2=.free->X.env.kindOf y.1=some .cell\/X.env.kindOf y.1=some .free)
  (hlen:nt+js.length=N.length)
  (hjs:∀(k:Nat) (j:Nat),js[k]?=some j->∃x,N[nt+k]?=some x/\X.N[j]?=some x/\scope.names.lookup x=some .free)
  (hb:∀cl s3 H3 fp,PG (blk X scope cl N s3 H3 fp) tg g/\PTs (blk X scope cl N s3 H3 fp) ifs tc/\PE (blk X scope cl N s3 H3 fp) elt te)
  (hs:∀x,foldedSetIterable iter X.env x=pure x:=by intro _;rfl):PS X (.Assign [.Name y py] (.ListComp elt [⟨tg,iter,ifs,0⟩] scope pos) spos) (aDb (aBh wi nt js g tc te) (oY i)):=by
 intro pins s σ H D I h
 rw [exec_Assign_Name_used _ _ _ _ hsw]
 refine wpAny_bind (wpAny_standAt (wpAny_bind ?_))
 show wpAny _ X.A (do let _ <- comprehension (.ListComp elt [⟨tg,iter,ifs,0⟩] scope pos) scope X.env _ (newList []) false (eval iter X.env) (some (assign (.Name y py) X.env))) _ _ s
 refine wpAny_bind (wpAny_mono (tR (QQ:=fun _ s'=>(SP X pins D) .next s') hc hi hkind hcell hnames hfr hlen hjs hb hs _ I h fun a C s6 H5 m IX hn hf q=>?_) (fun _ s' hq=>wpAny_pure (wpAny_pure hq)) fun _ _ e=>e)
 show wpAny _ X.A (assign (.Name y py) X.env (.ref a)) _ _ _
 refine wpAny_assign_Name (tE (v:=.ref a) IX hN hi0 (.inl hx) rfl (fun s7 I7 ⟨a0,sb,ha⟩=>?_) (.inr hx))
 have hne:C ≠ a0:=fun z=>by
  rcases ha with q | q
  ·exact hf.2.1 (z.trans q)
  ·exact hf.2.2.2.2.1 y a0 q z.symm
 exact ⟨m,hn.sameBut sb hne,fun h' hs'=>⟨_,H5,Inv.aLu I7 (hn.sameBut sb hne) hf hs',q⟩⟩
end
end VL
end
section
namespace VL
open PySem L2
inductive Tg where
 | exc (c:Str) | dK (kvs:List (Key×Int)) | dT (kvs:List (List Key×Int))
 deriving Inhabited
inductive D where
 | non | bl (b:Bool) | int (i:Int) | str (x:Str) | tup (ds:List D) | lst (own:Bool) (ds:List D) | ext (own:Bool) (t:Tg)
 deriving Inhabited
def ExcAt (a C:Addr):HO:=.ext fun h=>∃o vs,h.get? a=some o/\o.cls=.ref C/\o.data=.fields vs
def TgO (K:FG) (a:Addr):Tg->HO->Prop
 | .exc c,u=>∃C,PySem.W.nsIn K mainGlobals c=some (some (.ref C))/\u=ExcAt a C
 | .dK kvs,u=>u=.dK (kvs.map fun p=>(p.1,V.int p.2))
 | .dT kvs,u=>u=.dT (kvs.map fun p=>(p.1,V.int p.2))
mutual
def D.calm:D->Bool
 | .non=>true | .bl _=>true | .int _=>true | .str _=>true
 | .tup ds=>D.aZ ds
 | .lst o ds=>!o && D.aZ ds
 | .ext o _=>!o
def D.aZ:List D->Bool
 | []=>true
 | d::ds=>d.calm && D.aZ ds
end
mutual
def D.frz:D->D
 | .non=>.non | .bl b=>.bl b | .int i=>.int i | .str x=>.str x
 | .tup ds=>.tup (D.frzs ds)
 | .lst _ ds=>.lst false (D.frzs ds)
 | .ext _ t=>.ext false t
def D.frzs:List D->List D
 | []=>[]
 | d::ds=>d.frz::D.frzs ds
end
theorem D.aCh:∀ds:List D,D.frzs ds=ds.map D.frz
 | []=>rfl
 | d::ds=>by rw [D.frzs,D.aCh ds];rfl
theorem D.yW:∀ds:List D,D.aZ ds=ds.all D.calm
 | []=>rfl
 | d::ds=>by rw [D.aZ,D.yW ds];rfl
inductive R (α:Type) where
 | ok (a:α) | exc (c:Str) | bad
def R.bind {α β:Type} (x:R α) (f:α->R β):R β:=match x with
 | .ok a=>f a | .exc c=>.exc c | .bad=>.bad
def R.of {α:Type}:Option α->R α
 | some a=>.ok a | none=>.bad
mutual
def Own (K:FG) (F H:Hp):D->V->Y2->Prop
 | .non,v,fp=>v=.non/\fp=[]
 | .bl b,v,fp=>v=.bl b/\fp=[]
 | .int i,v,fp=>v=.int i/\fp=[]
 | .str x,v,fp=>v=.str x/\fp=[]
 | .tup ds,v,fp=>fp=[]/\∃a xs,v=.ref a/\SqT K F a xs/\aF K F H ds xs []
 | .lst o ds,v,fp=>∃a xs fq,v=.ref a/\aF K F H ds xs fq/\((o=true/\F a=none/\H a=some (.lst xs)/\fp=a::fq)\/(o=false/\Rd F a (.lst xs)/\fq=[]/\fp=[]))
 | .ext o t,v,fp=>∃a u,v=.ref a/\TgO K a t u/\((o=true/\F a=none/\H a=some u/\fp=[a])\/(o=false/\F a=some u/\fp=[]))
def aF (K:FG) (F H:Hp):List D->List V->Y2->Prop
 | [],vs,fp=>vs=[]/\fp=[]
 | d::ds,vs,fp=>∃v r f1 f2,vs=v::r/\Own K F H d v f1/\aF K F H ds r f2/\fp=f1++f2
end
section
variable {K:FG} {F H F' H':Hp}
theorem Same.sO {a:Addr} {xs:List V} (e:Same F F') (h:SqT K F a xs):SqT K F' a xs:=by
 rcases h with (h | ⟨o,h⟩) | h
 ·exact .inl (.inl (e _ _ h))
 ·exact .inl (.inr ⟨o,e _ _ h⟩)
 ·exact .inr h
theorem Same.rd {a:Addr} {u:HO} (e:Same F F') (h:Rd F a u):Rd F' a u:=by
 rcases h with h | ⟨o,h⟩
 ·exact .inl (e _ _ h)
 ·exact .inr ⟨o,e _ _ h⟩
mutual
theorem Own.keep (hf:Same F F'):∀(d:D) {v:V} {fp:Y2},(∀a∈fp,F' a=none/\H' a=H a)->Own K F H d v fp->Own K F' H' d v fp
 | .non,_,_,_,h=>h
 | .bl _,_,_,_,h=>h
 | .int _,_,_,_,h=>h
 | .str _,_,_,_,h=>h
 | .tup ds,v,fp,_,h=>by
  unfold Own at h ⊢
  obtain ⟨e,a,xs,e1,q,r⟩:=h
  exact ⟨e,a,xs,e1,Same.sO hf q,aF.keep hf ds (by simp) r⟩
 | .lst o ds,v,fp,k,h=>by
  unfold Own at h ⊢
  obtain ⟨a,xs,fq,e1,r,h⟩:=h
  rcases h with ⟨o1,h1,h2,h3⟩ | ⟨o1,h1,h2,h3⟩
  ·subst h3
   obtain ⟨k1,k2⟩:=k a List.mem_cons_self
   exact ⟨a,xs,fq,e1,aF.keep hf ds (fun b hb=>k b (List.mem_cons_of_mem _ hb)) r,.inl ⟨o1,k1,k2.trans h2,rfl⟩⟩
  ·subst h2
   exact ⟨a,xs,[],e1,aF.keep hf ds (by simp) r,.inr ⟨o1,Same.rd hf h1,rfl,h3⟩⟩
 | .ext o t,v,fp,k,h=>by
  unfold Own at h ⊢
  obtain ⟨a,u,e1,tg,h⟩:=h
  rcases h with ⟨o1,h1,h2,h3⟩ | ⟨o1,h1,h3⟩
  ·subst h3
   obtain ⟨k1,k2⟩:=k a List.mem_cons_self
   exact ⟨a,u,e1,tg,.inl ⟨o1,k1,k2.trans h2,rfl⟩⟩
  ·exact ⟨a,u,e1,tg,.inr ⟨o1,hf _ _ h1,h3⟩⟩
theorem aF.keep (hf:Same F F'):∀(ds:List D) {vs:List V} {fp:Y2},(∀a∈fp,F' a=none/\H' a=H a)->aF K F H ds vs fp->aF K F' H' ds vs fp
 | [],_,_,_,h=>h
 | d::ds,vs,fp,k,h=>by
  unfold aF at h ⊢
  obtain ⟨v,r,f1,f2,e,h1,h2,e2⟩:=h
  subst e2
  exact ⟨v,r,f1,f2,e,Own.keep hf d (fun b hb=>k b (List.mem_append_left _ hb)) h1,aF.keep hf ds (fun b hb=>k b (List.mem_append_right _ hb)) h2,rfl⟩
end
mutual
theorem Own.zone:∀(d:D) {v:V} {fp:Y2},Own K F H d v fp->∀a∈fp,F a=none/\∃u,H a=some u
 | .non,_,_,h,a,ha=>by unfold Own at h;rw [h.2] at ha;cases ha
 | .bl _,_,_,h,a,ha=>by unfold Own at h;rw [h.2] at ha;cases ha
 | .int _,_,_,h,a,ha=>by unfold Own at h;rw [h.2] at ha;cases ha
 | .str _,_,_,h,a,ha=>by unfold Own at h;rw [h.2] at ha;cases ha
 | .tup _,_,_,h,a,ha=>by unfold Own at h;rw [h.1] at ha;cases ha
 | .lst o ds,v,fp,h,a,ha=>by
  unfold Own at h
  obtain ⟨b,xs,fq,e1,r,h⟩:=h
  rcases h with ⟨o1,h1,h2,h3⟩ | ⟨o1,h1,h2,h3⟩
  ·subst h3
   rcases List.mem_cons.mp ha with rfl | ha
   ·exact ⟨h1,_,h2⟩
   ·exact aF.zone ds r a ha
  ·rw [h3] at ha;cases ha
 | .ext o t,v,fp,h,a,ha=>by
  unfold Own at h
  obtain ⟨b,u,e1,tg,h⟩:=h
  rcases h with ⟨o1,h1,h2,h3⟩ | ⟨o1,h1,h3⟩
  ·subst h3
   have:a=b:=by simpa using ha
   subst this
   exact ⟨h1,u,h2⟩
  ·rw [h3] at ha;cases ha
theorem aF.zone:∀(ds:List D) {vs:List V} {fp:Y2},aF K F H ds vs fp->∀a∈fp,F a=none/\∃u,H a=some u
 | [],_,_,h,a,ha=>by unfold aF at h;rw [h.2] at ha;cases ha
 | d::ds,vs,fp,h,a,ha=>by
  unfold aF at h
  obtain ⟨v,r,f1,f2,e,h1,h2,e2⟩:=h
  subst e2
  rcases List.mem_append.mp ha with ha | ha
  ·exact Own.zone d h1 a ha
  ·exact aF.zone ds h2 a ha
end
mutual
theorem Own.dA:∀(d:D) {v:V} {fp:Y2},d.calm=true->Own K F H d v fp->fp=[]
 | .non,_,_,_,h=>by unfold Own at h;exact h.2
 | .bl _,_,_,_,h=>by unfold Own at h;exact h.2
 | .int _,_,_,_,h=>by unfold Own at h;exact h.2
 | .str _,_,_,_,h=>by unfold Own at h;exact h.2
 | .tup _,_,_,_,h=>by unfold Own at h;exact h.1
 | .lst o ds,_,_,hc,h=>by
  unfold Own at h
  obtain ⟨a,xs,fq,e1,r,h⟩:=h
  rcases h with ⟨o1,_⟩ | ⟨_,_,_,h3⟩
  ·subst o1;simp [D.calm] at hc
  ·exact h3
 | .ext o t,_,_,hc,h=>by
  unfold Own at h
  obtain ⟨b,u,e1,tg,h⟩:=h
  rcases h with ⟨o1,_⟩ | ⟨_,_,h3⟩
  ·subst o1;simp [D.calm] at hc
  ·exact h3
end
theorem aF.dA:∀(ds:List D) {vs:List V} {fp:Y2},D.aZ ds=true->aF K F H ds vs fp->fp=[]
 | [],_,_,_,h=>by unfold aF at h;exact h.2
 | d::ds,vs,fp,hc,h=>by
  unfold aF at h
  obtain ⟨v,r,f1,f2,e,h1,h2,e2⟩:=h
  simp only [D.aZ,Bool.and_eq_true] at hc
  rw [e2,Own.dA d hc.1 h1,aF.dA ds hc.2 h2];rfl
theorem aF.length:∀(ds:List D) {vs:List V} {fp:Y2},aF K F H ds vs fp->ds.length=vs.length
 | [],_,_,h=>by unfold aF at h;rw [h.1];rfl
 | d::ds,vs,fp,h=>by
  unfold aF at h
  obtain ⟨v,r,f1,f2,e,h1,h2,e2⟩:=h
  rw [e,List.length_cons,List.length_cons,aF.length ds h2]
theorem aF.get:∀(ds:List D) {vs:List V} {fp:Y2} {i:Nat} {d:D},aF K F H ds vs fp->ds[i]?=some d->∃v f,vs[i]?=some v/\Own K F H d v f/\f.Sublist fp
 | [],_,_,_,_,_,e=>by simp at e
 | c::ds,vs,fp,0,d,h,e=>by
  unfold aF at h
  obtain ⟨v,r,f1,f2,e1,h1,h2,e2⟩:=h
  simp at e;subst e;subst e1;subst e2
  exact ⟨v,f1,rfl,h1,List.sublist_append_left _ _⟩
 | c::ds,vs,fp,i+1,d,h,e=>by
  unfold aF at h
  obtain ⟨v,r,f1,f2,e1,h1,h2,e2⟩:=h
  subst e1;subst e2
  obtain ⟨u,f,q1,q2,q3⟩:=aF.get ds (i:=i) h2 (by simpa using e)
  exact ⟨u,f,by simpa using q1,q2,q3.trans (List.sublist_append_right _ _)⟩
theorem aF.append:∀(ds:List D) {es:List D} {vs us:List V} {f g:Y2},aF K F H ds vs f->aF K F H es us g->aF K F H (ds++es) (vs++us) (f++g)
 | [],es,vs,us,f,g,h,k=>by unfold aF at h;rw [h.1,h.2];exact k
 | d::ds,es,vs,us,f,g,h,k=>by
  unfold aF at h
  obtain ⟨v,r,f1,f2,e1,h1,h2,e2⟩:=h
  subst e1;subst e2
  show aF K F H (d::(ds++es)) _ _
  unfold aF
  exact ⟨v,r++us,f1,f2++g,rfl,h1,aF.append ds h2 k,by rw [List.append_assoc]⟩
theorem aF.one {d:D} {v:V} {f:Y2} (h:Own K F H d v f):aF K F H [d] [v] f:=by
 unfold aF
 exact ⟨v,[],f,[],rfl,h,by unfold aF;exact ⟨rfl,rfl⟩,by simp⟩
theorem aF.nil:aF K F H [] [] []:=by unfold aF;exact ⟨rfl,rfl⟩
theorem aF.cons {d:D} {v:V} {f:Y2} {ds:List D} {vs:List V} {g:Y2} (h:Own K F H d v f) (k:aF K F H ds vs g):aF K F H (d::ds) (v::vs) (f++g):=by
 unfold aF;exact ⟨v,vs,f,g,rfl,h,k,rfl⟩
theorem aF.of_get:∀(ds:List D) {vs:List V},ds.length=vs.length->(∀(i:Nat) (d:D) (v:V),ds[i]?=some d->vs[i]?=some v->Own K F H d v [])->aF K F H ds vs []
 | [],vs,hl,_=>by
  have:vs=[]:=List.length_eq_zero_iff.mp (by simpa using hl.symm)
  subst this;exact aF.nil
 | d::ds,[],hl,_=>by simp at hl
 | d::ds,v::vs,hl,h=>by
  have h1:=h 0 d v rfl rfl
  have h2:=aF.of_get ds (vs:=vs) (by simpa using hl) fun i d' v' e1 e2=>h (i+1) d' v' (by simpa using e1) (by simpa using e2)
  exact aF.cons h1 h2
theorem aF.aO9 {ds:List D} {vs:List V} {i:Nat} {d:D} {v:V} (h:aF K F H ds vs []) (e:ds[i]?=some d) (e2:vs[i]?=some v):Own K F H d v []:=by
 obtain ⟨u,f,q1,q2,q3⟩:=aF.get ds h e
 rw [e2] at q1;cases q1
 have:f=[]:=List.sublist_nil.mp q3
 subst this;exact q2
structure Grow (F H F' H':Hp):Prop where
 fr:Same F F'
 all:Same H H'
 inn:Same F' H'
 new:∀b o,F' b=some o->F b=some o\/H b=none
theorem Grow.refl (h:Same F H):Grow F H F H:=⟨Same.refl _,Same.refl _,h,fun _ _ e=>.inl e⟩
theorem Grow.trans {F1 H1 F2 H2:Hp} (a:Grow F H F1 H1) (b:Grow F1 H1 F2 H2):Grow F H F2 H2 :=
 ⟨a.fr.trans b.fr,a.all.trans b.all,b.inn,fun c o e=>by
  rcases b.new c o e with h | h
  ·exact a.new c o h
  ·exact .inr (a.all.free h)⟩
theorem Own.grow {d:D} {v:V} {fp:Y2} (g:Grow F H F' H') (h:Own K F H d v fp):Own K F' H' d v fp:=by
 refine Own.keep g.fr d (fun a ha=>?_) h
 obtain ⟨h1,xs,h2⟩:=Own.zone d h a ha
 refine ⟨?_,(g.all a _ h2).trans h2.symm⟩
 cases e:F' a with
 | none=>rfl
 | some o =>
  rcases g.new a o e with q | q
  ·rw [h1] at q;cases q
  ·rw [h2] at q;cases q
theorem aF.grow {ds:List D} {vs:List V} {fp:Y2} (g:Grow F H F' H') (h:aF K F H ds vs fp):aF K F' H' ds vs fp:=by
 refine aF.keep g.fr ds (fun a ha=>?_) h
 obtain ⟨h1,xs,h2⟩:=aF.zone ds h a ha
 refine ⟨?_,(g.all a _ h2).trans h2.symm⟩
 cases e:F' a with
 | none=>rfl
 | some o =>
  rcases g.new a o e with q | q
  ·rw [h1] at q;cases q
  ·rw [h2] at q;cases q
theorem Same.upd {p:Addr} {o:HO} (h:H p=none):Same H (upd H p o):=fun b u e=>by
 rw [aW (bJ e h)];exact e
theorem Grow.both {p:Addr} {o:HO} (hs:Same F H) (h:H p=none):Grow F H (upd F p o) (upd H p o):=by
 refine ⟨Same.upd (hs.free h),Same.upd h,fun b u e=>?_,fun b u e=>?_⟩
 ·by_cases hb:b=p
  ·subst hb;rw [bR] at e ⊢;exact e
  ·rw [aW hb] at e ⊢;exact hs b u e
 ·by_cases hb:b=p
  ·subst hb;exact .inr h
  ·rw [aW hb] at e;exact .inl e
theorem Grow.one {p:Addr} {o:HO} (hs:Same F H) (h:H p=none):Grow F H F (upd H p o) :=
 ⟨Same.refl _,Same.upd h,fun b u e=>by rw [aW (bJ (hs b u e) h)];exact hs b u e,fun _ _ e=>.inl e⟩
def eZ (F H:Hp) (fp:Y2):Hp:=fun b=>if b∈fp then H b else F b
theorem eW {fp:Y2} (h:∀a∈fp,F a=none):Same F (eZ F H fp):=fun b o e=>by
 unfold eZ
 rw [if_neg fun hb=>by rw [h b hb] at e;cases e];exact e
theorem nS {fp:Y2} (hs:Same F H):Same (eZ F H fp) H:=fun b o e=>by
 unfold eZ at e
 split at e
 ·exact e
 ·exact hs b o e
mutual
theorem Own.freeze {fp:Y2} (hz:∀a∈fp,F a=none):∀(d:D) {v:V} {f:Y2},(∀a∈f,a∈fp)->Own K F H d v f->Own K (eZ F H fp) H d.frz v []
 | .non,_,_,_,h=>by unfold Own at h;unfold D.frz Own;exact ⟨h.1,rfl⟩
 | .bl _,_,_,_,h=>by unfold Own at h;unfold D.frz Own;exact ⟨h.1,rfl⟩
 | .int _,_,_,_,h=>by unfold Own at h;unfold D.frz Own;exact ⟨h.1,rfl⟩
 | .str _,_,_,_,h=>by unfold Own at h;unfold D.frz Own;exact ⟨h.1,rfl⟩
 | .tup ds,_,_,_,h=>by
  unfold Own at h;unfold D.frz Own
  obtain ⟨e,a,xs,e1,q,r⟩:=h
  exact ⟨rfl,a,xs,e1,Same.sO (eW hz) q,aF.freeze hz ds (by simp) r⟩
 | .lst o ds,v,f,hf,h=>by
  unfold Own at h;unfold D.frz Own
  obtain ⟨a,xs,fq,e1,r,h⟩:=h
  rcases h with ⟨o1,h1,h2,h3⟩ | ⟨o1,h1,h2,h3⟩
  ·subst h3
   refine ⟨a,xs,[],e1,aF.freeze hz ds (fun b hb=>hf b (List.mem_cons_of_mem _ hb)) r,.inr ⟨rfl,.inl ?_,rfl,rfl⟩⟩
   unfold eZ;rw [if_pos (hf a List.mem_cons_self)];exact h2
  ·subst h2
   exact ⟨a,xs,[],e1,aF.freeze hz ds (by simp) r,.inr ⟨rfl,Same.rd (eW hz) h1,rfl,rfl⟩⟩
 | .ext o t,v,f,hf,h=>by
  unfold Own at h;unfold D.frz Own
  obtain ⟨a,u,e1,tg,h⟩:=h
  rcases h with ⟨o1,h1,h2,h3⟩ | ⟨o1,h1,h3⟩
  ·subst h3
   refine ⟨a,u,e1,tg,.inr ⟨rfl,?_,rfl⟩⟩
   unfold eZ;rw [if_pos (hf a List.mem_cons_self)];exact h2
  ·exact ⟨a,u,e1,tg,.inr ⟨rfl,eW hz _ _ h1,rfl⟩⟩
theorem aF.freeze {fp:Y2} (hz:∀a∈fp,F a=none):∀(ds:List D) {vs:List V} {f:Y2},(∀a∈f,a∈fp)->aF K F H ds vs f->aF K (eZ F H fp) H (D.frzs ds) vs []
 | [],_,_,_,h=>by unfold aF at h;unfold D.frzs aF;exact ⟨h.1,rfl⟩
 | d::ds,vs,f,hf,h=>by
  unfold aF at h;unfold D.frzs aF
  obtain ⟨v,r,f1,f2,e,h1,h2,e2⟩:=h
  subst e2
  exact ⟨v,r,[],[],e,Own.freeze hz d (fun b hb=>hf b (List.mem_append_left _ hb)) h1,aF.freeze hz ds (fun b hb=>hf b (List.mem_append_right _ hb)) h2,rfl⟩
end
mutual
theorem D.frz_calm:∀d:D,d.calm=true->d.frz=d
 | .non,_=>rfl | .bl _,_=>rfl | .int _,_=>rfl | .str _,_=>rfl
 | .tup ds,h=>by unfold D.frz;rw [D.frzs_calm ds (by simpa [D.calm] using h)]
 | .lst o ds,h=>by
  simp only [D.calm,Bool.and_eq_true,Bool.not_eq_true'] at h
  unfold D.frz;rw [D.frzs_calm ds h.2,h.1]
 | .ext o t,h=>by
  simp only [D.calm,Bool.not_eq_true'] at h
  unfold D.frz;rw [h]
theorem D.frzs_calm:∀ds:List D,D.aZ ds=true->D.frzs ds=ds
 | [],_=>rfl
 | d::ds,h=>by
  simp only [D.aZ,Bool.and_eq_true] at h
  unfold D.frzs;rw [D.frz_calm d h.1,D.frzs_calm ds h.2]
end
end
inductive Slot where
 | un | val (d:D) | pin (d:D)
 deriving Inhabited
def Slot.d?:Slot->Option D
 | .un=>none | .val d=>some d | .pin d=>some d
abbrev Env:=List Slot
structure Sim (K:FG) (F H:Hp) (σ:St) (ρ:Env) (fps:Y5):Prop where
 same:Same F H
 ls:σ.length=ρ.length
 lf:fps.length=ρ.length
 at_:∀(i:Nat) (s:Slot) (d:D),ρ[i]?=some s->s.d?=some d->∃v fp,σ[i]?=some (some v)/\fps[i]?=some fp/\Own K F H d v fp
 nd:fps.flatten.Nodup
 zone:∀a∈fps.flatten,F a=none/\H a ≠ none
section
variable {K:FG} {F H F' H':Hp} {σ:St} {ρ:Env} {fps:Y5}
theorem Sim.grow (S:Sim K F H σ ρ fps) (g:Grow F H F' H'):Sim K F' H' σ ρ fps:=by
 refine ⟨g.inn,S.ls,S.lf,fun i s d e1 e2=>?_,S.nd,fun a ha=>?_⟩
 ·obtain ⟨v,fp,h1,h2,h3⟩:=S.at_ i s d e1 e2
  exact ⟨v,fp,h1,h2,h3.grow g⟩
 ·obtain ⟨h1,h2⟩:=S.zone a ha
  constructor
  ·cases e:F' a with
   | none=>rfl
   | some o =>
    rcases g.new a o e with q | q
    ·rw [h1] at q;cases q
    ·exact absurd q h2
  ·intro e
   exact h2 (g.all.free e)
end
structure Evo (F H:Hp) (Z:Y2) (F' H':Hp) (Z':Y2):Prop where
 fr:Same F F'
 keep:∀b o,H b=some o->b ∉ Z->H' b=some o
 dom:∀b,H' b=none->H b=none
 new:∀b o,F' b=some o->F b=some o\/H b=none\/b∈Z
 zone:∀b∈Z',b∈Z\/H b=none
section
variable {F H F' H' F1 H1:Hp} {Z Z' Z1:Y2}
theorem Evo.refl:Evo F H Z F H Z:=⟨Same.refl _,fun _ _ e _=>e,fun _ e=>e,fun _ _ e=>.inl e,fun _ h=>.inl h⟩
theorem Evo.trans (a:Evo F H Z F1 H1 Z1) (b:Evo F1 H1 Z1 F' H' Z'):Evo F H Z F' H' Z':=by
 refine ⟨a.fr.trans b.fr,fun c o e hc=>?_,fun c e=>a.dom c (b.dom c e),fun c o e=>?_,fun c hc=>?_⟩
 ·refine b.keep c o (a.keep c o e hc) fun hz=>?_
  rcases a.zone c hz with h | h
  ·exact hc h
  ·rw [h] at e;cases e
 ·rcases b.new c o e with h | h | h
  ·exact a.new c o h
  ·exact .inr (.inl (a.dom c h))
  ·rcases a.zone c h with h | h
   ·exact .inr (.inr h)
   ·exact .inr (.inl h)
 ·rcases b.zone c hc with h | h
  ·exact a.zone c h
  ·exact .inr (a.dom c h)
theorem Grow.evo (g:Grow F H F' H'):Evo F H Z F' H' Z :=
 ⟨g.fr,fun b o e _=>g.all b o e,fun _ e=>g.all.free e,fun b o e=>(g.new b o e).elim .inl fun h=>.inr (.inl h),fun _ h=>.inl h⟩
end
end VL
end
section
namespace VL
open PySem L2
def R.holds {α:Type} (x:R α) (P:α->Prop):Prop:=match x with
 | .ok a=>P a | _=>False
theorem R.aJ {α β:Type} {x:R α} {f:α->R β} {P:β->Prop}:(x.bind f).holds P ↔ x.holds fun a=>(f a).holds P:=by
 cases x<;>exact Iff.rfl
theorem R.aI {α:Type} {x:R α} {P Q:α->Prop} (h:x.holds P) (k:∀a,P a->Q a):x.holds Q:=by
 cases x with
 | ok a=>exact k a h
 | exc _=>exact h.elim
 | bad=>exact h.elim
theorem R.holds_of {α:Type} {x:Option α} {P:α->Prop} (h:(R.of x).holds P):∃a,x=some a/\P a:=by
 cases x with
 | none=>exact h.elim
 | some a=>exact ⟨a,rfl,h⟩
def R.hx {α:Type} (x:R α) (P:α->Prop) (W:Str->Prop):Prop:=match x with
 | .ok a=>P a | .exc c=>W c | .bad=>False
theorem R.aR8 {α:Type} {x:R α} {P:α->Prop} {W:Str->Prop} (h:x.holds P):x.hx P W:=by
 cases x with
 | ok a=>exact h
 | exc _=>exact h.elim
 | bad=>exact h.elim
theorem R.aKj {α:Type} {x:R α} {P Q:α->Prop} {W V:Str->Prop} (h:x.hx P W) (k:∀a,P a->Q a) (l:∀c,W c->V c):x.hx Q V:=by
 cases x with
 | ok a=>exact k a h
 | exc c=>exact l c h
 | bad=>exact h.elim
abbrev aL:=Env->R (D×Bool)
abbrev bU:=Env->R Bool
abbrev cW:=Env->R (List (D×Bool))
def EPost (K:FG) (F H:Hp) (Q:VK) (x:D×Bool):Prop :=
 ∀v F' H' fp,Grow F H F' H'->Own K F' H' x.1 v fp->fp.Nodup->(x.2=true->∀b∈fp,H b=none)->Q v H'
def aBn (F H:Hp) (Q:Bool->Hp->Prop) (x:Bool):Prop:=∀F' H',Grow F H F' H'->Q x H'
def Args (K:FG) (F H:Hp):List (D×Bool)->List V->Y2->Prop
 | [],vs,fa=>vs=[]/\fa=[]
 | x::xs,vs,fa=>∃v r fp f2,vs=v::r/\Own K F H x.1 v fp/\fp.Nodup/\Args K F H xs r f2/\((x.2=true/\fa=fp++f2)\/(x.2=false/\fa=f2))
def aLt (K:FG) (F H:Hp) (Q:List V->Hp->Prop) (xs:List (D×Bool)):Prop :=
 ∀vs F' H' fa,Grow F H F' H'->Args K F' H' xs vs fa->fa.Nodup->(∀b∈fa,H b=none)->Q vs H'
def tv (K:FG) (f:aL):TE:=fun σ H Q=>∃ρ F fps,Sim K F H σ ρ fps/\(f ρ).holds (EPost K F H Q)
def tvT (K:FG) (f:bU):TT:=fun σ H Q=>∃ρ F fps,Sim K F H σ ρ fps/\(f ρ).holds (aBn F H Q)
def tvA (K:FG) (f:cW):TA:=fun σ H Q=>∃ρ F fps,Sim K F H σ ρ fps/\(f ρ).holds (aLt K F H Q)
section
variable {K:FG} {F H F' H':Hp} {σ:St} {Q:VK}
theorem EPost.lift {x:D×Bool} (g:Grow F H F' H') (h:EPost K F H Q x):EPost K F' H' Q x:=fun v F2 H2 fp g2 o n k =>
 h v F2 H2 fp (g.trans g2) o n fun e b hb=>g.all.free (k e b hb)
theorem aBn.lift {Q:Bool->Hp->Prop} {x:Bool} (g:Grow F H F' H') (h:aBn F H Q x):aBn F' H' Q x:=fun F2 H2 g2=>h F2 H2 (g.trans g2)
def aD (i:Nat):aL:=fun ρ=>match ρ[i]? with
 | some (.val d)=>.ok (d,false) | some (.pin d)=>.ok (d,false) | _=>.bad
theorem Sim.sub {ρ:Env} {fps:Y5} (S:Sim K F H σ ρ fps) {i:Nat} {fp:Y2} (e:fps[i]?=some fp):fp.Nodup:=by
 have:fp∈fps:=List.mem_of_getElem? e
 exact (List.sublist_flatten_of_mem this).nodup S.nd
theorem aL7 {i:Nat} (h:tv K (aD i) σ H Q):aDg i σ H Q:=by
 obtain ⟨ρ,F,fps,S,h⟩:=h
 unfold aD at h
 cases e:ρ[i]? with
 | none=>rw [e] at h;exact h.elim
 | some s =>
  rw [e] at h
  cases s with
  | un=>exact h.elim
  | val d =>
   obtain ⟨v,fp,h1,h2,h3⟩:=S.at_ i _ d e rfl
   exact ⟨v,h1,h v F H fp (Grow.refl S.same) h3 (S.sub h2) (fun z=>by cases z)⟩
  | pin d =>
   obtain ⟨v,fp,h1,h2,h3⟩:=S.at_ i _ d e rfl
   exact ⟨v,h1,h v F H fp (Grow.refl S.same) h3 (S.sub h2) (fun z=>by cases z)⟩
def vC (d:D):aL:=fun _=>.ok (d,true)
def iB:D->Option V
 | .non=>some .non | .bl b=>some (.bl b) | .int i=>some (.int i) | .str x=>some (.str x) | _=>none
theorem gF {d:D} {v:V} (e:iB d=some v):Own K F H d v []:=by
 cases d<;>simp [iB] at e<;>subst e<;>unfold Own<;>exact ⟨rfl,rfl⟩
theorem vO {d:D} {v u:V} {fp:Y2} (e:iB d=some v) (o:Own K F H d u fp):u=v/\fp=[]:=by
 cases d<;>simp [iB] at e<;>subst e<;>unfold Own at o<;>exact o
theorem EPost.aU5 {d:D} {v:V} {b:Bool} (hs:Same F H) (h:EPost K F H Q (d,b)) (e:iB d=some v):Q v H :=
 h v F H [] (Grow.refl hs) (gF e) List.nodup_nil fun _ _ hb=>by cases hb
theorem EPost.dE {F0 H0:Hp} {d:D} {v:V} {b:Bool} (g:Grow F0 H0 F H) (h:EPost K F0 H0 Q (d,b)) (e:iB d=some v):Q v H :=
 h v F H [] g (gF e) List.nodup_nil fun _ _ hb=>by cases hb
theorem aF5 {d:D} {v:V} (e:iB d=some v) (h:tv K (vC d) σ H Q):tC v σ H Q:=by
 obtain ⟨ρ,F,fps,S,h⟩:=h
 exact EPost.aU5 S.same h e
def v2 (k:D×Bool->D×Bool->R (D×Bool)) (f h:aL):aL:=fun ρ=>(f ρ).bind fun x=>(h ρ).bind fun y=>k x y
def Op2 (K:FG) (k:D×Bool->D×Bool->R (D×Bool)) (r:R2):Prop :=
 ∀(F0 H0 F H:Hp) (x y:D×Bool) (v u:V) (fx fy:Y2) (Q:VK),Grow F0 H0 F H->Own K F H x.1 v fx->fx.Nodup->(x.2=true->∀b∈fx,H0 b=none) ->
  Own K F H y.1 u fy->fy.Nodup->(y.2=true->∀b∈fy,H0 b=none)->(k x y).holds (EPost K F0 H0 Q)->r v u H Q
theorem wJ {k:D×Bool->D×Bool->R (D×Bool)} {r:R2} (hr:Op2 K k r) {f g:aL} (h:tv K (v2 k f g) σ H Q):tOp r (tv K f) (tv K g) σ H Q:=by
 obtain ⟨ρ,F,fps,S,h⟩:=h
 refine ⟨ρ,F,fps,S,R.aI (R.aJ.mp h) fun x hx v F1 H1 fx g1 o1 n1 k1=>?_⟩
 refine ⟨ρ,F1,fps,S.grow g1,R.aI (R.aJ.mp hx) fun y hy u F2 H2 fy g2 o2 n2 k2=>?_⟩
 exact hr F H F2 H2 x y v u fx fy Q (g1.trans g2) (o1.grow g2) n1 k1 o2 n2 (fun e b hb=>g1.all.free (k2 e b hb)) hy
def v1 (k:D×Bool->R (D×Bool)) (f:aL):aL:=fun ρ=>(f ρ).bind k
def Op1 (K:FG) (k:D×Bool->R (D×Bool)) (r:V->Hp->VK->Prop):Prop :=
 ∀(F0 H0 F H:Hp) (x:D×Bool) (v:V) (fx:Y2) (Q:VK),Grow F0 H0 F H->Own K F H x.1 v fx->fx.Nodup->(x.2=true->∀b∈fx,H0 b=none) ->
  (k x).holds (EPost K F0 H0 Q)->r v H Q
theorem aPl {k:D×Bool->R (D×Bool)} {r:V->Hp->VK->Prop} (hr:Op1 K k r) {f:aL} (h:tv K (v1 k f) σ H Q):tUn r (tv K f) σ H Q:=by
 obtain ⟨ρ,F,fps,S,h⟩:=h
 exact ⟨ρ,F,fps,S,R.aI (R.aJ.mp h) fun x hx v F1 H1 fx g1 o1 n1 k1=>hr F H F1 H1 x v fx Q g1 o1 n1 k1 hx⟩
def kI (g:Int->Int->D):D×Bool->D×Bool->R (D×Bool):=fun x y=>match x.1,y.1 with
 | .int i,.int j=>.ok (g i j,true) | _,_=>.bad
def kIc (c:Int->Int->Bool) (g:Int->Int->D):D×Bool->D×Bool->R (D×Bool):=fun x y=>match x.1,y.1 with
 | .int i,.int j=>if c i j=true then .ok (g i j,true) else .bad | _,_=>.bad
theorem wD {g:Int->Int->D} {g':Int->Int->V} (e:∀i j,iB (g i j)=some (g' i j)):Op2 K (kI g) (rI0 g'):=by
 intro F0 H0 F H x y v u fx fy Q gr o1 n1 k1 o2 n2 k2 h
 obtain ⟨x,bx⟩:=x
 obtain ⟨y,by'⟩:=y
 cases x<;>try exact h.elim
 cases y<;>try exact h.elim
 rename_i i j
 unfold Own at o1 o2
 exact ⟨i,j,o1.1,o2.1,EPost.dE gr h (e i j)⟩
theorem zG {c:Int->Int->Bool} {C:Int->Int->Prop} {g:Int->Int->D} {g':Int->Int->V} (e:∀i j,iB (g i j)=some (g' i j)) (hc:∀i j,c i j=true->C i j):Op2 K (kIc c g) (rI C g'):=by
 intro F0 H0 F H x y v u fx fy Q gr o1 n1 k1 o2 n2 k2 h
 obtain ⟨x,bx⟩:=x
 obtain ⟨y,by'⟩:=y
 cases x<;>try exact h.elim
 cases y<;>try exact h.elim
 rename_i i j
 unfold Own at o1 o2
 have h:(if c i j=true then R.ok (g i j,true) else R.bad).holds (EPost K F0 H0 Q):=h
 by_cases hcc:c i j=true
 ·rw [if_pos hcc] at h
  exact ⟨i,j,o1.1,o2.1,hc i j hcc,EPost.dE gr h (e i j)⟩
 ·rw [if_neg hcc] at h;exact h.elim
def kU (g:Int->D):D×Bool->R (D×Bool):=fun x=>match x.1 with
 | .int i=>.ok (g i,true) | _=>.bad
theorem aP0 {g:Int->D} {g':Int->V} (e:∀i,iB (g i)=some (g' i)):Op1 K (kU g) (rU g'):=by
 intro F0 H0 F H x v fx Q gr o1 n1 k1 h
 obtain ⟨x,bx⟩:=x
 cases x<;>try exact h.elim
 rename_i i
 unfold Own at o1
 exact ⟨i,o1.1,EPost.dE gr h (e i)⟩
theorem Own.aKl {o:Bool} {ds:List D} {v:V} {fp:Y2} (g:Same F H) (h:Own K F H (.lst o ds) v fp):∃a xs fq,v=.ref a/\Rd H a (.lst xs)/\aF K F H ds xs fq/\fq.Sublist fp:=by
 unfold Own at h
 obtain ⟨a,xs,fq,e1,r,h⟩:=h
 rcases h with ⟨o1,h1,h2,h3⟩ | ⟨o1,h1,h2,h3⟩
 ·subst h3
  exact ⟨a,xs,fq,e1,.inl h2,r,List.sublist_cons_self _ _⟩
 ·subst h2;subst h3
  exact ⟨a,xs,[],e1,Same.rd g h1,r,List.Sublist.refl _⟩
theorem Own.lst {o:Bool} {ds:List D} {v:V} {fp:Y2} (g:Same F H) (h:Own K F H (.lst o ds) v fp):∃a xs fq,v=.ref a/\SqL K H a xs/\aF K F H ds xs fq/\fq.Sublist fp:=by
 obtain ⟨a,xs,fq,e,q,r⟩:=Own.aKl g h
 exact ⟨a,xs,fq,e,.inl q,r⟩
theorem Own.tup {ds:List D} {v:V} {fp:Y2} (g:Same F H) (h:Own K F H (.tup ds) v fp):∃a xs,v=.ref a/\SqT K H a xs/\aF K F H ds xs []/\fp=[]:=by
 unfold Own at h
 obtain ⟨e,a,xs,e1,q,r⟩:=h
 exact ⟨a,xs,e1,Same.sO g q,r,e⟩
theorem aF.atI {ds:List D} {vs:List V} {fp:Y2} {i:Int} {d:D} (h:aF K F H ds vs fp) (e:L2.atI ds i=some d):∃v f,L2.atI vs i=some v/\Own K F H d v f/\f.Sublist fp:=by
 unfold L2.atI at e ⊢
 rw [<- aF.length ds h]
 cases q:ixN ds.length i with
 | none=>rw [q] at e;cases e
 | some j =>
  rw [q] at e
  exact aF.get ds h e
def kIx:D×Bool->D×Bool->R (D×Bool):=fun x y=>match x.1,y.1 with
 | .lst _ ds,.int i=>R.of ((atI ds i).map (·,x.2)) | .tup ds,.int i=>R.of ((atI ds i).map (·,x.2)) | _,_=>.bad
theorem aN7:Op2 K kIx (fun v u H Q=>aL8 K v u H Q\/aRm K v u H Q):=by
 intro F0 H0 F H x y v u fx fy Q gr o1 n1 k1 o2 n2 k2 h
 obtain ⟨x,bx⟩:=x
 obtain ⟨y,by'⟩:=y
 cases x<;>try exact h.elim
 ·rename_i ds
  cases y<;>try exact h.elim
  rename_i i
  obtain ⟨a,xs,e1,q,r,e2⟩:=Own.tup gr.inn o1
  unfold Own at o2
  obtain ⟨z,ez,h⟩:=R.holds_of h
  cases ed:atI ds i with
  | none=>rw [ed] at ez;cases ez
  | some d =>
   rw [ed] at ez;cases ez
   obtain ⟨w,f,q1,q2,q3⟩:=aF.atI r ed
   have:f=[]:=List.sublist_nil.mp q3
   subst this
   exact .inr ⟨a,xs,i,w,e1,o2.1,q,q1,h w F H [] gr q2 List.nodup_nil fun _ _ hb=>by cases hb⟩
 ·rename_i o ds
  cases y<;>try exact h.elim
  rename_i i
  obtain ⟨a,xs,fq,e1,q,r,e2⟩:=Own.lst gr.inn o1
  unfold Own at o2
  obtain ⟨z,ez,h⟩:=R.holds_of h
  cases ed:atI ds i with
  | none=>rw [ed] at ez;cases ez
  | some d =>
   rw [ed] at ez;cases ez
   obtain ⟨w,f,q1,q2,q3⟩:=aF.atI r ed
   have hs:f.Sublist fx:=q3.trans e2
   exact .inl ⟨a,xs,i,w,e1,o2.1,q,q1,h w F H f gr q2 (hs.nodup n1) fun e b hb=>k1 e b (hs.subset hb)⟩
def aK:cW:=fun _=>.ok []
def aC (f:aL) (g:cW):cW:=fun ρ=>(f ρ).bind fun x=>(g ρ).bind fun xs=>.ok (x::xs)
theorem aKi {Q:List V->Hp->Prop} (h:tvA K aK σ H Q):aD6 σ H Q:=by
 obtain ⟨ρ,F,fps,S,h⟩:=h
 exact h [] F H [] (Grow.refl S.same) (by unfold Args;exact ⟨rfl,rfl⟩) List.nodup_nil fun _ hb=>by cases hb
theorem aHa {f:aL} {g:cW} {Q:List V->Hp->Prop} (h:tvA K (aC f g) σ H Q):xH (tv K f) (tvA K g) σ H Q:=by
 obtain ⟨ρ,F,fps,S,h⟩:=h
 refine ⟨ρ,F,fps,S,R.aI (R.aJ.mp h) fun x hx v F1 H1 fx g1 o1 n1 k1=>?_⟩
 refine ⟨ρ,F1,fps,S.grow g1,R.aI (R.aJ.mp hx) fun xs hy vs F2 H2 fa g2 o2 n2 k2=>?_⟩
 have hy:aLt K F H Q (x::xs):=hy
 have zo:=Own.zone x.1 o1
 cases e:x.2 with
 | true =>
  refine hy (v::vs) F2 H2 (fx++fa) (g1.trans g2) ?_ ?_ ?_
  ·unfold Args
   exact ⟨v,vs,fx,fa,rfl,o1.grow g2,n1,o2,.inl ⟨e,rfl⟩⟩
  ·refine List.nodup_append.mpr ⟨n1,n2,fun a ha b hb z=>?_⟩
   subst z
   obtain ⟨_,ys,q⟩:=zo a ha
   rw [k2 a hb] at q;cases q
  ·intro b hb
   rcases List.mem_append.mp hb with hb | hb
   ·exact k1 e b hb
   ·exact g1.all.free (k2 b hb)
 | false =>
  refine hy (v::vs) F2 H2 fa (g1.trans g2) ?_ n2 fun b hb=>g1.all.free (k2 b hb)
  unfold Args
  exact ⟨v,vs,fx,fa,rfl,o1.grow g2,n1,o2,.inr ⟨e,rfl⟩⟩
def aN (x:D×Bool):Bool:=x.2 || x.1.calm
theorem Args.aKk:∀(xs:List (D×Bool)) {vs:List V} {fa:Y2},xs.all aN=true->Args K F H xs vs fa->aF K F H (xs.map (·.1)) vs fa
 | [],_,_,_,h=>by unfold Args at h;rw [h.1,h.2];exact aF.nil
 | x::xs,vs,fa,hk,h=>by
  unfold Args at h
  obtain ⟨v,r,fp,f2,e,o,n,t,w⟩:=h
  rw [List.all_cons,Bool.and_eq_true] at hk
  subst e
  rw [List.map_cons]
  rcases w with ⟨_,w⟩ | ⟨e,w⟩
  ·subst w;exact aF.cons o (Args.aKk xs hk.2 t)
  ·subst w
   have hc:x.1.calm=true:=by have:=hk.1;unfold aN at this;rw [e] at this;exact this
   have:fp=[]:=Own.dA x.1 hc o
   subst this
   exact aF.cons o (Args.aKk xs hk.2 t)
theorem Args.length:∀(xs:List (D×Bool)) {vs:List V} {fa:Y2},Args K F H xs vs fa->xs.length=vs.length
 | [],_,_,h=>by unfold Args at h;rw [h.1];rfl
 | x::xs,vs,fa,h=>by
  unfold Args at h
  obtain ⟨v,r,fp,f2,e,o,n,t,w⟩:=h
  rw [e,List.length_cons,List.length_cons,Args.length xs t]
def dR (g:cW):aL:=fun ρ=>(g ρ).bind fun xs=>if xs.all aN && decide (xs.length<=1000000) then .ok (.lst true (xs.map (·.1)),true) else .bad
def nR (g:cW):aL:=fun ρ=>(g ρ).bind fun xs=>if xs.all aN && decide (xs.length<=1000000) then .ok (.tup (D.frzs (xs.map (·.1))),true) else .bad
theorem gT {n:Nat} (h:n<=1000000):n<=sizeLine:=Nat.le_trans h (by decide)
theorem aCe {ds:List D} {xs:List V} {fa:Y2} {p:Addr} (hs:Same F H) (h:H p=none) (o:aF K F H ds xs fa):Own K F (upd H p (.lst xs)) (.lst true ds) (.ref p) (p::fa):=by
 unfold Own
 exact ⟨p,xs,fa,rfl,o.grow (Grow.one hs h),.inl ⟨rfl,hs.free h,bR,rfl⟩⟩
theorem aDx {ds:List D} {xs:List V} {fa:Y2} {p:Addr} (h:H p=none) (o:aF K F H ds xs fa) (n:fa.Nodup):(p::fa).Nodup:=by
 refine List.nodup_cons.mpr ⟨fun hp=>?_,n⟩
 obtain ⟨_,ys,q⟩:=aF.zone ds o p hp
 rw [h] at q;cases q
theorem aOj {g:cW} (h:tv K (dR g) σ H Q):aPu (tvA K g) σ H Q:=by
 obtain ⟨ρ,F,fps,S,h⟩:=h
 refine ⟨ρ,F,fps,S,R.aI (R.aJ.mp h) fun xs hx vs F1 H1 fa g1 o1 n1 k1=>?_⟩
 by_cases hc:(xs.all aN && decide (xs.length<=1000000))=true
 ·rw [if_pos hc] at hx
  rw [Bool.and_eq_true,decide_eq_true_iff] at hc
  have o2:=Args.aKk xs hc.1 o1
  refine ⟨gT (by rw [<- Args.length xs o1];exact hc.2),fun p hp=>?_⟩
  refine hx (.ref p) F1 _ (p::fa) (g1.trans (Grow.one g1.inn hp)) (aCe g1.inn hp o2) (aDx hp o2 n1) fun _ b hb=>?_
  rcases List.mem_cons.mp hb with rfl | hb
  ·exact g1.all.free hp
  ·exact k1 b hb
 ·rw [if_neg hc] at hx;exact hx.elim
theorem Grow.frz {fa:Y2} (g:Grow F H F' H') (k:∀b∈fa,H b=none) (z:∀b∈fa,F' b=none):Grow F H (eZ F' H' fa) H' :=
 ⟨g.fr.trans (eW z),g.all,nS g.inn,fun b o e=>by
  unfold eZ at e
  split at e
  ·rename_i hb;exact .inr (k b hb)
  ·exact g.new b o e⟩
theorem aN6 {g:cW} (h:tv K (nR g) σ H Q):aQp (tvA K g) σ H Q:=by
 obtain ⟨ρ,F,fps,S,h⟩:=h
 refine ⟨ρ,F,fps,S,R.aI (R.aJ.mp h) fun xs hx vs F1 H1 fa g1 o1 n1 k1=>?_⟩
 by_cases hc:(xs.all aN && decide (xs.length<=1000000))=true
 ·rw [if_pos hc] at hx
  rw [Bool.and_eq_true,decide_eq_true_iff] at hc
  have o2:=Args.aKk xs hc.1 o1
  have z:∀b∈fa,F1 b=none:=fun b hb=>(aF.zone _ o2 b hb).1
  have g2:=g1.frz k1 z
  have o3:aF K (eZ F1 H1 fa) H1 (D.frzs (xs.map (·.1))) vs []:=aF.freeze z _ (fun a ha=>ha) o2
  refine ⟨gT (by rw [<- Args.length xs o1];exact hc.2),fun p hp=>?_⟩
  have g3:Grow (eZ F1 H1 fa) H1 (upd (eZ F1 H1 fa) p (.tup vs)) (upd H1 p (.tup vs)):=Grow.both g2.inn hp
  refine hx (.ref p) _ _ [] (g2.trans g3) ?_ List.nodup_nil fun _ b hb=>by cases hb
  unfold Own
  exact ⟨rfl,p,vs,rfl,SqT.of bR,o3.grow g3⟩
 ·rw [if_neg hc] at hx;exact hx.elim
def aU (f:aL):bU:=fun ρ=>(f ρ).bind fun x=>match x.1 with | .bl b=>.ok b | _=>.bad
theorem xO {f:aL} {Q:Bool->Hp->Prop} (h:tvT K (aU f) σ H Q):xS (tv K f) σ H Q:=by
 obtain ⟨ρ,F,fps,S,h⟩:=h
 refine ⟨ρ,F,fps,S,R.aI (R.aJ.mp h) fun x hx v F1 H1 fx g1 o1 n1 k1=>?_⟩
 obtain ⟨x,b⟩:=x
 cases x<;>try exact hx.elim
 rename_i c
 unfold Own at o1
 exact ⟨c,o1.1,hx F1 H1 g1⟩
def nV (f g:bU):bU:=fun ρ=>(f ρ).bind fun c=>if c=true then g ρ else .ok false
def iS (f g:bU):bU:=fun ρ=>(f ρ).bind fun c=>if c=true then .ok true else g ρ
def eS (f:bU):bU:=fun ρ=>(f ρ).bind fun c=>.ok (!c)
theorem aKg {f g:bU} {Q:Bool->Hp->Prop} (h:tvT K (nV f g) σ H Q):aPx (tvT K f) (tvT K g) σ H Q:=by
 obtain ⟨ρ,F,fps,S,h⟩:=h
 refine ⟨ρ,F,fps,S,R.aI (R.aJ.mp h) fun c hx F1 H1 g1=>?_⟩
 cases c with
 | true=>rw [if_pos rfl] at hx ⊢;exact ⟨ρ,F1,fps,S.grow g1,R.aI hx fun b hb=>hb.lift g1⟩
 | false=>rw [if_neg Bool.false_ne_true] at hx ⊢;exact hx F1 H1 g1
theorem aOq {f g:bU} {Q:Bool->Hp->Prop} (h:tvT K (iS f g) σ H Q):tOr (tvT K f) (tvT K g) σ H Q:=by
 obtain ⟨ρ,F,fps,S,h⟩:=h
 refine ⟨ρ,F,fps,S,R.aI (R.aJ.mp h) fun c hx F1 H1 g1=>?_⟩
 cases c with
 | false=>rw [if_neg Bool.false_ne_true] at hx ⊢;exact ⟨ρ,F1,fps,S.grow g1,R.aI hx fun b hb=>hb.lift g1⟩
 | true=>rw [if_pos rfl] at hx ⊢;exact hx F1 H1 g1
theorem aH8 {f:bU} {Q:Bool->Hp->Prop} (h:tvT K (eS f) σ H Q):aQg (tvT K f) σ H Q:=by
 obtain ⟨ρ,F,fps,S,h⟩:=h
 exact ⟨ρ,F,fps,S,R.aI (R.aJ.mp h) fun c hx F1 H1 g1=>hx F1 H1 g1⟩
def vIf (c:bU) (f g:aL):aL:=fun ρ=>(c ρ).bind fun b=>if b=true then f ρ else g ρ
theorem aRg {c:bU} {f g:aL} (h:tv K (vIf c f g) σ H Q):tIf (tvT K c) (tv K f) (tv K g) σ H Q:=by
 obtain ⟨ρ,F,fps,S,h⟩:=h
 refine ⟨ρ,F,fps,S,R.aI (R.aJ.mp h) fun c hx F1 H1 g1=>?_⟩
 cases c with
 | true=>rw [if_pos rfl] at hx ⊢;exact ⟨ρ,F1,fps,S.grow g1,R.aI hx fun b hb=>hb.lift g1⟩
 | false=>rw [if_neg Bool.false_ne_true] at hx ⊢;exact ⟨ρ,F1,fps,S.grow g1,R.aI hx fun b hb=>hb.lift g1⟩
def yF (f g:aL):aL:=fun ρ=>(f ρ).bind fun x=>match x.1 with | .bl true=>g ρ | .bl false=>.ok (.bl false,true) | _=>.bad
def vOr (f g:aL):aL:=fun ρ=>(f ρ).bind fun x=>match x.1 with | .bl false=>g ρ | .bl true=>.ok (.bl true,true) | _=>.bad
def aJn:D×Bool->R (D×Bool):=fun x=>match x.1 with | .bl b=>.ok (.bl (!b),true) | _=>.bad
theorem aMu {f g:aL} (h:tv K (yF f g) σ H Q):aLg (tv K f) (tv K g) σ H Q:=by
 obtain ⟨ρ,F,fps,S,h⟩:=h
 refine ⟨ρ,F,fps,S,R.aI (R.aJ.mp h) fun x hx v F1 H1 fx g1 o1 n1 k1=>?_⟩
 obtain ⟨x,b⟩:=x
 cases x<;>try exact hx.elim
 rename_i c
 unfold Own at o1
 refine ⟨c,o1.1,?_⟩
 cases c with
 | true=>rw [if_pos rfl];exact ⟨ρ,F1,fps,S.grow g1,R.aI hx fun b hb=>hb.lift g1⟩
 | false=>rw [if_neg Bool.false_ne_true];exact EPost.dE g1 hx rfl
theorem aRr {f g:aL} (h:tv K (vOr f g) σ H Q):aQ2 (tv K f) (tv K g) σ H Q:=by
 obtain ⟨ρ,F,fps,S,h⟩:=h
 refine ⟨ρ,F,fps,S,R.aI (R.aJ.mp h) fun x hx v F1 H1 fx g1 o1 n1 k1=>?_⟩
 obtain ⟨x,b⟩:=x
 cases x<;>try exact hx.elim
 rename_i c
 unfold Own at o1
 refine ⟨c,o1.1,?_⟩
 cases c with
 | false=>rw [if_neg Bool.false_ne_true];exact ⟨ρ,F1,fps,S.grow g1,R.aI hx fun b hb=>hb.lift g1⟩
 | true=>rw [if_pos rfl];exact EPost.dE g1 hx rfl
theorem aMk {f:aL} (h:tv K (v1 aJn f) σ H Q):aLm (tv K f) σ H Q:=by
 obtain ⟨ρ,F,fps,S,h⟩:=h
 refine ⟨ρ,F,fps,S,R.aI (R.aJ.mp h) fun x hx v F1 H1 fx g1 o1 n1 k1=>?_⟩
 obtain ⟨x,b⟩:=x
 cases x<;>try exact hx.elim
 rename_i c
 unfold Own at o1
 exact ⟨c,o1.1,EPost.dE g1 hx rfl⟩
def vCB (k:List (D×Bool)->R (D×Bool)) (g:cW):aL:=fun ρ=>(g ρ).bind k
def OpA (K:FG) (k:List (D×Bool)->R (D×Bool)) (r:List V->Hp->VK->Prop):Prop :=
 ∀(F0 H0 F H:Hp) (xs:List (D×Bool)) (vs:List V) (fa:Y2) (Q:VK),Grow F0 H0 F H->Args K F H xs vs fa->fa.Nodup->(∀b∈fa,H0 b=none)->(k xs).holds (EPost K F0 H0 Q)->r vs H Q
theorem aBv {k:List (D×Bool)->R (D×Bool)} {r:List V->Hp->VK->Prop} (hr:OpA K k r) {g:cW} (h:tv K (vCB k g) σ H Q):tCB r (tvA K g) σ H Q:=by
 obtain ⟨ρ,F,fps,S,h⟩:=h
 exact ⟨ρ,F,fps,S,R.aI (R.aJ.mp h) fun xs hx vs F1 H1 fa g1 o1 n1 k1=>hr F H F1 H1 xs vs fa Q g1 o1 n1 k1 hx⟩
end
end VL
end
section
namespace VL
open PySem L2
inductive Out where
 | next (ρ:Env) | ret (d:D) (ρ:Env) | brk (ρ:Env) | cont (ρ:Env) | exc (c:Str) (ρ:Env) | bad
abbrev aQ:=Env->Out
abbrev iW:=Env->R (D×Bool×Env)
def kB (ρ ρ':Env):Prop:=∀(i:Nat) (d:D),ρ[i]?=some (.pin d)->∃d',ρ'[i]?=some (.pin d')
def fA (ρ:Env) (σ:St) (ρ':Env) (σ':St):Prop:=∀(i:Nat) (d:D),ρ[i]?=some (.pin d)->(∃d',ρ'[i]?=some (.pin d'))/\σ'[i]?=σ[i]?
theorem kB.refl (ρ:Env):kB ρ ρ:=fun _ d h=>⟨d,h⟩
theorem kB.trans {ρ ρ1 ρ2:Env} (a:kB ρ ρ1) (b:kB ρ1 ρ2):kB ρ ρ2:=fun i d h=>by
 obtain ⟨d1,h1⟩:=a i d h
 exact b i d1 h1
theorem kB.pins {ρ ρ':Env} {σ:St} (a:kB ρ ρ'):fA ρ σ ρ' σ:=fun i d h=>⟨a i d h,rfl⟩
theorem fA.refl (ρ:Env) (σ:St):fA ρ σ ρ σ:=(kB.refl ρ).pins
theorem fA.trans {ρ ρ1 ρ2:Env} {σ σ1 σ2:St} (a:fA ρ σ ρ1 σ1) (b:fA ρ1 σ1 ρ2 σ2):fA ρ σ ρ2 σ2:=fun i d h=>by
 obtain ⟨⟨d1,h1⟩,e1⟩:=a i d h
 obtain ⟨h2,e2⟩:=b i d1 h1
 exact ⟨h2,e2.trans e1⟩
def dI (K:FG) (F H:Hp) (Z:Y2) (ρ:Env) (σ:St) (P:St->Hp->Prop) (ρ':Env):Prop :=
 ∀σ' F' H' fps',Evo F H Z F' H' fps'.flatten->Sim K F' H' σ' ρ' fps'->fA ρ σ ρ' σ'->P σ' H'
def wK (K:FG) (F H:Hp) (Z:Y2) (ρ:Env) (σ:St) (P:VK) (d:D) (ρ':Env):Prop :=
 ∀r σ' F' H' fps' fr,Evo F H Z F' H' fps'.flatten->Sim K F' H' σ' ρ' fps'->fA ρ σ ρ' σ'->Own K F' H' d r fr->fr.Nodup->(∀b∈fr,b ∉ fps'.flatten/\(b∈Z\/H b=none))->P r H'
abbrev XW:=Str->St->Hp->Prop
def bZ (K:FG) (W:XW) (F H:Hp) (Z:Y2) (ρ:Env) (σ:St) (D:Ends):Out->Prop
 | .next ρ'=>dI K F H Z ρ σ D.nx ρ'
 | .ret d ρ'=>wK K F H Z ρ σ D.rt d ρ'
 | .brk ρ'=>dI K F H Z ρ σ D.bk ρ'
 | .cont ρ'=>dI K F H Z ρ σ D.ct ρ'
 | .exc c ρ'=>dI K F H Z ρ σ (W c) ρ'
 | .bad=>False
def sv (K:FG) (W:XW) (g:aQ):TS:=fun D σ H=>∃ρ F fps,Sim K F H σ ρ fps/\bZ K W F H fps.flatten ρ σ D (g ρ)
def qN (K:FG) (F H:Hp) (Z:Y2) (ρ:Env) (σ:St) (Q:VK) (x:D×Bool×Env):Prop :=
 ∀v F' H' fps' fp,Evo F H Z F' H' fps'.flatten->Sim K F' H' σ x.2.2 fps'->kB ρ x.2.2->Own K F' H' x.1 v fp->fp.Nodup->(x.2.1=true->∀b∈fp,b ∉ fps'.flatten/\(b∈Z\/H b=none))->Q v H'
def tx (K:FG) (W:XW) (g:iW):TE:=fun σ H Q=>∃ρ F fps,Sim K F H σ ρ fps/\(g ρ).hx (qN K F H fps.flatten ρ σ Q) fun c=>dI K F H fps.flatten ρ σ (W c) ρ
section
variable {K:FG} {W:XW} {F H F' H' F1 H1:Hp} {Z Z' Z1:Y2} {σ σ1:St} {ρ ρ1:Env} {D':Ends}
theorem dI.lift {P:St->Hp->Prop} {ρ':Env} (e:Evo F H Z F1 H1 Z1) (p:fA ρ σ ρ1 σ1) (h:dI K F H Z ρ σ P ρ'):dI K F1 H1 Z1 ρ1 σ1 P ρ' :=
 fun σ' F' H' fps' e' S' p'=>h σ' F' H' fps' (e.trans e') S' (p.trans p')
theorem wK.lift {P:VK} {d:D} {ρ':Env} (e:Evo F H Z F1 H1 Z1) (p:fA ρ σ ρ1 σ1) (h:wK K F H Z ρ σ P d ρ'):wK K F1 H1 Z1 ρ1 σ1 P d ρ' :=
 fun r σ' F' H' fps' fr e' S' p' o n k=>h r σ' F' H' fps' fr (e.trans e') S' (p.trans p') o n fun b hb=>⟨(k b hb).1,by
  rcases (k b hb).2 with q | q
  ·exact e.zone b q
  ·exact .inr (e.dom b q)⟩
theorem bZ.lift {o:Out} (e:Evo F H Z F1 H1 Z1) (p:fA ρ σ ρ1 σ1) (h:bZ K W F H Z ρ σ D' o):bZ K W F1 H1 Z1 ρ1 σ1 D' o:=by
 cases o with
 | next ρ'=>exact dI.lift e p h
 | ret d ρ'=>exact wK.lift e p h
 | brk ρ'=>exact dI.lift e p h
 | cont ρ'=>exact dI.lift e p h
 | exc c ρ'=>exact dI.lift e p h
 | bad=>exact h
def bN:aQ:=fun ρ=>.next ρ
def Out.andThen (o:Out) (g:aQ):Out:=match o with | .next ρ=>g ρ | o=>o
def aS (f g:aQ):aQ:=fun ρ=>(f ρ).andThen g
theorem aIb (h:sv K W bN D' σ H):aLi D' σ H:=by
 obtain ⟨ρ,F,fps,S,h⟩:=h
 exact h σ F H fps .refl S (fA.refl _ _)
theorem aO3 {f g:aQ} (h:sv K W (aS f g) D' σ H):aRp (sv K W f) (sv K W g) D' σ H:=by
 obtain ⟨ρ,F,fps,S,h⟩:=h
 refine ⟨ρ,F,fps,S,?_⟩
 unfold aS at h
 cases e:f ρ with
 | next ρ1 =>
  rw [e] at h
  have h:bZ K W F H fps.flatten ρ σ D' (g ρ1):=h
  exact fun σ1 F1 H1 fps1 e1 S1 p1=>⟨ρ1,F1,fps1,S1,bZ.lift e1 p1 h⟩
 | ret d ρ'=>rw [e] at h;exact h
 | brk ρ'=>rw [e] at h;exact h
 | cont ρ'=>rw [e] at h;exact h
 | exc _ _=>rw [e] at h;exact h
 | bad=>rw [e] at h;exact h
def sIf (c:bU) (f g:aQ):aQ:=fun ρ=>match c ρ with
 | .ok true=>f ρ | .ok false=>g ρ | .exc _=>.bad | .bad=>.bad
theorem aR3 {c:bU} {f g:aQ} (h:sv K W (sIf c f g) D' σ H):aQ7 (tvT K c) (sv K W f) (sv K W g) D' σ H:=by
 obtain ⟨ρ,F,fps,S,h⟩:=h
 refine ⟨ρ,F,fps,S,?_⟩
 unfold sIf at h
 cases e:c ρ with
 | ok b =>
  rw [e] at h
  intro F1 H1 g1
  cases b with
  | true=>rw [if_pos rfl];exact ⟨ρ,F1,fps,S.grow g1,bZ.lift g1.evo (fA.refl _ _) h⟩
  | false=>rw [if_neg Bool.false_ne_true];exact ⟨ρ,F1,fps,S.grow g1,bZ.lift g1.evo (fA.refl _ _) h⟩
 | exc _=>rw [e] at h;exact h.elim
 | bad=>rw [e] at h;exact h.elim
def xOf (f:aL):iW:=fun ρ=>match f ρ with | .ok x=>.ok (x.1,x.2,ρ) | _=>.bad
theorem aLf {f:aL} {Q:VK} (h:tx K W (xOf f) σ H Q):tv K f σ H Q:=by
 obtain ⟨ρ,F,fps,S,h⟩:=h
 refine ⟨ρ,F,fps,S,?_⟩
 unfold xOf at h
 cases ef:f ρ with
 | exc _=>rw [ef] at h;exact h.elim
 | bad=>rw [ef] at h;exact h.elim
 | ok x =>
  rw [ef] at h
  have hx:qN K F H fps.flatten ρ σ Q (x.1,x.2,ρ):=h
  intro v F1 H1 fx g1 o1 n1 k1
  refine hx v F1 H1 fps fx g1.evo (S.grow g1) (kB.refl _) o1 n1 fun e b hb=>⟨fun hz=>?_,.inr (k1 e b hb)⟩
  exact (S.zone b hz).2 (k1 e b hb)
def kR (g:iW):aQ:=fun ρ=>match g ρ with | .ok (_,_,ρ')=>.next ρ' | .exc c=>.exc c ρ | .bad=>.bad
theorem aHs {g:iW} (h:sv K W (kR g) D' σ H):aCd (tx K W g) D' σ H:=by
 obtain ⟨ρ,F,fps,S,h⟩:=h
 refine ⟨ρ,F,fps,S,?_⟩
 unfold kR at h
 cases e:g ρ with
 | ok x =>
  rw [e] at h
  exact fun v F1 H1 fps1 fp e1 S1 p1 o1 n1 k1=>h σ F1 H1 fps1 e1 S1 p1.pins
 | exc c=>rw [e] at h;exact h
 | bad=>rw [e] at h;exact h.elim
def dJ (g:iW):aQ:=fun ρ=>match g ρ with
 | .ok (d,fr,ρ')=>if fr || d.calm then .ret d ρ' else .bad
 | .exc c=>.exc c ρ | .bad=>.bad
theorem aNv {g:iW} (h:sv K W (dJ g) D' σ H):aMc (tx K W g) D' σ H:=by
 obtain ⟨ρ,F,fps,S,h⟩:=h
 refine ⟨ρ,F,fps,S,?_⟩
 unfold dJ at h
 cases e:g ρ with
 | ok x =>
  obtain ⟨d,fr,ρ'⟩:=x
  rw [e] at h
  intro v F1 H1 fps1 fp e1 S1 p1 o1 n1 k1
  have h:bZ K W F H fps.flatten ρ σ D' (if (fr || d.calm)=true then .ret d ρ' else .bad):=h
  by_cases hc:(fr || d.calm)=true
  ·rw [if_pos hc] at h
   refine h v σ F1 H1 fps1 fp e1 S1 p1.pins o1 n1 fun b hb=>?_
   cases ef:fr with
   | true=>exact k1 ef b hb
   | false =>
    rw [ef,Bool.false_or] at hc
    rw [Own.dA d hc o1] at hb;cases hb
  ·rw [if_neg hc] at h;exact h.elim
 | exc c=>rw [e] at h;exact h
 | bad=>rw [e] at h;exact h.elim
theorem iN {fps:Y5} {i:Nat} {fp:Y2} (n:fps.flatten.Nodup) (nf:fp.Nodup) (dj:∀b∈fp,b ∉ fps.flatten):(fps.set i fp).flatten.Nodup:=by
 induction fps generalizing i with
 | nil=>simp
 | cons f r ih =>
  rw [List.flatten_cons] at n dj
  obtain ⟨n1,n2,n3⟩:=List.nodup_append.mp n
  cases i with
  | zero =>
   rw [List.set_cons_zero,List.flatten_cons]
   exact List.nodup_append.mpr ⟨nf,n2,fun a ha b hb z=>dj a ha (List.mem_append_right _ (z ▸ hb))⟩
  | succ i =>
   rw [List.set_cons_succ,List.flatten_cons]
   refine List.nodup_append.mpr ⟨n1,ih n2 fun b hb hr=>dj b hb (List.mem_append_right _ hr),fun a ha b hb z=>?_⟩
   subst z
   obtain ⟨l,hl,hal⟩:=List.mem_flatten.mp hb
   rcases List.mem_or_eq_of_mem_set hl with hl | rfl
   ·exact n3 a ha a (List.mem_flatten.mpr ⟨l,hl,hal⟩) rfl
   ·exact dj a hal (List.mem_append_left _ ha)
theorem bB {fps:Y5} {i:Nat} {fp:Y2} {b:Addr} (h:b∈(fps.set i fp).flatten):b∈fps.flatten\/b∈fp:=by
 obtain ⟨l,hl,hb⟩:=List.mem_flatten.mp h
 rcases List.mem_or_eq_of_mem_set hl with hl | rfl
 ·exact .inl (List.mem_flatten.mpr ⟨l,hl,hb⟩)
 ·exact .inr hb
theorem Sim.store {fps:Y5} {i:Nat} {d:D} {v:V} {fp:Y2} (S:Sim K F H σ ρ fps) (o:Own K F H d v fp) (n:fp.Nodup) (dj:∀b∈fp,b ∉ fps.flatten):Sim K F H (σ.set i (some v)) (ρ.set i (.val d)) (fps.set i fp):=by
 refine ⟨S.same,by simp [S.ls],by simp [S.lf],fun j s c e1 e2=>?_,iN S.nd n dj,fun a ha=>?_⟩
 ·by_cases hj:i=j
  ·subst hj
   have hi:i < ρ.length:=by
    rcases Nat.lt_or_ge i ρ.length with h | h
    ·exact h
    ·rw [List.getElem?_eq_none_iff.mpr (by simpa using h)] at e1;cases e1
   rw [List.getElem?_set_self (by exact hi)] at e1
   cases e1;cases e2
   refine ⟨v,fp,List.getElem?_set_self (by rw [S.ls];exact hi),List.getElem?_set_self (by rw [S.lf];exact hi),o⟩
  ·rw [List.getElem?_set_ne hj] at e1
   obtain ⟨w,f,h1,h2,h3⟩:=S.at_ j s c e1 e2
   exact ⟨w,f,by rw [List.getElem?_set_ne hj];exact h1,by rw [List.getElem?_set_ne hj];exact h2,h3⟩
 ·rcases bB ha with h | h
  ·exact S.zone a h
  ·obtain ⟨h1,xs,h2⟩:=Own.zone d o a h
   exact ⟨h1,by rw [h2];simp⟩
def free (ρ:Env) (i:Nat):Bool:=match ρ[i]? with | some (.pin _)=>false | some _=>true | none=>false
theorem nK {i:Nat} {d:D} {x:Option V} (h:free ρ i=true):fA ρ σ (ρ.set i (.val d)) (σ.set i x):=fun j c e=>by
 have hj:i ≠ j:=by
  rintro rfl
  unfold free at h
  rw [e] at h;cases h
 exact ⟨⟨c,by rw [List.getElem?_set_ne hj];exact e⟩,by rw [List.getElem?_set_ne hj]⟩
def bH (i:Nat) (d:D) (ρ:Env):Option Env:=if free ρ i then some (ρ.set i (.val d)) else none
def bC (i:Nat) (g:iW):aQ:=fun ρ=>match g ρ with
 | .ok (d,fr,ρ')=>if (fr || d.calm) && free ρ' i then .next (ρ'.set i (.val d)) else .bad
 | .exc c=>.exc c ρ | .bad=>.bad
theorem aBm {fps1:Y5} {i:Nat} {fp:Y2} (e:Evo F H Z F' H' fps1.flatten) (k:∀b∈fp,b∈Z\/H b=none):Evo F H Z F' H' (fps1.set i fp).flatten :=
 ⟨e.fr,e.keep,e.dom,e.new,fun b hb=>(bB hb).elim (e.zone b) (k b)⟩
theorem aEv {i:Nat} {g:iW} (h:sv K W (bC i g) D' σ H):aDb (tx K W g) (oY i) D' σ H:=by
 obtain ⟨ρ,F,fps,S,h⟩:=h
 refine ⟨ρ,F,fps,S,?_⟩
 unfold bC at h
 cases e:g ρ with
 | ok x =>
  obtain ⟨d,fr,ρ'⟩:=x
  rw [e] at h
  intro v F1 H1 fps1 fp e1 S1 p1 o1 n1 k1
  have h:bZ K W F H fps.flatten ρ σ D' (if ((fr || d.calm) && free ρ' i)=true then .next (ρ'.set i (.val d)) else .bad):=h
  by_cases hc:((fr || d.calm) && free ρ' i)=true
  ·rw [if_pos hc] at h
   rw [Bool.and_eq_true] at hc
   have k2:∀b∈fp,b ∉ fps1.flatten/\(b∈fps.flatten\/H b=none):=fun b hb=>by
    cases ef:fr with
    | true=>exact k1 ef b hb
    | false =>
     have:=hc.1
     rw [ef,Bool.false_or] at this
     rw [Own.dA d this o1] at hb;cases hb
   exact h _ F1 H1 _ (aBm e1 fun b hb=>(k2 b hb).2) (S1.store o1 n1 fun b hb=>(k2 b hb).1) (p1.pins.trans (nK hc.2))
  ·rw [if_neg hc] at h;exact h.elim
 | exc c=>rw [e] at h;exact h
 | bad=>rw [e] at h;exact h.elim
def bY:T0->List D->Env->Option Env
 | [],[],ρ=>some ρ
 | i::is,d::ds,ρ=>if d.calm then (bH i d ρ).bind (bY is ds) else none
 | _,_,_=>none
def kQ:T0->TGs
 | []=>aPi
 | i::is=>aK0 (oY i) (kQ is)
theorem mB:∀(is:T0) {ds:List D} {vs:List V} {ρ ρ':Env} {σ:St} {fps:Y5} {P:St->Hp->Prop},bY is ds ρ=some ρ'->Sim K F H σ ρ fps->aF K F H ds vs [] ->
  (∀σ' fps',Sim K F H σ' ρ' fps'->fA ρ σ ρ' σ'->(∀b∈fps'.flatten,b∈fps.flatten)->P σ' H)->kQ is vs σ H P
 | [],[],vs,ρ,ρ',σ,fps,P,e,S,o,h=>by
  unfold bY at e;cases e
  unfold aF at o
  exact ⟨o.1,h σ fps S (fA.refl _ _) fun _ hb=>hb⟩
 | i::is,d::ds,vs,ρ,ρ',σ,fps,P,e,S,o,h=>by
  unfold bY at e
  by_cases hc:d.calm=true
  ·rw [if_pos hc] at e
   unfold bH at e
   by_cases hf:free ρ i=true
   ·rw [if_pos hf] at e
    have e:bY is ds (ρ.set i (.val d))=some ρ':=e
    unfold aF at o
    obtain ⟨v,r,f1,f2,e1,o1,o2,e2⟩:=o
    have ef:=List.append_eq_nil_iff.mp e2.symm
    rw [ef.1] at o1;rw [ef.2] at o2
    refine ⟨v,r,e1,?_⟩
    refine mB is e (S.store (i:=i) o1 List.nodup_nil fun b hb=>by cases hb) o2 fun σ' fps' S' p' k'=>?_
    refine h σ' fps' S' ((nK hf).trans p') fun b hb=>?_
    rcases bB (k' b hb) with q | q
    ·exact q
    ·cases q
   ·rw [if_neg hf] at e;cases e
  ·rw [if_neg hc] at e;cases e
 | [],d::ds,vs,ρ,ρ',σ,fps,P,e,S,o,h=>by unfold bY at e;cases e
 | i::is,[],vs,ρ,ρ',σ,fps,P,e,S,o,h=>by unfold bY at e;cases e
def gO (is:T0) (g:iW):aQ:=fun ρ=>match g ρ with
 | .ok (.tup ds,_,ρ')=>(match bY is ds ρ' with | some ρ2=>.next ρ2 | none=>.bad)
 | .ok _=>.bad | .exc c=>.exc c ρ | .bad=>.bad
theorem mL:∀(is:T0) {ds:List D} {ρ ρ':Env},bY is ds ρ=some ρ'->ds.length=is.length
 | [],[],_,_,_=>rfl
 | i::is,d::ds,ρ,ρ',e=>by
  unfold bY at e
  by_cases hc:d.calm=true
  ·rw [if_pos hc] at e
   cases q:bH i d ρ with
   | none=>rw [q] at e;cases e
   | some ρ1 =>
    rw [q] at e
    rw [List.length_cons,List.length_cons,mL is (show bY is ds ρ1=some ρ' from e)]
  ·rw [if_neg hc] at e;cases e
 | [],_::_,_,_,e=>by unfold bY at e;cases e
 | _::_,[],_,_,e=>by unfold bY at e;cases e
theorem aDi {is:T0} {g:iW} {n:Nat} (hn:is.length=n) (h:sv K W (gO is g) D' σ H):aDb (tx K W g) (aNd K n (kQ is)) D' σ H:=by
 obtain ⟨ρ,F,fps,S,h⟩:=h
 refine ⟨ρ,F,fps,S,?_⟩
 unfold gO at h
 cases e:g ρ with
 | ok x =>
  obtain ⟨d,fr,ρ'⟩:=x
  rw [e] at h
  intro v F1 H1 fps1 fp e1 S1 p1 o1 n1 k1
  cases d<;>try exact h.elim
  rename_i ds
  obtain ⟨a,xs,ev,q,o2,e2⟩:=Own.tup S1.same o1
  have h:bZ K W F H fps.flatten ρ σ D' (match bY is ds ρ' with | some ρ2=>.next ρ2 | none=>.bad):=h
  cases eb:bY is ds ρ' with
  | none=>rw [eb] at h;exact h.elim
  | some ρ2 =>
   rw [eb] at h
   refine ⟨a,xs,ev,q,?_,?_⟩
   ·rw [<- aF.length ds o2,mL is eb,hn]
   ·refine mB is eb S1 o2 fun σ' fps' S' p' k'=>?_
    exact h σ' F1 H1 fps' ⟨e1.fr,e1.keep,e1.dom,e1.new,fun b hb=>e1.zone b (k' b hb)⟩ S' (p1.pins.trans p')
 | exc c=>rw [e] at h;exact h
 | bad=>rw [e] at h;exact h.elim
def gQ (o:Out) (again:Env->Out):Out:=match o with
 | .next ρ=>again ρ | .cont ρ=>again ρ | .brk ρ=>.next ρ | o=>o
def dY (c:bU) (b:aQ):Nat->aQ
 | 0,_=>.bad
 | n+1,ρ=>match c ρ with
  | .ok true=>gQ (b ρ) (dY c b n)
  | .ok false=>.next ρ
  | .exc _=>.bad | .bad=>.bad
theorem aFu {n:Nat} {c:bU} {b:aQ} (h:sv K W (dY c b n) D' σ H):aFp (tvT K c) (sv K W b) D' σ H:=by
 refine ⟨fun m σ H=>sv K W (dY c b m) D' σ H,⟨n,h⟩,?_⟩
 rintro m σ H ⟨ρ,F,fps,S,h⟩
 refine ⟨ρ,F,fps,S,?_⟩
 cases m with
 | zero=>exact h.elim
 | succ m =>
  unfold dY at h
  cases e:c ρ with
  | exc _=>rw [e] at h;exact h.elim
  | bad=>rw [e] at h;exact h.elim
  | ok k =>
   rw [e] at h
   intro F1 H1 g1
   cases k with
   | false =>
    rw [if_neg Bool.false_ne_true]
    exact h σ F1 H1 fps g1.evo (S.grow g1) (fA.refl _ _)
   | true =>
    rw [if_pos rfl]
    refine ⟨fun σ' H'=>sv K W (dY c b m) D' σ' H',fun σ' H' q=>⟨m,Nat.lt_succ_self m,q⟩,ρ,F1,fps,S.grow g1,?_⟩
    have h:bZ K W F H fps.flatten ρ σ D' (gQ (b ρ) (dY c b m)):=h
    have h:=bZ.lift (g1.evo (Z:=fps.flatten)) (fA.refl ρ σ) h
    cases eb:b ρ with
    | next ρ' =>
     rw [eb] at h
     exact fun σ' F' H' fps' e' S' p'=>⟨ρ',F',fps',S',bZ.lift e' p' h⟩
    | cont ρ' =>
     rw [eb] at h
     exact fun σ' F' H' fps' e' S' p'=>⟨ρ',F',fps',S',bZ.lift e' p' h⟩
    | brk ρ'=>rw [eb] at h;exact h
    | ret d ρ'=>rw [eb] at h;exact h
    | exc _ _=>rw [eb] at h;exact h
    | bad=>rw [eb] at h;exact h
abbrev jF:=Env->R (List D)
def uM (K:FG) (F:Hp) (ds:List D) (J:It):Prop :=
 (∀i H',Same F H'->ds.length<=i->J.stop i H') /\
 ∀i d,ds[i]?=some d->∀F' H',Same F F'->Same F' H'->J.go i H'/\∀x H2,J.yld i H' x H2->∃F2,Grow F' H' F2 H2/\Own K F2 H2 d x []
def aEb (K:FG) (F H:Hp) (R':It->Hp->Prop) (ds:List D):Prop:=∀J F' H',Grow F H F' H'->uM K F' ds J->R' J H'
def iv (K:FG) (f:jF):TI:=fun σ H R'=>∃ρ F fps,Sim K F H σ ρ fps/\(f ρ).holds (aEb K F H R')
def forL (set:D->Env->Option Env) (b:aQ):List D->aQ
 | [],ρ=>.next ρ
 | d::ds,ρ=>match set d ρ with
  | none=>.bad
  | some ρ1=>gQ (b ρ1) (forL set b ds)
def Tgt (K:FG) (set:D->Env->Option Env) (g:TG):Prop :=
 ∀(F H:Hp) (d:D) (v:V) (ρ ρ':Env) (σ:St) (fps:Y5) (P:St->Hp->Prop),Sim K F H σ ρ fps->Own K F H d v []->set d ρ=some ρ' ->
  (∀σ' fps',Sim K F H σ' ρ' fps'->fA ρ σ ρ' σ'->(∀b∈fps'.flatten,b∈fps.flatten)->P σ' H)->g v σ H P
theorem cL {i:Nat}:Tgt K (bH i) (oY i):=by
 intro F H d v ρ ρ' σ fps P S o e h
 unfold bH at e
 by_cases hf:free ρ i=true
 ·rw [if_pos hf] at e;cases e
  refine h _ _ (S.store o List.nodup_nil fun b hb=>by cases hb) (nK hf) fun b hb=>?_
  rcases bB hb with q | q
  ·exact q
  ·cases q
 ·rw [if_neg hf] at e;cases e
def fZ (is:T0):D->Env->Option Env:=fun d ρ=>match d with | .tup ds=>bY is ds ρ | _=>none
theorem nE {is:T0} {n:Nat} (hn:is.length=n):Tgt K (fZ is) (aNd K n (kQ is)):=by
 intro F H d v ρ ρ' σ fps P S o e h
 unfold fZ at e
 cases d<;>try cases e
 rename_i ds
 obtain ⟨a,xs,ev,q,o2,e2⟩:=Own.tup S.same o
 refine ⟨a,xs,ev,q,?_,mB is e S o2 h⟩
 rw [<- aF.length ds o2,mL is e,hn]
def jQ (f:jF) (set:D->Env->Option Env) (b:aQ):aQ:=fun ρ=>match f ρ with
 | .ok ds=>forL set b ds ρ | .exc _=>.bad | .bad=>.bad
theorem aO1 {f:jF} {set:D->Env->Option Env} {g:TG} {b:aQ} (ht:Tgt K set g) (h:sv K W (jQ f set b) D' σ H):aQ1 (iv K f) g (sv K W b) D' σ H:=by
 obtain ⟨ρ,F,fps,S,h⟩:=h
 refine ⟨ρ,F,fps,S,?_⟩
 unfold jQ at h
 cases e:f ρ with
 | exc _=>rw [e] at h;exact h.elim
 | bad=>rw [e] at h;exact h.elim
 | ok ds =>
  rw [e] at h
  intro J F0 H0 g0 hJ
  have h:=bZ.lift (g0.evo (Z:=fps.flatten)) (fA.refl ρ σ) h
  refine ⟨fun i m σ' H'=>i<=ds.length/\m=ds.length - i/\∃ρ' F' fps',Same F0 F'/\Sim K F' H' σ' ρ' fps'/\bZ K W F' H' fps'.flatten ρ' σ' D' (forL set b (ds.drop i) ρ'),
   ⟨ds.length,Nat.zero_le _,rfl,ρ,F0,fps,Same.refl _,S.grow g0,h⟩,?_⟩
  rintro i m σ1 H1 ⟨hi,rfl,ρ1,F1,fps1,s1,S1,h1⟩
  by_cases hlt:i<ds.length
  ·refine .inr ?_
   obtain ⟨d,hd⟩:∃d,ds[i]?=some d:=⟨ds[i],by simp [hlt]⟩
   have hdrop:ds.drop i=d::ds.drop (i+1):=by
    rw [List.drop_eq_getElem_cons hlt]
    congr 1
    rw [List.getElem?_eq_getElem hlt] at hd;exact Option.some.inj hd
   rw [hdrop] at h1
   obtain ⟨go,yl⟩:=hJ.2 i d hd F1 H1 s1 S1.same
   refine ⟨go,fun σ' H'=>∃ρ' F' fps',Same F0 F'/\Sim K F' H' σ' ρ' fps'/\bZ K W F' H' fps'.flatten ρ' σ' D' (forL set b (ds.drop (i+1)) ρ'),fun σ' H' q=>⟨ds.length - (i+1),by omega,by omega,rfl,q⟩,fun x H2 hy=>?_⟩
   obtain ⟨F2,g2,o2⟩:=yl x H2 hy
   have h1:bZ K W F1 H1 fps1.flatten ρ1 σ1 D' (match set d ρ1 with | none=>.bad | some ρ2=>gQ (b ρ2) (forL set b (ds.drop (i+1)))):=h1
   have h1:=bZ.lift (g2.evo (Z:=fps1.flatten)) (fA.refl ρ1 σ1) h1
   cases es:set d ρ1 with
   | none=>rw [es] at h1;exact h1.elim
   | some ρ2 =>
    rw [es] at h1
    refine ht F2 H2 d x ρ1 ρ2 σ1 fps1 _ (S1.grow g2) o2 es fun σ2 fps2 S2 p2 k2=>?_
    have ev2:Evo F2 H2 fps1.flatten F2 H2 fps2.flatten:=⟨Same.refl _,fun _ _ e _=>e,fun _ e=>e,fun _ _ e=>.inl e,fun b hb=>.inl (k2 b hb)⟩
    have h2:bZ K W F2 H2 fps2.flatten ρ2 σ2 D' (gQ (b ρ2) (forL set b (ds.drop (i+1)))):=bZ.lift ev2 p2 h1
    refine ⟨ρ2,F2,fps2,S2,?_⟩
    have s2:Same F0 F2:=s1.trans g2.fr
    cases eb:b ρ2 with
    | next ρ3 =>
     rw [eb] at h2
     exact fun σ' F' H' fps' e' S' p'=>⟨ρ3,F',fps',s2.trans e'.fr,S',bZ.lift e' p' h2⟩
    | cont ρ3 =>
     rw [eb] at h2
     exact fun σ' F' H' fps' e' S' p'=>⟨ρ3,F',fps',s2.trans e'.fr,S',bZ.lift e' p' h2⟩
    | brk ρ3=>rw [eb] at h2;exact h2
    | ret d ρ3=>rw [eb] at h2;exact h2
    | exc _ _=>rw [eb] at h2;exact h2
    | bad=>rw [eb] at h2;exact h2
  ·refine .inl ⟨hJ.1 i H1 (s1.trans S1.same) (by omega),?_⟩
   rw [List.drop_eq_nil_of_le (by omega)] at h1
   exact h1 σ1 F1 H1 fps1 .refl S1 (fA.refl _ _)
def aK2 (f:aL):jF:=fun ρ=>(f ρ).bind fun x=>match x.1 with
 | .tup ds=>.ok ds | _=>.bad
theorem aN5 {f:aL} {R':It->Hp->Prop} (h:iv K (aK2 f) σ H R'):aM7 K (tv K f) σ H R':=by
 obtain ⟨ρ,F,fps,S,h⟩:=h
 refine ⟨ρ,F,fps,S,R.aI (R.aJ.mp h) fun x hx v F1 H1 fx g1 o1 n1 k1=>?_⟩
 obtain ⟨x,b⟩:=x
 cases x<;>try exact hx.elim
 rename_i ds
 unfold Own at o1
 obtain ⟨_,a,xs,ev,q,r⟩:=o1
 refine ⟨a,ev,⟨xs,Same.sO g1.inn q⟩,hx _ F1 H1 g1 ⟨fun i H' hs hl=>?_,fun i d hd F' H' s1 s2=>?_⟩⟩
 ·exact ⟨xs,Same.sO hs q,by rw [<- aF.length ds r];exact hl⟩
 ·obtain ⟨u,f,q1,q2,q3⟩:=aF.get ds r hd
  refine ⟨⟨xs,u,Same.sO (s1.trans s2) q,q1⟩,fun y H2 hy=>?_⟩
  obtain ⟨e,hy⟩:=hy
  subst e
  have ey:=hy xs (Same.sO (s1.trans s2) q)
  rw [q1] at ey;cases ey
  have:f=[]:=List.sublist_nil.mp q3
  subst this
  exact ⟨F',Grow.refl s2,Own.keep s1 d (fun a ha=>by cases ha) q2⟩
def fJ (lo:Int) (n:Nat):List D:=(List.range n).map fun (i:Nat)=>D.int (lo+(i:Int))
def bW (i:Int):Bool:=decide (-(2 ^ 62)<=i) && decide (i<2 ^ 62)
def iR1 (g:cW):jF:=fun ρ=>(g ρ).bind fun xs=>match xs with
 | [(.int j,_)]=>if bW j then .ok (fJ 0 j.toNat) else .bad | _=>.bad
def iR2 (g:cW):jF:=fun ρ=>(g ρ).bind fun xs=>match xs with
 | [(.int i,_),(.int j,_)]=>if bW i && bW j then .ok (fJ i (j - i).toNat) else .bad | _=>.bad
theorem sG {lo:Int} {n:Nat}:uM K F (fJ lo n) (Itr lo n):=by
 refine ⟨fun i H' _ hl=>?_,fun i d hd F' H' s1 s2=>?_⟩
 ·unfold fJ at hl
  show n<=i
  simpa using hl
 ·unfold fJ at hd
  rw [List.getElem?_map] at hd
  have hi:i<n:=by
   rcases Nat.lt_or_ge i n with h | h
   ·exact h
   ·rw [List.getElem?_eq_none_iff.mpr (by simpa using h)] at hd;cases hd
  rw [List.getElem?_range hi] at hd
  cases hd
  refine ⟨hi,fun y H2 hy=>?_⟩
  obtain ⟨e1,e2⟩:=hy
  subst e1;subst e2
  exact ⟨F',Grow.refl s2,gF rfl⟩
theorem aDd {g:cW} {R':It->Hp->Prop} (h:iv K (iR1 g) σ H R'):aKs (tvA K g) σ H R':=by
 obtain ⟨ρ,F,fps,S,h⟩:=h
 refine ⟨ρ,F,fps,S,R.aI (R.aJ.mp h) fun xs hx vs F1 H1 fa g1 o1 n1 k1=>?_⟩
 match xs,hx,o1 with
 | [(.int j,b)],hx,o1 =>
  have hx:(if bW j=true then R.ok (fJ 0 j.toNat) else R.bad).holds (aEb K F H R'):=hx
  by_cases hc:bW j=true
  ·rw [if_pos hc] at hx
   unfold bW at hc
   rw [Bool.and_eq_true,decide_eq_true_iff,decide_eq_true_iff] at hc
   unfold Args at o1
   obtain ⟨v,r,fp,f2,e,o,n,t,w⟩:=o1
   unfold Args at t;unfold Own at o
   rw [e,t.1,o.1]
   exact ⟨j,rfl,hc.1,hc.2,hx _ F1 H1 g1 sG⟩
  ·rw [if_neg hc] at hx;exact hx.elim
theorem aDz {g:cW} {R':It->Hp->Prop} (h:iv K (iR2 g) σ H R'):aLn (tvA K g) σ H R':=by
 obtain ⟨ρ,F,fps,S,h⟩:=h
 refine ⟨ρ,F,fps,S,R.aI (R.aJ.mp h) fun xs hx vs F1 H1 fa g1 o1 n1 k1=>?_⟩
 match xs,hx,o1 with
 | [(.int i,b),(.int j,b')],hx,o1 =>
  have hx:(if (bW i && bW j)=true then R.ok (fJ i (j - i).toNat) else R.bad).holds (aEb K F H R'):=hx
  by_cases hc:(bW i && bW j)=true
  ·rw [if_pos hc] at hx
   unfold bW at hc
   simp only [Bool.and_eq_true,decide_eq_true_iff] at hc
   unfold Args at o1
   obtain ⟨v,r,fp,f2,e,o,n,t,w⟩:=o1
   unfold Args at t
   obtain ⟨v',r',fp',f2',e',o',n',t',w'⟩:=t
   unfold Args at t';unfold Own at o o'
   rw [e,e',t'.1,o.1,o'.1]
   exact ⟨i,j,rfl,⟨hc.1.1,hc.1.2,hc.2.1,hc.2.2⟩,hx _ F1 H1 g1 sG⟩
  ·rw [if_neg hc] at hx;exact hx.elim
end
end VL
end
section
namespace VL
open PySem L2
section
variable {K:FG} {W:XW} {F H F' H' F1 H1:Hp} {Z Z' Z1:Y2} {σ σ1:St} {ρ ρ1:Env} {D':Ends}
theorem eG {fps:Y5} {i:Nat} {fp f:Y2} (n:fps.flatten.Nodup) (e:fps[i]?=some f) (nf:fp.Nodup) (dj:∀b∈fp,b∈f\/b ∉ fps.flatten):(fps.set i fp).flatten.Nodup:=by
 induction fps generalizing i with
 | nil=>simp
 | cons g r ih =>
  rw [List.flatten_cons] at n dj
  obtain ⟨n1,n2,n3⟩:=List.nodup_append.mp n
  cases i with
  | zero =>
   simp at e;subst e
   rw [List.set_cons_zero,List.flatten_cons]
   refine List.nodup_append.mpr ⟨nf,n2,fun a ha b hb z=>?_⟩
   subst z
   rcases dj a ha with h | h
   ·exact n3 a h a hb rfl
   ·exact h (List.mem_append_right _ hb)
  | succ i =>
   have e:r[i]?=some f:=by simpa using e
   rw [List.set_cons_succ,List.flatten_cons]
   refine List.nodup_append.mpr ⟨n1,ih n2 e fun b hb=>(dj b hb).imp_right fun h hr=>h (List.mem_append_right _ hr),fun a ha b hb z=>?_⟩
   subst z
   rcases bB hb with h | h
   ·exact n3 a ha a h rfl
   ·rcases dj a h with q | q
    ·exact n3 a ha a (List.mem_flatten.mpr ⟨f,List.mem_of_getElem? e,q⟩) rfl
    ·exact q (List.mem_append_left _ ha)
theorem apart {fps:Y5} {i j:Nat} {f g:Y2} {a:Addr} (n:fps.flatten.Nodup) (hi:fps[i]?=some f) (hj:fps[j]?=some g) (ne:i ≠ j) (ha:a∈f):a ∉ g:=by
 induction fps generalizing i j with
 | nil=>simp at hi
 | cons h r ih =>
  rw [List.flatten_cons] at n
  obtain ⟨n1,n2,n3⟩:=List.nodup_append.mp n
  cases i with
  | zero =>
   simp at hi;subst hi
   cases j with
   | zero=>exact absurd rfl ne
   | succ j =>
    have hj:r[j]?=some g:=by simpa using hj
    exact fun hb=>n3 a ha a (List.mem_flatten.mpr ⟨g,List.mem_of_getElem? hj,hb⟩) rfl
  | succ i =>
   have hi:r[i]?=some f:=by simpa using hi
   cases j with
   | zero =>
    simp at hj;subst hj
    exact fun hb=>n3 a hb a (List.mem_flatten.mpr ⟨f,List.mem_of_getElem? hi,ha⟩) rfl
   | succ j=>exact ih n2 hi (by simpa using hj) fun z=>ne (by rw [z])
theorem Own.other {d:D} {v:V} {f:Y2} {a:Addr} {o:HO} (h:Own K F H d v f) (ha:a ∉ f):Own K F (upd H a o) d v f:=by
 refine Own.keep (Same.refl _) d (fun b hb=>⟨(Own.zone d h b hb).1,?_⟩) h
 exact aW fun z=>ha (z ▸ hb)
theorem aF.other {d:List D} {v:List V} {f:Y2} {a:Addr} {o:HO} (h:aF K F H d v f) (ha:a ∉ f):aF K F (upd H a o) d v f:=by
 refine aF.keep (Same.refl _) d (fun b hb=>⟨(aF.zone d h b hb).1,?_⟩) h
 exact aW fun z=>ha (z ▸ hb)
def getD (ρ:Env) (i:Nat):Option D:=(ρ[i]?).bind Slot.d?
def putD (ρ:Env) (i:Nat) (d:D):Env:=match ρ[i]? with
 | some (.pin _)=>ρ.set i (.pin d) | some (.val _)=>ρ.set i (.val d) | _=>ρ
theorem Sim.get {fps:Y5} (S:Sim K F H σ ρ fps) {i:Nat} {d:D} (e:getD ρ i=some d):∃v fp,σ[i]?=some (some v)/\fps[i]?=some fp/\Own K F H d v fp:=by
 unfold getD at e
 cases q:ρ[i]? with
 | none=>rw [q] at e;cases e
 | some s=>rw [q] at e;exact S.at_ i s d q e
theorem wV {i j:Nat} {d:D} {s:Slot} {c:D} (e:(putD ρ i d)[j]?=some s) (e2:s.d?=some c) (hi:(getD ρ i).isSome=true):(i=j/\c=d)\/(i ≠ j/\ρ[j]?=some s):=by
 unfold getD at hi
 unfold putD at e
 cases q:ρ[i]? with
 | none=>rw [q] at hi;cases hi
 | some t =>
  have hlt:i < ρ.length:=(List.getElem?_eq_some_iff.mp q).1
  rw [q] at e hi
  cases t with
  | un=>cases hi
  | val _ =>
   by_cases hj:i=j
   ·subst hj
    have e:(ρ.set i (.val d))[i]?=some s:=e
    rw [List.getElem?_set_self hlt] at e;cases e;cases e2;exact .inl ⟨rfl,rfl⟩
   ·have e:(ρ.set i (.val d))[j]?=some s:=e
    rw [List.getElem?_set_ne hj] at e;exact .inr ⟨hj,e⟩
  | pin _ =>
   by_cases hj:i=j
   ·subst hj
    have e:(ρ.set i (.pin d))[i]?=some s:=e
    rw [List.getElem?_set_self hlt] at e;cases e;cases e2;exact .inl ⟨rfl,rfl⟩
   ·have e:(ρ.set i (.pin d))[j]?=some s:=e
    rw [List.getElem?_set_ne hj] at e;exact .inr ⟨hj,e⟩
theorem oA {i:Nat} {d:D}:(putD ρ i d).length=ρ.length:=by
 unfold putD
 split<;>simp
theorem wB {i:Nat} {d:D}:kB ρ (putD ρ i d):=fun j c e=>by
 unfold putD
 cases q:ρ[i]? with
 | none=>exact ⟨c,e⟩
 | some t =>
  have hlt:i < ρ.length:=(List.getElem?_eq_some_iff.mp q).1
  cases t with
  | un=>exact ⟨c,e⟩
  | val _ =>
   refine ⟨c,?_⟩
   show (ρ.set i (.val d))[j]?=_
   have hj:i ≠ j:=by rintro rfl;rw [q] at e;cases e
   rw [List.getElem?_set_ne hj];exact e
  | pin _ =>
   by_cases hj:i=j
   ·subst hj
    exact ⟨d,by show (ρ.set i (.pin d))[i]?=_;rw [List.getElem?_set_self hlt]⟩
   ·exact ⟨c,by show (ρ.set i (.pin d))[j]?=_;rw [List.getElem?_set_ne hj];exact e⟩
theorem Sim.mutate {fps:Y5} (S:Sim K F H σ ρ fps) {i:Nat} {d d':D} {v:V} {fp fp':Y2} {a:Addr} {xs:List V} (e:getD ρ i=some d) (es:σ[i]?=some (some v)) (ef:fps[i]?=some fp)
  (ha:a∈fp) (o:Own K F (upd H a (.lst xs)) d' v fp') (n:fp'.Nodup) (dj:∀b∈fp',b∈fp\/(b ∉ fps.flatten)) :
  Sim K F (upd H a (.lst xs)) σ (putD ρ i d') (fps.set i fp'):=by
 have hz:a∈fps.flatten:=List.mem_flatten.mpr ⟨fp,List.mem_of_getElem? ef,ha⟩
 have fa:=(S.zone a hz).1
 refine ⟨fun b u q=>?_,by rw [oA];exact S.ls,by rw [oA,List.length_set];exact S.lf,fun j s c e1 e2=>?_,eG S.nd ef n dj,fun b hb=>?_⟩
 ·rw [aW (bJ q fa)];exact S.same b u q
 ·rcases wV e1 e2 (by rw [e];rfl) with ⟨rfl,rfl⟩ | ⟨hj,e3⟩
  ·exact ⟨v,fp',es,List.getElem?_set_self (List.getElem?_eq_some_iff.mp ef).1,o⟩
  ·obtain ⟨w,f,h1,h2,h3⟩:=S.at_ j s c e3 e2
   exact ⟨w,f,h1,by rw [List.getElem?_set_ne hj];exact h2,h3.other (apart S.nd ef h2 hj ha)⟩
 ·rcases bB hb with h | h
  ·refine ⟨(S.zone b h).1,?_⟩
   by_cases hba:b=a
   ·subst hba;rw [bR];simp
   ·rw [aW hba];exact (S.zone b h).2
  ·obtain ⟨q1,ys,q2⟩:=Own.zone d' o b h
   exact ⟨q1,by rw [q2];simp⟩
theorem aIo {a:Addr} {o:HO} (ha:a∈Z) (k:∀b∈Z',b∈Z):Evo F H Z F (upd H a o) Z':=by
 refine ⟨Same.refl _,fun b u e hb=>?_,fun b e=>?_,fun _ _ e=>.inl e,fun b hb=>.inl (k b hb)⟩
 ·exact (aW (fun z:b=a=>hb (by rw [z];exact ha))).trans e
 ·by_cases hba:b=a
  ·subst hba;rw [bR] at e;cases e
  ·rw [aW hba] at e;exact e
theorem Grow.aR5 (g:Grow F H F' H') (k:∀b∈Z',b∈Z\/H b=none):Evo F H Z F' H' Z' :=
 ⟨g.fr,fun b o e _=>g.all b o e,fun _ e=>g.all.free e,fun b o e=>(g.new b o e).elim .inl fun h=>.inr (.inl h),k⟩
theorem aF.replace:∀(ds:List D) {xs:List V} {fq:Y2} {j:Nat} {dj:D},aF K F H ds xs fq->fq.Nodup->ds[j]?=some dj->∃vj fj,xs[j]?=some vj/\Own K F H dj vj fj/\(∀b∈fj,b∈fq)/\fj.Nodup /\
  ∀(H':Hp) (dj':D) (vj':V) (fj':Y2),(∀b∈fq,b ∉ fj->H' b=H b)->Own K F H' dj' vj' fj'->∃fq',aF K F H' (ds.set j dj') (xs.set j vj') fq'/\(∀b∈fq',b∈fj'\/(b∈fq/\b ∉ fj))/\(fj'.Nodup->(∀b∈fj',b∈fj\/b ∉ fq)->fq'.Nodup)
 | [],_,_,_,_,_,_,e=>by simp at e
 | c::ds,xs,fq,0,dj,h,n,e=>by
  unfold aF at h
  obtain ⟨v,r,f1,f2,e1,h1,h2,e2⟩:=h
  simp at e;subst e;subst e1;subst e2
  obtain ⟨n1,n2,n3⟩:=List.nodup_append.mp n
  refine ⟨v,f1,rfl,h1,fun b hb=>List.mem_append_left _ hb,n1,fun H' dj' vj' fj' k o=>?_⟩
  have h2':aF K F H' ds r f2:=aF.keep (Same.refl _) ds (fun b hb=>⟨(aF.zone ds h2 b hb).1,k b (List.mem_append_right _ hb) fun z=>n3 b z b hb rfl⟩) h2
  refine ⟨fj'++f2,aF.cons o h2',fun b hb=>?_,fun n4 k4=>?_⟩
  ·rcases List.mem_append.mp hb with hb | hb
   ·exact .inl hb
   ·exact .inr ⟨List.mem_append_right _ hb,fun z=>n3 b z b hb rfl⟩
  ·refine List.nodup_append.mpr ⟨n4,n2,fun a ha b hb z=>?_⟩
   subst z
   rcases k4 a ha with q | q
   ·exact n3 a q a hb rfl
   ·exact q (List.mem_append_right _ hb)
 | c::ds,xs,fq,j+1,dj,h,n,e=>by
  unfold aF at h
  obtain ⟨v,r,f1,f2,e1,h1,h2,e2⟩:=h
  subst e1;subst e2
  obtain ⟨n1,n2,n3⟩:=List.nodup_append.mp n
  obtain ⟨vj,fj,q1,q2,q3,q5,q4⟩:=aF.replace ds (j:=j) h2 n2 (by simpa using e)
  refine ⟨vj,fj,by simpa using q1,q2,fun b hb=>List.mem_append_right _ (q3 b hb),q5,fun H' dj' vj' fj' k o=>?_⟩
  obtain ⟨fq',p1,p2,p3⟩:=q4 H' dj' vj' fj' (fun b hb hn=>k b (List.mem_append_right _ hb) hn) o
  have h1':Own K F H' c v f1:=Own.keep (Same.refl _) c (fun b hb=>⟨(Own.zone c h1 b hb).1,k b (List.mem_append_left _ hb) fun z=>n3 b hb b (q3 b z) rfl⟩) h1
  refine ⟨f1++fq',aF.cons h1' p1,fun b hb=>?_,fun n4 k4=>?_⟩
  ·rcases List.mem_append.mp hb with hb | hb
   ·exact .inr ⟨List.mem_append_left _ hb,fun z=>n3 b hb b (q3 b z) rfl⟩
   ·exact (p2 b hb).imp_right fun z=>⟨List.mem_append_right _ z.1,z.2⟩
  ·refine List.nodup_append.mpr ⟨n1,p3 n4 fun b hb=>(k4 b hb).imp_right fun z y=>z (List.mem_append_right _ y),fun a ha b hb z=>?_⟩
   subst z
   rcases p2 a hb with q | q
   ·rcases k4 a q with q | q
    ·exact n3 a ha a (q3 a q) rfl
    ·exact q (List.mem_append_left _ ha)
   ·exact n3 a ha a q.1 rfl
theorem Own.opened {ds:List D} {v:V} {fp:Y2} (h:Own K F H (.lst true ds) v fp):∃a xs fq,v=.ref a/\aF K F H ds xs fq/\F a=none/\H a=some (.lst xs)/\fp=a::fq:=by
 unfold Own at h
 obtain ⟨a,xs,fq,e,r,w⟩:=h
 rcases w with ⟨_,w1,w2,w3⟩ | ⟨w,_⟩
 ·exact ⟨a,xs,fq,e,r,w1,w2,w3⟩
 ·cases w
theorem Own.closed {ds:List D} {a:Addr} {xs:List V} {fq:Y2} (r:aF K F H ds xs fq) (h1:F a=none) (h2:H a=some (.lst xs)):Own K F H (.lst true ds) (.ref a) (a::fq):=by
 unfold Own
 exact ⟨a,xs,fq,rfl,r,.inl ⟨rfl,h1,h2,rfl⟩⟩
theorem Sim.zone1 {fps:Y5} {i:Nat} {fp:Y2} {a:Addr} (S:Sim K F H σ ρ fps) (h2:fps[i]?=some fp) (ha:a∈fp):F a=none :=
 (S.zone a (List.mem_flatten.mpr ⟨_,List.mem_of_getElem? h2,ha⟩)).1
theorem Sim.aCi {fps:Y5} {fu:Y2} (S:Sim K F H σ ρ fps) (k3:∀b∈fu,H b=none):∀b∈fu,b ∉ fps.flatten:=fun b hb hz=>(S.zone b hz).2 (k3 b hb)
theorem dI.mut {fps:Y5} {P:St->Hp->Prop} {i:Nat} {d d':D} {v:V} {fp fp' fu:Y2} {a:Addr} {xs:List V} (h:dI K F H fps.flatten ρ σ P (putD ρ i d')) (S:Sim K F H σ ρ fps) (g2:Grow F H F1 H1) (k3:∀b∈fu,H b=none)
  (eg:getD ρ i=some d) (h1:σ[i]?=some (some v)) (h2:fps[i]?=some fp) (ha:a∈fp) (o:Own K F1 (upd H1 a (.lst xs)) d' v fp') (n:fp'.Nodup) (dj:∀b∈fp',b∈fp\/b∈fu):P σ (upd H1 a (.lst xs)):=by
 have S3:=(S.grow g2).mutate eg h1 h2 ha o n fun b hb=>(dj b hb).imp_right (S.aCi k3 b)
 have ez:Evo F H fps.flatten F1 H1 (fps.flatten++fu):=g2.aR5 fun b hb=>(List.mem_append.mp hb).imp_right (k3 b)
 have hz:∀b∈fp,b∈fps.flatten:=fun b hb=>List.mem_flatten.mpr ⟨_,List.mem_of_getElem? h2,hb⟩
 refine h σ F1 _ _ (ez.trans (aIo (List.mem_append_left _ (hz a ha)) fun b hb=>?_)) S3 (wB.pins)
 rcases bB hb with q | q
 ·exact List.mem_append_left _ q
 ·rcases dj b q with q | q
  ·exact List.mem_append_left _ (hz b q)
  ·exact List.mem_append_right _ q
def pH (d0:D) (x:D×Bool):Option D:=match d0 with
 | .lst true ds=>if aN x && decide (ds.length<1000000) then some (.lst true (ds ++ [x.1])) else none | _=>none
def dH (i:Nat) (f:aL):aQ:=fun ρ=>match f ρ with
 | .ok x=>(match (getD ρ i).bind fun d=>pH d x with | some d=>.next (putD ρ i d) | none=>.bad)
 | .exc _=>.bad | .bad=>.bad
theorem uX {n:Nat} (h:n<1000000):n<sizeLine:=Nat.lt_of_lt_of_le h (by decide)
theorem nF {x:D×Bool} {v:V} {fp:Y2} (k:aN x=true) (o:Own K F H x.1 v fp) (h:x.2=true->∀b∈fp,H1 b=none):∀b∈fp,H1 b=none:=fun b hb=>by
 unfold aN at k
 cases e:x.2 with
 | true=>exact h e b hb
 | false =>
  rw [e,Bool.false_or] at k
  rw [Own.dA x.1 k o] at hb;cases hb
theorem aDa {i:Nat} {f:aL} (h:sv K W (dH i f) D' σ H):aCd (tBM K "list" uI (aDg i) (xH (tv K f) aD6)) D' σ H:=by
 obtain ⟨ρ,F,fps,S,h⟩:=h
 unfold dH at h
 cases ef:f ρ with
 | exc _=>rw [ef] at h;exact h.elim
 | bad=>rw [ef] at h;exact h.elim
 | ok x =>
  rw [ef] at h
  have h:bZ K W F H fps.flatten ρ σ D' (match (getD ρ i).bind fun d=>pH d x with | some d=>.next (putD ρ i d) | none=>.bad):=h
  cases eg:getD ρ i with
  | none=>rw [eg] at h;exact h.elim
  | some d0 =>
   rw [eg] at h
   have h:bZ K W F H fps.flatten ρ σ D' (match pH d0 x with | some d=>.next (putD ρ i d) | none=>.bad):=h
   cases ek:pH d0 x with
   | none=>rw [ek] at h;exact h.elim
   | some d1 =>
    rw [ek] at h
    unfold pH at ek
    split at ek<;>try cases ek
    rename_i ds
    by_cases hc:(aN x && decide (ds.length<1000000))=true
    ·rw [if_pos hc] at ek;cases ek
     rw [Bool.and_eq_true,decide_eq_true_iff] at hc
     obtain ⟨v,fp,h1,h2,h3⟩:=S.get eg
     obtain ⟨a,xs,fq,ev,r,w1,w2,w3⟩:=Own.opened h3
     subst ev;subst w3
     have nfp:=S.sub h2
     refine ⟨.ref a,h1,.inl ⟨rfl,xs,SqL.of w2⟩,ρ,F,fps,S,?_⟩
     rw [ef]
     intro u F2 H2 fu g2 o2 n2 k2
     have k3:=nF hc.1 o2 k2
     have S2:=S.grow g2
     have w2':=g2.all a _ w2
     refine ⟨a,xs,u,rfl,rfl,w2',uX (by rw [<- aF.length ds r];exact hc.2),?_⟩
     have w1':=S2.zone1 h2 List.mem_cons_self
     have hau:a ∉ fu:=fun z=>by have:=k3 a z;rw [w2] at this;cases this
     have haq:a ∉ fq:=(List.nodup_cons.mp nfp).1
     have r2:aF K F2 (upd H2 a (.lst (xs ++ [u]))) (ds ++ [x.1]) (xs ++ [u]) (fq++fu):=aF.append ds ((r.grow g2).other haq) (aF.one (o2.other hau))
     have hn:(a::(fq++fu)).Nodup:=by
      refine List.nodup_cons.mpr ⟨fun z=>(List.mem_append.mp z).elim haq hau,List.nodup_append.mpr ⟨(List.nodup_cons.mp nfp).2,n2,fun p hp q hq z=>?_⟩⟩
      subst z
      exact S.aCi k3 p hq (List.mem_flatten.mpr ⟨_,List.mem_of_getElem? h2,List.mem_cons_of_mem _ hp⟩)
     refine dI.mut h S g2 k3 eg h1 h2 List.mem_cons_self (Own.closed r2 w1' bR) hn fun b hb=>?_
     rcases List.mem_cons.mp hb with rfl | hb
     ·exact .inl List.mem_cons_self
     ·exact (List.mem_append.mp hb).imp_left fun z=>List.mem_cons_of_mem _ z
    ·rw [if_neg hc] at ek;cases ek
def aCz (d0:D) (k:Int) (x:D×Bool):Option D:=match d0 with
 | .lst true ds=>if aN x then (ixN ds.length k).map fun j=>.lst true (ds.set j x.1) else none | _=>none
def gA (i:Nat) (h f:aL):aQ:=fun ρ=>match f ρ with
 | .ok x=>(match h ρ with
  | .ok (.int k,_)=>(match (getD ρ i).bind fun d=>aCz d k x with | some d=>.next (putD ρ i d) | none=>.bad)
  | .ok _=>.bad | .exc _=>.bad | .bad=>.bad)
 | .exc _=>.bad | .bad=>.bad
theorem aOx {n:Nat} {k:Int} {j:Nat} (e:ixN n k=some j):j<n:=by
 unfold ixN at e
 split at e
 ·split at e
  ·cases e;omega
  ·cases e
 ·split at e
  ·cases e;omega
  ·cases e
theorem set_own {ds:List D} {xs:List V} {fq fu:Y2} {a:Addr} {j:Nat} {d:D} {u:V} (r:aF K F H ds xs fq) (n:(a::fq).Nodup) (hj:j<ds.length) (w1:F a=none) (o:Own K F H d u fu) (nu:fu.Nodup) (hau:a ∉ fu) (dju:∀b∈fu,b ∉ fq) :
  ∃fq',Own K F (upd H a (.lst (xs.set j u))) (.lst true (ds.set j d)) (.ref a) (a::fq')/\(a::fq').Nodup/\∀b∈fq',b∈fq\/b∈fu:=by
 obtain ⟨na,nq⟩:=List.nodup_cons.mp n
 obtain ⟨dj,hdj⟩:∃dj,ds[j]?=some dj:=⟨ds[j],by simp [hj]⟩
 obtain ⟨vj,fj,q1,q2,q3,_,q4⟩:=aF.replace ds (r.other (a:=a) (o:=.lst (xs.set j u)) na) nq hdj
 obtain ⟨fq',p1,p2,p3⟩:=q4 _ d u fu (fun b _ _=>rfl) (o.other hau)
 have k:∀b∈fq',b∈fq\/b∈fu:=fun b hb=>(p2 b hb).elim .inr fun z=>.inl z.1
 refine ⟨fq',Own.closed p1 w1 bR,List.nodup_cons.mpr ⟨fun z=>(k a z).elim na hau,p3 nu fun b hb=>.inr (dju b hb)⟩,k⟩
theorem zC {i:Nat} {h f:aL} (hh:sv K W (gA i h f) D' σ H):aDb (tv K f) (aPh (aDg i) (tv K h) aK7) D' σ H:=by
 obtain ⟨ρ,F,fps,S,hh⟩:=hh
 unfold gA at hh
 cases ef:f ρ with
 | exc _=>rw [ef] at hh;exact hh.elim
 | bad=>rw [ef] at hh;exact hh.elim
 | ok x =>
  rw [ef] at hh
  dsimp only at hh
  cases eh:h ρ with
  | exc _=>rw [eh] at hh;exact hh.elim
  | bad=>rw [eh] at hh;exact hh.elim
  | ok y =>
   rw [eh] at hh
   obtain ⟨y,by'⟩:=y
   cases y<;>try exact hh.elim
   rename_i k
   dsimp only at hh
   cases eg:getD ρ i with
   | none=>rw [eg] at hh;exact hh.elim
   | some d0 =>
    rw [eg] at hh
    dsimp only [Option.bind] at hh
    cases ek:aCz d0 k x with
    | none=>rw [ek] at hh;exact hh.elim
    | some d1 =>
     rw [ek] at hh
     unfold aCz at ek
     split at ek<;>try cases ek
     rename_i ds
     by_cases hc:aN x=true
     ·rw [if_pos hc] at ek
      cases ej:ixN ds.length k with
      | none=>rw [ej] at ek;cases ek
      | some j =>
       rw [ej] at ek;cases ek
       refine ⟨ρ,F,fps,S,?_⟩
       rw [ef]
       intro u F2 H2 fu g2 o2 n2 k2
       have k3:=nF hc o2 k2
       have S2:=S.grow g2
       obtain ⟨v,fp,h1,h2,h3⟩:=S2.get eg
       refine ⟨v,h1,ρ,F2,fps,S2,?_⟩
       rw [eh]
       intro w F3 H3 fw g3 o3 n3 k4
       unfold Own at o3
       obtain ⟨a,xs,fq,ev,r,w1,w2,w3⟩:=Own.opened (h3.grow g3)
       subst ev;subst w3
       have nfp:=S.sub h2
       refine ⟨a,xs,k,j,rfl,o3.1,w2,by rw [<- aF.length ds r];exact ej,?_⟩
       have hz:∀b∈a::fq,b∈fps.flatten:=fun b hb=>List.mem_flatten.mpr ⟨_,List.mem_of_getElem? h2,hb⟩
       have nf:=S.aCi k3
       obtain ⟨fq',p1,p2,p3⟩:=set_own r nfp (aOx ej) w1 (o2.grow g3) n2 (fun z=>nf a z (hz a List.mem_cons_self)) fun b hb z=>nf b hb (hz b (List.mem_cons_of_mem _ z))
       refine dI.mut hh S (g2.trans g3) k3 eg h1 h2 List.mem_cons_self p1 p2 fun b hb=>?_
       rcases List.mem_cons.mp hb with rfl | hb
       ·exact .inl List.mem_cons_self
       ·exact (p3 b hb).imp_left fun z=>List.mem_cons_of_mem _ z
     ·rw [if_neg hc] at ek;cases ek
def wC (d0:D) (k:Int) (x:D×Bool):Option D:=match d0 with
 | .lst true ds=>(ixN ds.length k).bind fun j=>(ds[j]?).bind fun dj=>(pH dj x).map fun d=>.lst true (ds.set j d)
 | _=>none
def gZ (i:Nat) (h f:aL):aQ:=fun ρ=>match h ρ with
 | .ok (.int k,_)=>(match f ρ with
  | .ok x=>(match (getD ρ i).bind fun d=>wC d k x with | some d=>.next (putD ρ i d) | none=>.bad)
  | .exc _=>.bad | .bad=>.bad)
 | .ok _=>.bad | .exc _=>.bad | .bad=>.bad
theorem aG7 {ds:List D} {xs:List V} {fq:Y2} {a:Addr} {j:Nat} {dj:D} (r:aF K F H ds xs fq) (n:(a::fq).Nodup) (w1:F a=none) (w2:H a=some (.lst xs)) (hdj:ds[j]?=some dj) :
  ∃vj fj,xs[j]?=some vj/\Own K F H dj vj fj/\(∀b∈fj,b∈fq)/\fj.Nodup/\∀(b:Addr) (ys:List V) (dj':D) (fj' fu:Y2),b∈fj->Own K F (upd H b (.lst ys)) dj' vj fj'->fj'.Nodup->(∀c∈fj',c∈fj\/c∈fu)->(∀c∈fu,c ∉ a::fq) ->
   ∃fq',Own K F (upd H b (.lst ys)) (.lst true (ds.set j dj')) (.ref a) (a::fq')/\(a::fq').Nodup/\∀c∈fq',c∈fq\/c∈fu:=by
 obtain ⟨na,nq⟩:=List.nodup_cons.mp n
 obtain ⟨vj,fj,q1,q2,q3,q5,q4⟩:=aF.replace ds r nq hdj
 refine ⟨vj,fj,q1,q2,q3,q5,?_⟩
 ·intro b ys dj' fj' fu hb o nj k1 k2
  obtain ⟨fq',p1,p2,p3⟩:=q4 _ dj' vj fj' (fun c hc hn=>aW fun z=>hn (z ▸ hb)) o
  have hx:xs.set j vj=xs:=by
   apply List.ext_getElem?
   intro m
   by_cases hm:j=m
   ·subst hm;rw [q1,List.getElem?_set_self (List.getElem?_eq_some_iff.mp q1).1]
   ·rw [List.getElem?_set_ne hm]
  rw [hx] at p1
  have hab:a ≠ b:=fun z=>na (q3 a (z ▸ hb))
  have k:∀c∈fq',c∈fq\/c∈fu:=fun c hc=>by
   rcases p2 c hc with q | q
   ·exact (k1 c q).imp_left (q3 c)
   ·exact .inl q.1
  refine ⟨fq',Own.closed p1 w1 (by rw [aW hab];exact w2),List.nodup_cons.mpr ⟨fun z=>?_,p3 nj fun c hc=>(k1 c hc).imp_right fun q z=>k2 c q (List.mem_cons_of_mem _ z)⟩,k⟩
  rcases k a z with q | q
  ·exact na q
  ·exact k2 a q List.mem_cons_self
theorem aIa {α:Type} {xs:List α} {k:Int} {j:Nat} {v:α} (e:ixN xs.length k=some j) (h:xs[j]?=some v):atI xs k=some v:=by
 unfold atI;rw [e];exact h
theorem yL {i:Nat} {h f:aL} (hh:sv K W (gZ i h f) D' σ H):aCd (tBM K "list" uI (tOp (aL8 K) (aDg i) (tv K h)) (xH (tv K f) aD6)) D' σ H:=by
 obtain ⟨ρ,F,fps,S,hh⟩:=hh
 unfold gZ at hh
 cases eh:h ρ with
 | exc _=>rw [eh] at hh;exact hh.elim
 | bad=>rw [eh] at hh;exact hh.elim
 | ok y =>
  rw [eh] at hh
  obtain ⟨y,by'⟩:=y
  cases y<;>try exact hh.elim
  rename_i k
  dsimp only at hh
  cases ef:f ρ with
  | exc _=>rw [ef] at hh;exact hh.elim
  | bad=>rw [ef] at hh;exact hh.elim
  | ok x =>
   rw [ef] at hh
   dsimp only at hh
   cases eg:getD ρ i with
   | none=>rw [eg] at hh;exact hh.elim
   | some d0 =>
    rw [eg] at hh
    dsimp only [Option.bind] at hh
    cases ek:wC d0 k x with
    | none=>rw [ek] at hh;exact hh.elim
    | some d1 =>
     rw [ek] at hh
     unfold wC at ek
     split at ek<;>try cases ek
     rename_i ds
     cases ej:ixN ds.length k with
     | none=>rw [ej] at ek;cases ek
     | some j =>
      rw [ej] at ek
      dsimp only [Option.bind] at ek
      cases edj:ds[j]? with
      | none=>rw [edj] at ek;cases ek
      | some dj =>
       rw [edj] at ek
       dsimp only at ek
       cases ea:pH dj x with
       | none=>rw [ea] at ek;cases ek
       | some dn =>
        rw [ea] at ek;cases ek
        unfold pH at ea
        split at ea<;>try cases ea
        rename_i es
        by_cases hc:(aN x && decide (es.length<1000000))=true
        ·rw [if_pos hc] at ea;cases ea
         rw [Bool.and_eq_true,decide_eq_true_iff] at hc
         obtain ⟨v,fp,h1,h2,h3⟩:=S.get eg
         refine ⟨v,h1,ρ,F,fps,S,?_⟩
         rw [eh]
         intro w F2 H2 fw g2 o2 n2 k2
         unfold Own at o2
         obtain ⟨a,xs,fq,ev,r,w1,w2,w3⟩:=Own.opened (h3.grow g2)
         subst ev;subst w3
         have nfp:=S.sub h2
         have S2:=S.grow g2
         obtain ⟨vj,fj,q1,q2,q3,q5,q4⟩:=aG7 r nfp w1 w2 edj
         obtain ⟨b,ys,fr,eb,rb,b1,b2,b3⟩:=Own.opened q2
         subst eb;subst b3
         refine ⟨a,xs,k,.ref b,rfl,o2.1,SqL.of w2,aIa (by rw [<- aF.length ds r];exact ej) q1,.inl ⟨rfl,ys,SqL.of b2⟩,ρ,F2,fps,S2,?_⟩
         rw [ef]
         intro u F3 H3 fu g3 o3 n3 k3
         have k3:=nF hc.1 o3 k3
         have nf:=S2.aCi k3
         have hz:∀c∈a::fq,c∈fps.flatten:=fun c hb=>List.mem_flatten.mpr ⟨_,List.mem_of_getElem? h2,hb⟩
         obtain ⟨vj',fj',p1,p2,p3,p5,p4⟩:=aG7 (r.grow g3) nfp ((S2.grow g3).zone1 h2 List.mem_cons_self) (g3.all _ _ w2) edj
         have evj:vj'=.ref b:=by rw [q1] at p1;exact (Option.some.inj p1).symm
         subst evj
         obtain ⟨b',ys',fr',eb',rb',b1',b2',b3'⟩:=Own.opened p2
         cases eb'
         subst b3'
         have eys:ys'=ys:=by
          have:=g3.all _ _ b2
          rw [b2'] at this
          cases this;rfl
         subst eys
         have nfj:=List.nodup_cons.mp p5
         have hb0:b∈fq:=p3 b List.mem_cons_self
         have hbu:b ∉ fu:=fun z=>nf b z (hz b (List.mem_cons_of_mem _ hb0))
         refine ⟨b,ys',u,rfl,rfl,b2',uX (by rw [<- aF.length es rb'];exact hc.2),?_⟩
         have rb2:aF K F3 (upd H3 b (.lst (ys' ++ [u]))) (es ++ [x.1]) (ys' ++ [u]) (fr'++fu):=aF.append es (rb'.other nfj.1) (aF.one (o3.other hbu))
         have hn:(b::(fr'++fu)).Nodup:=by
          refine List.nodup_cons.mpr ⟨fun z=>(List.mem_append.mp z).elim nfj.1 hbu,List.nodup_append.mpr ⟨nfj.2,n3,fun p hp q hq z=>?_⟩⟩
          subst z
          exact nf p hq (hz p (List.mem_cons_of_mem _ (p3 p (List.mem_cons_of_mem _ hp))))
         obtain ⟨fq',s1,s2,s3⟩:=p4 b (ys' ++ [u]) (.lst true (es ++ [x.1])) (b::(fr'++fu)) fu List.mem_cons_self (Own.closed rb2 b1' bR) hn (fun c hc=>by
          rcases List.mem_cons.mp hc with rfl | hc
          ·exact .inl List.mem_cons_self
          ·exact (List.mem_append.mp hc).imp_left fun z=>List.mem_cons_of_mem _ z) fun c hc z=>nf c hc (hz c z)
         refine dI.mut (fu:=fu) hh S (g2.trans g3) (fun c hc=>g2.all.free (k3 c hc)) eg h1 h2 (List.mem_cons_of_mem _ hb0) s1 s2 fun c hc=>?_
         rcases List.mem_cons.mp hc with rfl | hc
         ·exact .inl List.mem_cons_self
         ·exact (s3 c hc).imp_left fun z=>List.mem_cons_of_mem _ z
        ·rw [if_neg hc] at ea;cases ea
def frz1 (ρ:Env) (i:Nat):Env:=match getD ρ i with | some d=>putD ρ i d.frz | none=>ρ
def pG (is:T0) (g:aQ):aQ:=fun ρ=>g (is.foldl frz1 ρ)
theorem Sim.frz1 {fps:Y5} (S:Sim K F H σ ρ fps) (i:Nat):∃F' fps',Sim K F' H σ (VL.frz1 ρ i) fps'/\Evo F H fps.flatten F' H fps'.flatten/\kB ρ (VL.frz1 ρ i):=by
 unfold VL.frz1
 cases e:getD ρ i with
 | none=>exact ⟨F,fps,S,.refl,kB.refl _⟩
 | some d =>
  obtain ⟨v,fp,h1,h2,h3⟩:=S.get e
  have hz:∀b∈fp,b∈fps.flatten:=fun b hb=>List.mem_flatten.mpr ⟨_,List.mem_of_getElem? h2,hb⟩
  have z:∀b∈fp,F b=none:=fun b hb=>(S.zone b (hz b hb)).1
  have hsub:∀b∈(fps.set i []).flatten,b∈fps.flatten/\b ∉ fp:=by
   intro b hb
   refine ⟨(bB hb).elim id (fun q=>by cases q),fun q=>?_⟩
   obtain ⟨l,hl,hbl⟩:=List.mem_flatten.mp hb
   obtain ⟨j,hj⟩:=List.mem_iff_getElem?.mp hl
   by_cases hij:i=j
   ·subst hij
    rw [List.getElem?_set_self (List.getElem?_eq_some_iff.mp h2).1] at hj;cases hj;cases hbl
   ·rw [List.getElem?_set_ne hij] at hj
    exact apart S.nd h2 hj hij q hbl
  refine ⟨eZ F H fp,fps.set i [],⟨nS S.same,by rw [oA];exact S.ls,by rw [oA,List.length_set];exact S.lf,fun j s c e1 e2=>?_,eG S.nd h2 List.nodup_nil (fun b hb=>by cases hb),fun b hb=>?_⟩,⟨eW z,fun _ _ e _=>e,fun _ e=>e,fun b o e=>?_,fun b hb=>.inl (hsub b hb).1⟩,wB⟩
  ·rcases wV e1 e2 (by rw [e];rfl) with ⟨rfl,rfl⟩ | ⟨hj,e3⟩
   ·exact ⟨v,[],h1,List.getElem?_set_self (List.getElem?_eq_some_iff.mp h2).1,Own.freeze z d (fun a ha=>ha) h3⟩
   ·obtain ⟨w,f,q1,q2,q3⟩:=S.at_ j s c e3 e2
    refine ⟨w,f,q1,by rw [List.getElem?_set_ne hj];exact q2,Own.keep (eW z) c (fun a ha=>⟨?_,rfl⟩) q3⟩
    unfold eZ
    rw [if_neg fun q=>apart S.nd h2 q2 hj q ha]
    exact (Own.zone c q3 a ha).1
  ·obtain ⟨q1,q2⟩:=hsub b hb
   refine ⟨?_,(S.zone b q1).2⟩
   unfold eZ;rw [if_neg q2];exact (S.zone b q1).1
  ·unfold eZ at e
   split at e
   ·rename_i hb;exact .inr (.inr (hz b hb))
   ·exact .inl e
theorem Sim.frzs (is:T0):∀ {ρ:Env} {F:Hp} {fps:Y5},Sim K F H σ ρ fps->∃F' fps',Sim K F' H σ (is.foldl VL.frz1 ρ) fps'/\Evo F H fps.flatten F' H fps'.flatten/\kB ρ (is.foldl VL.frz1 ρ):=by
 induction is with
 | nil=>intro ρ F fps S;exact ⟨F,fps,S,.refl,kB.refl _⟩
 | cons i is ih =>
  intro ρ F fps S
  obtain ⟨F1,fps1,S1,e1,p1⟩:=S.frz1 i
  obtain ⟨F2,fps2,S2,e2,p2⟩:=ih S1
  exact ⟨F2,fps2,S2,e1.trans e2,p1.trans p2⟩
theorem aOv {is:T0} {g:aQ} (h:sv K W (pG is g) D' σ H):sv K W g D' σ H:=by
 obtain ⟨ρ,F,fps,S,h⟩:=h
 obtain ⟨F1,fps1,S1,e1,p1⟩:=Sim.frzs is S
 exact ⟨_,F1,fps1,S1,bZ.lift e1 p1.pins h⟩
def lT (i:Nat):aQ:=fun ρ=>match ρ[i]? with
 | some (.val d)=>.ret d (ρ.set i .un) | some (.pin d)=>if d.calm then .ret d ρ else .bad | _=>.bad
theorem aH9 {i:Nat} (h:sv K W (lT i) D' σ H):aMc (aDg i) D' σ H:=by
 obtain ⟨ρ,F,fps,S,h⟩:=h
 unfold lT at h
 cases e:ρ[i]? with
 | none=>rw [e] at h;exact h.elim
 | some s =>
  rw [e] at h
  cases s with
  | un=>exact h.elim
  | pin d =>
   have h:bZ K W F H fps.flatten ρ σ D' (if d.calm=true then .ret d ρ else .bad):=h
   by_cases hc:d.calm=true
   ·rw [if_pos hc] at h
    obtain ⟨v,fp,h1,h2,h3⟩:=S.at_ i _ d e rfl
    have:=Own.dA d hc h3
    subst this
    exact ⟨v,h1,h v σ F H fps [] .refl S (fA.refl _ _) h3 List.nodup_nil fun b hb=>by cases hb⟩
   ·rw [if_neg hc] at h;exact h.elim
  | val d =>
   obtain ⟨v,fp,h1,h2,h3⟩:=S.at_ i _ d e rfl
   have hz:∀b∈fp,b∈fps.flatten:=fun b hb=>List.mem_flatten.mpr ⟨_,List.mem_of_getElem? h2,hb⟩
   have hlt:i < ρ.length:=(List.getElem?_eq_some_iff.mp e).1
   have hsub:∀b∈(fps.set i []).flatten,b∈fps.flatten/\b ∉ fp:=by
    intro b hb
    refine ⟨(bB hb).elim id (fun q=>by cases q),fun q=>?_⟩
    obtain ⟨l,hl,hbl⟩:=List.mem_flatten.mp hb
    obtain ⟨j,hj⟩:=List.mem_iff_getElem?.mp hl
    by_cases hij:i=j
    ·subst hij
     rw [List.getElem?_set_self (List.getElem?_eq_some_iff.mp h2).1] at hj;cases hj;cases hbl
    ·rw [List.getElem?_set_ne hij] at hj
     exact apart S.nd h2 hj hij q hbl
   refine ⟨v,h1,h v σ F H (fps.set i []) fp ⟨Same.refl _,fun _ _ e _=>e,fun _ e=>e,fun _ _ e=>.inl e,fun b hb=>.inl (hsub b hb).1⟩ ⟨S.same,by simp [S.ls],by simp [S.lf],fun j s c e1 e2=>?_,eG S.nd h2 List.nodup_nil (fun b hb=>by cases hb),fun b hb=>S.zone b (hsub b hb).1⟩ (fun j c e1=>?_) h3 (S.sub h2) fun b hb=>⟨fun q=>(hsub b q).2 hb,.inl (hz b hb)⟩⟩
   ·by_cases hij:i=j
    ·subst hij
     rw [List.getElem?_set_self hlt] at e1;cases e1;cases e2
    ·rw [List.getElem?_set_ne hij] at e1
     obtain ⟨w,f,q1,q2,q3⟩:=S.at_ j s c e1 e2
     exact ⟨w,f,q1,by rw [List.getElem?_set_ne hij];exact q2,q3⟩
   ·have hij:i ≠ j:=by rintro rfl;rw [e] at e1;cases e1
    exact ⟨⟨c,by rw [List.getElem?_set_ne hij];exact e1⟩,rfl⟩
def aAu (i:Nat) (op:Int->Int->Int) (f:aL):aQ:=fun ρ=>match getD ρ i with
 | some (.int a)=>(match f ρ with
  | .ok (.int b,_)=>if free ρ i then .next (ρ.set i (.val (.int (op a b)))) else .bad
  | .ok _=>.bad | .exc _=>.bad | .bad=>.bad)
 | _=>.bad
theorem aMv {i:Nat} {op:Int->Int->Int} {f:aL} (h:sv K W (aAu i op f) D' σ H):aPw i (tv K f) (ipI op) D' σ H:=by
 obtain ⟨ρ,F,fps,S,h⟩:=h
 unfold aAu at h
 cases eg:getD ρ i with
 | none=>rw [eg] at h;exact h.elim
 | some d =>
  rw [eg] at h
  cases d<;>try exact h.elim
  rename_i a
  obtain ⟨v,fp,h1,h2,h3⟩:=S.get eg
  unfold Own at h3
  refine ⟨v,h1,ρ,F,fps,S,?_⟩
  dsimp only at h
  cases ef:f ρ with
  | exc _=>rw [ef] at h;exact h.elim
  | bad=>rw [ef] at h;exact h.elim
  | ok y =>
   rw [ef] at h
   obtain ⟨y,by'⟩:=y
   cases y<;>try exact h.elim
   rename_i b
   intro u F1 H1 fu g1 o1 n1 k1
   unfold Own at o1
   refine ⟨a,b,h3.1,o1.1,?_⟩
   have h:bZ K W F H fps.flatten ρ σ D' (if free ρ i=true then .next (ρ.set i (.val (.int (op a b)))) else .bad):=h
   by_cases hc:free ρ i=true
   ·rw [if_pos hc] at h
    have S1:=(S.grow g1).store (i:=i) (gF (K:=K) (F:=F1) (H:=H1) (d:=.int (op a b)) rfl) List.nodup_nil fun b hb=>by cases hb
    exact h _ F1 H1 _ (aBm (g1.evo (Z:=fps.flatten)) fun b hb=>by cases hb) S1 (nK hc)
   ·rw [if_neg hc] at h;exact h.elim
end
end VL
end
section
namespace VL
open PySem L2
section
variable {K:FG} {W:XW} {F H F' H' F1 H1:Hp} {Z Z' Z1:Y2} {σ σ1:St} {ρ ρ1:Env} {D':Ends}
abbrev Fn:=List D->R (D×List D)
def zK (K:FG) (F H:Hp) (ds:List D) (vs:List V) (fps:Y5):Prop :=
 ds.length=vs.length/\fps.length=ds.length/\∀(i:Nat) (d:D),ds[i]?=some d->∃v fp,vs[i]?=some v/\fps[i]?=some fp/\Own K F H d v fp
def aPr (K:FG) (F H:Hp) (vs:List V) (Z:Y2) (Q:VK) (x:D×List D):Prop :=
 ∀r F' H' fps' fr,Evo F H Z F' H' fps'.flatten->Same F' H'->zK K F' H' x.2 vs fps'->fps'.flatten.Nodup->Own K F' H' x.1 r fr->fr.Nodup->(∀b∈fr,b ∉ fps'.flatten/\(b∈Z\/H b=none))->Q r H'
def dZ (K:FG) (c:Str) (C:Addr):Prop:=PySem.W.nsIn K mainGlobals c=some (some (.ref C))
def FX (K:FG) (F H:Hp) (Z:Y2) (E:XK) (c:Str):Prop :=
 ∀F' H' Z',Evo F H Z F' H' Z'->Same F' H'->∀C,dZ K c C->E (.ref C) none H'
def wOf (K:FG) (E:XK):XW:=fun c _ H'=>∀C,dZ K c C->E (.ref C) none H'
def spV (K:FG) (n:Nat) (fn:Fn):Sp:=fun vs H Q E=>vs.length=n/\∃F ds fps,Same F H/\zK K F H ds vs fps/\fps.flatten.Nodup/\(∀b∈fps.flatten,F b=none/\H b ≠ none)/\(fn ds).hx (aPr K F H vs fps.flatten Q) (FX K F H fps.flatten E)
def entry (n:Nat) (ds:List D):Env:=ds.map (fun d=>if d.calm then Slot.val d else .pin d)++List.replicate (n - ds.length) .un
def outs:List D->Env->List D
 | [],_=>[]
 | d::ds,s::ρ=>(if d.calm then d else match s with | .pin d'=>d' | _=>d)::outs ds ρ
 | d::ds,[]=>d::outs ds []
def fnOf (n:Nat) (body:aQ):Fn:=fun ds=>match body (entry n ds) with
 | .ret d ρ'=>.ok (d,outs ds ρ') | .next ρ'=>.ok (.non,outs ds ρ') | .exc c _=>.exc c | _=>.bad
theorem qE:∀(ds:List D) (ρ:Env) (i:Nat) (d:D),(outs ds ρ)[i]?=some d->∃c,ds[i]?=some c/\d=(if c.calm then c else match ρ[i]? with | some (.pin d')=>d' | _=>c)
 | [],_,_,_,e=>by simp [outs] at e
 | c::ds,s::ρ,0,d,e=>by
  simp [outs] at e
  refine ⟨c,rfl,?_⟩
  subst e
  cases c.calm<;>cases s<;>rfl
 | c::ds,s::ρ,i+1,d,e=>by
  simp [outs] at e
  obtain ⟨c',h1,h2⟩:=qE ds ρ i d e
  exact ⟨c',by simpa using h1,by simpa using h2⟩
 | c::ds,[],0,d,e=>by
  simp [outs] at e
  refine ⟨c,rfl,?_⟩
  subst e
  cases c.calm<;>rfl
 | c::ds,[],i+1,d,e=>by
  simp [outs] at e
  obtain ⟨c',h1,h2⟩:=qE ds [] i d e
  exact ⟨c',by simpa using h1,by simpa using h2⟩
theorem nB:∀(ds:List D) (ρ:Env),(outs ds ρ).length=ds.length
 | [],_=>rfl
 | d::ds,s::ρ=>by simp [outs,nB ds ρ]
 | d::ds,[]=>by simp [outs,nB ds []]
theorem entry_get {n:Nat} {ds:List D} {i:Nat} {s:Slot} {d:D} (e:(entry n ds)[i]?=some s) (e2:s.d?=some d):ds[i]?=some d/\(s=if d.calm then Slot.val d else .pin d):=by
 unfold entry at e
 by_cases hi:i<ds.length
 ·rw [List.getElem?_append_left (by simpa using hi),List.getElem?_map] at e
  rw [List.getElem?_eq_getElem hi] at e ⊢
  have e:(if (ds[i]).calm=true then Slot.val ds[i] else .pin ds[i])=s:=Option.some.inj e
  subst e
  cases hc:(ds[i]).calm
  ·rw [hc] at e2;cases e2;exact ⟨rfl,by rw [hc]⟩
  ·rw [hc] at e2;cases e2;exact ⟨rfl,by rw [hc]⟩
 ·rw [List.getElem?_append_right (by simpa using hi),List.getElem?_replicate] at e
  split at e
  ·cases e;cases e2
  ·cases e
theorem zK.sim {n:Nat} {N:List Str} {ds:List D} {vs:List V} {fps:Y5} (hN:N.length=n) (hn:vs.length<=n) (hs:Same F H) (o:zK K F H ds vs fps) (nd:fps.flatten.Nodup) (zo:∀b∈fps.flatten,F b=none/\H b ≠ none) :
  Sim K F H (L2.start N vs) (entry n ds) (fps++List.replicate (n - ds.length) []):=by
 obtain ⟨l1,l2,h⟩:=o
 have hfl:(fps++List.replicate (n - ds.length) ([]:Y2)).flatten=fps.flatten:=by simp
 refine ⟨hs,?_,?_,fun i s d e1 e2=>?_,by rw [hfl];exact nd,fun b hb=>by rw [hfl] at hb;exact zo b hb⟩
 ·unfold L2.start entry;simp;omega
 ·unfold entry;simp;omega
 ·obtain ⟨e3,_⟩:=entry_get e1 e2
  obtain ⟨v,fp,q1,q2,q3⟩:=h i d e3
  have hi:i<vs.length:=(List.getElem?_eq_some_iff.mp q1).1
  refine ⟨v,fp,?_,?_,q3⟩
  ·unfold L2.start
   rw [List.getElem?_append_left (by simpa using hi),List.getElem?_map,q1];rfl
  ·rw [List.getElem?_append_left (by omega)];exact q2
theorem aF9 {n:Nat} {N:List Str} {ds:List D} {vs:List V} {fps fps':Y5} {σ':St} {ρ':Env} (hn:vs.length<=n) (o:zK K F H ds vs fps)
  (ev:Evo F H fps.flatten F' H' fps'.flatten) (S:Sim K F' H' σ' ρ' fps') (p:fA (entry n ds) (L2.start N vs) ρ' σ') :
  ∃fps2,zK K F' H' (outs ds ρ') vs fps2/\fps2.flatten.Sublist fps'.flatten:=by
 obtain ⟨l1,l2,h⟩:=o
 have pick:∀(k:Nat),k<=ds.length->∃fps2:Y5,fps2.length=k/\fps2.flatten.Sublist (fps'.take k).flatten/\∀(i:Nat) (c:D),i<k->ds[i]?=some c->fps2[i]?=some (if c.calm then [] else (fps'[i]?).getD []):=by
  intro k
  induction k with
  | zero=>intro _;exact ⟨[],rfl,by simp,fun i c hi=>by omega⟩
  | succ k ih =>
   intro hk
   obtain ⟨f2,e1,e2,e3⟩:=ih (by omega)
   obtain ⟨c,hc⟩:∃c,ds[k]?=some c:=⟨ds[k],by simp⟩
   refine ⟨f2 ++ [if c.calm then [] else (fps'[k]?).getD []],by simp [e1],?_,fun i c' hi hc'=>?_⟩
   ·rw [List.flatten_append,List.take_add_one,List.flatten_append]
    refine List.Sublist.append e2 ?_
    cases hcc:c.calm
    ·cases q:fps'[k]?<;>simp
    ·simp
   ·by_cases hik:i<k
    ·rw [List.getElem?_append_left (by omega)];exact e3 i c' hik hc'
    ·have:i=k:=by omega
     subst this
     rw [hc] at hc';cases hc'
     rw [List.getElem?_append_right (by omega),e1];simp
 obtain ⟨f2,e1,e2,e3⟩:=pick ds.length (Nat.le_refl _)
 refine ⟨f2,⟨by rw [nB];exact l1,by rw [nB];exact e1,fun i d hd=>?_⟩,e2.trans ?_⟩
 ·obtain ⟨c,hc,hd2⟩:=qE ds ρ' i d hd
  obtain ⟨v,fp,q1,q2,q3⟩:=h i c hc
  have hi:i<ds.length:=(List.getElem?_eq_some_iff.mp hc).1
  refine ⟨v,_,q1,e3 i c hi hc,?_⟩
  cases hcc:c.calm with
  | true =>
   rw [hcc] at hd2
   simp only [if_true] at hd2 ⊢
   subst hd2
   have:=Own.dA d hcc q3
   subst this
   exact Own.keep ev.fr d (fun a ha=>by cases ha) q3
  | false =>
   rw [hcc] at hd2
   have en:(entry n ds)[i]?=some (.pin c):=by
    unfold entry
    rw [List.getElem?_append_left (by simpa using hi),List.getElem?_map,hc]
    show some (if c.calm=true then Slot.val c else .pin c)=_
    rw [hcc];rfl
   obtain ⟨⟨d',hp⟩,es⟩:=p i c en
   rw [hp] at hd2
   simp only [Bool.false_eq_true,if_false] at hd2 ⊢
   subst hd2
   obtain ⟨w,f,s1,s2,s3⟩:=S.at_ i _ d hp rfl
   rw [s2]
   have ew:(L2.start N vs)[i]?=some (some v):=by
    unfold L2.start
    have hiv:i<vs.length:=(List.getElem?_eq_some_iff.mp q1).1
    rw [List.getElem?_append_left (by simpa using hiv),List.getElem?_map,q1];rfl
   rw [es,ew] at s1
   cases s1
   exact s3
 ·have e:fps'.flatten=(fps'.take ds.length).flatten++(fps'.drop ds.length).flatten:=by rw [<- List.flatten_append,List.take_append_drop]
  rw [e];exact List.sublist_append_left _ _
theorem aLd {n:Nat} {N:List Str} {body:aQ} {vs:List V} {k:Nat} {Q:VK} {E:XK} (hN:N.length=n) (hk:k<=n) (h:spV K k (fnOf n body) vs H Q E):sv K (wOf K E) body { nx:=fun _ H'=>Q .non H',rt:=Q } (L2.start N vs) H:=by
 obtain ⟨lk,F,ds,fps,hs,o,nd,zo,h⟩:=h
 have hn:vs.length<=n:=by omega
 have hfl:(fps++List.replicate (n - ds.length) ([]:Y2)).flatten=fps.flatten:=by simp
 refine ⟨entry n ds,F,_,o.sim hN hn hs nd zo,?_⟩
 rw [hfl]
 unfold fnOf at h
 cases e:body (entry n ds) with
 | next ρ' =>
  rw [e] at h
  intro σ' F' H' fps' ev S p
  obtain ⟨f2,o2,sb⟩:=aF9 hn o ev S p
  have hz:∀b∈f2.flatten,b∈fps'.flatten:=fun b hb=>sb.subset hb
  exact h .non F' H' f2 [] ⟨ev.fr,ev.keep,ev.dom,ev.new,fun b hb=>ev.zone b (hz b hb)⟩ S.same o2 (sb.nodup S.nd) (gF rfl) List.nodup_nil fun b hb=>by cases hb
 | ret d ρ' =>
  rw [e] at h
  intro r σ' F' H' fps' fr ev S p od nr kr
  obtain ⟨f2,o2,sb⟩:=aF9 hn o ev S p
  have hz:∀b∈f2.flatten,b∈fps'.flatten:=fun b hb=>sb.subset hb
  exact h r F' H' f2 fr ⟨ev.fr,ev.keep,ev.dom,ev.new,fun b hb=>ev.zone b (hz b hb)⟩ S.same o2 (sb.nodup S.nd) od nr fun b hb=>⟨fun z=>(kr b hb).1 (hz b z),(kr b hb).2⟩
 | brk _=>rw [e] at h;exact h.elim
 | cont _=>rw [e] at h;exact h.elim
 | exc c ρ' =>
  rw [e] at h
  exact fun σ' F' H' fps' ev S p=>h F' H' fps'.flatten ev S.same
 | bad=>rw [e] at h;exact h.elim
theorem Args.ice:∀(xs:List (D×Bool)) {vs:List V} {fa:Y2},Args K F H xs vs fa->∃U:Y2,(∀b∈U,F b=none)/\(xs.all aN=true->∀b∈U,b∈fa)/\∀U':Y2,(∀b∈U,b∈U')->(∀b∈U',F b=none)->aF K (eZ F H U') H (D.frzs (xs.map (·.1))) vs []
 | [],vs,fa,h=>by
  unfold Args at h
  refine ⟨[],by simp,by simp,fun U' _ _=>?_⟩
  rw [h.1];exact aF.nil
 | x::xs,vs,fa,h=>by
  unfold Args at h
  obtain ⟨v,r,fp,f2,e,o,n,t,w⟩:=h
  obtain ⟨U,u1,u2,u3⟩:=Args.ice xs t
  refine ⟨fp++U,fun b hb=>(List.mem_append.mp hb).elim (fun z=>(Own.zone x.1 o b z).1) (u1 b),fun hk b hb=>?_,fun U' s1 s2=>?_⟩
  ·rw [List.all_cons,Bool.and_eq_true] at hk
   have k2:=u2 hk.2
   rcases w with ⟨_,w⟩ | ⟨e2,w⟩
   ·subst w
    exact (List.mem_append.mp hb).elim (fun z=>List.mem_append_left _ z) fun z=>List.mem_append_right _ (k2 b z)
   ·subst w
    have hc:x.1.calm=true:=by have:=hk.1;unfold aN at this;rw [e2] at this;exact this
    rw [Own.dA x.1 hc o] at hb
    exact k2 b hb
  ·rw [e,List.map_cons,D.frzs]
   have a:=Own.freeze s2 x.1 (fun b hb=>s1 b (List.mem_append_left _ hb)) o
   have b:=u3 U' (fun b hb=>s1 b (List.mem_append_right _ hb)) s2
   exact aF.cons a b
theorem lU {ds:List D} {vs:List V} (o:aF K F H ds vs []):zK K F H ds vs (List.replicate ds.length []):=by
 refine ⟨aF.length ds o,by simp,fun i d hd=>?_⟩
 obtain ⟨v,f,q1,q2,q3⟩:=aF.get ds o hd
 have:f=[]:=List.sublist_nil.mp q3
 subst this
 exact ⟨v,[],q1,by rw [List.getElem?_replicate,if_pos (List.getElem?_eq_some_iff.mp hd).1],q2⟩
def isScal (d:D):Bool:=(iB d).isSome
def bG (fn:Fn) (g:cW):aL:=fun ρ=>(g ρ).bind fun xs=>(fn (D.frzs (xs.map (·.1)))).bind fun y=>if xs.all aN || isScal y.1 then .ok (y.1,true) else .bad
theorem aHu {fn:Fn} {g:cW} {n:Nat} {Q:VK} (hl:∀ρ xs,g ρ=.ok xs->xs.length=n) (h:tv K (bG fn g) σ H Q):aKt (spV K n fn) [] E0 (tvA K g) σ H Q:=by
 obtain ⟨ρ,F,fps,S,h⟩:=h
 unfold bG at h
 refine ⟨ρ,F,fps,S,?_⟩
 cases eg:g ρ with
 | exc _=>rw [eg] at h;exact h.elim
 | bad=>rw [eg] at h;exact h.elim
 | ok xs =>
  rw [eg] at h
  have h:=R.aJ.mp h
  have h:=R.aJ.mp (show ((fn (D.frzs (xs.map (·.1)))).bind _).holds _ from h)
  intro vs F1 H1 fa g1 a1 n1 k1
  obtain ⟨U,u1,u2,u3⟩:=Args.ice xs a1
  have o:=u3 U (fun b hb=>hb) u1
  have len:vs.length=n:=by rw [<- Args.length xs a1];exact hl ρ xs eg
  rw [List.append_nil]
  refine ⟨len,eZ F1 H1 U,_,_,nS g1.inn,lU o,by simp,by simp,R.aR8 (R.aI h fun y hy r F2 H2 fps2 fr ev hs2 o2 nd2 or nr kr=>?_)⟩
  have same:Same H1 H2:=fun b o e=>ev.keep b o e (by simp)
  by_cases hk:xs.all aN=true
  ·have hfa:=u2 hk
   rw [hk,Bool.true_or,if_pos rfl] at hy
   have gU:Grow F H (eZ F1 H1 U) H1:=g1.frz (fun b hb=>k1 b (hfa b hb)) u1
   have g2:Grow (eZ F1 H1 U) H1 F2 H2:=⟨ev.fr,same,hs2,fun b o e=>(ev.new b o e).elim .inl fun q=>q.elim .inr fun q=>by simp at q⟩
   refine hy r F2 H2 fr (gU.trans g2) or nr fun _ b hb=>?_
   rcases (kr b hb).2 with q | q
   ·simp at q
   ·exact g1.all.free q
  ·by_cases hsc:isScal y.1=true
   ·rw [hsc,Bool.or_true,if_pos rfl] at hy
    unfold isScal at hsc
    cases es:iB y.1 with
    | none=>rw [es] at hsc;cases hsc
    | some v =>
     obtain ⟨e1,e2⟩:=vO es or
     subst e1
     have gS:Grow F1 H1 F1 H2:=⟨Same.refl _,same,g1.inn.trans same,fun _ _ e=>.inl e⟩
     exact EPost.dE (g1.trans gS) hy es
   ·have:(xs.all aN || isScal y.1)=false:=by
     rw [Bool.eq_false_iff];intro z
     rcases Bool.or_eq_true _ _ ▸ z with z | z
     ·exact hk z
     ·exact hsc z
    rw [this] at hy;exact hy.elim
def wE (K:FG) (W:XW) (σ:St):XK:=fun v _ H'=>∃c C,v=.ref C/\dZ K c C/\W c σ H'
def aFz (sp:Sp) (E:St->XK) (t:TA):TE:=fun σ H Q=>t σ H fun vs H1=>sp (vs ++ []) H1 Q (E σ)
def gC (fn:Fn) (g:cW):iW:=fun ρ=>match g ρ with
 | .ok xs=>(match fn (D.frzs (xs.map (·.1))) with
  | .ok y=>if xs.all aN || isScal y.1 then .ok (y.1,true,ρ) else .bad
  | .exc c=>.exc c | .bad=>.bad)
 | _=>.bad
theorem aJ5 {fn:Fn} {g:cW} {n:Nat} {Q:VK} (hl:∀ρ xs,g ρ=.ok xs->xs.length=n) (h:tx K W (gC fn g) σ H Q):aFz (spV K n fn) (wE K W) (tvA K g) σ H Q:=by
 obtain ⟨ρ,F,fps,S,h⟩:=h
 unfold gC at h
 refine ⟨ρ,F,fps,S,?_⟩
 cases eg:g ρ with
 | exc _=>rw [eg] at h;exact h.elim
 | bad=>rw [eg] at h;exact h.elim
 | ok xs =>
  rw [eg] at h
  dsimp only at h
  intro vs F1 H1 fa g1 a1 n1 k1
  obtain ⟨U,u1,u2,u3⟩:=Args.ice xs a1
  have o:=u3 U (fun b hb=>hb) u1
  have len:vs.length=n:=by rw [<- Args.length xs a1];exact hl ρ xs eg
  rw [List.append_nil]
  refine ⟨len,eZ F1 H1 U,_,_,nS g1.inn,lU o,by simp,by simp,?_⟩
  cases ef:fn (D.frzs (xs.map (·.1))) with
  | bad=>rw [ef] at h;exact h.elim
  | exc c =>
   rw [ef] at h
   have h:dI K F H fps.flatten ρ σ (W c) ρ:=h
   intro F2 H2 Z2 ev hs2 C hC
   have same:Same H1 H2:=fun b o e=>ev.keep b o e (by simp)
   have gS:Grow F1 H1 F1 H2:=⟨Same.refl _,same,g1.inn.trans same,fun _ _ e=>.inl e⟩
   exact ⟨c,C,rfl,hC,h σ F1 H2 fps (g1.trans gS).evo (S.grow (g1.trans gS)) (fA.refl _ _)⟩
  | ok y =>
   rw [ef] at h
   have h:((if (xs.all aN || isScal y.1)=true then R.ok (y.1,true,ρ) else R.bad):R (D×Bool×Env)).hx (qN K F H fps.flatten ρ σ Q) (fun c=>dI K F H fps.flatten ρ σ (W c) ρ):=h
   intro r F2 H2 fps2 fr ev hs2 o2 nd2 or nr kr
   have same:Same H1 H2:=fun b o e=>ev.keep b o e (by simp)
   by_cases hk:xs.all aN=true
   ·have hfa:=u2 hk
    rw [hk,Bool.true_or,if_pos rfl] at h
    have hy:qN K F H fps.flatten ρ σ Q (y.1,true,ρ):=h
    have gU:Grow F H (eZ F1 H1 U) H1:=g1.frz (fun b hb=>k1 b (hfa b hb)) u1
    have g2:Grow (eZ F1 H1 U) H1 F2 H2:=⟨ev.fr,same,hs2,fun b o e=>(ev.new b o e).elim .inl fun q=>q.elim .inr fun q=>by simp at q⟩
    have g3:=gU.trans g2
    refine hy r F2 H2 fps fr g3.evo (S.grow g3) (kB.refl _) or nr fun _ b hb=>?_
    have hn:H b=none:=by
     rcases (kr b hb).2 with q | q
     ·simp at q
     ·exact g1.all.free q
    exact ⟨fun hz=>(S.zone b hz).2 hn,.inr hn⟩
   ·by_cases hsc:isScal y.1=true
    ·rw [hsc,Bool.or_true,if_pos rfl] at h
     have hy:qN K F H fps.flatten ρ σ Q (y.1,true,ρ):=h
     unfold isScal at hsc
     cases es:iB y.1 with
     | none=>rw [es] at hsc;cases hsc
     | some v =>
      obtain ⟨e1,e2⟩:=vO es or
      subst e1
      have gS:Grow F1 H1 F1 H2:=⟨Same.refl _,same,g1.inn.trans same,fun _ _ e=>.inl e⟩
      exact hy _ F1 H2 fps [] (g1.trans gS).evo (S.grow (g1.trans gS)) (kB.refl _) (gF es) List.nodup_nil fun _ b hb=>by cases hb
    ·have:(xs.all aN || isScal y.1)=false:=by
      rw [Bool.eq_false_iff];intro z
      rcases Bool.or_eq_true _ _ ▸ z with z | z
      ·exact hk z
      ·exact hsc z
     rw [this] at h;exact h.elim
def xIf (c:bU) (f g:iW):iW:=fun ρ=>match c ρ with
 | .ok true=>f ρ | .ok false=>g ρ | _=>.bad
theorem aRe {c:bU} {f g:iW} {Q:VK} (h:tx K W (xIf c f g) σ H Q):tIf (tvT K c) (tx K W f) (tx K W g) σ H Q:=by
 obtain ⟨ρ,F,fps,S,h⟩:=h
 refine ⟨ρ,F,fps,S,?_⟩
 unfold xIf at h
 have lift:∀ {F1 H1:Hp} {x:R (D×Bool×Env)},Grow F H F1 H1->x.hx (qN K F H fps.flatten ρ σ Q) (fun c=>dI K F H fps.flatten ρ σ (W c) ρ)->x.hx (qN K F1 H1 fps.flatten ρ σ Q) (fun c=>dI K F1 H1 fps.flatten ρ σ (W c) ρ):=fun {F1 H1 x} g1 h =>
  R.aKj h (fun a ha v F' H' fps' fp ev S' p o n k=>ha v F' H' fps' fp (g1.evo.trans ev) S' p o n fun e b hb=>⟨(k e b hb).1,(k e b hb).2.imp_right g1.all.free⟩) fun c hc=>dI.lift g1.evo (fA.refl _ _) hc
 cases ec:c ρ with
 | exc _=>rw [ec] at h;exact h.elim
 | bad=>rw [ec] at h;exact h.elim
 | ok b =>
  rw [ec] at h
  intro F1 H1 g1
  cases b with
  | true=>rw [if_pos rfl];exact ⟨ρ,F1,fps,S.grow g1,lift g1 h⟩
  | false=>rw [if_neg Bool.false_ne_true];exact ⟨ρ,F1,fps,S.grow g1,lift g1 h⟩
end
end VL
end
section
namespace VL
open PySem L2
section
variable {K:FG} {W:XW} {F H F' H' F1 H1:Hp} {Z Z' Z1:Y2} {σ σ1:St} {ρ ρ1:Env} {D':Ends}
end
end VL
end
section
namespace VL
open PySem L2
section
variable {K:FG} {F H F' H' F1 H1:Hp} {σ:St} {Q:VK}
def aLs (K:FG):R2:=fun x y H Q=>∃l b xs zs,x=.ref l/\y=.ref b/\Rd H l (.lst xs)/\Rd H b (.lst zs)/\xs.length+zs.length<=sizeLine/\∀p,H p=none->Q (.ref p) (upd H p (.lst (xs++zs)))
def aMw:D×Bool->D×Bool->R (D×Bool):=fun x y=>match x.1,y.1 with
 | .lst _ ds,.lst _ es=>if D.aZ ds && D.aZ es && decide (ds.length+es.length<=1000000) then .ok (.lst true (ds++es),true) else .bad
 | _,_=>.bad
theorem EPost.yS {F0 H0:Hp} {ds:List D} {xs:List V} {p:Addr} (g:Grow F0 H0 F H) (h:EPost K F0 H0 Q (.lst true ds,true)) (hp:H p=none) (o:aF K F H ds xs []):Q (.ref p) (upd H p (.lst xs)) :=
 h (.ref p) F _ [p] (g.trans (Grow.one g.inn hp)) (aCe g.inn hp o) (by simp) fun _ b hb=>by
  have:b=p:=by simpa using hb
  subst this;exact g.all.free hp
theorem EPost.aR6 {F0 H0:Hp} {ds:List D} {xs:List V} {p:Addr} {b:Bool} (g:Grow F0 H0 F H) (h:EPost K F0 H0 Q (.tup ds,b)) (hp:H p=none) (o:aF K F H ds xs []):Q (.ref p) (upd H p (.tup xs)):=by
 have g2:Grow F H (upd F p (.tup xs)) (upd H p (.tup xs)):=Grow.both g.inn hp
 refine h (.ref p) _ _ [] (g.trans g2) ?_ List.nodup_nil fun _ b hb=>by cases hb
 unfold Own
 exact ⟨rfl,p,xs,rfl,SqT.of bR,o.grow g2⟩
theorem aJ3:Op2 K aMw (aLs K):=by
 intro F0 H0 F H x y v u fx fy Q gr o1 n1 k1 o2 n2 k2 h
 obtain ⟨x,bx⟩:=x
 obtain ⟨y,by'⟩:=y
 cases x<;>try exact h.elim
 cases y<;>try exact h.elim
 rename_i o ds o' es
 have h:(if (D.aZ ds && D.aZ es && decide (ds.length+es.length<=1000000))=true then R.ok (D.lst true (ds++es),true) else R.bad).holds (EPost K F0 H0 Q):=h
 by_cases hc:(D.aZ ds && D.aZ es && decide (ds.length+es.length<=1000000))=true
 ·rw [if_pos hc] at h
  simp only [Bool.and_eq_true,decide_eq_true_iff] at hc
  obtain ⟨a,xs,fq,e1,q1,r1,_⟩:=Own.aKl gr.inn o1
  obtain ⟨b,zs,fr,e2,q2,r2,_⟩:=Own.aKl gr.inn o2
  have:=aF.dA ds hc.1.1 r1
  subst this
  have:=aF.dA es hc.1.2 r2
  subst this
  refine ⟨a,b,xs,zs,e1,e2,q1,q2,?_,fun p hp=>EPost.yS gr h hp (aF.append ds r1 r2)⟩
  rw [<- aF.length ds r1,<- aF.length es r2];exact gT hc.2
 ·rw [if_neg hc] at h;exact h.elim
def aHi:D×Bool->D×Bool->R (D×Bool):=fun x y=>match x.1,y.1 with
 | .tup (d::ds),.tup es=>if decide (ds.length+1+es.length<=1000000) then .ok (.tup (d::ds++es),true) else .bad
 | _,_=>.bad
theorem aE8:Op2 K aHi (aLq K):=by
 intro F0 H0 F H x y v u fx fy Q gr o1 n1 k1 o2 n2 k2 h
 obtain ⟨x,bx⟩:=x
 obtain ⟨y,by'⟩:=y
 cases x<;>try exact h.elim
 rename_i ds
 cases ds with
 | nil=>exact h.elim
 | cons d ds =>
  cases y<;>try exact h.elim
  rename_i es
  have h:(if decide (ds.length+1+es.length<=1000000)=true then R.ok (D.tup (d::ds++es),true) else R.bad).holds (EPost K F0 H0 Q):=h
  by_cases hc:decide (ds.length+1+es.length<=1000000)=true
  ·rw [if_pos hc] at h
   rw [decide_eq_true_iff] at hc
   obtain ⟨a,xs,e1,q1,r1,_⟩:=Own.tup gr.inn o1
   obtain ⟨b,zs,e2,q2,r2,_⟩:=Own.tup gr.inn o2
   have l1:=aF.length _ r1
   have l2:=aF.length _ r2
   refine ⟨a,b,xs,zs,e1,e2,q1,q2,fun z=>by rw [z] at l1;simp at l1,?_,fun z=>?_,fun _ p hp=>EPost.aR6 gr h hp (aF.append _ r1 r2)⟩
   ·rw [<- l1,<- l2];exact gT (by simpa using hc)
   ·have:es=[]:=by rw [z] at l2;exact List.length_eq_zero_iff.mp l2
    subst this
    have h:EPost K F0 H0 Q (D.tup (d::ds ++ []),true):=h
    rw [List.append_nil] at h
    refine e1 ▸ h v F H [] gr ?_ List.nodup_nil fun _ b hb=>by cases hb
    obtain ⟨_,_,_,_,_,ef⟩:=Own.tup gr.inn o1
    rw [ef] at o1;exact o1
  ·rw [if_neg hc] at h;exact h.elim
theorem aF.rep {ds:List D} {xs:List V} (o:aF K F H ds xs []):∀k:Nat,aF K F H (List.replicate k ds).flatten (List.replicate k xs).flatten []
 | 0=>aF.nil
 | k+1=>by
  rw [List.replicate_succ,List.replicate_succ,List.flatten_cons,List.flatten_cons]
  exact aF.append ds o (aF.rep o k)
def cutD (xs:List D) (lo hi:Option Int):List D:=(xs.drop (HT.sIx xs.length 0 lo)).take (HT.sIx xs.length xs.length hi - HT.sIx xs.length 0 lo)
abbrev yQ:=Env->R (Option Int)
def aPk (F H:Hp) (Q:Option Int->Hp->Prop) (x:Option Int):Prop:=∀F' H',Grow F H F' H'->Q x H'
def tvO (K:FG) (f:yQ):TO:=fun σ H Q=>∃ρ F fps,Sim K F H σ ρ fps/\(f ρ).holds (aPk F H Q)
def lR:yQ:=fun _=>.ok none
def tD (f:aL):yQ:=fun ρ=>(f ρ).bind fun x=>match x.1 with | .int i=>.ok (some i) | _=>.bad
theorem aFi {Q:Option Int->Hp->Prop} (h:tvO K lR σ H Q):aCc σ H Q:=by
 obtain ⟨ρ,F,fps,S,h⟩:=h
 exact h F H (Grow.refl S.same)
theorem aIx {f:aL} {Q:Option Int->Hp->Prop} (h:tvO K (tD f) σ H Q):aLo (tv K f) σ H Q:=by
 obtain ⟨ρ,F,fps,S,h⟩:=h
 refine ⟨ρ,F,fps,S,R.aI (R.aJ.mp h) fun x hx v F1 H1 fx g1 o1 n1 k1=>?_⟩
 obtain ⟨x,b⟩:=x
 cases x<;>try exact hx.elim
 rename_i i
 unfold Own at o1
 exact ⟨i,o1.1,hx F1 H1 g1⟩
def kSl (x:D×Bool) (lo hi:Option Int):R (D×Bool):=match x.1 with
 | .lst _ ds=>if D.aZ ds then .ok (.lst true (cutD ds lo hi),true) else .bad
 | _=>.bad
def vSl (f:aL) (lo hi:yQ):aL:=fun ρ=>(f ρ).bind fun x=>(lo ρ).bind fun l=>(hi ρ).bind fun u=>kSl x l u
theorem aF.cut {ds:List D} {xs:List V} (o:aF K F H ds xs []) (lo hi:Option Int):aF K F H (cutD ds lo hi) (aC9 xs lo hi) []:=by
 have hl:=aF.length ds o
 unfold cutD aC9
 rw [hl]
 refine aF.of_get _ (by simp [hl]) fun i d v e1 e2=>?_
 rw [List.getElem?_take] at e1 e2
 split at e1
 ·rename_i h
  rw [if_pos h] at e2
  rw [List.getElem?_drop] at e1 e2
  exact aF.aO9 o e1 e2
 ·cases e1
theorem aQq {f:aL} {lo hi:yQ} (h:tv K (vSl f lo hi) σ H Q):tSl (aQr K) (tv K f) (tvO K lo) (tvO K hi) σ H Q:=by
 obtain ⟨ρ,F,fps,S,h⟩:=h
 refine ⟨ρ,F,fps,S,R.aI (R.aJ.mp h) fun x hx v F1 H1 fx g1 o1 n1 k1=>?_⟩
 refine ⟨ρ,F1,fps,S.grow g1,R.aI (R.aJ.mp hx) fun l hl F2 H2 g2=>?_⟩
 refine ⟨ρ,F2,fps,(S.grow g1).grow g2,R.aI (R.aJ.mp hl) fun u hu F3 H3 g3=>?_⟩
 obtain ⟨x,b⟩:=x
 cases x<;>try exact hu.elim
 rename_i o ds
 have hu:(if D.aZ ds=true then R.ok (D.lst true (cutD ds l u),true) else R.bad).holds (EPost K F H Q):=hu
 by_cases hc:D.aZ ds=true
 ·rw [if_pos hc] at hu
  have g:=(g1.trans g2).trans g3
  obtain ⟨a,xs,fq,e1,q1,r1,_⟩:=Own.lst g.inn (o1.grow (g2.trans g3))
  have:=aF.dA ds hc r1
  subst this
  exact ⟨a,xs,e1,q1,fun p hp=>EPost.yS g hu hp (aF.cut r1 l u)⟩
 ·rw [if_neg hc] at hu;exact hu.elim
def fK:D->Bool
 | .non=>true | _=>false
def nT (neg:Bool):D×Bool->D×Bool->R (D×Bool):=fun x y=>match y.1 with
 | .non=>.ok (.bl (if neg then !fK x.1 else fK x.1),true) | _=>.bad
theorem yO {d:D} {v:V} {fp:Y2} (o:Own K F H d v fp):decide (v=.non)=fK d:=by
 cases d<;>unfold Own at o
 ·rw [o.1];rfl
 ·rw [o.1];rfl
 ·rw [o.1];rfl
 ·rw [o.1];rfl
 ·obtain ⟨_,a,xs,e,_⟩:=o;rw [e];rfl
 ·obtain ⟨a,xs,fq,e,_⟩:=o;rw [e];rfl
 ·obtain ⟨a,u,e,_⟩:=o;rw [e];rfl
theorem aJ6:Op2 K (nT false) (fun x y H Q=>y=.non/\Q (.bl (decide (x=.non))) H):=by
 intro F0 H0 F H x y v u fx fy Q gr o1 n1 k1 o2 n2 k2 h
 obtain ⟨y,by'⟩:=y
 cases y<;>try exact h.elim
 unfold Own at o2
 rw [yO o1]
 exact ⟨o2.1,EPost.dE gr h rfl⟩
theorem xY:Op2 K (nT true) (fun x y H Q=>y=.non/\Q (.bl (!decide (x=.non))) H):=by
 intro F0 H0 F H x y v u fx fy Q gr o1 n1 k1 o2 n2 k2 h
 obtain ⟨y,by'⟩:=y
 cases y<;>try exact h.elim
 unfold Own at o2
 rw [yO o1]
 exact ⟨o2.1,EPost.dE gr h rfl⟩
def fG:List (D×Bool)->R (D×Bool)
 | [(.lst _ ds,_)]=>.ok (.int ds.length,true) | [(.tup ds,_)]=>.ok (.int ds.length,true) | _=>.bad
theorem aHz:OpA K fG (fun xs H Q=>∃p ys,xs=[.ref p]/\(SqL K H p ys\/SqT K H p ys)/\Q (.int ys.length) H):=by
 intro F0 H0 F H xs vs fa Q gr a n k h
 match xs,h,a with
 | [(.lst o ds,b)],h,a =>
  unfold Args at a
  obtain ⟨v,r,fp,f2,e,o1,n1,t,w⟩:=a
  unfold Args at t
  obtain ⟨p,ys,fq,e1,q1,r1,_⟩:=Own.lst gr.inn o1
  refine ⟨p,ys,by rw [e,t.1,e1],.inl q1,?_⟩
  rw [<- aF.length ds r1];exact EPost.dE gr h rfl
 | [(.tup ds,b)],h,a =>
  unfold Args at a
  obtain ⟨v,r,fp,f2,e,o1,n1,t,w⟩:=a
  unfold Args at t
  obtain ⟨p,ys,e1,q1,r1,_⟩:=Own.tup gr.inn o1
  refine ⟨p,ys,by rw [e,t.1,e1],.inr q1,?_⟩
  rw [<- aF.length ds r1];exact EPost.dE gr h rfl
def kM:List (D×Bool)->R (D×Bool)
 | [(.lst _ ds,_)]=>if D.aZ ds then .ok (.lst true ds,true) else .bad | [(.tup ds,_)]=>.ok (.lst true ds,true) | _=>.bad
theorem aGn:OpA K kM (fun xs H Q=>∃p ys,xs=[.ref p]/\(SqL K H p ys\/SqT K H p ys)/\∀l,H l=none->Q (.ref l) (upd H l (.lst ys))):=by
 intro F0 H0 F H xs vs fa Q gr a n k h
 match xs,h,a with
 | [(.lst o ds,b)],h,a =>
  unfold Args at a
  obtain ⟨v,r,fp,f2,e,o1,n1,t,w⟩:=a
  unfold Args at t
  obtain ⟨p,ys,fq,e1,q1,r1,_⟩:=Own.lst gr.inn o1
  have h:(if D.aZ ds=true then R.ok (D.lst true ds,true) else R.bad).holds (EPost K F0 H0 Q):=h
  by_cases hc:D.aZ ds=true
  ·rw [if_pos hc] at h
   have:=aF.dA ds hc r1
   subst this
   exact ⟨p,ys,by rw [e,t.1,e1],.inl q1,fun l hl=>EPost.yS gr h hl r1⟩
  ·rw [if_neg hc] at h;exact h.elim
 | [(.tup ds,b)],h,a =>
  unfold Args at a
  obtain ⟨v,r,fp,f2,e,o1,n1,t,w⟩:=a
  unfold Args at t
  obtain ⟨p,ys,e1,q1,r1,_⟩:=Own.tup gr.inn o1
  exact ⟨p,ys,by rw [e,t.1,e1],.inr q1,fun l hl=>EPost.yS gr h hl r1⟩
def uF:List (D×Bool)->R (D×Bool)
 | [(.lst _ ds,_)]=>if D.aZ ds then .ok (.tup ds,true) else .bad | [(.tup ds,_)]=>.ok (.tup ds,true) | _=>.bad
theorem aDp:OpA K uF (fun xs H Q=>∃p ys,xs=[.ref p]/\((SqL K H p ys/\∀l,H l=none->Q (.ref l) (upd H l (.tup ys)))\/(SqT K H p ys/\Q (.ref p) H))):=by
 intro F0 H0 F H xs vs fa Q gr a n k h
 match xs,h,a with
 | [(.lst o ds,b)],h,a =>
  unfold Args at a
  obtain ⟨v,r,fp,f2,e,o1,n1,t,w⟩:=a
  unfold Args at t
  obtain ⟨p,ys,fq,e1,q1,r1,_⟩:=Own.lst gr.inn o1
  have h:(if D.aZ ds=true then R.ok (D.tup ds,true) else R.bad).holds (EPost K F0 H0 Q):=h
  by_cases hc:D.aZ ds=true
  ·rw [if_pos hc] at h
   have:=aF.dA ds hc r1
   subst this
   exact ⟨p,ys,by rw [e,t.1,e1],.inl ⟨q1,fun l hl=>EPost.aR6 gr h hl r1⟩⟩
  ·rw [if_neg hc] at h;exact h.elim
 | [(.tup ds,b)],h,a =>
  unfold Args at a
  obtain ⟨v,r,fp,f2,e,o1,n1,t,w⟩:=a
  unfold Args at t
  obtain ⟨p,ys,e1,q1,r1,ef⟩:=Own.tup gr.inn o1
  subst ef
  refine ⟨p,ys,by rw [e,t.1,e1],.inr ⟨q1,?_⟩⟩
  rw [<- e1]
  exact h v F H [] gr o1 List.nodup_nil fun _ b hb=>by cases hb
def dB:D->Bool
 | .non=>false | .bl b=>b | .int i=>i != 0 | .str _=>false | .tup ds=>!ds.isEmpty | .lst _ ds=>!ds.isEmpty | .ext _ _=>false
def bM:D->Bool
 | .str _=>false | .ext _ _=>false | _=>true
def jE (f:aL):bU:=fun ρ=>(f ρ).bind fun x=>if bM x.1 then .ok (dB x.1) else .bad
theorem aF.empty {ds:List D} {xs:List V} {fp:Y2} (o:aF K F H ds xs fp):ds.isEmpty=xs.isEmpty:=by
 have:=aF.length ds o
 cases ds<;>cases xs<;>simp at this ⊢
theorem aHo {f:aL} {Q:Bool->Hp->Prop} (h:tvT K (jE f) σ H Q):tv K f σ H fun x H'=>∃k,aN1 K x H' k/\Q k H':=by
 obtain ⟨ρ,F,fps,S,h⟩:=h
 refine ⟨ρ,F,fps,S,R.aI (R.aJ.mp h) fun x hx v F1 H1 fx g1 o1 n1 k1=>?_⟩
 obtain ⟨x,b⟩:=x
 cases x with
 | str z=>exact hx.elim
 | ext _ _=>exact hx.elim
 | non=>unfold Own at o1;rw [o1.1];exact ⟨false,rfl,hx F1 H1 g1⟩
 | bl b=>unfold Own at o1;rw [o1.1];exact ⟨b,rfl,hx F1 H1 g1⟩
 | int i=>unfold Own at o1;rw [o1.1];exact ⟨_,rfl,hx F1 H1 g1⟩
 | tup ds =>
  obtain ⟨a,xs,e1,q1,r1,_⟩:=Own.tup g1.inn o1
  rw [e1]
  exact ⟨!ds.isEmpty,.inr (.inl ⟨xs,q1,by rw [aF.empty r1]⟩),hx F1 H1 g1⟩
 | lst o ds =>
  obtain ⟨a,xs,fq,e1,q1,r1,_⟩:=Own.lst g1.inn o1
  rw [e1]
  exact ⟨!ds.isEmpty,.inl ⟨xs,q1,by rw [aF.empty r1]⟩,hx F1 H1 g1⟩
def jO (p q:Int->Int->Bool) (f g h:aL):aL:=fun ρ=>(f ρ).bind fun x=>(g ρ).bind fun y=>match x.1,y.1 with
 | .int i,.int j=>if p i j then (h ρ).bind fun z=>(match z.1 with | .int k=>.ok (.bl (q j k),true) | _=>.bad) else .ok (.bl false,true)
 | _,_=>.bad
theorem xK {p q:Int->Int->Bool} {f g h:aL} (hh:tv K (jO p q f g h) σ H Q):zX (rI0 fun i j=>.bl (p i j)) (rI0 fun i j=>.bl (q i j)) (tv K f) (tv K g) (tv K h) σ H Q:=by
 obtain ⟨ρ,F,fps,S,hh⟩:=hh
 refine ⟨ρ,F,fps,S,R.aI (R.aJ.mp hh) fun x hx v F1 H1 fx g1 o1 n1 k1=>?_⟩
 refine ⟨ρ,F1,fps,S.grow g1,R.aI (R.aJ.mp hx) fun y hy u F2 H2 fy g2 o2 n2 k2=>?_⟩
 obtain ⟨x,bx⟩:=x
 obtain ⟨y,by'⟩:=y
 cases x<;>try exact hy.elim
 cases y<;>try exact hy.elim
 rename_i i j
 unfold Own at o1 o2
 refine ⟨i,j,o1.1,o2.1,p i j,rfl,?_⟩
 have hy:(if p i j=true then (h ρ).bind fun z=>(match z.1 with | .int k=>R.ok (D.bl (q j k),true) | _=>.bad) else .ok (.bl false,true)).holds (EPost K F H Q):=hy
 by_cases hc:p i j=true
 ·rw [if_pos hc] at hy ⊢
  refine ⟨ρ,F2,fps,(S.grow g1).grow g2,R.aI (R.aJ.mp hy) fun z hz w F3 H3 fz g3 o3 n3 k3=>?_⟩
  obtain ⟨z,bz⟩:=z
  cases z<;>try exact hz.elim
  rename_i k
  unfold Own at o3
  exact ⟨j,k,o2.1,o3.1,EPost.dE ((g1.trans g2).trans g3) hz rfl⟩
 ·rw [if_neg hc] at hy ⊢
  exact EPost.dE (g1.trans g2) hy rfl
end
end VL
end
section
namespace VL
open PySem PySem.Spec PyProof.Rows L2
def CX1 (P:Program) (w:World):CXT:=fun outer H s E v s'=>∃e C H' B a0,v=.ref e/\s'.os=s.os/\AllBare s'.gens/\Un (frs outer) [] H H' s.heap s'.heap/\HOk P w H' s'.heap/\Heap.FlyingW B outer e (.ref C) a0 s'.heap /\
 (∀b o,s.heap.get? b=some o->b ∉ frs outer->∃o',B.get? b=some o')/\(∀b u,H' b=some u->∃o',B.get? b=some o')/\E (.ref C) none H'
section
variable {P:Program} {w:World} {H H':Hp} {h h0 h1 h2 B:Heap} {fs:Y2}
theorem dC.there {a:Addr} {o:HO} (x:dC P w H h a o):∃ob,h.get? a=some ob:=by
 cases o with
 | lst xs=>obtain ⟨_,_,_,_,e⟩:=x;exact ⟨_,e⟩
 | tup xs=>obtain ⟨_,_,_,o,e,_⟩:=x;exact ⟨_,e⟩
 | dK kvs=>obtain ⟨_,_,_,_,o,_,_,e,_⟩:=x;exact ⟨_,e⟩
 | dT kvs=>obtain ⟨_,_,_,_,o,_,_,e,_⟩:=x;exact ⟨_,e⟩
 | set S n=>obtain ⟨o,_,_,_,e,_⟩:=x;exact ⟨_,e⟩
 | ins C dx fs=>obtain ⟨_,_,_,e,_⟩:=x;exact ⟨_,e⟩
 | own y=>obtain ⟨_,e⟩:=x;exact ⟨_,e⟩
 | xd fs=>obtain ⟨_,⟨_,_,_,e,_⟩,_⟩:=x;exact ⟨_,e⟩
 | rng lo hi=>obtain ⟨_,_,_,e⟩:=x;exact ⟨_,e⟩
 | frz ob u=>obtain ⟨e,_⟩:=x;exact ⟨_,e⟩
 | tbl ps=>exact ⟨_,(show h.get? a=some _ from x)⟩
 | met f y=>exact ⟨_,(show h.get? a=some _ from x)⟩
 | ext φ=>obtain ⟨_,⟨_,e⟩,_⟩:=x;exact ⟨_,e⟩
theorem zN (U:Un fs [] H H' h0 h1) (hok:HOk P w H' h1) (hS:B.StaysIn h1) (hT:B.StaysIn h2) (hin:∀b o,h0.get? b=some o->b ∉ fs->∃o',B.get? b=some o') (trk:∀b u,H' b=some u->∃o',B.get? b=some o')
  (up:h1.UpToSlots h2) (fr:∀b o,h0.get? b=some o->b∈fs->H b=none/\∀vs,o.data ≠ .fields vs):Un fs [] H H' h0 h2/\HOk P w H' h2:=by
 have inn:∀b o,(∃o',B.get? b=some o')->h1.get? b=some o->h2.get? b=some o:=fun b o ⟨o',q⟩ e=>by
  have z:=hS b o' q
  rw [e] at z;cases z
  exact hT b _ q
 have sl:∀b o,h0.get? b=some o->H b=none->b∈fs->∃sl,h2.get? b=some { o with slots:=sl }:=fun b o e n hb=>by
  obtain ⟨sl,q⟩:=U.slot b o e n hb (by simp)
  obtain ⟨sl',q'⟩:=up b _ q (fr b o e hb).2
  exact ⟨sl',q'⟩
 refine ⟨⟨fun b o e n hb hx=>inn b o (hin b o e hb) (U.keep b o e n hb hx),fun b o e n hb _=>sl b o e n hb,U.free,fun b o e hx=>?_,U.tups,U.frzs,U.tbls⟩,fun a o e=>?_⟩
 ·by_cases hb:b∈fs
  ·obtain ⟨s',q⟩:=sl b o e (fr b o e hb).1 hb
   exact ⟨_,q⟩
  ·obtain ⟨o',q⟩:=hin b o e hb
   exact ⟨o',hT b o' q⟩
 ·refine (hok a o e).stay (fun b u hb q=>inn b u ?_ q) (fun _ q=>q) fun _ _ q=>q
  rcases hb with rfl | hb
  ·exact trk _ _ e
  ·exact trk _ _ hb
end
section
variable {X:Cx} {pins:Y8} {σ:L2.St} {H H':Hp} {s s':Shared} {W:XW}
theorem aOn (I:L2.Inv X pins σ H s):∀b o,s.heap.get? b=some o->b∈frs X.stack->H b=none/\∀vs,o.data ≠ .fields vs:=fun b o e hb=>by
 obtain ⟨_,o',e',d⟩:=I.stack.mem hb
 rw [e] at e';cases e'
 exact ⟨I.pX b hb,d⟩
theorem aLc (I:L2.Inv X pins σ H s):∀b o,X.s₀.heap.get? b=some o->b∈X.fs->X.H₀ b=none/\∀vs,o.data ≠ .fields vs:=fun b o e hb=>by
 obtain ⟨_,o',e',d⟩:=I.ok.funs.mem hb
 rw [e] at e';cases e'
 exact ⟨I.ok.frf b hb,d⟩
theorem aK6 (I:L2.Inv X pins σ H s) {b:Addr} {o:Obj} (e:X.s₀.heap.get? b=some o) (hb:b ∉ X.fs):b ∉ frs X.stack:=fun z=>by
 rcases List.mem_cons.mp (I.vU b z) with z | z
 ·exact absurd (Nat.lt_of_lt_of_le (Heap.lt_size e) I.ok.above) (by rw [z];exact Nat.lt_irrefl _)
 ·exact hb z
structure Lk (X:Cx) (W:XW):Prop where
 call:∀(pins:Y8) (σ:L2.St) (H:Hp) (s:Shared) (v:Value) (s':Shared),L2.Inv X pins σ H s->CX1 X.prog X.w X.stack H s (wE X.K W σ) v s'->X.xe v s'
 own:PassesOwn (model X.prog X.w) X.A X.env X.xe
structure LkF (X:Cx) (W:XW):Prop where
 fresh:∀(pins:Y8) (σ:L2.St) (H:Hp) (s:Shared) (h':Heap) (e C:Addr) (c:Str) (args:Y1),L2.Inv X pins σ H s->dZ X.K c C->Heap.MadeExcOf s.heap h' e (.ref C) args->W c σ H->X.xe (.ref e) { s with heap:=h' }
end
section
variable {P:Program} {w:World} {K:FG} {mg:Y6} {base:Heap} {N:List Str} {qual:Str} {scope:Scope} {f:Addr} {cd:Value} {A:Around} {outer:List PySem.Env} {s0:Shared} {H0:Hp} {E:XK}
theorem jU:LkF (lO (CX1 P w) P w K mg base N qual scope f cd A outer s0 H0 E) (wOf K E):=by
 refine ⟨fun pins σ H s h' e C c args I hC hx hW=>?_⟩
 have hin:∀env∈(lO (CX1 P w) P w K mg base N qual scope f cd A outer s0 H0 E).stack,∀b,env.frame=some b->b∈frs (lO (CX1 P w) P w K mg base N qual scope f cd A outer s0 H0 E).stack:=fun env he b hb=>List.mem_filterMap.mpr ⟨env,he,hb⟩
 show wpAny _ _ (leaving _ (.ref e)) _ _ _
 refine wpAny_leaves_madeW (base:=PySem.W.hideAll s.heap (frs (lO (CX1 P w) P w K mg base N qual scope f cd A outer s0 H0 E).stack)) (h:=s.heap) (L:=s0.heap.objs.size) I.ok.frames rfl (fun b o q=>PySem.W.of_hideAll _ q) (PySem.W.funFrames_hide I.stack hin) hx fun h2 t x1 x2 x3 x4=>?_
 have up:s.heap.UpToSlots h2:=(Heap.UpToSlots.of_keeps hx.keeps).trans x4
 have hin2:∀b o,s0.heap.get? b=some o->b ∉ frs outer->∃o',(PySem.W.hideAll s.heap (frs (lO (CX1 P w) P w K mg base N qual scope f cd A outer s0 H0 E).stack)).get? b=some o':=fun b o q n=>by
  obtain ⟨o',e'⟩:=I.base.there b o q (by intro z;exact absurd (show b∈([]:Y2) from z) (by simp))
  exact ⟨o',PySem.W.hideAll_get _ e' (aK6 I q n)⟩
 have trk:∀b u,H b=some u->∃o',(PySem.W.hideAll s.heap (frs (lO (CX1 P w) P w K mg base N qual scope f cd A outer s0 H0 E).stack)).get? b=some o':=fun b u q=>by
  obtain ⟨ob,e'⟩:=dC.there (I.hok b u q)
  exact ⟨ob,PySem.W.hideAll_get _ e' fun z=>by rw [I.pX b z] at q;cases q⟩
 obtain ⟨u,ok⟩:=zN (fs:=frs outer) (H:=H0) (h0:=s0.heap) I.base I.hok (fun b o q=>PySem.W.of_hideAll _ q) x1.1 hin2 trk up (aLc I)
 exact ⟨e,C,H,_,_,rfl,I.os,I.bare,u,ok,x1,hin2,trk,hW C hC⟩
theorem fW:Lk (lO (CX1 P w) P w K mg base N qual scope f cd A outer s0 H0 E) (wOf K E):=by
 refine ⟨fun pins σ H s v s' I h=>?_,PassesOwn.leaving⟩
 obtain ⟨e,C,H',B,a0,rfl,os,bare,un,hok,fl,inB,trk,hE⟩:=h
 obtain ⟨c,C',eC,hC,hW⟩:=hE
 cases eC
 have I':L2.Inv (lO (CX1 P w) P w K mg base N qual scope f cd A outer s0 H0 E) pins σ H' s':=I.yX (ch:=[]) os un hok bare (fun b z=>absurd z (by simp))
 show wpAny _ _ (leaving _ (.ref e)) _ _ _
 refine wpAny_leaves_onW (L:=s0.heap.objs.size) I.ok.frames rfl fl fun h2 x1 x2=>?_
 have hin2:∀b o,s0.heap.get? b=some o->b ∉ frs outer->∃o',B.get? b=some o':=fun b o q n=>by
  obtain ⟨o',e'⟩:=I.base.there b o q (by intro z;exact absurd (show b∈([]:Y2) from z) (by simp))
  exact inB b o' e' (aK6 I q n)
 obtain ⟨u,ok⟩:=zN (fs:=frs outer) (H:=H0) (h0:=s0.heap) I'.base I'.hok fl.1 x1.1 hin2 trk x2 (aLc I)
 exact ⟨e,C,H',B,a0,rfl,I'.os,bare,u,ok,x1,hin2,trk,hW C hC⟩
end
end VL
end
section
namespace VL
open PySem PySem.Spec PyProof.Rows L2
abbrev SE (X:Cx) (e:Expr) (f:aL):Prop:=PE X e (tv X.K f)
abbrev ST (X:Cx) (e:Expr) (f:bU):Prop:=PT X e (tvT X.K f)
abbrev SW (X:Cx) (e:Expr) (f:bU):Prop:=PW X e (tvT X.K f)
abbrev SA (X:Cx) (es:List Expr) (f:cW):Prop:=PA X es (tvA X.K f)
abbrev SO (X:Cx) (e:Option Expr) (f:yQ):Prop:=PO X e (tvO X.K f)
abbrev SI (X:Cx) (tg it:Expr) (f:jF):Prop:=PI X tg it (iv X.K f)
abbrev SX (X:Cx) (W:XW) (e:Expr) (f:iW):Prop:=PE X e (tx X.K W f)
abbrev SS (X:Cx) (W:XW) (st:Stmt) (g:aQ):Prop:=PS X st (sv X.K W g)
abbrev SSs (X:Cx) (W:XW) (st:List Stmt) (g:aQ):Prop:=PSs X st (sv X.K W g)
section
variable {X:Cx} {W:XW} {e a b c:Expr} {es:List Expr} {st:Stmt} {sts:List Stmt} {pos:Pos}
theorem _root_.L2.PE.imp {t t':TE} (h:PE X e t) (k:∀σ H Q,t' σ H Q->t σ H Q):PE X e t':=fun pins s σ H Q I q=>h pins s σ H Q I (k σ H Q q)
theorem _root_.L2.PT.imp {t t':TT} (h:PT X e t) (k:∀σ H Q,t' σ H Q->t σ H Q):PT X e t':=fun pins s σ H Q I q=>h pins s σ H Q I (k σ H Q q)
theorem _root_.L2.PW.imp {t t':TT} (h:PW X e t) (k:∀σ H Q,t' σ H Q->t σ H Q):PW X e t':=fun w pins s σ H Q I q=>h w pins s σ H Q I (k σ H Q q)
theorem _root_.L2.PA.imp {t t':TA} (h:PA X es t) (k:∀σ H Q,t' σ H Q->t σ H Q):PA X es t':=fun p pins s σ H Q I q=>h p pins s σ H Q I (k σ H Q q)
theorem _root_.L2.PO.imp {o:Option Expr} {t t':TO} (h:PO X o t) (k:∀σ H Q,t' σ H Q->t σ H Q):PO X o t':=fun pins s σ H Q I q=>h pins s σ H Q I (k σ H Q q)
theorem _root_.L2.PI.imp {tg it:Expr} {t t':TI} (h:PI X tg it t) (k:∀σ H Q,t' σ H Q->t σ H Q):PI X tg it t':=fun pins s σ H Q I q=>h pins s σ H Q I (k σ H Q q)
theorem _root_.L2.PS.imp {t t':TS} (h:PS X st t) (k:∀D σ H,t' D σ H->t D σ H):PS X st t':=fun pins s σ H D I q=>h pins s σ H D I (k D σ H q)
theorem _root_.L2.PSs.imp {t t':TS} (h:PSs X sts t) (k:∀D σ H,t' D σ H->t D σ H):PSs X sts t':=fun pins s σ H D I q=>h pins s σ H D I (k D σ H q)
theorem aA (i:Nat) {x:Str} (hN:X.N[i]?=some x:=by rfl) (hv:Vis X.env.scope x:=by first | exact Or.inl rfl | exact Or.inr (Or.inl rfl) | exact Or.inr (Or.inr rfl)) (hd:(x == ("__debug__" : Str))=false:=by decide)
  (hcd:(x == ("__classdict__" : Str))=false:=by decide):SE X (.Name x pos) (aD i):=(rK hN hv hd hcd).imp fun _ _ _ h=>aL7 h
theorem aE {i j}:SE X (.Constant (.int i) j pos) (vC (.int i)):=aOe.imp fun _ _ _ h=>aF5 rfl h
theorem nQ {i j}:SE X (.Constant (.bool i) j pos) (vC (.bl i)):=aPj.imp fun _ _ _ h=>aF5 rfl h
theorem kP {j}:SE X (.Constant .none j pos) (vC .non):=aM5.imp fun _ _ _ h=>aF5 rfl h
theorem gG {i j}:SE X (.Constant (.str i) j pos) (vC (.str i)):=aFf.imp fun _ _ _ h=>aF5 rfl h
theorem aKb {x:Str} {i:Int} {t:Tok} (hm:X.mg x=some (.int i t)) (hg:Gl X x:=by rfl) (hd:(x == ("__debug__" : Str))=false:=by decide):SE X (.Name x pos) (vC (.int i)) :=
 (lL (v:=.int i) hg hm ⟨t,rfl⟩ hd).imp fun _ _ _ h=>aF5 rfl h
theorem vY {op:Operator} {k:D×Bool->D×Bool->R (D×Bool)} {r:R2} {f g:aL} (ho:OpR X (binaryOp op) r) (hk:Op2 X.K k r) (ha:SE X a f) (hb:SE X b g):SE X (.BinOp a op b pos) (v2 k f g) :=
 (aQk ho ha hb).imp fun _ _ _ h=>wJ hk h
abbrev aQz:=kI fun i j=>.int (i+j)
abbrev aAa:=kI fun i j=>.int (i - j)
abbrev eY:=kIc (fun _ j=>decide (0<j)) fun i j=>.int (i % j)
theorem oM {f g:aL} (ha:SE X a f) (hb:SE X b g):SE X (.BinOp a .Sub b pos) (v2 aAa f g):=vY aMn (wD fun _ _=>rfl) ha hb
theorem cE {f g:aL} (ha:SE X a f) (hb:SE X b g):SE X (.BinOp a .Mod b pos) (v2 eY f g):=vY aM0 (zG (fun _ _=>rfl) fun i j h=>by
 rw [decide_eq_true_iff] at h;exact h) ha hb
theorem aJc:OpR X (binaryOp .Add) (aLs X.K):=by
 intro pins s σ H x y v u Q I rx ry h
 obtain ⟨l,b,xs,zs,rfl,rfl,hH,hB,hz,q⟩:=h
 cases rx
 cases ry
 obtain ⟨z,its,n,r,e⟩:=hH.ok I.hok
 obtain ⟨z2,its2,n2,r2,e2⟩:=hB.ok I.hok
 have hl:=r.length
 have hl2:=r2.length
 refine PySem.P.add_list e e2 ?_ (by rw [List.size_toArray,List.size_toArray];omega)
 have ea:its.toArray++its2.toArray=(its++its2).toArray:=by simp
 rw [ea]
 exact ⟨.ref _,_,I.aO8 (t':=s.toks) (r.append r2) (by rw [List.length_append];omega),rfl,q _ I.fresh⟩
theorem jM {f:aL} (ha:SE X a f):SE X (.UnaryOp .USub a pos) (v1 (kU fun i=>.int (-i)) f):=(aQf aN2 ha).imp fun _ _ _ h=>aPl (aP0 fun _=>rfl) h
theorem aAs {op:CmpOp} {k:D×Bool->D×Bool->R (D×Bool)} {r:R2} {f g:aL} (ho:OpR X (compareOp op) r) (hk:Op2 X.K k r) (ha:SE X a f) (hb:SE X b g) (hm:behindInMarks op b=false):SE X (.Compare a [op] [b] pos) (v2 k f g) :=
 (aHy ho ha hb hm).imp fun _ _ _ h=>wJ hk h
theorem pZ {t t':TE} (k:∀σ H Q,t' σ H Q->t σ H Q) {σ:L2.St} {H:Hp} {Q:Bool->Hp->Prop} (h:xS t' σ H Q):xS t σ H Q:=k _ _ _ h
theorem jP {op:CmpOp} {k:D×Bool->D×Bool->R (D×Bool)} {r:R2} {f g:aL} (ho:OpR X (compareOp op) r) (hk:Op2 X.K k r) (ha:SE X a f) (hb:SE X b g) (hm:behindInMarks op b=false):ST X (.Compare a [op] [b] pos) (aU (v2 k f g)) :=
 (aHr ho ha hb hm).imp fun _ _ _ h=>pZ (fun _ _ _ q=>wJ hk q) (xO h)
abbrev kLt:=kI fun i j=>.bl (decide (i<j))
abbrev kGt:=kI fun i j=>.bl (decide (j<i))
abbrev kGe:=kI fun i j=>.bl (decide (j<=i))
theorem aQv {K:FG}:Op2 K kLt (rI0 fun i j=>.bl (decide (i<j))):=wD fun _ _=>rfl
theorem aPg {K:FG}:Op2 K kGt (rI0 fun i j=>.bl (decide (j<i))):=wD fun _ _=>rfl
theorem aQj {K:FG}:Op2 K kGe (rI0 fun i j=>.bl (decide (j<=i))):=wD fun _ _=>rfl
theorem aFa {op op':CmpOp} {p q:Int->Int->Bool} {f g h:aL} (ho:OpR X (compareOp op) (rI0 fun i j=>.bl (p i j))) (ho':OpR X (compareOp op') (rI0 fun i j=>.bl (q i j))) (ha:SE X a f) (hb:SE X b g) (hc:SE X c h)
  (hm:lastMarks [op,op'] [b,c]=false:=by with_unfolding_all rfl):SE X (.Compare a [op,op'] [b,c] pos) (jO p q f g h):=(aG2 ho ho' ha hb hc hm).imp fun _ _ _ h=>xK h
theorem rN {op op':CmpOp} {p q:Int->Int->Bool} {f g h:aL} (ho:OpR X (compareOp op) (rI0 fun i j=>.bl (p i j))) (ho':OpR X (compareOp op') (rI0 fun i j=>.bl (q i j))) (ha:SE X a f) (hb:SE X b g) (hc:SE X c h)
  (hm:lastMarks [op,op'] [b,c]=false:=by with_unfolding_all rfl):ST X (.Compare a [op,op'] [b,c] pos) (aU (jO p q f g h)):=(aEr ho ho' ha hb hc hm).imp fun _ _ _ h=>pZ (fun _ _ _ q=>xK q) (xO h)
theorem eP {f:aL} (ha:SE X a f) (he:∀whole,isTrue a X.env whole=(do let v <- whole;standAt a.pos;holding [v] (truthy v)):=by intro _;rfl):ST X a (jE f):=(aFe ha he).imp fun _ _ _ h=>aHo h
theorem vI {f:bU} (ha:ST X a f):SW X (.BoolOp .And [a] pos) f:=aHv ha
theorem iV {f:bU} (ha:ST X a f):SW X (.BoolOp .Or [a] pos) f:=aOd ha
theorem zZ {f g:bU} {rest:List Expr} (ha:ST X a f) (hb:SW X (.BoolOp .And (b::rest) pos) g):SW X (.BoolOp .And (a::b::rest) pos) (nV f g):=(aL9 ha hb).imp fun _ _ _ h=>aKg h
theorem iM {f g:bU} {rest:List Expr} (ha:ST X a f) (hb:SW X (.BoolOp .Or (b::rest) pos) g):SW X (.BoolOp .Or (a::b::rest) pos) (iS f g):=(aRo ha hb).imp fun _ _ _ h=>aOq h
theorem oK {f:bU} (h:SW X a f):ST X a f:=h.pt
theorem eL {f:bU} (ha:ST X a f):ST X (.UnaryOp .Not a pos) (eS f):=(aMx ha).imp fun _ _ _ h=>aH8 h
theorem uT {f g:aL} {rest:List Expr} (ha:SE X a f) (hb:SE X (.BoolOp .And (b::rest) pos) g):SE X (.BoolOp .And (a::b::rest) pos) (yF f g):=(aO2 ha hb).imp fun _ _ _ h=>aMu h
theorem aRy {f g:aL} {rest:List Expr} (ha:SE X a f) (hb:SE X (.BoolOp .Or (b::rest) pos) g):SE X (.BoolOp .Or (a::b::rest) pos) (vOr f g):=(aPp ha hb).imp fun _ _ _ h=>aRr h
theorem rC {op} {f:aL} (ha:SE X a f):SE X (.BoolOp op [a] pos) f:=aMb ha
theorem aNa {f:aL} (ha:SE X a f):SE X (.UnaryOp .Not a pos) (v1 aJn f):=(aNe ha).imp fun _ _ _ h=>aMk h
theorem aLb {t:bU} {f g:aL} (hc:ST X c t) (ha:SE X a f) (hb:SE X b g):SE X (.IfExp c a b pos) (vIf t f g):=(wN hc ha hb).imp fun _ _ _ h=>aRg h
theorem aH:SA X [] aK:=mS.imp fun _ _ _ h=>aKi h
theorem aB {f:aL} {g:cW} (ha:SE X e f) (hr:SA X es g) (hs:starEach (e::es) X.env=(false,eval e X.env)::starEach es X.env:=by rfl):SA X (e::es) (aC f g):=(gN ha hr hs).imp fun _ _ _ h=>aHa h
theorem cF {g:cW} (h:SA X es g):SE X (.List es pos) (dR g):=(aLx h).imp fun _ _ _ h=>aOj h
theorem jX {g:cW} {k} (h:SA X es g):SE X (.Tuple es k pos) (nR g):=(aNl h).imp fun _ _ _ h=>aN6 h
theorem aV {f g:aL} (ha:SE X a f) (hb:SE X b g) (hs:vL b:=by intro _ _;rfl):SE X (.Subscript a b pos) (v2 kIx f g):=(aKq (aBk.or aNc) ha hb hs).imp fun _ _ _ h=>wJ aN7 h
theorem oB:SO X none lR:=(aH4).imp fun _ _ _ h=>aFi h
theorem qW {f:aL} (ha:SE X a f):SO X (some a) (tD f):=(aJa ha).imp fun _ _ _ h=>aIx h
theorem wQ {f:aL} {lo hi:Option Expr} {l h:yQ} {p2:Pos} (ha:SE X a f) (hl:SO X lo l) (hh:SO X hi h):SE X (.Subscript a (.Slice lo hi none p2) pos) (vSl f l h):=(aGw aJw ha hl hh).imp fun _ _ _ h=>aQq h
theorem xN {id:String} {x:Str} {p:Pos} {k:List (D×Bool)->R (D×Bool)} {r:List V->Hp->VK->Prop} {g:cW} (hc:jI X (.builtin id) r) (hk:OpA X.K k r) (hm:X.mg x=none) (hv:bootBuiltins x=some (.builtin id)) (ha:SA X (e::es) g) (hg:Gl X x:=by rfl)
  (hn:x ≠ "__name__" :=by decide) (hdb:(x == ("__debug__" : Str))=false:=by decide) (he:starEach (e::es) X.env=(false,eval e X.env)::starEach es X.env:=by rfl) (hpl:(backTo pos (starEach es X.env)).any (·.1)=false:=by rfl):SE X (.Call (.Name x p) (e::es) [] pos) (vCB k g) :=
 (sH hc hg hm hv ha hn hdb he hpl).imp fun _ _ _ h=>aBv hk h
theorem aD2 {T:String} {x:Str} {p:Pos} {k:List (D×Bool)->R (D×Bool)} {r:List V->Hp->VK->Prop} {g:cW} (hc:jI X (.type T) r) (hk:OpA X.K k r) (hm:X.mg x=none) (hv:bootBuiltins x=some (.type T)) (ha:SA X (e::es) g) (hg:Gl X x:=by rfl)
  (hn:x ≠ "__name__" :=by decide) (hdb:(x == ("__debug__" : Str))=false:=by decide) (he:starEach (e::es) X.env=(false,eval e X.env)::starEach es X.env:=by rfl) (hpl:(backTo pos (starEach es X.env)).any (·.1)=false:=by rfl):SE X (.Call (.Name x p) (e::es) [] pos) (vCB k g) :=
 (aDn hc hg hm hv ha hn hdb he hpl).imp fun _ _ _ h=>aBv hk h
structure Kn (P:Program) (w:World) (K:FG) (mg:Y6) (base:Heap) (k:Nat) (x:Str) (n:Nat) (fn:Fn):Prop where
 ex:∃(f:Addr) (fd:FuncData) (ps:List Str),FnOk P w K mg base (CX1 P w) k f fd ps (spV K n fn)/\mg x=some (.ref f)/\PySem.W.keepIn K (.ref f)=true/\Binds K fd ps []
def uV (n:Nat) (g:cW):Prop:=∀ρ xs,g ρ=.ok xs->xs.length=n
theorem aF3:uV 0 aK:=fun _ _ e=>by cases e;rfl
theorem kZ {n:Nat} {f:aL} {g:cW} (h:uV n g):uV (n+1) (aC f g):=fun ρ xs e=>by
 unfold aC at e
 cases ef:f ρ with
 | exc _=>rw [ef] at e;cases e
 | bad=>rw [ef] at e;cases e
 | ok x =>
  rw [ef] at e
  cases eg:g ρ with
  | exc _=>rw [eg] at e;cases e
  | bad=>rw [eg] at e;cases e
  | ok ys =>
   rw [eg] at e
   have e:R.ok (x::ys)=R.ok xs:=e
   cases e
   rw [List.length_cons,h ρ ys eg]
theorem bF {k n:Nat} {x:Str} {fn:Fn} {g:cW} {p:Pos} (F:Kn X.prog X.w X.K X.mg X.base k x n fn) (hr:Room k X.A) (ha:SA X (e::es) g) (hl:uV n g) (hg:Gl X x:=by rfl) (hdb:(x == ("__debug__" : Str))=false:=by decide)
  (he:starEach (e::es) X.env=(false,eval e X.env)::starEach es X.env:=by rfl) (hpl:(backTo pos (starEach es X.env)).any (·.1)=false:=by rfl):SE X (.Call (.Name x p) (e::es) [] pos) (bG fn g):=by
 obtain ⟨f,fd,ps,F,hm,hk,hb⟩:=F.ex
 exact (aHq F hr hg hm hk hb .nil (fun _ _ _ _ _ _ _ h=>by obtain ⟨_,_,_,_,_,_,_,_,_,_,_,_,_,z⟩:=h;exact z.elim) ha hdb he hpl).imp fun _ _ _ h=>aHu hl h
theorem aR {f:aL} (h:SE X e f):SX X W e (xOf f):=L2.PE.imp h fun _ _ _ h=>aLf h
theorem bO:SSs X W [] bN:=aJh.imp fun _ _ _ h=>aIb h
theorem aG {f g:aQ} {rest:List Stmt} (h1:SS X W st f) (h2:SSs X W rest g):SSs X W (st::rest) (aS f g):=(aD9 h1 h2).imp fun _ _ _ h=>aO3 h
theorem aM {f:aQ} (h1:SS X W st f):SSs X W [st] f:=aJ4 h1
theorem oI (is:T0) {f:aQ} (h:SS X W st f):SS X W st (pG is f):=L2.PS.imp h fun _ _ _ h=>aOv h
def aTz:aQ:=fun _=>.bad
theorem pP {g:iW} (h:SX X W e g) (hs:swapsWith e none pos.line X.env=pure false:=by rfl):SS X W (.Expr e pos) (kR g):=(vK h hs).imp fun _ _ _ h=>aHs h
theorem bQ {g:iW} (h:SX X W e g):SS X W (.Return (some e) pos) (dJ g):=(aF6 h).imp fun _ _ _ h=>aNv h
theorem lH (i:Nat) {x:Str} {p:Pos} (hN:X.N[i]?=some x:=by rfl) (hv:Vis X.env.scope x:=by first | exact Or.inl rfl | exact Or.inr (Or.inl rfl) | exact Or.inr (Or.inr rfl)) (hd:(x == ("__debug__" : Str))=false:=by decide)
  (hcd:(x == ("__classdict__" : Str))=false:=by decide):SS X W (.Return (some (.Name x p)) pos) (lT i):=(aF6 (rK hN hv hd hcd)).imp fun _ _ _ h=>aH9 h
theorem cD {t:bU} {f g:aQ} {xs ys:List Stmt} (hc:ST X c t) (ha:SSs X W xs f) (hb:SSs X W ys g):SS X W (.If c xs ys pos) (sIf t f g):=(aQe hc ha hb).imp fun _ _ _ h=>aR3 h
theorem aX (i:Nat) {x:Str} {g:iW} {pos':Pos} (nd:X.N.Nodup) (h:SX X W e g) (hi:X.N[i]?=some x:=by rfl) (hx:Loc X.env.scope x:=by first | exact Or.inl rfl | exact Or.inr rfl) (hs:swapsWith e (some (.Name x pos')) pos.line X.env=pure false:=by rfl)
  (hf:X.fn x=true\/X.env.scope.names.lookup x=some .local:=by first | exact .inl rfl | exact .inr rfl):SS X W (.Assign [.Name x pos'] e pos) (bC i g):=(aMh nd hi hx h hs hf).imp fun _ _ _ h=>aEv h
theorem dQ (i:Nat) {x:Str} (nd:X.N.Nodup) (hi:X.N[i]?=some x:=by rfl) (hx:Loc X.env.scope x:=by first | exact Or.inl rfl | exact Or.inr rfl) (hf:X.fn x=true\/X.env.scope.names.lookup x=some .local:=by first | exact .inl rfl | exact .inr rfl):PG X (.Name x pos) (oY i):=aIh nd hi hx hf
theorem eU {i:Nat} {is:T0} (h1:PG X e (oY i)) (h2:PGs X es (kQ is)) (hs:(assignEach (e::es) X.env).map (·.2)=assign e X.env::(assignEach es X.env).map (·.2):=by rfl):PGs X (e::es) (kQ (i::is)):=aGb h1 h2 hs
theorem rL:PGs X [] (kQ []):=aH2
theorem tI {is:T0} {g:iW} {k n:Nat} {tp:Pos} (hc:X.calm=true) (h:SX X W e g) (hg:PGs X es (kQ is)) (hn':is.length=n) (hn:(assignEach es X.env).length=n:=by rfl) (hst:(assignEach es X.env).findIdx? (·.1)=none:=by rfl)
  (hs:swapsWithSole [.Tuple es k tp] e pos.line X.env=pure false:=by rfl) (hw:swappedStores [.Tuple es k tp] e X.env=pure none:=by rfl) (h1:(assignEach [.Tuple es k tp] X.env).map (·.2)=[assign (.Tuple es k tp) X.env]:=by rfl) :
  SS X W (.Assign [.Tuple es k tp] e pos) (gO is g):=(aFg h (oW hc hg hn hst) hs hw h1).imp fun _ _ _ h=>aDi hn' h
theorem rM (i:Nat) {x:Str} {f g:aL} {p tp:Pos} (hi:SE X b g) (he:SE X e f) (hN:X.N[i]?=some x:=by rfl) (hv:Vis X.env.scope x:=by first | exact Or.inl rfl | exact Or.inr (Or.inl rfl) | exact Or.inr (Or.inr rfl)) (hd:(x == ("__debug__" : Str))=false:=by decide)
  (hcd:(x == ("__classdict__" : Str))=false:=by decide)
  (ha:∀v,assign (.Subscript (.Name x p) b tp) X.env v=(do
   let ov <- holding [v] (eval (.Name x p) X.env)
   let iv <- holding [v,ov] (eval b X.env)
   standAt tp
   holding [v,ov,iv] (setItem ov iv v)
   release [v,ov,iv] []):=by intro _;rfl)
  (hs:swapsWithSole [.Subscript (.Name x p) b tp] e pos.line X.env=pure false:=by rfl) (hw:swappedStores [.Subscript (.Name x p) b tp] e X.env=pure none:=by rfl) (h1:(assignEach [.Subscript (.Name x p) b tp] X.env).map (·.2)=[assign (.Subscript (.Name x p) b tp) X.env]:=by rfl) :
  SS X W (.Assign [.Subscript (.Name x p) b tp] e pos) (gA i g f):=(aFg he (aOz (rK hN hv hd hcd) hi set_list ha) hs hw h1).imp fun _ _ _ h=>zC h
theorem aMy (i:Nat) {x:Str} {f:aL} {op:Operator} {o:Int->Int->Int} {pos':Pos} (nd:X.N.Nodup) (ho:PIp X op (ipI o)) (he:SE X e f) (hi:X.N[i]?=some x:=by rfl) (hx:Loc X.env.scope x:=by first | exact Or.inl rfl | exact Or.inr rfl)
  (hf:X.fn x=true\/X.env.scope.names.lookup x=some .local:=by first | exact .inl rfl | exact .inr rfl):SS X W (.AugAssign (.Name x pos') op e pos) (aAu i o f):=(aO4 nd hi hx he ho hf).imp fun _ _ _ h=>aMv h
theorem wY (n:Nat) {t:bU} {f:aQ} {xs:List Stmt} (hp:PassesOwn (model X.prog X.w) X.A X.env X.xe) (hc:ST X c t) (hb:SSs X W xs f):SS X W (.While c xs [] pos) (dY t f n):=(aGr hp hc hb).imp fun _ _ _ h=>aFu h
theorem iT {tg it:Expr} {f:jF} {set:D->Env->Option Env} {g:TG} {b':aQ} {xs:List Stmt} (hp:PassesOwn (model X.prog X.w) X.A X.env X.xe) (hc:X.calm=true) (hi:SI X tg it f) (hg:PG X tg g) (ht:Tgt X.K set g) (hb:SSs X W xs b')
  (hs:∀x,foldedSetIterable it X.env x=pure x:=by intro _;rfl):SS X W (.For tg it xs [] pos) (jQ f set b'):=(aN3 hp hc hi hg hb hs).imp fun _ _ _ h=>aO1 ht h
theorem eX {tg:Expr} {g:cW} {p:Pos} (hm:X.mg "range" = none) (ha:SA X [a] g) (hg:Gl X "range" :=by rfl) (hs:starEach [a] X.env=[(false,eval a X.env)]:=by rfl):SI X tg (.Call (.Name "range" p) [a] [] pos) (iR1 g) :=
 (aCw hg hm ha hs).imp fun _ _ _ h=>aDd h
theorem aC3 {tg:Expr} {g:cW} {p:Pos} (hm:X.mg "range" = none) (ha:SA X [a,b] g) (hg:Gl X "range" :=by rfl) (hs:starEach [a,b] X.env=[(false,eval a X.env),(false,eval b X.env)]:=by rfl) (hs2:starEach [b] X.env=[(false,eval b X.env)]:=by rfl):SI X tg (.Call (.Name "range" p) [a,b] [] pos) (iR2 g) :=
 (aC6 hg hm ha hs hs2).imp fun _ _ _ h=>aDz h
end
end VL
end
section
namespace VL
open PySem PySem.Spec PyProof.Rows L2
def Ite (K:FG) (a:Addr):It :=
 ⟨fun i H=>∃xs x,SqL K H a xs/\xs[i]?=some x,fun i H x H'=>∃p y,H p=none/\x=.ref p/\(∀xs,SqL K H a xs->xs[i]?=some y)/\H'=upd H p (.tup [.int i,y]),fun i H=>∃xs,SqL K H a xs/\xs.length<=i⟩
section
variable {X:Cx} {pins:Y8} {σ:L2.St} {H:Hp} {s:Shared}
theorem aEu {e it:Addr} {h':Heap} {t':Nat} {xs:List V} {its:Y1} (I:L2.Inv X pins σ H s) (he:qY X pins H e) (hi:qY X pins H it) (k:∀b o,b ≠ e->b ≠ it->s.heap.get? b=some o->h'.get? b=some o)
  (he':∃o,h'.get? e=some o) (hi':∃o,h'.get? it=some o) (r:Vals xs its) (hz:xs.length<=sizeLine) (hp:IsTup h' s.heap.objs.size its.toArray):L2.Inv X pins σ (upd H s.heap.objs.size (.tup xs)) { s with heap:=h',toks:=t' }:=by
 have fr:=I.fresh
 have U:Un (frs X.stack) [e,it] H (upd H s.heap.objs.size (.tup xs)) s.heap h':=by
  refine ⟨fun b o q _ _ hx=>k b o (fun z=>hx (by simp [z])) (fun z=>hx (by simp [z])) q,fun b o q _ _ hx=>⟨o.slots,k b o (fun z=>hx (by simp [z])) (fun z=>hx (by simp [z])) q⟩,fun b o q n _=>by rw [aW (Nat.ne_of_lt (Heap.lt_size q))];exact n,
   fun b o q hx=>⟨o,k b o (fun z=>hx (by simp [z])) (fun z=>hx (by simp [z])) q⟩,fun b ys q=>by rw [aW (bJ q fr)];exact q,fun b o u q=>by rw [aW (bJ q fr)];exact q,fun b ps q=>⟨#[],by rw [aW (bJ q fr),q];simp⟩⟩
 refine I.yX (s':={ s with heap:=h',toks:=t' }) rfl U (fun b u q=>?_) I.bare fun b hb=>?_
 ·by_cases hb:b=s.heap.objs.size
  ·subst hb;rw [bR] at q;cases q
   exact ⟨hz,its,r,hp⟩
  ·rw [aW hb] at q
   refine (I.hok b u q).stay (fun c v hc q'=>k c v ?_ ?_ q') (fun c q'=>by rw [aW (bJ q' fr)];exact q') fun c ys q'=>by rw [aW (bJ q' fr)];exact q'
   ·rintro rfl
    rcases hc with rfl | hc
    ·rw [he.1] at q;cases q
    ·rw [he.1] at hc;cases hc
   ·rintro rfl
    rcases hc with rfl | hc
    ·rw [hi.1] at q;cases q
    ·rw [hi.1] at hc;cases hc
 ·have:b=e\/b=it:=by simpa using hb
  rcases this with rfl | rfl
  ·exact ⟨he.2.2.2.1,he.2.1,he.2.2.2.2.1,he.2.2.2.2.2⟩
  ·exact ⟨hi.2.2.2.1,hi.2.1,hi.2.2.2.2.1,hi.2.2.2.2.2⟩
theorem aCm {P:Program} {w:World} {K:FG} {elts:List Expr} {k:Nat} {tp:Pos} (a e it:Addr) (hei:e ≠ it):Turn P w K (.Tuple elts k tp) (Ite K a) [e,it] e (fun i h=>(∃old,IsEnum h e it i old)/\h.IsListIter it a i) where
 mem:=by simp
 obj:=fun i h st b hb=>by
  obtain ⟨⟨old,he⟩,o,ho,c,d⟩:=st
  have:b=e\/b=it:=by simpa using hb
  rcases this with rfl | rfl
  ·exact ⟨_,he,fun v z=>by
    have z':Data.fields _=Data.cell v:=z
    cases z'⟩
  ·exact ⟨o,ho,fun v z=>by rw [d] at z;cases z⟩
 keep:=fun i h h' st kk=>by
  obtain ⟨⟨old,he⟩,hit⟩:=st
  exact ⟨⟨old,kk e (by simp) _ he⟩,hit.at fun o x=>kk it (by simp) o x⟩
 item:=by
  intro X hP hw hK hc i pins s σ H E I hf st hg
  subst hP hw hK
  obtain ⟨xs,x,hq,hx⟩:=hg
  obtain ⟨its,rv,p,hz⟩:=I.list hq
  obtain ⟨u,hu,ru⟩:=rv.get hx
  obtain ⟨⟨old,he⟩,hit⟩:=st
  have fe:=hf e (by simp)
  have fi:=hf it (by simp)
  refine wpAny_pyNext_enum_item he hit p.isList (x:=u) (by simpa using hu) hei fun h' heo hit' ht hsz hk=>⟨_,rfl,?_⟩
  refine wpAny_letOwnedTupleGo_enum heo fun h2 he2 hs2=>?_
  have hs2:Heap.SameBut e h' h2:=hs2
  have hel:e<s.heap.objs.size:=Heap.lt_size he
  have hil:it<s.heap.objs.size:=by obtain ⟨o,ho,_⟩:=hit;exact Heap.lt_size ho
  have hit2:h2.IsListIter it a (i+1):=hit'.at fun o y=>(hs2.2 it hei.symm).trans y
  have I2:=aEu (h':=h2) (t':=s.toks+1) (xs:=[.int i,x]) (its:=[.int i s.toks,u]) I fe fi (fun b o n1 n2 q=>(hs2.2 b n1).trans (hk b o n1 n2 q)) ⟨_,he2⟩ (let ⟨o,ho,_⟩:=hit2;⟨o,ho⟩) (.cons ⟨_,rfl⟩ (.cons ru .nil)) (by show 2<=sizeLine;decide)
   ⟨_,(hs2.2 _ (Nat.ne_of_gt hel)).trans ht,rfl,_,rfl⟩
  refine ⟨.ref s.heap.objs.size,_,I2,rfl,⟨s.heap.objs.size,x,I.fresh,rfl,fun ys hy=>by rw [I.yU hy hq];exact hx,rfl⟩,⟨⟨u,by simpa using he2⟩,hit2⟩,fun b hb=>?_⟩
  have:b=e\/b=it:=by simpa using hb
  rcases this with rfl | rfl
  ·rw [aW (Nat.ne_of_lt hel)];exact fe.1
  ·rw [aW (Nat.ne_of_lt hil)];exact fi.1
 done:=by
  intro X hP hw hK hc i pins s σ H E I hf st hg
  subst hP hw hK
  obtain ⟨xs,hq,hx⟩:=hg
  obtain ⟨its,rv,p,hz⟩:=I.list hq
  obtain ⟨⟨old,he⟩,hit⟩:=st
  obtain ⟨f0,f1,f2,f3,f4,f5⟩:=hf it (by simp)
  have hl:=rv.length
  exact wpAny_pyNext_enum_end (I.ok.hd hc) he hit p.isList (by simp;omega) fun h' eb=>⟨rfl,I.turned (t':=s.toks) (fun b o hb e=>eb b o hb e) f0 f1 f3 f4 f5⟩
 self:=fun _ _ _ _ _ st h=>by
  obtain ⟨⟨old,he⟩,_⟩:=st
  exact wpAny_pyIter_enum he h
def aKz (K:FG) (ta:TA):TI:=fun σ H R=>ta σ H fun vs H1=>∃a xs,vs=[.ref a]/\Rd H1 a (.lst xs)/\R (Ite K a) H1
theorem aH0 {a:Expr} {ta:TA} {p pos tp:Pos} {elts:List Expr} {k:Nat} (hg:Gl X "enumerate") (hm:X.mg "enumerate" = none) (ha:PA X [a] ta) (hs:starEach [a] X.env=[(false,eval a X.env)]:=by rfl):PI X (.Tuple elts k tp) (.Call (.Name "enumerate" p) [a] [] pos) (aKz X.K ta):=by
 intro pins s σ H R I h
 refine Call_ (iR I hg hm boot_enumerate (PyProof.Rows.callWith_type1 (thn (ha pos pins s σ H _ I h) fun us s1 ⟨vs,H1,I1,r1,q1⟩=>?_) hs rfl))
 obtain ⟨l,xs,e,hr,q⟩:=q1
 subst e
 cases r1 with
 | cons r rr =>
  cases rr
  cases r
  obtain ⟨z,its,n,rv,e⟩:=hr.ok I1.hok
  refine call_enumerate_1 e fun h' he hit hsz hk=>?_
  refine wpAny_pyIter_enum he ?_
  have I2:L2.Inv X pins σ H1 { s1 with heap:=h' }:=I1.kept (t':=s1.toks) hk
  refine ⟨s1.heap.objs.size+1,[s1.heap.objs.size+1,s1.heap.objs.size],_,_,H1,rfl,I2,aCm l _ _ (Nat.succ_ne_self _),⟨⟨_,he⟩,hit⟩,fun b hb=>?_,q⟩
  have hb':b=s1.heap.objs.size+1\/b=s1.heap.objs.size:=by simpa using hb
  have hle:s1.heap.objs.size<=b:=by
   rcases hb' with rfl | rfl
   ·exact Nat.le_succ _
   ·exact Nat.le_refl _
  exact I1.aHl hle (I1.hok.fresh hle)
end
section
variable {K:FG} {F H:Hp} {σ:L2.St}
def lS (ds:List D):List D:=ds.zipIdx.map fun p=>.tup [.int (p.2:Nat),p.1]
end
end VL
end
section
namespace VL
open PySem PySem.Spec PyProof.Rows L2
section
variable {X:Cx} {pins:Y8} {σ:L2.St} {H:Hp} {s:Shared}
end
section
variable {K:FG} {F H:Hp} {σ:L2.St}
def uQ (x:D×Bool):R (List D):=match x.1 with
 | .lst _ ds=>if aN x then .ok (D.frzs ds) else .bad
 | _=>.bad
def zW (f:aL):jF:=fun ρ=>(f ρ).bind fun x=>(uQ x).bind fun ds=>.ok (lS ds)
def aPm (f:aL):jF:=fun ρ=>(f ρ).bind fun x=>uQ x
theorem icy {F0 H0:Hp} {x:D×Bool} {v:V} {fx:Y2} {ds:List D} (g:Grow F0 H0 F H) (o:Own K F H x.1 v fx) (k:x.2=true->∀b∈fx,H0 b=none) (e:uQ x=.ok ds) :
  ∃a xs F',v=.ref a/\Grow F0 H0 F' H/\Same F F'/\(∀b u,F' b=some u->F b=some u\/b∈fx)/\Rd F' a (.lst xs)/\aF K F' H ds xs []:=by
 unfold uQ at e
 split at e
 ·rename_i w es hx
  by_cases hk:aN x=true
  ·rw [if_pos hk] at e;cases e
   have kf:=nF hk o k
   have zo:∀b∈fx,F b=none:=fun b hb=>(Own.zone x.1 o b hb).1
   have of_:=Own.freeze (fp:=fx) zo x.1 (fun b hb=>hb) o
   rw [hx] at of_
   unfold D.frz Own at of_
   obtain ⟨a,xs,fq,ev,r,q⟩:=of_
   rcases q with ⟨q,_⟩ | ⟨_,q,q2,_⟩
   ·cases q
   ·subst q2
    refine ⟨a,xs,eZ F H fx,ev,g.frz kf zo,eW zo,fun b u q=>?_,q,r⟩
    unfold eZ at q
    split at q
    ·exact .inr (by assumption)
    ·exact .inl q
  ·rw [if_neg hk] at e;cases e
 ·cases e
theorem R.jK {α:Type} {x:R α} {P:α->Prop} (h:x.holds P):∃a,x=.ok a/\P a:=by
 cases x with
 | ok a=>exact ⟨a,rfl,h⟩
 | exc _=>exact h.elim
 | bad=>exact h.elim
theorem aDv {F:Hp} {ds:List D} {a:Addr} {xs:List V} (q:Rd F a (.lst xs)) (r:aF K F H ds xs []):uM K F ds (Itl K a):=by
 have q:SqL K F a xs:=.inl q
 refine ⟨fun i H' hs hl=>⟨xs,hs.seq q,by rw [<- aF.length ds r];exact hl⟩,fun i d hd F' H' s1 s2=>?_⟩
 obtain ⟨u,f,q1,q2,q3⟩:=aF.get ds r hd
 refine ⟨⟨xs,u,(s1.trans s2).seq q,q1⟩,fun y H2 hy=>?_⟩
 obtain ⟨e,hy⟩:=hy
 subst e
 have ey:=hy xs ((s1.trans s2).seq q)
 rw [q1] at ey;cases ey
 have:f=[]:=List.sublist_nil.mp q3
 subst this
 exact ⟨F',Grow.refl s2,Own.keep s1 d (fun a ha=>by cases ha) q2⟩
theorem aDm {F:Hp} {ds:List D} {a:Addr} {ys:List V} (q:Rd F a (.lst ys)) (rr:aF K F H ds ys []):uM K F (lS ds) (Ite K a):=by
 refine ⟨fun i H' hs hl=>?_,fun i d hd F' H' s1 s2=>?_⟩
 ·refine ⟨ys,.inl (Same.rd hs q),?_⟩
  rw [<- aF.length ds rr]
  unfold lS at hl
  simpa using hl
 ·unfold lS at hd
  rw [List.getElem?_map,List.getElem?_zipIdx] at hd
  cases ed:ds[i]? with
  | none=>rw [ed] at hd;cases hd
  | some d0 =>
   rw [ed] at hd
   have hd:D.tup [.int ((0+i:Nat):Int),d0]=d:=Option.some.inj hd
   subst hd
   obtain ⟨u,f,q1,q2,q3⟩:=aF.get ds rr ed
   have:f=[]:=List.sublist_nil.mp q3
   subst this
   refine ⟨⟨ys,u,.inl (Same.rd (s1.trans s2) q),q1⟩,fun x H2 hy=>?_⟩
   obtain ⟨p,y,hp,ex,hy,eH⟩:=hy
   subst ex;subst eH
   have ey:=hy ys (.inl (Same.rd (s1.trans s2) q))
   rw [q1] at ey;cases ey
   have g2:Grow F' H' (upd F' p (.tup [.int (i:Int),u])) (upd H' p (.tup [.int (i:Int),u])):=Grow.both s2 hp
   refine ⟨_,g2,?_⟩
   unfold Own
   refine ⟨rfl,p,[.int (i:Int),u],rfl,SqT.of bR,?_⟩
   have o1:Own K (upd F' p (.tup [.int (i:Int),u])) (upd H' p (.tup [.int (i:Int),u])) (.int ((0+i:Nat):Int)) (.int (i:Int)) []:=gF (by rw [Nat.zero_add];rfl)
   exact aF.cons o1 (aF.one ((Own.keep s1 d0 (fun a ha=>by cases ha) q2).grow g2))
theorem aMp {f:aL} {R':It->Hp->Prop} (h:iv K (zW f) σ H R'):aKz K (xH (tv K f) aD6) σ H R':=by
 obtain ⟨ρ,F,fps,S,h⟩:=h
 refine ⟨ρ,F,fps,S,R.aI (R.aJ.mp h) fun x hx v F1 H1 fx g1 o1 n1 k1=>?_⟩
 obtain ⟨ds,ed,hy⟩:=R.jK (R.aJ.mp hx)
 obtain ⟨a,xs,Fa,ea,ga,sa,na,ra,oa⟩:=icy g1 o1 k1 ed
 subst ea
 exact ⟨a,xs,rfl,Same.rd ga.inn ra,hy _ Fa H1 ga (aDm (H:=H1) ra oa)⟩
theorem aNs {f:aL} {R':It->Hp->Prop} (h:iv K (aPm f) σ H R'):aGd K (tv K f) σ H R':=by
 obtain ⟨ρ,F,fps,S,h⟩:=h
 refine ⟨ρ,F,fps,S,R.aI (R.aJ.mp h) fun x hx v F1 H1 fx g1 o1 n1 k1=>?_⟩
 obtain ⟨ds,ed,hy⟩:=R.jK hx
 obtain ⟨a,xs,Fa,ea,ga,sa,na,ra,oa⟩:=icy g1 o1 k1 ed
 subst ea
 exact ⟨a,rfl,⟨xs,.inl (Same.rd ga.inn ra)⟩,hy _ Fa H1 ga (aDv (H:=H1) ra oa)⟩
def aC8 (x:D×Bool):R (List D):=match x.1 with
 | .lst _ ds=>if aN x then .ok (D.frzs ds) else .bad
 | .tup ds=>.ok ds
 | _=>.bad
def kA (f:aL):jF:=fun ρ=>(f ρ).bind aC8
theorem aL4 {f:aL} {R':It->Hp->Prop} (h:iv K (kA f) σ H R'):aGd K (tv K f) σ H R'\/aM7 K (tv K f) σ H R':=by
 obtain ⟨ρ,F,fps,S,h⟩:=h
 unfold kA at h
 obtain ⟨x,ex,hx⟩:=R.jK (R.aJ.mp h)
 obtain ⟨ds,ed,hd⟩:=R.jK hx
 unfold aC8 at ed
 split at ed
 ·rename_i o es hx'
  refine .inl (aNs ⟨ρ,F,fps,S,?_⟩)
  unfold aPm
  rw [ex]
  show (uQ x).holds _
  unfold uQ
  rw [hx']
  dsimp only
  rw [ed];exact hd
 ·rename_i es hx'
  cases ed
  refine .inr (aN5 ⟨ρ,F,fps,S,?_⟩)
  unfold aK2
  rw [ex]
  show (match x.1 with | .tup ds=>R.ok ds | _=>.bad).holds _
  rw [hx'];exact hd
 ·cases ed
end
end VL
end
section
namespace VL
open PySem PySem.Spec PyProof.Rows L2
mutual
def D.py:D->PyData
 | .non=>.none | .bl b=>.bool b | .int i=>.int i | .str x=>.str x
 | .tup ds=>.tuple (D.pys ds)
 | .lst _ ds=>.list (D.pys ds)
 | .ext _ _=>.none
def D.pys:List D->List PyData
 | []=>[]
 | d::ds=>d.py::D.pys ds
end
mutual
def D.plain:D->Bool
 | .tup ds=>D.fQ ds
 | .lst _ ds=>D.fQ ds
 | .ext _ _=>false
 | _=>true
def D.fQ:List D->Bool
 | []=>true
 | d::ds=>d.plain && D.fQ ds
end
section
variable {X:Cx} {pins:Y8} {σ:L2.St} {F H:Hp} {s:Shared}
mutual
theorem cV (I:L2.Inv X pins σ H s) (hs:Same F H):∀(d:D) {v:V} {fp:Y2} {u:Value},d.plain=true->Own X.K F H d v fp->RelV v u->∃as,Reads s.heap u d.py as
 | .non,v,fp,u,_,o,r=>by unfold Own at o;rw [o.1] at r;cases r;exact ⟨_,.none⟩
 | .bl b,v,fp,u,_,o,r=>by unfold Own at o;rw [o.1] at r;cases r;exact ⟨_,.bool b⟩
 | .int i,v,fp,u,_,o,r=>by unfold Own at o;rw [o.1] at r;obtain ⟨t,rfl⟩:=r;exact ⟨_,.int i t⟩
 | .str x,v,fp,u,_,o,r=>by unfold Own at o;rw [o.1] at r;obtain ⟨t,rfl⟩:=r;exact ⟨_,.str x t⟩
 | .ext _ _,_,_,_,hp,_,_=>by simp [D.plain] at hp
 | .tup ds,v,fp,u,hp,o,r=>by
  unfold Own at o
  obtain ⟨_,a,xs,e,q,rr⟩:=o
  rw [e] at r;cases r
  obtain ⟨its,rv,⟨ob,h1,h2,n,h3⟩,_⟩:=I.tuple (Same.sO hs q)
  obtain ⟨as,h4⟩:=mJ I hs ds (by simpa [D.plain] using hp) rr rv
  exact ⟨_,.tuple h1 h2 h3 (by simpa using h4)⟩
 | .lst w ds,v,fp,u,hp,o,r=>by
  obtain ⟨a,xs,fq,e,q,rr,_⟩:=Own.lst hs o
  rw [e] at r;cases r
  obtain ⟨its,rv,⟨ob,n,h1,h2,_,h3⟩,_⟩:=I.list q
  obtain ⟨as,h4⟩:=mJ I hs ds (by simpa [D.plain] using hp) rr rv
  exact ⟨_,.list h1 h2 h3 (by simpa using h4)⟩
theorem mJ (I:L2.Inv X pins σ H s) (hs:Same F H):∀(ds:List D) {vs:List V} {fp:Y2} {us:Y1},D.fQ ds=true->aF X.K F H ds vs fp->Vals vs us->∃as,ReadsAll s.heap us (D.pys ds) as
 | [],vs,fp,us,_,o,r=>by unfold aF at o;rw [o.1] at r;cases r;exact ⟨_,.nil⟩
 | d::ds,vs,fp,us,hp,o,r=>by
  simp only [D.fQ,Bool.and_eq_true] at hp
  unfold aF at o
  obtain ⟨v,vr,f1,f2,e,o1,o2,_⟩:=o
  rw [e] at r
  cases r with
  | cons r1 r2 =>
   obtain ⟨a1,q1⟩:=cV I hs d hp.1 o1 r1
   obtain ⟨a2,q2⟩:=mJ I hs ds hp.2 o2 r2
   exact ⟨_,.cons q1 q2⟩
end
end
def eqD (x y:D):Bool:=PyData.eqv x.py y.py
def lP (x y:D):Bool:=x.plain && y.plain && (x.py.canLay0 && y.py.canLay0 && decide (min x.py.depth y.py.depth<=100))
def aL3 (K:FG) (neg:Bool):R2:=fun v u H Q=>∃F x y fx fy,Same F H/\Own K F H x v fx/\Own K F H y u fy/\lP x y=true/\Q (.bl (if neg then !eqD x y else eqD x y)) H
def kEq (neg:Bool):D×Bool->D×Bool->R (D×Bool):=fun x y=>if lP x.1 y.1 then .ok (.bl (if neg then !eqD x.1 y.1 else eqD x.1 y.1),true) else .bad
theorem aAj {K:FG} {neg:Bool}:Op2 K (kEq neg) (aL3 K neg):=by
 intro F0 H0 F H x y v u fx fy Q gr o1 n1 k1 o2 n2 k2 h
 unfold kEq at h
 by_cases hc:lP x.1 y.1=true
 ·rw [if_pos hc] at h
  exact ⟨F,x.1,y.1,fx,fy,gr.inn,o1,o2,hc,EPost.dE gr h rfl⟩
 ·rw [if_neg hc] at h;exact h.elim
def pE (x:D) (ds:List D):Bool:=x.plain && D.fQ ds && (x.py.canLay0 && PyData.canLayAll0 (D.pys ds) && decide (min (PyData.depthAll (D.pys ds)) x.py.depth<=100))
def inD (x:D) (ds:List D):Bool:=(D.pys ds).any fun y=>PyData.eqv y x.py
def aMm (K:FG) (neg:Bool):R2:=fun v u H Q=>∃F x ds fx fy,Same F H/\Own K F H x v fx/\((∃o,Own K F H (.lst o ds) u fy)\/Own K F H (.tup ds) u fy)/\pE x ds=true/\Q (.bl (if neg then !inD x ds else inD x ds)) H
def kIn (neg:Bool):D×Bool->D×Bool->R (D×Bool):=fun x y=>match y.1 with
 | .lst _ ds=>if pE x.1 ds then .ok (.bl (if neg then !inD x.1 ds else inD x.1 ds),true) else .bad
 | .tup ds=>if pE x.1 ds then .ok (.bl (if neg then !inD x.1 ds else inD x.1 ds),true) else .bad
 | _=>.bad
theorem aG8 {K:FG} {neg:Bool}:Op2 K (kIn neg) (aMm K neg):=by
 intro F0 H0 F H x y v u fx fy Q gr o1 n1 k1 o2 n2 k2 h
 obtain ⟨y,b⟩:=y
 cases y<;>try exact h.elim
 ·rename_i ds
  have h:(if pE x.1 ds=true then R.ok (D.bl (if neg then !inD x.1 ds else inD x.1 ds),true) else .bad).holds (EPost K F0 H0 Q):=h
  by_cases hc:pE x.1 ds=true
  ·rw [if_pos hc] at h
   exact ⟨F,x.1,ds,fx,fy,gr.inn,o1,.inr o2,hc,EPost.dE gr h rfl⟩
  ·rw [if_neg hc] at h;exact h.elim
 ·rename_i o ds
  have h:(if pE x.1 ds=true then R.ok (D.bl (if neg then !inD x.1 ds else inD x.1 ds),true) else .bad).holds (EPost K F0 H0 Q):=h
  by_cases hc:pE x.1 ds=true
  ·rw [if_pos hc] at h
   exact ⟨F,x.1,ds,fx,fy,gr.inn,o1,.inl ⟨o,o2⟩,hc,EPost.dE gr h rfl⟩
  ·rw [if_neg hc] at h;exact h.elim
section
variable {X:Cx} {k:Nat}
theorem pQ (hr:Room k X.A) {n:Nat} (h:n<=100):X.A.units+1+n<cLine:=by have:=hr.un;omega
theorem aF7 (hr:Room k X.A):OpR X (compareOp .Eq) (aL3 X.K false):=by
 intro pins s σ H v u vv uu Q I rx ry h
 obtain ⟨F,x,y,fx,fy,hs,o1,o2,hc,q⟩:=h
 unfold lP at hc
 simp only [Bool.and_eq_true,decide_eq_true_iff] at hc
 obtain ⟨_,r1⟩:=cV I hs x hc.1.1 o1 rx
 obtain ⟨_,r2⟩:=cV I hs y hc.1.2 o2 ry
 exact PySem.SeqAt.compareEq_reads r1 r2 hc.2.1.1 hc.2.1.2 (by have:=pQ hr hc.2.2;omega) ⟨.bl _,H,I,rfl,q⟩
theorem aL1 (hr:Room k X.A):OpR X (compareOp .NotEq) (aL3 X.K true):=by
 intro pins s σ H v u vv uu Q I rx ry h
 obtain ⟨F,x,y,fx,fy,hs,o1,o2,hc,q⟩:=h
 unfold lP at hc
 simp only [Bool.and_eq_true,decide_eq_true_iff] at hc
 obtain ⟨_,r1⟩:=cV I hs x hc.1.1 o1 rx
 obtain ⟨_,r2⟩:=cV I hs y hc.1.2 o2 ry
 exact PySem.SeqAt.compareNe_reads r1 r2 hc.2.1.1 hc.2.1.2 (by have:=pQ hr hc.2.2;omega) ⟨.bl _,H,I,rfl,q⟩
theorem aNy (hr:Room k X.A):OpR X (compareOp .In) (aMm X.K false):=by
 intro pins s σ H v u vv uu Q I rx ry h
 obtain ⟨F,x,ds,fx,fy,hs,o1,o2,hc,q⟩:=h
 unfold pE at hc
 simp only [Bool.and_eq_true,decide_eq_true_iff] at hc
 obtain ⟨_,r1⟩:=cV I hs x hc.1.1 o1 rx
 have hu:=pQ hr hc.2.2
 rcases o2 with ⟨o,o2⟩ | o2
 ·obtain ⟨_,r2⟩:=cV I hs _ (by simpa [D.plain] using hc.1.2) o2 ry
  exact PySem.SeqAt.in_list_reads (by unfold D.py at r2;exact r2) r1 hc.2.1.2 hc.2.1.1 hu ⟨.bl _,H,I,rfl,q⟩
 ·obtain ⟨_,r2⟩:=cV I hs _ (by simpa [D.plain] using hc.1.2) o2 ry
  exact PySem.SeqAt.in_tuple_reads (by unfold D.py at r2;exact r2) r1 hc.2.1.2 hc.2.1.1 hu ⟨.bl _,H,I,rfl,q⟩
theorem aDj (hr:Room k X.A):OpR X (compareOp .NotIn) (aMm X.K true):=by
 intro pins s σ H v u vv uu Q I rx ry h
 obtain ⟨F,x,ds,fx,fy,hs,o1,o2,hc,q⟩:=h
 unfold pE at hc
 simp only [Bool.and_eq_true,decide_eq_true_iff] at hc
 obtain ⟨_,r1⟩:=cV I hs x hc.1.1 o1 rx
 have hu:=pQ hr hc.2.2
 rcases o2 with ⟨o,o2⟩ | o2
 ·obtain ⟨_,r2⟩:=cV I hs _ (by simpa [D.plain] using hc.1.2) o2 ry
  exact PySem.SeqAt.notIn_list_reads (by unfold D.py at r2;exact r2) r1 hc.2.1.2 hc.2.1.1 hu ⟨.bl _,H,I,rfl,q⟩
 ·obtain ⟨_,r2⟩:=cV I hs _ (by simpa [D.plain] using hc.1.2) o2 ry
  exact PySem.SeqAt.notIn_tuple_reads (by unfold D.py at r2;exact r2) r1 hc.2.1.2 hc.2.1.1 hu ⟨.bl _,H,I,rfl,q⟩
end
end VL
end
section
namespace VL
open PySem PySem.Spec PyProof.Rows L2
def aEx (T:String) (d:D):Bool:=match d with
 | .non=>false | .bl _=>T == "bool" || T == "int" | .int _=>T == "int" | .str _=>T == "str" | .tup _=>T == "tuple" | .lst _ _=>T == "list" | .ext _ _=>false
def qA:D->Bool
 | .ext _ _=>false | _=>true
def pS:List String:=["bool", "int", "str", "tuple", "list"]
section
variable {X:Cx}
theorem aOh {K:FG} {T:String} (hT:T∈pS):PySem.W.kitOne K (.type "NoneType") (.type T)=some false/\PySem.W.kitOne K (.type "bool") (.type T)=some (T == "bool" || T == "int")/\PySem.W.kitOne K (.type "int") (.type T)=some (T == "int") /\
  PySem.W.kitOne K (.type "str") (.type T)=some (T == "str")/\PySem.W.kitOne K (.type "tuple") (.type T)=some (T == "tuple")/\PySem.W.kitOne K (.type "list") (.type T)=some (T == "list"):=by
 have h:T = "bool" \/T = "int" \/T = "str" \/T = "tuple" \/T = "list" :=by simpa [pS] using hT
 rcases h with rfl | rfl | rfl | rfl | rfl<;>refine ⟨?_,?_,?_,?_,?_,?_⟩<;>first | rfl | decide +kernel | kernel_rfl
theorem aHe {T:String} (hT:T∈pS):jI X (.builtin "isinstance") (fun vs H Q=>∃F d v fp,Same F H/\vs=[v,.ty T]/\Own X.K F H d v fp/\qA d=true/\Q (.bl (aEx T d)) H):=by
 intro pins s σ H vs us Q I r h
 obtain ⟨F,d,v,fp,hs,e,o,hne,q⟩:=h
 subst e
 obtain ⟨u,u2,rfl,r1,r2⟩:=r.two
 cases r2
 obtain ⟨k1,k2,k3,k4,k5,k6⟩:=aOh (K:=X.K) hT
 have fin:∀b tk,aEx T d=b->EP X pins σ Q (.bool b) { s with toks:=tk }:=fun b tk e=>⟨.bl b,H,I.tok _,rfl,e ▸ q⟩
 cases d with
 | non=>unfold Own at o;rw [o.1] at r1;exact hG I r1 (.non) k1 fun tk=>fin _ tk rfl
 | bl b=>unfold Own at o;rw [o.1] at r1;exact hG I r1 (.bl b) k2 fun tk=>fin _ tk rfl
 | int b=>unfold Own at o;rw [o.1] at r1;exact hG I r1 (.int b) k3 fun tk=>fin _ tk rfl
 | str b=>unfold Own at o;rw [o.1] at r1;exact hG I r1 (.str b) k4 fun tk=>fin _ tk rfl
 | tup ds =>
  unfold Own at o
  obtain ⟨_,a,xs,e,hy,_⟩:=o
  rw [e] at r1
  cases (show u=Value.ref a from r1)
  obtain ⟨its,rv,⟨ob,h1,h2,_⟩,_⟩:=I.tuple (Same.sO hs hy)
  exact PySem.W.kia_one PySem.W.kitx_tuple I.kIn ⟨ob,h1,h2⟩ k5 (fun z=>nomatch z) fun tk=>fin _ tk rfl
 | ext _ _=>cases hne
 | lst w ds =>
  obtain ⟨a,xs,fq,e,q1,_⟩:=Own.aKl hs o
  rw [e] at r1
  rcases q1 with q1 | ⟨ob,q1⟩
  ·exact hG I r1 (.lst q1) k6 fun tk=>fin _ tk rfl
  ·exact hG I r1 (.frz q1) k6 fun tk=>fin _ tk rfl
def jZ (T:String):D×Bool->R (D×Bool):=fun x=>if qA x.1 then .ok (.bl (aEx T x.1),true) else .bad
theorem mO {T:Str} {T':String} {a:Expr} {f:aL} {p q pos:Pos} (hT:T'∈pS) (ha:SE X a f) (hm:X.mg "isinstance" = none) (hm2:X.mg T=none) (hv:bootBuiltins T=some (.type T')) (hg:Gl X "isinstance" :=by rfl) (hg2:Gl X T:=by rfl) (hn:T ≠ "__name__" :=by decide) (hd:(T == ("__debug__" : Str))=false:=by decide)
  (hs1:starEach [a,.Name T q] X.env=(false,eval a X.env)::starEach [.Name T q] X.env:=by rfl) (hs2:starEach [.Name T q] X.env=(false,eval (.Name T q) X.env)::starEach [] X.env:=by rfl)
  (hpl:(backTo pos (starEach [.Name T q] X.env)).any (·.1)=false:=by rfl):SE X (.Call (.Name "isinstance" p) [a,.Name T q] [] pos) (v1 (jZ T') f) :=
 (sH (aHe hT) hg hm PyProof.Rows.boot_isinstance (gN ha (gN (aBi (v:=.ty T') hg2 hm2 hv rfl hn hd) mS hs2) hs1) (by decide) (by decide) hs1 hpl).imp fun σ H Q h=>by
  obtain ⟨ρ,F,fps,S,h⟩:=h
  refine ⟨ρ,F,fps,S,R.aI (R.aJ.mp h) fun x hx v F1 H1 fx g1 o1 n1 k1=>?_⟩
  unfold jZ at hx
  by_cases hc:qA x.1=true
  ·rw [if_pos hc] at hx
   exact ⟨F1,x.1,v,fx,g1.inn,rfl,o1,hc,EPost.dE g1 hx rfl⟩
  ·rw [if_neg hc] at hx;exact hx.elim
def dD:List D->Option (Y0)
 | []=>some []
 | .int i::ds=>(dD ds).map (i::·)
 | _=>none
theorem eN {K:FG} {F H:Hp}:∀(ds:List D) {ns:Y0} {xs:List V} {fp:Y2},dD ds=some ns->aF K F H ds xs fp->xs=ns.map V.int
 | [],ns,xs,fp,e,o=>by unfold dD at e;cases e;unfold aF at o;exact o.1
 | d::ds,ns,xs,fp,e,o=>by
  cases d<;>try (unfold dD at e;cases e;done)
  rename_i i
  unfold dD at e
  cases q:dD ds with
  | none=>rw [q] at e;cases e
  | some ms =>
   rw [q] at e
   have e:some (i::ms)=some ns:=e
   cases e
   unfold aF at o
   obtain ⟨v,r,f1,f2,e1,o1,o2,_⟩:=o
   unfold Own at o1
   rw [e1,o1.1,eN ds q o2];rfl
theorem aDw (hc:X.calm=true):jI X (.builtin "sum") (fun xs H Q=>∃(p:Addr) (ns:Y0),xs=[.ref p]/\SqL X.K H p (ns.map V.int)/\Q (.int ns.sum) H):=by
 intro pins s σ H xs us Q I r h
 obtain ⟨p,ns,rfl,hq,q⟩:=h
 obtain ⟨u,rfl,ru⟩:=vals1 r
 cases ru
 obtain ⟨its,rv,pl,_⟩:=I.list hq
 have hi:IntsAre its ns:=intsAre_of rv
 obtain ⟨ys,hx⟩:=hi.allInts.items
 have hl':s.heap.IsList p (intItems ys):=hx ▸ pl.isList
 refine sum_intListG (I.ok.hd hc) hl' fun h' tk t' hk=>?_
 have e1:ns=ys.toList.map (·.1):=by
  rw [<- nums_intItems,<- hx]
  exact (show numsOf its.toArray.toList=ns from hi.numsOf).symm
 have e2:preSum (numAt ys) ys.size=ns.sum:=by
  rw [preSum_eq,List.take_of_length_le (by simp),e1]
 rw [e2]
 exact ⟨.int _,H,I.kept hk,⟨_,rfl⟩,q⟩
def aIs:List (D×Bool)->R (D×Bool)
 | [(.lst _ ds,_)]=>(match dD ds with | some ns=>.ok (.int ns.sum,true) | none=>.bad) | _=>.bad
theorem aJi {K:FG}:OpA K aIs (fun xs H Q=>∃(p:Addr) (ns:Y0),xs=[.ref p]/\SqL K H p (ns.map V.int)/\Q (.int ns.sum) H):=by
 intro F0 H0 F H xs vs fa Q gr a n k h
 match xs,h,a with
 | [(.lst o ds,b)],h,a =>
  unfold Args at a
  obtain ⟨v,r,fp,f2,e,o1,n1,t,w⟩:=a
  unfold Args at t
  obtain ⟨p,ys,fq,e1,q1,r1,_⟩:=Own.lst gr.inn o1
  have h:(match dD ds with | some ns=>R.ok (D.int ns.sum,true) | none=>R.bad).holds (EPost K F0 H0 Q):=h
  cases q:dD ds with
  | none=>rw [q] at h;exact h.elim
  | some ns =>
   rw [q] at h
   rw [eN ds q r1] at q1
   exact ⟨p,ns,by rw [e,t.1,e1],q1,EPost.dE gr h rfl⟩
def k2i (g:Int->Int->Int):List (D×Bool)->R (D×Bool)
 | [(.int i,_),(.int j,_)]=>.ok (.int (g i j),true) | _=>.bad
theorem aNf {K:FG} {g:Int->Int->Int}:OpA K (k2i g) (fun xs H Q=>∃i j,xs=[.int i,.int j]/\Q (.int (g i j)) H):=by
 intro F0 H0 F H xs vs fa Q gr a n k h
 match xs,h,a with
 | [(.int i,b),(.int j,b')],h,a =>
  unfold Args at a
  obtain ⟨v,r,fp,f2,e,o1,n1,t,w⟩:=a
  unfold Args at t
  obtain ⟨v',r',fp',f2',e',o1',n1',t',w'⟩:=t
  unfold Args at t'
  unfold Own at o1 o1'
  exact ⟨i,j,by rw [e,e',t'.1,o1.1,o1'.1],EPost.dE gr h rfl⟩
end
end VL
end
section
namespace VL
open PySem L2
section
variable {K:FG} {F H F' H' F1 H1:Hp} {σ σ1:St} {ρ ρ1:Env} {Q:VK}
def jJ (ρ:Env) (j:Nat):Slot:=match getD ρ j with | some d=>.val d.frz | none=>.un
def kL (ρ:Env) (j:Nat):Bool:=match getD ρ j with | some d=>d.calm | none=>true
def iQ (set:D->Env->Option Env) (c:bU) (e:aL):List D->Env->R (List D)
 | [],_=>.ok []
 | d::ds,ρ=>match set d ρ with
  | none=>.bad
  | some ρ1=>(c ρ1).bind fun b=>if b=true then (e ρ1).bind fun x=>if aN x then (iQ set c e ds ρ1).bind fun r=>.ok (x.1::r) else .bad else iQ set c e ds ρ1
def cG (f:jF) (nt:Nat) (js:T0) (set:D->Env->Option Env) (c:bU) (e:aL):aL:=fun ρ=>(f ρ).bind fun ds =>
 if decide (ds.length<=1000000) then (iQ set c e ds (List.replicate nt .un++js.map (jJ ρ))).bind fun xs=>if js.all (kL ρ) || xs.all isScal then .ok (.lst true xs,true) else .bad else .bad
theorem cY {fps:Y5} (S:Sim K F H σ ρ fps):∀(js:T0),∃U:Y2,(∀b∈U,F b=none)/\(js.all (kL ρ)=true->U=[]) /\
  ∀U':Y2,(∀b∈U,b∈U')->(∀b∈U',F b=none)->∀(k:Nat) (d:D),(js.map (jJ ρ))[k]?=some (.val d)->∃v,(js.map fun j=>(σ[j]?).join)[k]?=some (some v)/\Own K (eZ F H U') H d v []
 | []=>⟨[],by simp,fun _=>rfl,fun _ _ _ k d e=>by simp at e⟩
 | j::js=>by
  obtain ⟨U,u1,u2,u3⟩:=cY S js
  cases eg:getD ρ j with
  | none =>
   refine ⟨U,u1,fun h=>u2 (by rw [List.all_cons,Bool.and_eq_true] at h;exact h.2),fun U' s1 s2 k d e=>?_⟩
   cases k with
   | zero =>
    have e:jJ ρ j=.val d:=by simpa using e
    unfold jJ at e
    rw [eg] at e;cases e
   | succ k=>simpa using u3 U' s1 s2 k d (by simpa using e)
  | some d0 =>
   obtain ⟨v,fp,h1,h2,h3⟩:=S.get eg
   have hz:∀b∈fp,b∈fps.flatten:=fun b hb=>List.mem_flatten.mpr ⟨_,List.mem_of_getElem? h2,hb⟩
   refine ⟨fp++U,fun b hb=>(List.mem_append.mp hb).elim (fun q=>(S.zone b (hz b q)).1) (u1 b),fun h=>?_,fun U' s1 s2 k d e=>?_⟩
   ·rw [List.all_cons,Bool.and_eq_true] at h
    have hc:d0.calm=true:=by have:=h.1;unfold kL at this;rw [eg] at this;exact this
    rw [Own.dA d0 hc h3,u2 h.2];rfl
   ·cases k with
    | zero =>
     have e:jJ ρ j=.val d:=by simpa using e
     unfold jJ at e
     rw [eg] at e;cases e
     exact ⟨v,by simp [h1],Own.freeze s2 d0 (fun b hb=>s1 b (List.mem_append_left _ hb)) h3⟩
    | succ k=>simpa using u3 U' (fun b hb=>s1 b (List.mem_append_right _ hb)) s2 k d (by simpa using e)
theorem Sim.other {fps:Y5} {a:Addr} {o:HO} (S:Sim K F H σ ρ fps) (fa:F a=none) (ha:a ∉ fps.flatten):Sim K F (upd H a o) σ ρ fps:=by
 refine ⟨fun b u e=>?_,S.ls,S.lf,fun i s d e1 e2=>?_,S.nd,fun b hb=>?_⟩
 ·rw [aW (bJ e fa)];exact S.same b u e
 ·obtain ⟨v,fp,h1,h2,h3⟩:=S.at_ i s d e1 e2
  exact ⟨v,fp,h1,h2,h3.other fun z=>ha (List.mem_flatten.mpr ⟨fp,List.mem_of_getElem? h2,z⟩)⟩
 ·refine ⟨(S.zone b hb).1,?_⟩
  have hne:b ≠ a:=fun z=>ha (z ▸ hb)
  rw [aW hne];exact (S.zone b hb).2
structure CSt (K:FG) (FB H1:Hp) (acc:Addr) (F' H':Hp) (σ':St) (ρ':Env) (done:List D):Prop where
 fr:Same FB F'
 all:∀b o,H1 b=some o->H' b=some o
 new:∀b o,F' b=some o->FB b=some o\/H1 b=none
 sim:∃fps',Sim K F' H' σ' ρ' fps'/\fps'.flatten=[]
 acc_:F' acc=none
 own:∃xs fa,H' acc=some (.lst xs)/\aF K F' H' done xs fa/\(acc::fa).Nodup/\∀b∈fa,H1 b=none
theorem CSt.grow {FB H1 F2 H2:Hp} {acc:Addr} {σ':St} {ρ':Env} {done:List D} (c:CSt K FB H1 acc F' H' σ' ρ' done) (g:Grow F' H' F2 H2):CSt K FB H1 acc F2 H2 σ' ρ' done:=by
 obtain ⟨fps',S,e⟩:=c.sim
 obtain ⟨xs,fa,a1,a2,a3,a4⟩:=c.own
 refine ⟨c.fr.trans g.fr,fun b o q=>g.all b o (c.all b o q),fun b o q=>?_,⟨fps',S.grow g,e⟩,?_,⟨xs,fa,g.all _ _ a1,a2.grow g,a3,a4⟩⟩
 ·rcases g.new b o q with z | z
  ·exact c.new b o z
  ·refine .inr ?_
   cases q2:H1 b with
   | none=>rfl
   | some u=>rw [c.all b u q2] at z;cases z
 ·cases q:F2 acc with
  | none=>rfl
  | some o =>
   rcases g.new acc o q with z | z
   ·rw [c.acc_] at z;cases z
   ·rw [a1] at z;cases z
theorem CSt.push {FB H1:Hp} {acc:Addr} {σ':St} {ρ':Env} {done:List D} {x:D} {v:V} {fx:Y2} (c:CSt K FB H1 acc F' H' σ' ρ' done) (hacc:H1 acc=none) (o:Own K F' H' x v fx) (n:fx.Nodup) {Hm:Hp} (hm:∀b∈fx,Hm b=none) (hsub:∀b o,H1 b=some o->∃o',Hm b=some o') (hdone:∃xs fa,H' acc=some (.lst xs)/\aF K F' H' done xs fa/\(acc::fa).Nodup/\(∀b∈fa,H1 b=none)/\∀b∈acc::fa,Hm b ≠ none) :
  ∃xs,H' acc=some (.lst xs)/\xs.length=done.length/\CSt K FB H1 acc F' (upd H' acc (.lst (xs ++ [v]))) σ' ρ' (done ++ [x]):=by
 obtain ⟨fps',S,e⟩:=c.sim
 obtain ⟨xs,fa,a1,a2,a3,a4,hd⟩:=hdone
 have nx:∀b∈acc::fa,b ∉ fx:=fun b hb z=>hd b hb (hm b z)
 have nacc:=List.nodup_cons.mp a3
 refine ⟨xs,a1,(aF.length done a2).symm,c.fr,fun b u q=>?_,c.new,⟨fps',S.other c.acc_ (by rw [e];simp),e⟩,c.acc_,⟨xs ++ [v],fa++fx,bR,aF.append done (a2.other nacc.1) (aF.one (o.other (nx acc List.mem_cons_self))),?_,fun b hb=>?_⟩⟩
 ·rw [aW (bJ q hacc)];exact c.all b u q
 ·refine List.nodup_cons.mpr ⟨fun z=>(List.mem_append.mp z).elim nacc.1 (nx acc List.mem_cons_self),List.nodup_append.mpr ⟨nacc.2,n,fun p hp q hq z=>?_⟩⟩
  subst z
  exact nx p (List.mem_cons_of_mem _ hp) hq
 ·rcases List.mem_append.mp hb with hb | hb
  ·exact a4 b hb
  ·cases q:H1 b with
   | none=>rfl
   | some u =>
    obtain ⟨o',z⟩:=hsub b u q
    rw [hm b hb] at z;cases z
theorem aBg {f:jF} {nt:Nat} {js:T0} {set:D->Env->Option Env} {g:TG} {c:bU} {e:aL} (ht:Tgt K set g) (h:tv K (cG f nt js set c e) σ H Q):aBh (iv K f) nt js g (tvT K c) (tv K e) σ H Q:=by
 obtain ⟨ρ,F,fps,S,h⟩:=h
 refine ⟨ρ,F,fps,S,R.aI (R.aJ.mp h) fun ds hds J F1 H1 g1 hJ acc hacc=>?_⟩
 by_cases hsz:decide (ds.length<=1000000)=true
 ·rw [if_pos hsz] at hds
  rw [decide_eq_true_iff] at hsz
  have hds:=R.aJ.mp hds
  have S1:=S.grow g1
  obtain ⟨U,u1,u2,u3⟩:=cY S1 js
  have own0:=u3 U (fun b hb=>hb) u1
  let FB:=eZ F1 H1 U
  have sB:Same F1 FB:=eW u1
  have inB:Same FB H1:=nS g1.inn
  let H1':=upd H1 acc (.lst [])
  have gB:Grow FB H1 FB H1':=Grow.one inB hacc
  let σ0:St:=List.replicate nt none++js.map fun j=>(σ[j]?).join
  let ρ0:Env:=List.replicate nt .un++js.map (jJ ρ)
  have C0:CSt K FB H1 acc FB H1' σ0 ρ0 []:=by
   refine ⟨Same.refl _,fun b o q=>by show upd H1 acc _ b=_;rw [aW (bJ q hacc)];exact q,fun b o q=>.inl q,⟨List.replicate ρ0.length [],⟨gB.inn,?_,by simp,fun i s d e1 e2=>?_,by simp,fun a ha=>by simp at ha⟩,by simp⟩,inB.free hacc,⟨[],[],bR,aF.nil,by simp,fun b hb=>by cases hb⟩⟩
   ·show (List.replicate nt none++js.map _).length=(List.replicate nt Slot.un++js.map _).length
    simp
   ·have e1:(List.replicate nt Slot.un++js.map (jJ ρ))[i]?=some s:=e1
    by_cases hi:i<nt
    ·rw [List.getElem?_append_left (by simpa using hi),List.getElem?_replicate,if_pos hi] at e1
     cases e1;cases e2
    ·rw [List.getElem?_append_right (by simpa using hi),List.length_replicate] at e1
     have es:s=.val d:=by
      rw [List.getElem?_map] at e1
      cases ej:js[i - nt]? with
      | none=>rw [ej] at e1;cases e1
      | some j =>
       rw [ej] at e1
       have e1:jJ ρ j=s:=Option.some.inj e1
       unfold jJ at e1
       cases eg:getD ρ j with
       | none=>rw [eg] at e1;subst e1;cases e2
       | some d0=>rw [eg] at e1;subst e1;cases e2;rfl
     subst es
     obtain ⟨v,q1,q2⟩:=own0 (i - nt) d e1
     refine ⟨v,[],?_,?_,q2.grow gB⟩
     ·show (List.replicate nt none++js.map fun j=>(σ[j]?).join)[i]?=_
      rw [List.getElem?_append_right (by simpa using hi),List.length_replicate];exact q1
     ·have hl:i < ρ0.length:=by
       have:=(List.getElem?_eq_some_iff.mp e1).1
       show i<(List.replicate nt Slot.un++js.map (jJ ρ)).length
       simp at this ⊢;omega
      rw [List.getElem?_replicate,if_pos hl]
  refine ⟨fun i m σ' H'=>i<=ds.length/\m=ds.length - i/\∃ρ' F' done,CSt K FB H1 acc F' H' σ' ρ' done/\done.length<=i /\
    (iQ set c e (ds.drop i) ρ').holds (fun rest=>(if js.all (kL ρ) || (done++rest).all isScal then R.ok (D.lst true (done++rest),true) else R.bad).holds (EPost K F H Q)),
   ⟨ds.length,Nat.zero_le _,rfl,ρ0,FB,[],C0,Nat.le_refl _,hds⟩,?_⟩
  rintro i m σ' H' ⟨hi,rfl,ρ',F',done,C,hdl,hrest⟩
  obtain ⟨fps',S',e'⟩:=C.sim
  by_cases hlt:i<ds.length
  ·refine .inr ?_
   obtain ⟨d,hd⟩:∃d,ds[i]?=some d:=⟨ds[i],by simp [hlt]⟩
   have hdrop:ds.drop i=d::ds.drop (i+1):=by
    rw [List.drop_eq_getElem_cons hlt]
    congr 1
    rw [List.getElem?_eq_getElem hlt] at hd;exact Option.some.inj hd
   rw [hdrop] at hrest
   obtain ⟨go,yl⟩:=hJ.2 i d hd F' H' (sB.trans C.fr) S'.same
   refine ⟨go,fun x H2 hy=>?_⟩
   obtain ⟨F2,g2,o2⟩:=yl x H2 hy
   have C2:=C.grow g2
   unfold iQ at hrest
   cases es:set d ρ' with
   | none=>rw [es] at hrest;exact hrest.elim
   | some ρ2 =>
    rw [es] at hrest
    have hrest:=R.aJ.mp hrest
    refine ht F2 H2 d x ρ' ρ2 σ' fps' _ (S'.grow g2) o2 es fun σ2 fps2 S2 p2 k2=>?_
    have e2':fps2.flatten=[]:=by
     cases q:fps2.flatten with
     | nil=>rfl
     | cons b l=>have:=k2 b (by rw [q];exact List.mem_cons_self);rw [e'] at this;cases this
    have C2':CSt K FB H1 acc F2 H2 σ2 ρ2 done:=⟨C2.fr,C2.all,C2.new,⟨fps2,S2,e2'⟩,C2.acc_,C2.own⟩
    refine ⟨ρ2,F2,fps2,S2,R.aI hrest fun b hb F3 H3 g3=>?_⟩
    have C3:=C2'.grow g3
    cases b with
    | false =>
     rw [if_neg Bool.false_ne_true] at hb
     show if false=true then _ else _
     rw [if_neg Bool.false_ne_true]
     exact ⟨ds.length - (i+1),by omega,by omega,rfl,ρ2,F3,done,C3,by omega,hb⟩
    | true =>
     rw [if_pos rfl] at hb
     show if true=true then _ else _
     rw [if_pos rfl]
     obtain ⟨fps3,S3,e3'⟩:=C3.sim
     refine ⟨ρ2,F3,fps3,S3,R.aI (R.aJ.mp hb) fun y hy v F4 H4 fy g4 o4 n4 k4=>?_⟩
     by_cases hk:aN y=true
     ·rw [if_pos hk] at hy
      have hy:=R.aJ.mp hy
      have k5:=nF hk o4 k4
      have C4:=C3.grow g4
      obtain ⟨xs,a1,a2,C5⟩:=C4.push hacc o4 n4 (Hm:=H3) k5 (fun b o q=>⟨o,C3.all b o q⟩) (by
       obtain ⟨ys,fa',b1,b2,b3,b4⟩:=C3.own
       refine ⟨ys,fa',g4.all _ _ b1,b2.grow g4,b3,b4,fun b hb=>?_⟩
       rcases List.mem_cons.mp hb with rfl | hb
       ·rw [b1];simp
       ·obtain ⟨_,zs,z⟩:=aF.zone done b2 b hb
        rw [z];simp)
      refine ⟨xs,a1,uX (by omega),ds.length - (i+1),by omega,by omega,rfl,ρ2,F4,done ++ [y.1],C5,by simp;omega,R.aI hy fun r hr=>?_⟩
      have hr:(if js.all (kL ρ) || (done++y.1::r).all isScal then R.ok (D.lst true (done++y.1::r),true) else R.bad).holds (EPost K F H Q):=hr
      rw [show done ++ [y.1]++r=done++y.1::r by simp]
      exact hr
     ·rw [if_neg hk] at hy;exact hy.elim
  ·have hil:i=ds.length:=by omega
   refine .inl ⟨hJ.1 i H' (sB.trans (C.fr.trans S'.same)) (by omega),?_⟩
   rw [List.drop_eq_nil_of_le (by omega)] at hrest
   have hrest:(if js.all (kL ρ) || (done ++ []).all isScal then R.ok (D.lst true (done ++ []),true) else R.bad).holds (EPost K F H Q):=hrest
   rw [List.append_nil] at hrest
   obtain ⟨xs,fa,a1,a2,a3,a4⟩:=C.own
   have hall:Same H H':=g1.all.trans C.all
   have frsh:∀b∈acc::fa,H b=none:=fun b hb=>by
    rcases List.mem_cons.mp hb with rfl | hb
    ·exact g1.all.free hacc
    ·exact g1.all.free (a4 b hb)
   by_cases hcap:js.all (kL ρ)=true
   ·rw [hcap,Bool.true_or,if_pos rfl] at hrest
    have hU:=u2 hcap
    subst hU
    have eFB:∀b,FB b=F1 b:=fun b=>by show eZ F1 H1 [] b=F1 b;unfold eZ;simp
    refine hrest (.ref acc) F' H' (acc::fa) ⟨g1.fr.trans (sB.trans C.fr),hall,S'.same,fun b o q=>?_⟩ (Own.closed a2 C.acc_ a1) a3 fun _ b hb=>frsh b hb
    rcases C.new b o q with z | z
    ·rw [eFB] at z;exact g1.new b o z
    ·exact .inr (g1.all.free z)
   ·by_cases hsc:done.all isScal=true
    ·rw [hsc,Bool.or_true,if_pos rfl] at hrest
     have hfa:fa=[]:=by
      refine aF.dA done ?_ a2
      rw [D.yW]
      rw [List.all_eq_true] at hsc ⊢
      intro x hx
      have:=hsc x hx
      unfold isScal at this
      cases x<;>first | rfl | (simp [iB] at this)
     subst hfa
     have o1:aF K F1 H' done xs []:=by
      refine aF.of_get done (aF.length done a2) fun k d v e1 e2=>?_
      have hd:isScal d=true:=by rw [List.all_eq_true] at hsc;exact hsc d (List.mem_of_getElem? e1)
      unfold isScal at hd
      cases q:iB d with
      | none=>rw [q] at hd;cases hd
      | some w =>
       have:=vO q (aF.aO9 a2 e1 e2)
       rw [this.1];exact gF q
     refine hrest (.ref acc) F1 H' [acc] ⟨g1.fr,hall,(sB.trans C.fr).trans S'.same,fun b o q=>g1.new b o q⟩ (Own.closed o1 (g1.inn.free hacc) a1) a3 fun _ b hb=>frsh b hb
    ·have:(js.all (kL ρ) || done.all isScal)=false:=by
      rw [Bool.eq_false_iff];intro z
      rcases Bool.or_eq_true _ _ ▸ z with z | z
      ·exact hcap z
      ·exact hsc z
     rw [this] at hrest;exact hrest.elim
 ·rw [if_neg hsz] at hds;exact hds.elim
end
end VL
end
section
namespace VL
open PySem PySem.Spec PyProof.Rows L2
abbrev mE:=Env->Option Nat
def aKr (F H:Hp) (Q:VK) (n:Nat):Prop:=∀(z:Str) F' H',Grow F H F' H'->z.length<=n->Q (.str z) H'
def tz (K:FG) (f:mE):TE:=fun σ H Q=>∃ρ F fps,Sim K F H σ ρ fps/\∃n,f ρ=some n/\aKr F H Q n
abbrev SZ (X:Cx) (e:Expr) (f:mE):Prop:=PE X e (tz X.K f)
def SZs (X:Cx) (es:List Expr) (f:mE):Prop:=∀(pins:Y8) (s:Shared) (σ:L2.St) (H:Hp) (acc:Str) (Q:VK),L2.Inv X pins σ H s ->
 (∃ρ F fps,Sim X.K F H σ ρ fps/\∃n,f ρ=some n/\acc.length+n<=1000000/\aKr F H Q (acc.length+n)) ->
 Joins (model X.prog X.w) X.A X.xe (evalEach es X.env) acc (fun out s1=>out.length<=sizeLine/\EP X pins σ Q (.str out s1.toks) { s1 with toks:=s1.toks+1 }) s
section
variable {X:Cx} {W:XW} {e v1 v2:Expr} {es:List Expr} {pos:Pos}
theorem eD {i j}:SZ X (.Constant (.str i) j pos) (fun _=>some i.length):=aFf.imp fun σ H Q h=>by
 obtain ⟨ρ,F,fps,S,n,en,h⟩:=h
 cases en
 exact h i F H (Grow.refl S.same) (Nat.le_refl _)
def vS (g:aL):mE:=fun ρ=>match g ρ with | .ok (.int a,_)=>if a.natAbs<=100000 then some 100002 else none | _=>none
theorem aCj {a:Int} (h:a.natAbs<=100000):a.natAbs.log2<1920:=by
 by_cases h0:a.natAbs=0
 ·rw [h0];decide
 ·exact (Nat.log2_lt h0).mpr (Nat.lt_of_le_of_lt h (Nat.lt_of_lt_of_le (by decide:100000<2 ^ 17) (Nat.pow_le_pow_right (by decide) (by decide))))
theorem lC {g:aL} (h:SE X e g):SZ X (.FormattedValue e (-1) none pos) (vS g):=by
 intro pins s σ H Q I q
 obtain ⟨ρ,F,fps,S,n,en,q⟩:=q
 unfold vS at en
 refine FormattedValue_plain (thn (h pins s σ H (fun v H'=>∃a,v=.int a/\a.natAbs<=100000/\∀z:Str,z.length<=100002->Q (.str z) H') I ⟨ρ,F,fps,S,?_⟩) fun u s1 ⟨v,H1,I1,r,a,ev,ha,hq⟩=>?_)
 ·cases eg:g ρ with
  | exc _=>rw [eg] at en;cases en
  | bad=>rw [eg] at en;cases en
  | ok x =>
   rw [eg] at en
   obtain ⟨x,b⟩:=x
   cases x<;>try cases en
   rename_i a
   dsimp only at en
   by_cases ha:a.natAbs<=100000
   ·rw [if_pos ha] at en;cases en
    intro v F1 H1 fx g1 o1 n1 k1
    unfold Own at o1
    exact ⟨a,o1.1,ha,fun z hz=>q z F1 H1 g1 hz⟩
   ·rw [if_neg ha] at en;cases en
 ·subst ev
  obtain ⟨t,rfl⟩:=r
  have hl:((Str.ofString (toString a)).length:Int)<=a.natAbs+2:=len_str_of_int a
  exact formatField_int_small (aCj ha) ⟨.str (Str.ofString (toString a)),H1,I1.tok _,⟨_,rfl⟩,hq _ (by omega)⟩
theorem lA:SZs X [] (fun _=>some 0):=by
 intro pins s σ H acc Q I q
 obtain ⟨ρ,F,fps,S,n,en,hn,q⟩:=q
 cases en
 exact ⟨gT hn,.str acc,H,I.tok _,⟨_,rfl⟩,q acc F H (Grow.refl S.same) (Nat.le_refl _)⟩
def iU (f g:mE):mE:=fun ρ=>(f ρ).bind fun a=>(g ρ).map fun b=>a+b
theorem bP {f g:mE} (h1:SZ X e f) (h2:SZs X es g) (he:evalEach (e::es) X.env=eval e X.env::evalEach es X.env:=by rfl):SZs X (e::es) (iU f g):=by
 intro pins s σ H acc Q I q
 obtain ⟨ρ,F,fps,S,n,en,hn,q⟩:=q
 unfold iU at en
 cases ef:f ρ with
 | none=>rw [ef] at en;cases en
 | some a =>
  rw [ef] at en
  cases eg:g ρ with
  | none=>rw [eg] at en;cases en
  | some b =>
   rw [eg] at en
   have en:some (a+b)=some n:=en
   cases en
   rw [he]
   refine thn (h1 pins s σ H (fun v H'=>∃z:Str,v=.str z/\z.length<=a/\∃F',Grow F H F' H') I ⟨ρ,F,fps,S,a,ef,fun z F' H' g1 hz=>⟨z,rfl,hz,F',g1⟩⟩) fun u s1 ⟨v,H1,I1,r,z,ev,hz,F1,g1⟩=>?_
   subst ev
   obtain ⟨t,rfl⟩:=r
   have hl:(acc++z).length=acc.length+z.length:=strLen_append _ _
   refine ⟨z,t,rfl,gT (by omega),h2 pins s1 σ H1 (acc++z) Q I1 ⟨ρ,F1,fps,S.grow g1,b,eg,by omega,fun y F' H' g2 hy=>q y F' H' (g1.trans g2) (by omega)⟩⟩
def zTop (f:mE):mE:=fun ρ=>(f ρ).bind fun n=>if n<=1000000 then some n else none
theorem lM {f:mE} (h:SZs X (v1::v2::es) f):SZ X (.JoinedStr (v1::v2::es) pos) (zTop f):=by
 intro pins s σ H Q I q
 obtain ⟨ρ,F,fps,S,n,en,q⟩:=q
 unfold zTop at en
 cases ef:f ρ with
 | none=>rw [ef] at en;cases en
 | some a =>
  rw [ef] at en
  dsimp only [Option.bind] at en
  by_cases ha:a<=1000000
  ·rw [if_pos ha] at en;cases en
   have e0:(Str.empty).length=0:=rfl
   refine PySem.wpAny_JoinedStr (h pins s σ H Str.empty Q I ⟨ρ,F,fps,S,n,ef,by rw [e0];omega,?_⟩)
   rw [e0,Nat.zero_add];exact q
  ·rw [if_neg ha] at en;cases en
def gI (c:Str) (f:mE):aQ:=fun ρ=>match f ρ with | some _=>.exc c ρ | none=>.bad
def bmV:Y1:=[.type "ValueError",.type "Exception",.type "BaseException",.type "object"]
theorem fI {c:Str} {C:Addr} {f:mE} {np cpos:Pos} (L:LkF X W) (hcalm:X.calm=true) (hC:dZ X.K c C) (hx:PySem.W.excIn X.K C bmV "ValueError.__new__" = true) (hm:X.mg c=some (.ref C)) (ha:SZ X e f) (hg:Gl X c:=by rfl) (hd:(c == ("__debug__" : Str))=false:=by decide)
  (he:starEach [e] X.env=(false,eval e X.env)::starEach [] X.env:=by rfl) (hpl:(backTo cpos (starEach [e] X.env)).any (·.1)=false:=by rfl) :
  SS X W (.Raise (some (.Call (.Name c np) [e] [] cpos)) none pos) (gI c f):=by
 intro pins s σ H D I h
 obtain ⟨ρ,F,fps,S,h⟩:=h
 unfold gI at h
 cases ef:f ρ with
 | none=>rw [ef] at h;exact h.elim
 | some n =>
  rw [ef] at h
  have h:dI X.K F H fps.flatten ρ σ (W c) ρ:=h
  have O:∃bm N nm q bs hdct sn sub ab col dd k0 k1 k2 k3 k5 mN,X.base.get? C=some (excClassObj nm q C N bs bm hdct sn sub ab col dd k0 k1 k2 k3 k5 "ValueError.__new__")/\X.base.Ns N mN/\mN "__init__" = none/\OwnTail X.base bmV bm:=by
   have KX:=I.ok.mod.kin
   have q:=hx
   unfold PySem.W.excIn at q
   split at q
   ·rename_i dd cd sl ho
    split at q
    ·rename_i C' bm k0 k1 k2 k3 n k5 hm hs
     simp only [Bool.and_eq_true,beq_iff_eq,Bool.not_eq_true'] at q
     obtain ⟨⟨⟨⟨⟨rfl,rfl⟩,hdel⟩,ht⟩,hok⟩,hni⟩:=q
     obtain ⟨nm,bs,mro,ns,qn,hd,sn,sub,ab,col,del⟩:=cd
     dsimp only at hm hdel hok hni
     subst hm hdel
     have hsl:sl = #[k0,k1,k2,k3,some (.builtin "ValueError.__new__"),k5]:=by
      obtain ⟨l⟩:=sl
      simp only at hs
      rw [hs]
     subst hsl
     exact ⟨bm,ns,nm,qn,bs,hd,sn,sub,ab,col,dd,k0,k1,k2,k3,k5,_,KX _ _ ho,.of_isNs (PySem.W.isNs_of_in KX hok),PySem.W.nsMap_none_of_in KX hok hni,PySem.W.tail_of_in KX ht⟩
    ·cases q
   ·cases q
  obtain ⟨bm,Nn,nm,q,bs,hdct,sn,sub,ab,col,dd,k0,k1,k2,k3,k5,mN,o1,o2,o3,o4⟩:=O
  refine wpAny_Raise_call_subT (C:=C) (nm:=nm) (q:=q) (N:=Nn) (bs:=bs) (bm:=bm) (hdct:=hdct) (sn:=sn) (sub:=sub) (ab:=ab) (col:=col) (dd:=dd) (k0:=k0) (k1:=k1) (k2:=k2) (k3:=k3) (k5:=k5)
   PySem.F.excBase_ValueError (mN:=mN) (o4.hasType PySem.F.excBase_ValueError.hasBase) (I.ok.hd hcalm) hpl o3 (nW I hg hm ⟨rfl,?_⟩ hd)
  rw [he]
  show wpAny _ _ (evalArgs _ true ((false,eval e X.env)::backTo cpos (starEach [] X.env)) []) _ _ s
  exact Calls.evalArgs_plain (Calls.spliced_cons (thn (ha pins s σ H (fun v H'=>∃F',Grow F H F' H') I ⟨ρ,F,fps,S,n,ef,fun z F' H' g1 _=>⟨F',g1⟩⟩) fun u s1 ⟨v,H1,I1,r,F1,g1⟩=>Calls.spliced_nil ⟨rfl,by show 1<=sizeLine;decide,I1.bk _ _ o1,o2.keeps I1.bk,o4.keeps I1.bk,fun h' e' hx=>L.fresh pins σ H1 s1 h' e' C c _ I1 hC hx (h σ F1 H1 fps g1.evo (S.grow g1) (fA.refl _ _))⟩))
end
end VL
end
section
namespace VL
open PySem PySem.Spec PyProof.Rows L2
section
variable {X:Cx} {pins pins':Y8} {σ:L2.St} {H H':Hp} {s s':Shared} {W:XW}
theorem aIy {M:Model} {A:Around} {E:Y9} {i:Nat} {x:Str} {pos:Pos} {Q:Unit->Shared->Prop} (I:L2.Inv X pins σ H s) (hN:X.N.Nodup) (hi:X.N[i]?=some x) (hk:X.env.scope.names.lookup x=some .local)
  (h:∀s',L2.Inv X pins (σ.set i none) H s'->Q () s'):wpAny M A (do bindName X.env x .none;unbindBehindTheSuite X.env x pos) Q E s:=by
 obtain ⟨m,hn,hl⟩:=id I.loc
 have hcls:(X.env.scope.kind == .class || (X.env.scope.kind == .module && X.env.locals != X.env.globals))=false:=by rw [I.ok.kind];rfl
 have hiσ:i < σ.length:=by rw [I.len];exact (List.getElem?_eq_some_iff.mp hi).1
 have cne:=I.cne
 refine wpAny_nameGoes_keeps hk hn hcls fun h' v hn' hs=>?_
 have tracked:HOk X.prog X.w H h':=fun b ob e=>by
  refine (I.hok b ob e).stay (fun c w' hc q=>(hs.2 c ?_).trans q) (fun _ q=>q) fun _ _ q=>q
  rintro rfl
  rcases hc with hc | hc
  ·rw [<- hc,I.free] at e;cases e
  ·rw [I.free] at hc;cases hc
 refine h _ ⟨I.ok,I.os,I.bare,⟨fun b o e n hb hx=>?_,fun b o e n hb hx=>?_,I.base.free,fun b o e hx=>?_,I.base.tups,I.base.frzs,I.base.tbls⟩,⟨_,hn',fun j y v' e1 e2 e3=>?_⟩,fun y c e=>?_,I.free,I.freeC,fun p hp=>?_,tracked,by simpa using I.len⟩
 ·exact (hs.2 b (Nat.ne_of_lt (Nat.lt_of_lt_of_le (Heap.lt_size e) I.ok.above))).trans (I.base.keep b o e n hb hx)
 ·obtain ⟨sl,e1⟩:=I.base.slot b o e n hb hx
  exact ⟨sl,(hs.2 b (Nat.ne_of_lt (Nat.lt_of_lt_of_le (Heap.lt_size e) I.ok.above))).trans e1⟩
 ·obtain ⟨o',e1⟩:=I.base.there b o e hx
  exact ⟨o',(hs.2 b (Nat.ne_of_lt (Nat.lt_of_lt_of_le (Heap.lt_size e) I.ok.above))).trans e1⟩
 ·by_cases hj:j=i
  ·subst hj
   rw [List.getElem?_set_self hiσ] at e2
   cases e2
  ·rw [List.getElem?_set_ne (Ne.symm hj)] at e2
   obtain ⟨u',r',q⟩:=hl j y v' e1 e2 e3
   refine ⟨u',r',?_⟩
   rcases q with ⟨k,e⟩ | ⟨k,c,e,z⟩
   ·refine .inl ⟨k,?_⟩
    have:y ≠ x:=fun e=>hj (rG hN e1 (e ▸ hi))
    simp [this,e]
   ·exact .inr ⟨k,c,e,z.sameBut hs (cne y c e)⟩
 ·obtain ⟨w',z⟩:=I.cell y c e
  exact ⟨w',z.sameBut hs (cne y c e)⟩
 ·obtain ⟨e,n,ne,nf,d⟩:=I.pin p hp
  exact ⟨(hs.2 p.1 ne).trans e,n,ne,nf,d⟩
theorem aC7 {a:Addr} {u:HO} (I:L2.Inv X pins σ H s) (hn:H a=none) (h0:X.s₀.heap.get? a=none) (hL:a ≠ X.env.locals) (hc:∀x c,X.env.cells.lookup x=some c->c ≠ a) (hp:∀p∈X.pn++pins,p.1 ≠ a)
  (new:dC X.prog X.w (upd H a u) s.heap a u):L2.Inv X pins σ (upd H a u) s:=by
 have ne:∀b w,H b=some w->b ≠ a:=fun b w e z=>by rw [z,hn] at e;cases e
 refine ⟨I.ok,I.os,I.bare,⟨I.base.keep,I.base.slot,fun b o e n hx=>?_,I.base.there,fun b xs e=>?_,fun b o w e=>?_,fun b ps e=>?_⟩,I.loc,I.cell,?_,fun x c e=>?_,fun p hp'=>?_,fun b w e=>?_,I.len⟩
 ·have hb:b ≠ a:=fun z=>by rw [z,h0] at e;cases e
  rw [aW hb];exact I.base.free b o e n hx
 ·have q:=I.base.tups b xs e
  rw [aW (ne _ _ q)];exact q
 ·have q:=I.base.frzs b o w e
  rw [aW (ne _ _ q)];exact q
 ·obtain ⟨m,q⟩:=I.base.tbls b ps e
  exact ⟨m,by rw [aW (ne _ _ q)];exact q⟩
 ·rw [aW (Ne.symm hL)];exact I.free
 ·rw [aW (hc x c e)];exact I.freeC x c e
 ·obtain ⟨e,n,r⟩:=I.pin p hp'
  exact ⟨e,by rw [aW (hp p hp')];exact n,r⟩
 ·by_cases hb:b=a
  ·subst hb
   rw [bR] at e;cases e
   exact new
  ·rw [aW hb] at e
   exact (I.hok b w e).stay (fun _ _ _ q=>q) (fun c q=>by rw [aW (ne _ _ q)];exact q) fun c ys q=>by rw [aW (ne _ _ q)];exact q
theorem aOr {E1:Y9} (I:L2.Inv X pins σ H s):L2.Inv { X with xe:=E1,pn:=X.pn++pins } [] σ H s :=
 ⟨⟨I.ok.mod,I.ok.kind,I.ok.glob,I.ok.blt,I.ok.above,I.ok.inj,I.ok.has,I.ok.cab,I.ok.hd,I.ok.frames,I.ok.stk,I.ok.exf,I.ok.bs,I.ok.bsz,I.ok.noex,I.ok.exfs,I.ok.funs,I.ok.frf⟩,I.os,I.bare,I.base,I.loc,I.cell,I.free,I.freeC,fun p hp=>I.pin p (by simpa using hp),I.hok,I.len⟩
theorem qJ {E1:Y9} (I:L2.Inv { X with xe:=E1,pn:=X.pn++pins } pins' σ H s):L2.Inv X pins σ H s :=
 ⟨⟨I.ok.mod,I.ok.kind,I.ok.glob,I.ok.blt,I.ok.above,I.ok.inj,I.ok.has,I.ok.cab,I.ok.hd,I.ok.frames,I.ok.stk,I.ok.exf,I.ok.bs,I.ok.bsz,I.ok.noex,I.ok.exfs,I.ok.funs,I.ok.frf⟩,I.os,I.bare,I.base,I.loc,I.cell,I.free,I.freeC,fun p hp=>I.pin p (List.mem_append_left _ hp),I.hok,I.len⟩
abbrev inX (X:Cx) (e:Addr) (E2:Y9):Cx:={ X with A:=X.A.mark (some (.ref e)),calm:=false,xe:=E2 }
theorem aGs {e:Addr} {E2:Y9} (I:L2.Inv X pins σ H s):L2.Inv (inX X e E2) pins σ H s :=
 ⟨⟨I.ok.mod,I.ok.kind,I.ok.glob,I.ok.blt,I.ok.above,I.ok.inj,I.ok.has,I.ok.cab,(fun z=>by cases z),I.ok.frames,I.ok.stk,I.ok.exf,I.ok.bs,I.ok.bsz,I.ok.noex,I.ok.exfs,I.ok.funs,I.ok.frf⟩,I.os,I.bare,I.base,I.loc,I.cell,I.free,I.freeC,I.pin,I.hok,I.len⟩
theorem aJ9 {e:Addr} {E2:Y9} (hd:X.calm=true->X.A.handled=none) (I:L2.Inv (inX X e E2) pins σ H s):L2.Inv X pins σ H s :=
 ⟨⟨I.ok.mod,I.ok.kind,I.ok.glob,I.ok.blt,I.ok.above,I.ok.inj,I.ok.has,I.ok.cab,hd,I.ok.frames,I.ok.stk,I.ok.exf,I.ok.bs,I.ok.bsz,I.ok.noex,I.ok.exfs,I.ok.funs,I.ok.frf⟩,I.os,I.bare,I.base,I.loc,I.cell,I.free,I.freeC,I.pin,I.hok,I.len⟩
def kK (ie:Nat) (ct:Str->Bool) (h:aQ) (c:Str):aQ:=fun ρ=>if ct c && free ρ ie then (match h (ρ.set ie (.val (.ext false (.exc c)))) with | .next ρ2=>(match ρ2[ie]? with | some (.val _)=>.next (ρ2.set ie .un) | _=>.bad) | _=>.bad) else .bad
def zR (ie:Nat) (ct:Str->Bool) (b h:aQ):aQ:=fun ρ=>match b ρ with
 | .exc c ρ'=>kK ie ct h c ρ' | o=>o
theorem aNq {P:Program} {w:World} {Hx:Hp} {h:Heap} {a C:Addr} {o:Obj} {vs:Array Value} (e:h.get? a=some o) (c:o.cls=.ref C) (d:o.data=.fields vs):dC P w Hx h a (ExcAt a C):=by
 refine ⟨⟨o,vs,e,c,d⟩,⟨o,e⟩,fun h1 h2 ⟨o1,vs1,e1,c1,d1⟩ k=>⟨o1,vs1,k o1 e1,c1,d1⟩⟩
theorem Sim.drop {K:FG} {F H:Hp} {σ:L2.St} {ρ:Env} {fps:Y5} (S:Sim K F H σ ρ fps) (i:Nat):Sim K F H (σ.set i none) (ρ.set i .un) (fps.set i []):=by
 have hsub:∀b∈(fps.set i []).flatten,b∈fps.flatten:=fun b hb=>(bB hb).elim id (fun q=>by cases q)
 refine ⟨S.same,by simp [S.ls],by simp [S.lf],fun j s d e1 e2=>?_,iN S.nd List.nodup_nil (fun b hb=>by cases hb),fun a ha=>S.zone a (hsub a ha)⟩
 by_cases hj:i=j
 ·subst hj
  have hi:i < ρ.length:=by
   have:=(List.getElem?_eq_some_iff.mp e1).1
   simpa using this
  rw [List.getElem?_set_self hi] at e1;cases e1;cases e2
 ·rw [List.getElem?_set_ne hj] at e1
  obtain ⟨v,f,q1,q2,q3⟩:=S.at_ j s d e1 e2
  exact ⟨v,f,by rw [List.getElem?_set_ne hj];exact q1,by rw [List.getElem?_set_ne hj];exact q2,q3⟩
end
section
variable {X:Cx} {W:XW} {pos hpos np:Pos}
theorem aO0 {ie:Nat} {ct:Str->Bool} {cn n:Str} {Cn:Addr} {body:List Stmt} {b₀:Stmt} {suite:List Stmt} {b h:aQ} (nd:X.N.Nodup) (hex:X.ex=[]) (hstk:X.stack=X.env::X.outer) (hfrm:X.env.frame=some X.env.locals) (hie:X.N[ie]?=some n) (hn:X.env.scope.names.lookup n=some .local)
  (hcn:dZ X.K cn Cn) (hcg:Gl X cn) (hcm:X.mg cn=some (.ref Cn)) (hcd:(cn == ("__debug__" : Str))=false)
  (hct:∀c C,ct c=true->dZ X.K c C->PySem.W.exmOne X.K (.ref C) (.ref Cn)=some true)
  (hb:∀(E1:Y9) (pn1:Y8) (W1:XW),Lk { X with xe:=E1,pn:=pn1 } W1->SSs { X with xe:=E1,pn:=pn1 } W1 body b)
  (hh:∀(e:Addr) (E2:Y9),SSs (inX X e E2) (fun _ _ _=>False) (b₀::suite) h) :
  SS X W (.Try body [.ExceptHandler (some (.Name cn np)) (some n) (b₀::suite) hpos] [] [] pos) (zR ie ct b h):=by
 intro pins s σ H D I hD
 obtain ⟨ρ,F,fps,S,hD⟩:=hD
 let E1:Value->Shared->Prop:=fun v s1=>wpAny (model X.prog X.w) X.A (noteFrame v X.env) (fun _ s2=>wpAny (model X.prog X.w) X.A (setFlight v none) (fun _ s3=>wpAny (model X.prog X.w) X.A (handleBy v X.env [.ExceptHandler (some (.Name cn np)) (some n) (b₀::suite) hpos]) (SP X pins D) X.xe s3) X.xe s2) X.xe s1
 let W1:XW:=fun c=>sv X.K W (kK ie ct h c) D
 have hE1:Lk { X with xe:=E1,pn:=X.pn++pins } W1:=by
  refine ⟨fun pins' σ1 H1 s1 v s' I1 hx=>?_,PassesOwn.looking⟩
  obtain ⟨e,C,H',B,a0,rfl,os,bare,un,hok,fl,inB,trk,c,C',eC,hC,hW⟩:=hx
  cases eC
  have J:=qJ I1
  have un:Un (frs X.stack) [] H1 H' s1.heap s'.heap:=un
  have fl:Heap.FlyingW B X.stack e (.ref C) a0 s'.heap:=fl
  have inB:∀b o,s1.heap.get? b=some o->b ∉ frs X.stack->∃o',B.get? b=some o':=inB
  rw [hstk] at fl
  have hfr:X.A.frames=some (X.env::X.outer):=by rw [<- hstk];exact J.ok.frames
  have e1:s1.heap.get? e=none:=by
   cases q:s1.heap.get? e with
   | none=>rfl
   | some o =>
    by_cases hb:e∈frs X.stack
    ·obtain ⟨_,o',q',d⟩:=fl.2.2.1.mem (show e∈(X.env::X.outer).filterMap (·.frame) by rw [<- hstk];exact hb)
     obtain ⟨oe,ws,q2,_,d2,_⟩:=fl.first
     rw [q'] at q2;cases q2
     exact absurd d2 (d ws)
    ·obtain ⟨o',q'⟩:=inB e o q hb
     rw [fl.2.1] at q';cases q'
  have He:H' e=none:=by
   cases q:H' e with
   | none=>rfl
   | some u=>obtain ⟨o',q'⟩:=trk e u q;rw [fl.2.1] at q';cases q'
  have after:∀(h2:Heap) (tk:Nat),B.StaysIn h2->s'.heap.UpToSlots h2->L2.Inv X pins σ1 H' { s' with heap:=h2,toks:=tk }:=fun h2 tk hT up=>by
   obtain ⟨u2,ok2⟩:=zN (fs:=frs X.stack) un hok fl.1 hT inB trk up (aOn J)
   exact J.yX (s':={ s' with heap:=h2,toks:=tk }) (ch:=[]) os u2 ok2 bare (fun b z=>absurd z (by simp))
  show wpAny _ _ (noteFrame (.ref e) X.env) _ _ s'
  refine wpAny_looks_onW hfr hfrm fl fun h4 held up4=>?_
  refine wpAny_landsW held fun h5 fl5 up5=>?_
  have up45:=up4.trans up5
  have I5:=after h5 s'.toks fl5.1 up45
  refine wpAny_handleBy_cons (codeAny_handlers_test (nW (X:=inX X e fun _ _=>False) (aGs I5) hcg hcm ?_ hcd)) (by intro q;cases q)
  obtain ⟨ob,hob,hobc⟩:=fl5.there
  have LT:PySem.W.Looks (model X.prog X.w) h5 (typeOf (.ref e)) (.ref C):=hobc ▸ (PySem.W.Looks.ld hob).andThen .now
  obtain ⟨ρ',F',fps',S',hW⟩:=hW
  by_cases hc:(ct c && free ρ' ie)=true
  ·have hc':=hc
   rw [Bool.and_eq_true] at hc'
   refine (PySem.W.exm_one (K:=X.K) I5.kIn LT (hct c C hc'.1 hC)).here ?_
   refine codeAny_handlers_suite_as ?_
   refine lands_againW fl5 fun h6 fl6 up6=>?_
   have I6:=after h6 s'.toks fl6.1 (up45.trans up6)
   obtain ⟨oe,ws,q1,q2,q3,_⟩:=fl6.first
   have I6':L2.Inv X pins σ1 (upd H' e (ExcAt e C)) { s' with heap:=h6 }:=by
    refine aC7 I6 He ?_ ?_ (fun x c' ec z=>?_) (fun p hp z=>?_) (aNq q1 q2 q3)
    ·cases q:X.s₀.heap.get? e with
     | none=>rfl
     | some o =>
      by_cases hx:e∈X.ex
      ·rw [hex] at hx;cases hx
      ·obtain ⟨o',q'⟩:=J.base.there e o q hx
       rw [e1] at q';cases q'
    ·intro z
     obtain ⟨m,⟨oL,_,_,hL,_⟩,_⟩:=J.loc
     rw [<- z,e1] at hL;cases hL
    ·obtain ⟨v,oc,q,_⟩:=J.cell x c' ec
     rw [z,e1] at q;cases q
    ·have q:=(J.pin p hp).1
     rw [z,e1] at q;cases q
   have hW:bZ X.K W F' H' fps'.flatten ρ' σ1 D (kK ie ct h c ρ'):=hW
   unfold kK at hW
   rw [if_pos hc] at hW
   have gE:Grow F' H' (upd F' e (ExcAt e C)) (upd H' e (ExcAt e C)):=Grow.both S'.same He
   have oE:Own X.K (upd F' e (ExcAt e C)) (upd H' e (ExcAt e C)) (.ext false (.exc c)) (.ref e) []:=by
    unfold Own
    exact ⟨e,ExcAt e C,rfl,⟨C,hC,rfl⟩,.inr ⟨rfl,bR,rfl⟩⟩
   have S2:=(S'.grow gE).store (i:=ie) oE List.nodup_nil (fun b hb=>by cases hb)
   refine nM (X:=inX X e fun _ _=>False) (aGs I6') nd hie (.inl hn) (v:=.ref e) rfl (fun s7 I7=>?_) (.inr hn)
   cases eh:h (ρ'.set ie (.val (.ext false (.exc c)))) with
   | next ρ2 =>
    rw [eh] at hW
    dsimp only at hW
    cases e2:ρ2[ie]? with
    | none=>rw [e2] at hW;exact hW.elim
    | some sl =>
     rw [e2] at hW
     cases sl with
     | un=>exact hW.elim
     | pin _=>exact hW.elim
     | val dd =>
      have hW:dI X.K F' H' fps'.flatten ρ' σ1 D.nx (ρ2.set ie .un):=hW
      refine wpAny_mono (hh e (fun _ _=>False) pins s7 _ _ { nx:=fun σ8 H8=>∃F8 fps8,Sim X.K F8 H8 σ8 ρ2 fps8/\Evo (upd F' e (ExcAt e C)) (upd H' e (ExcAt e C)) (fps'.set ie []).flatten F8 H8 fps8.flatten/\fA (ρ'.set ie (.val (.ext false (.exc c)))) (σ1.set ie (some (.ref e))) ρ2 σ8,rt:=fun _ _=>False } I7 ⟨_,_,_,S2,?_⟩) (fun f s8 q8=>?_) fun _ _ z=>z.elim
      ·rw [eh]
       exact fun σ' F8 H8 fps8 ev S8 p8=>⟨F8,fps8,S8,ev,p8⟩
      ·cases f with
       | next =>
        obtain ⟨σ8,H8,I8,F8,fps8,S8,ev8,p8⟩:=q8
        have I8:=aJ9 I.ok.hd I8
        refine aIy I8 nd hie hn fun s9 I9=>?_
        refine ⟨_,_,I9,hW _ F8 H8 _ ?_ (S8.drop ie) ?_⟩
        ·have hsub:∀b∈(fps'.set ie []).flatten,b∈fps'.flatten:=fun b hb=>(bB hb).elim id (fun q=>by cases q)
         have hsub8:∀b∈(fps8.set ie []).flatten,b∈fps8.flatten:=fun b hb=>(bB hb).elim id (fun q=>by cases q)
         have ev1:Evo F' H' fps'.flatten (upd F' e (ExcAt e C)) (upd H' e (ExcAt e C)) (fps'.set ie []).flatten:=gE.aR5 fun b hb=>.inl (hsub b hb)
         have ev2:=ev1.trans ev8
         exact ⟨ev2.fr,ev2.keep,ev2.dom,ev2.new,fun b hb=>ev2.zone b (hsub8 b hb)⟩
        ·intro j d ej
         have hj:ie ≠ j:=by
          rintro rfl
          have:=hc'.2
          unfold free at this
          rw [ej] at this;cases this
         obtain ⟨⟨d',q1⟩,q2⟩:=p8 j d (by rw [List.getElem?_set_ne hj];exact ej)
         exact ⟨⟨d',by rw [List.getElem?_set_ne hj];exact q1⟩,by rw [List.getElem?_set_ne hj,q2,List.getElem?_set_ne hj]⟩
       | ret _=>obtain ⟨_,_,_,_,_,z⟩:=q8;exact z.elim
       | brk=>obtain ⟨_,_,_,z⟩:=q8;exact z.elim
       | cont=>obtain ⟨_,_,_,z⟩:=q8;exact z.elim
   | ret _ _=>rw [eh] at hW;exact hW.elim
   | brk _=>rw [eh] at hW;exact hW.elim
   | cont _=>rw [eh] at hW;exact hW.elim
   | exc _ _=>rw [eh] at hW;exact hW.elim
   | bad=>rw [eh] at hW;exact hW.elim
  ·have hW:bZ X.K W F' H' fps'.flatten ρ' σ1 D (kK ie ct h c ρ'):=hW
   unfold kK at hW
   rw [if_neg hc] at hW;exact hW.elim
 have hbody:=hb E1 (X.pn++pins) W1 hE1
 refine wpAny_Try_except (wpAny_mono (hbody [] s σ H D (aOr I) ⟨ρ,F,fps,S,?_⟩) (fun f s1 q=>?_) fun _ _ z=>z)
 ·unfold zR at hD
  cases eb:b ρ with
  | next ρ'=>rw [eb] at hD;exact hD
  | ret d ρ'=>rw [eb] at hD;exact hD
  | brk ρ'=>rw [eb] at hD;exact hD
  | cont ρ'=>rw [eb] at hD;exact hD
  | bad=>rw [eb] at hD;exact hD
  | exc c ρ' =>
   rw [eb] at hD
   exact fun σ' F' H' fps' ev S' p=>⟨ρ',F',fps',S',bZ.lift ev p hD⟩
 ·cases f with
  | next=>obtain ⟨σ',H',J,q⟩:=q;exact wpAny_execs_nil ⟨σ',H',qJ J,q⟩
  | ret u=>obtain ⟨v,σ',H',J,r,q⟩:=q;exact ⟨v,σ',H',qJ J,r,q⟩
  | brk=>obtain ⟨σ',H',J,q⟩:=q;exact ⟨σ',H',qJ J,q⟩
  | cont=>obtain ⟨σ',H',J,q⟩:=q;exact ⟨σ',H',qJ J,q⟩
end
end VL
end
section
namespace VL
open PySem PySem.Spec PyProof.Rows L2
section
variable {X:Cx} {W:XW} {e a b c:Expr} {es:List Expr} {st:Stmt} {pos:Pos}
def fits (i:Int):Bool:=decide (-(2 ^ 200)<i) && decide (i<2 ^ 200)
theorem aG6 {i:Int} (h:fits i=true):i.natAbs<2 ^ 200:=by
 unfold fits at h
 rw [Bool.and_eq_true,decide_eq_true_iff,decide_eq_true_iff] at h
 have e:(2:Int) ^ 200=((2 ^ 200:Nat):Int):=by norm_cast
 rw [e] at h
 omega
theorem xA {i:Int} (h:fits i=true):i.natAbs.log2<200:=by
 by_cases h0:i.natAbs=0
 ·rw [h0];decide
 ·exact (Nat.log2_lt h0).mpr (aG6 h)
def aQt (i j:Int):Prop:=0<j/\fits j=true
theorem aEg:OpR X (binaryOp .FloorDiv) (rI aQt fun i j=>.int (i / j)):=opI fun i j _ _ _ _ _ hc q=>by
 have h1:(0:Int)<j:=hc.1
 exact floordiv_int (by omega) (by rw [Int.fdiv_eq_ediv_of_nonneg i (by omega)];exact q) (.inl (PyProof.noPylong_of_log2 (Nat.lt_trans (xA hc.2) (by decide))))
abbrev gK:=kIc (fun _ j=>decide (0<j) && fits j) fun i j=>.int (i / j)
theorem fS {f g:aL} (ha:SE X a f) (hb:SE X b g):SE X (.BinOp a .FloorDiv b pos) (v2 gK f g):=vY aEg (zG (fun _ _=>rfl) fun i j h=>by
 rw [Bool.and_eq_true,decide_eq_true_iff] at h;exact h) ha hb
theorem Op2.or {K:FG} {k k1 k2:D×Bool->D×Bool->R (D×Bool)} {r1 r2:R2} (h1:Op2 K k1 r1) (h2:Op2 K k2 r2) (hk:∀x y,k x y=k1 x y\/k x y=k2 x y):Op2 K k (fun x y H Q=>r1 x y H Q\/r2 x y H Q):=by
 intro F0 H0 F H x y v u fx fy Q gr o1 n1 q1 o2 n2 q2 h
 rcases hk x y with e | e
 ·rw [e] at h;exact .inl (h1 F0 H0 F H x y v u fx fy Q gr o1 n1 q1 o2 n2 q2 h)
 ·rw [e] at h;exact .inr (h2 F0 H0 F H x y v u fx fy Q gr o1 n1 q1 o2 n2 q2 h)
def bT:D×Bool->D×Bool->R (D×Bool):=fun x y=>match x.1 with
 | .int _=>aQz x y | .lst _ _=>aMw x y | .tup _=>aHi x y | _=>.bad
theorem aD1 (x y:D×Bool):bT x y=aQz x y\/(bT x y=aMw x y\/bT x y=aHi x y):=by
 obtain ⟨x,bx⟩:=x
 cases x<;>first | exact .inl rfl | exact .inr (.inl rfl) | exact .inr (.inr rfl)
theorem Op2.eqv {K:FG} {k k1 k2 k3:D×Bool->D×Bool->R (D×Bool)} {r1 r2 r3:R2} (h1:Op2 K k1 r1) (h2:Op2 K k2 r2) (h3:Op2 K k3 r3) (hk:∀x y,k x y=k1 x y\/(k x y=k2 x y\/k x y=k3 x y)):Op2 K k (fun x y H Q=>r1 x y H Q\/(r2 x y H Q\/r3 x y H Q)):=by
 intro F0 H0 F H x y v u fx fy Q gr o1 n1 q1 o2 n2 q2 h
 rcases hk x y with e | e | e
 ·rw [e] at h;exact .inl (h1 F0 H0 F H x y v u fx fy Q gr o1 n1 q1 o2 n2 q2 h)
 ·rw [e] at h;exact .inr (.inl (h2 F0 H0 F H x y v u fx fy Q gr o1 n1 q1 o2 n2 q2 h))
 ·rw [e] at h;exact .inr (.inr (h3 F0 H0 F H x y v u fx fy Q gr o1 n1 q1 o2 n2 q2 h))
theorem bK {f g:aL} (ha:SE X a f) (hb:SE X b g):SE X (.BinOp a .Add b pos) (v2 bT f g) :=
 vY (aNi.or (aJc.or aJ8)) (Op2.eqv (wD fun _ _=>rfl) aJ3 aE8 aD1) ha hb
def aLk (i j:Int):Prop:=fits i=true/\fits j=true
theorem intBits_le {i:Int} (h:fits i=true):Builtin.Int.intBits i<=2 ^ 20:=by
 unfold Builtin.Int.intBits
 have:=xA h
 split<;>omega
theorem aIr:OpR X (binaryOp .Mult) (rI aLk fun i j=>.int (i * j)):=opI fun i j _ _ _ _ _ hc q=>mul_int q (.of_bits (intBits_le hc.1) (intBits_le hc.2))
abbrev aKm:=kIc (fun i j=>fits i && fits j) fun i j=>.int (i * j)
theorem aGz {K:FG}:Op2 K aKm (rI aLk fun i j=>.int (i * j)):=zG (fun _ _=>rfl) fun i j h=>by
 rw [Bool.and_eq_true] at h;exact h
def aK4:D×Bool->D×Bool->R (D×Bool):=fun x y=>match x.1,y.1 with
 | .lst true ds,.int k=>if D.aZ ds && decide (k<1000000) && decide (-1000000<k) && decide (ds.length * k.toNat<=1000000) then .ok (.lst true (List.replicate k.toNat ds).flatten,true) else .bad
 | _,_=>.bad
theorem aGg {K:FG}:Op2 K aK4 aQn:=by
 intro F0 H0 F H x y v u fx fy Q gr o1 n1 k1 o2 n2 k2 h
 obtain ⟨x,bx⟩:=x
 obtain ⟨y,by'⟩:=y
 cases x<;>try exact h.elim
 rename_i o ds
 cases o
 ·cases y<;>exact h.elim
 ·cases y<;>try exact h.elim
  rename_i k
  have h:(if (D.aZ ds && decide (k<1000000) && decide (-1000000<k) && decide (ds.length * k.toNat<=1000000))=true then R.ok (D.lst true (List.replicate k.toNat ds).flatten,true) else R.bad).holds (EPost K F0 H0 Q):=h
  by_cases hc:(D.aZ ds && decide (k<1000000) && decide (-1000000<k) && decide (ds.length * k.toNat<=1000000))=true
  ·rw [if_pos hc] at h
   simp only [Bool.and_eq_true,decide_eq_true_iff] at hc
   obtain ⟨a,xs,fq,e1,r1,q0,q1,_⟩:=Own.opened o1
   unfold Own at o2
   have:=aF.dA ds hc.1.1.1 r1
   subst this
   refine ⟨a,k,xs,e1,o2.1,q1,by omega,by omega,?_,fun p hp=>EPost.yS gr h hp (aF.rep r1 _)⟩
   rw [<- aF.length ds r1];exact gT hc.2
  ·rw [if_neg hc] at h;exact h.elim
def jR:D×Bool->D×Bool->R (D×Bool):=fun x y=>match x.1 with
 | .int _=>aKm x y | .lst _ _=>aK4 x y | _=>.bad
theorem kO {f g:aL} (ha:SE X a f) (hb:SE X b g):SE X (.BinOp a .Mult b pos) (v2 jR f g) :=
 vY (aIr.or aNg) (Op2.or aGz aGg fun x y=>by
  obtain ⟨x,bx⟩:=x
  cases x<;>first | exact .inl rfl | exact .inr rfl) ha hb
theorem aFw {k:Nat} {f g:aL} (hr:Room k X.A) (ha:SE X a f) (hb:SE X b g):SE X (.Compare a [.Eq] [b] pos) (v2 (kEq false) f g):=aAs (aF7 hr) aAj ha hb (iX _)
theorem jY {k:Nat} {f g:aL} (hr:Room k X.A) (ha:SE X a f) (hb:SE X b g):ST X (.Compare a [.Eq] [b] pos) (aU (v2 (kEq false) f g)):=jP (aF7 hr) aAj ha hb (iX _)
theorem lV {k:Nat} {f g:aL} (hr:Room k X.A) (ha:SE X a f) (hb:SE X b g):ST X (.Compare a [.NotEq] [b] pos) (aU (v2 (kEq true) f g)):=jP (aL1 hr) aAj ha hb (iX _)
theorem aRq {k:Nat} {f g:aL} (hr:Room k X.A) (ha:SE X a f) (hb:SE X b g) (hm:behindInMarks .In b=false:=by with_unfolding_all rfl):SE X (.Compare a [.In] [b] pos) (v2 (kIn false) f g):=aAs (aNy hr) aG8 ha hb hm
theorem aMe {k:Nat} {f g:aL} (hr:Room k X.A) (ha:SE X a f) (hb:SE X b g) (hm:behindInMarks .NotIn b=false:=by with_unfolding_all rfl):ST X (.Compare a [.NotIn] [b] pos) (aU (v2 (kIn true) f g)):=jP (aDj hr) aG8 ha hb hm
theorem aHp {f g:aL} (ha:SE X a f) (hb:SE X b g):SE X (.Compare a [.IsNot] [b] pos) (v2 (nT true) f g):=aAs aA0 xY ha hb (iX _)
theorem zL {f g:aL} (ha:SE X a f) (hb:SE X b g):ST X (.Compare a [.Is] [b] pos) (aU (v2 (nT false) f g)):=jP aM6 aJ6 ha hb (iX _)
theorem aJe {f g:aL} (ha:SE X a f) (hb:SE X b g):ST X (.Compare a [.IsNot] [b] pos) (aU (v2 (nT true) f g)):=jP aA0 xY ha hb (iX _)
theorem aCa {f g:aL} (ha:SE X a f) (hb:SE X b g):ST X (.Compare a [.Lt] [b] pos) (aU (v2 kLt f g)):=jP aK9 aQv ha hb (iX _)
theorem aFr {f g:aL} (ha:SE X a f) (hb:SE X b g):ST X (.Compare a [.Gt] [b] pos) (aU (v2 kGt f g)):=jP aPf aPg ha hb (iX _)
theorem aLp {f g:aL} (ha:SE X a f) (hb:SE X b g):ST X (.Compare a [.GtE] [b] pos) (aU (v2 kGe f g)):=jP aQw aQj ha hb (iX _)
theorem gW (i:Nat) {x:Str} {f:aL} {p ap cp pos':Pos} (he:SE X e f) (hN:X.N[i]?=some x:=by rfl) (hv:Vis X.env.scope x:=by first | exact Or.inl rfl | exact Or.inr (Or.inl rfl) | exact Or.inr (Or.inr rfl)) (hd:(x == ("__debug__" : Str))=false:=by decide)
  (hcd:(x == ("__classdict__" : Str))=false:=by decide) (hs:swapsWith (.Call (.Attribute (.Name x p) "append" ap) [e] [] cp) none pos'.line X.env=pure false:=by rfl)
  (hbase:attributeBase (.Name x p) "append" X.env (eval (.Name x p) X.env)=eval (.Name x p) X.env:=by rfl)
  (hfew:((backTo cp (starEach [e] X.env)).all (fun x=>!x.1) && (backToKw cp (keywordEach [] X.env)).all (fun x=>x.1.isSome)
   && decide (([e]:List Expr).length+([]:List Keyword).length+(if ([]:List Keyword).isEmpty then 0 else 1)<30))=true:=by rfl)
  (hline:(ap.endLine == cp.line)=true:=by rfl) (hst:starEach [e] X.env=(false,eval e X.env)::starEach [] X.env:=by rfl) (hplain:(backTo cp (starEach [] X.env)).any (·.1)=false:=by rfl) :
  SS X W (.Expr (.Call (.Attribute (.Name x p) "append" ap) [e] [] cp) pos') (dH i f) :=
 (vK (aEk PySem.F.plainAttrs_list PySem.F.slot_list_append PySem.F.type_list_append oJ (rK hN hv hd hcd) (gN he mS hst) hbase hfew hline hst hplain) hs).imp fun _ _ _ h=>aDa h
theorem aIm {elt iter tg:Expr} {ifs:List Expr} {scope:Scope} {f:jF} {N:List Str} {nt:Nat} {js:T0} {set:D->Env->Option Env} {g:TG} {tc:bU} {te:aL}
  (hc:X.calm=true) (hi:SI X tg iter f) (ht:Tgt X.K set g) (hkind:scope.kind=.function) (hcell:∀y∈scope.names,y.2 ≠ .cell) (hnames:∀y∈scope.names,y.2=.local->scope.names.lookup y.1=some .local)
  (hfr:∀y∈scope.names,y.2=.free->X.env.kindOf y.1=some .cell\/X.env.kindOf y.1=some .free)
  (hlen:nt+js.length=N.length)
  (hjs:∀(k:Nat) (j:Nat),js[k]?=some j->∃x,N[nt+k]?=some x/\X.N[j]?=some x/\scope.names.lookup x=some .free)
  (hb:∀cl s3 H3 fp,PG (blk X scope cl N s3 H3 fp) tg g/\PTs (blk X scope cl N s3 H3 fp) ifs (tvT X.K tc)/\SE (blk X scope cl N s3 H3 fp) elt te)
  (hs:∀x,foldedSetIterable iter X.env x=pure x:=by intro _;rfl):SE X (.ListComp elt [⟨tg,iter,ifs,0⟩] scope pos) (cG f nt js set tc te) :=
 (aJ2 hc hi hkind hcell hnames hfr hlen hjs hb hs).imp fun _ _ _ h=>aBg ht h
def cJ:bU:=fun _=>.ok true
theorem yK {Y:Cx}:PTs Y [] (tvT Y.K cJ):=fun pins s σ H Q I h=>aJb pins s σ H Q I (by
 obtain ⟨ρ,F,fps,S,h⟩:=h
 exact h F H (Grow.refl S.same))
theorem aTy {Y:Cx} {c:Expr} {t:bU} (h:ST Y c t):PTs Y [c] (tvT Y.K t):=aKe h
theorem eE {f:aL} {p:Pos} (hm:X.mg "len" = none) (ha:SE X a f) (hg:Gl X "len" :=by rfl) (hs:starEach [a] X.env=(false,eval a X.env)::starEach [] X.env:=by rfl):SE X (.Call (.Name "len" p) [a] [] pos) (vCB fG (aC f aK)) :=
 xN vH aHz hm PySem.boot_len (aB ha aH hs) hg (by decide) (by decide) hs
theorem vP {f:aL} {p:Pos} (hm:X.mg "list" = none) (ha:SE X a f) (hg:Gl X "list" :=by rfl) (hs:starEach [a] X.env=(false,eval a X.env)::starEach [] X.env:=by rfl) (hv:bootBuiltins "list" = some (.type "list"):=by decide +kernel):SE X (.Call (.Name "list" p) [a] [] pos) (vCB kM (aC f aK)) :=
 aD2 uR aGn hm hv (aB ha aH hs) hg (by decide) (by decide) hs
theorem aEi {f:aL} {p:Pos} (hm:X.mg "tuple" = none) (ha:SE X a f) (hg:Gl X "tuple" :=by rfl) (hs:starEach [a] X.env=(false,eval a X.env)::starEach [] X.env:=by rfl) (hv:bootBuiltins "tuple" = some (.type "tuple"):=by decide +kernel):SE X (.Call (.Name "tuple" p) [a] [] pos) (vCB uF (aC f aK)) :=
 aD2 sT aDp hm hv (aB ha aH hs) hg (by decide) (by decide) hs
theorem aMf {f:aL} {p:Pos} (hc:X.calm=true) (hm:X.mg "sum" = none) (ha:SE X a f) (hg:Gl X "sum" :=by rfl) (hs:starEach [a] X.env=(false,eval a X.env)::starEach [] X.env:=by rfl) (hv:bootBuiltins "sum" = some (.builtin "sum"):=by decide +kernel):SE X (.Call (.Name "sum" p) [a] [] pos) (vCB aIs (aC f aK)) :=
 xN (aDw hc) aJi hm hv (aB ha aH hs) hg (by decide) (by decide) hs
theorem aI6 {f g:aL} {p:Pos} (hc:X.calm=true) (hm:X.mg "max" = none) (ha:SE X a f) (hb:SE X b g) (hg:Gl X "max" :=by rfl) (hs:starEach [a,b] X.env=(false,eval a X.env)::starEach [b] X.env:=by rfl) (hs2:starEach [b] X.env=(false,eval b X.env)::starEach [] X.env:=by rfl) (hv:bootBuiltins "max" = some (.builtin "max"):=by decide +kernel)
  (hpl:(backTo pos (starEach [b] X.env)).any (·.1)=false:=by rfl):SE X (.Call (.Name "max" p) [a,b] [] pos) (vCB (k2i fun i j=>if j > i then j else i) (aC f (aC g aK))) :=
 xN (aCk hc) aNf hm hv (aB ha (aB hb aH hs2) hs) hg (by decide) (by decide) hs hpl
def dO:List D->Option (List Bool)
 | []=>some []
 | .bl i::ds=>(dO ds).map (i::·)
 | _=>none
theorem iP {K:FG} {F H:Hp}:∀(ds:List D) {ns:List Bool} {xs:List V} {fp:Y2},dO ds=some ns->aF K F H ds xs fp->xs=ns.map V.bl
 | [],ns,xs,fp,e,o=>by unfold dO at e;cases e;unfold aF at o;exact o.1
 | d::ds,ns,xs,fp,e,o=>by
  cases d<;>try (unfold dO at e;cases e;done)
  rename_i i
  unfold dO at e
  cases q:dO ds with
  | none=>rw [q] at e;cases e
  | some ms =>
   rw [q] at e
   have e:some (i::ms)=some ns:=e
   cases e
   unfold aF at o
   obtain ⟨v,r,f1,f2,e1,o1,o2,_⟩:=o
   unfold Own at o1
   rw [e1,o1.1,iP ds q o2];rfl
theorem all_range {ns:List Bool}:((List.range ns.length).all fun i=>ns.getD i true)=ns.all id:=by
 induction ns with
 | nil=>rfl
 | cons n r ih =>
  rw [List.length_cons,List.range_succ_eq_map,List.all_cons,List.all_map,List.all_cons,<- ih]
  rfl
theorem aDo (hc:X.calm=true):jI X (.builtin "all") (fun xs H Q=>∃(p:Addr) (ns:List Bool),xs=[.ref p]/\SqL X.K H p (ns.map V.bl)/\Q (.bl (ns.all id)) H):=by
 intro pins s σ H xs us Q I r h
 obtain ⟨p,ns,rfl,hq,q⟩:=h
 obtain ⟨u,rfl,ru⟩:=vals1 r
 cases ru
 obtain ⟨its,rv,pl,_⟩:=I.list hq
 have hl:=rv.length
 rw [List.length_map] at hl
 refine call_all_walk (wpAny_pyIter_list pl.isList ?_)
 have hne:p ≠ s.heap.objs.size:=fun z=>by
  obtain ⟨o,ho,_⟩:=pl.isList
  exact absurd (Heap.lt_size ho) (by rw [z];exact Nat.lt_irrefl _)
 refine ⟨s.heap.objs.size,_,_,its.toArray.size,_,_,fun i=>ns.getD i true,rfl,Walks.list (A:=X.A.in1) (show X.A.in1.handled=none from I.ok.hd hc) s.heap.objs.size p hne its.toArray,⟨⟨_,Heap.get?_push_size _ rfl,rfl,rfl⟩,pl.isList.push _⟩,fun i v s' Q' E' hP hQ=>?_,fun h' tk hk=>?_⟩
 ·have hP:its[i]?=some v:=by simpa using hP
  have hi:i<ns.length:=by rw [hl];exact (List.getElem?_eq_some_iff.mp hP).1
  obtain ⟨u',e',ru'⟩:=rv.get (i:=i) (x:=V.bl ns[i]) (by rw [List.getElem?_map,List.getElem?_eq_getElem hi];rfl)
  rw [hP] at e';cases e'
  cases ru'
  have:ns.getD i true=ns[i]:=by simp [List.getD,List.getElem?_eq_getElem hi]
  have hQ:Q' (ns.getD i true) s':=hQ
  rw [this] at hQ
  exact wpAny_truthy_bool hQ
 ·rw [List.size_toArray,<- hl,all_range]
  refine ⟨.bl _,H,?_,rfl,q⟩
  refine I.kept (t':=tk) fun b o e=>hk b o (fun z=>?_) (Heap.get?_push_of_some _ e)
  have z':b=s.heap.objs.size:=by simpa using z
  exact absurd (Heap.lt_size e) (by rw [z'];exact Nat.lt_irrefl _)
def aDq:List (D×Bool)->R (D×Bool)
 | [(.lst _ ds,_)]=>(match dO ds with | some ns=>.ok (.bl (ns.all id),true) | none=>.bad) | _=>.bad
theorem aIp {K:FG}:OpA K aDq (fun xs H Q=>∃(p:Addr) (ns:List Bool),xs=[.ref p]/\SqL K H p (ns.map V.bl)/\Q (.bl (ns.all id)) H):=by
 intro F0 H0 F H xs vs fa Q gr a n k h
 match xs,h,a with
 | [(.lst o ds,b)],h,a =>
  unfold Args at a
  obtain ⟨v,r,fp,f2,e,o1,n1,t,w⟩:=a
  unfold Args at t
  obtain ⟨p,ys,fq,e1,q1,r1,_⟩:=Own.lst gr.inn o1
  have h:(match dO ds with | some ns=>R.ok (D.bl (ns.all id),true) | none=>R.bad).holds (EPost K F0 H0 Q):=h
  cases q:dO ds with
  | none=>rw [q] at h;exact h.elim
  | some ns =>
   rw [q] at h
   rw [iP ds q r1] at q1
   exact ⟨p,ns,by rw [e,t.1,e1],q1,EPost.dE gr h rfl⟩
theorem aOo {f:aL} {p:Pos} (hc:X.calm=true) (hm:X.mg "all" = none) (ha:SE X a f) (hg:Gl X "all" :=by rfl) (hs:starEach [a] X.env=(false,eval a X.env)::starEach [] X.env:=by rfl) (hv:bootBuiltins "all" = some (.builtin "all"):=by decide +kernel):SE X (.Call (.Name "all" p) [a] [] pos) (vCB aDq (aC f aK)) :=
 xN (aDo hc) aIp hm hv (aB ha aH hs) hg (by decide) (by decide) hs
theorem _root_.L2.PI.or {tg it:Expr} {t t':TI} (h:PI X tg it t) (h':PI X tg it t'):PI X tg it (fun σ H R=>t σ H R\/t' σ H R):=by
 intro pins s σ H R I q
 rcases q with q | q
 ·exact h pins s σ H R I q
 ·exact h' pins s σ H R I q
theorem lY {tg:Expr} {f:aL} (h:SE X e f):SI X tg e (kA f):=((aIq h).or (aOt h)).imp fun _ _ _ h=>aL4 h
theorem uS {f:aL} {p tp:Pos} {elts:List Expr} {k:Nat} (hm:X.mg "enumerate" = none) (ha:SE X a f) (hg:Gl X "enumerate" :=by rfl) (hs:starEach [a] X.env=[(false,eval a X.env)]:=by rfl) (hs1:starEach [a] X.env=(false,eval a X.env)::starEach [] X.env:=by rfl):SI X (.Tuple elts k tp) (.Call (.Name "enumerate" p) [a] [] pos) (zW f) :=
 (aH0 hg hm (gN ha mS hs1) hs).imp fun _ _ _ h=>aMp h
end
end VL
end
section
namespace VL
open PySem PySem.Spec PyProof.Rows L2
structure FnAt (K:FG) (x:Str) (st:Stmt):Prop where
 ex:∃(f:Addr) (fd:FuncData),PySem.W.nsIn K mainGlobals x=some (some (.ref f))/\Fun K x x st f fd
theorem bV {K:FG} {x:Str} {st:Stmt} {f:Addr} {oc:Value} {od an:Option Addr} {osl:Array (Option Value)} {kV doc pm cdv ct:Value} (a:PySem.W.nsIn K mainGlobals x=some (some (.ref f))) (l:K.lookup f=some ⟨oc,od,.func (PySem.W.fnOf x x (iJ st) (fB st) (aO st) .none kV doc pm an cdv ct),osl⟩)
  (c:PySem.W.codeIn K cdv x=true) (k:PySem.W.keepIn K (.ref f)=true):FnAt K x st:=⟨f,_,a,aMg l c k⟩
section
variable {P:Program} {w:World} {K:FG} {mg:Y6} {base:Heap}
theorem fE {x:Str} {st:Stmt} {N ps:List Str} {k n np:Nat} {body:aQ} (F:FnAt K x st) (kb:K.In base) (nb:base.Ns mainGlobals mg) (S:FnScope N ps (aO st)) (hN:N.length=n) (hnp:ps.length=np) (hk:np<=n)
  (hb:∀(kV doc pm:Value) (an:Option Addr) (cdv ct:Value) (us:Y1),us.length=ps.length->bindArgs (PySem.W.fnOf x x (iJ st) (fB st) (aO st) .none kV doc pm an cdv ct) ⟨us,[]⟩=pure (ps.zip us))
  (hbody:∀(f:Addr) (cdv:Value) (A:Around) (outer:List PySem.Env) (s:Shared) (H:Hp) (E:XK),Room k (A.deeper (envOfC x (aO st) s.heap.objs.size f cdv)) ->
   SSs (lO (CX1 P w) P w K mg base N x (aO st) f cdv A outer s H E) (wOf K E) (fB st) body):Kn P w K mg base (k+1) x np (fnOf n body):=by
 obtain ⟨f,fd,hf,F⟩:=F.ex
 refine ⟨f,fd,ps,?_,PySem.W.mg_of kb nb hf,F.kp,F.binds hb⟩
 obtain ⟨oc,od,kV,doc,pm,an,cdv,ct,osl,rfl,lk,hcd⟩:=F.ex
 refine aK5 lk hcd S (fun vs H Q E h=>h.1.trans hnp.symm) fun A outer s H vs Q E hr hsp=>?_
 exact ⟨_,hbody f cdv A outer s H E hr,aLd hN hk hsp⟩
end
def uH (scope sc:Scope) (N XN:List Str) (nt:Nat) (js:T0):Bool :=
 (scope.kind == .function) && (scope.names.all fun y=>y.2 != .cell) && (scope.names.all fun y=>y.2 != .local || scope.names.lookup y.1 == some .local) &&
 (scope.names.all fun y=>y.2 != .free || (sc.names.lookup y.1 == some .cell || sc.names.lookup y.1 == some .free)) && (nt+js.length == N.length) &&
 (js.zipIdx.all fun p=>match N[nt+p.2]?,XN[p.1]? with | some x,some y=>x == y && scope.names.lookup x == some .free | _,_=>false)
section
variable {X:Cx} {pos:Pos}
theorem jB {elt iter tg:Expr} {ifs:List Expr} {scope:Scope} {f:jF} (sc:Scope) (XN N:List Str) (nt:Nat) (js:T0) {set:D->Env->Option Env} {g:TG} {tc:bU} {te:aL}
  (hc:X.calm=true) (hsc:X.env.scope=sc) (hXN:X.N=XN) (hi:SI X tg iter f) (ht:Tgt X.K set g) (hok:uH scope sc N XN nt js=true)
  (hb:∀cl s3 H3 fp,PG (blk X scope cl N s3 H3 fp) tg g/\PTs (blk X scope cl N s3 H3 fp) ifs (tvT X.K tc)/\SE (blk X scope cl N s3 H3 fp) elt te)
  (hs:∀x,foldedSetIterable iter X.env x=pure x:=by intro _;rfl):SE X (.ListComp elt [⟨tg,iter,ifs,0⟩] scope pos) (cG f nt js set tc te):=by
 subst hsc;subst hXN
 unfold uH at hok
 simp only [Bool.and_eq_true,List.all_eq_true,Bool.or_eq_true,bne_iff_ne,beq_iff_eq,ne_eq] at hok
 obtain ⟨⟨⟨⟨⟨h1,h2⟩,h3⟩,h4⟩,h5⟩,h6⟩:=hok
 refine aIm hc hi ht h1 h2 (fun y hy e=>(h3 y hy).resolve_left fun z=>z e) (fun y hy e=>(h4 y hy).resolve_left fun z=>z e) h5 (fun k j e=>?_) hb hs
 have hm:(j,k)∈js.zipIdx:=by
  rw [List.mem_iff_getElem?]
  exact ⟨k,by rw [List.getElem?_zipIdx,e];simp⟩
 have:=h6 (j,k) hm
 dsimp only at this
 split at this
 ·rename_i x y e1 e2
  rw [Bool.and_eq_true,beq_iff_eq,beq_iff_eq] at this
  exact ⟨x,e1,by rw [e2,this.1],this.2⟩
 ·cases this
theorem kT (i:Nat) {y:Str} {py spos:Pos} {W:XW} {elt iter tg:Expr} {ifs:List Expr} {scope:Scope} {f:jF} (nd:X.N.Nodup) (sc:Scope) (XN N:List Str) (nt:Nat) (js:T0) {set:D->Env->Option Env} {g:TG} {tc:bU} {te:aL}
  (hc:X.calm=true) (hsc:X.env.scope=sc) (hXN:X.N=XN) (hi:SI X tg iter f) (ht:Tgt X.K set g) (hok:uH scope sc N XN nt js=true)
  (hb:∀cl s3 H3 fp,PG (blk X scope cl N s3 H3 fp) tg g/\PTs (blk X scope cl N s3 H3 fp) ifs (tvT X.K tc)/\SE (blk X scope cl N s3 H3 fp) elt te)
  (hi0:X.N[i]?=some y:=by rfl) (hx:X.env.scope.names.lookup y=some .local:=by rfl) (hsw:swapsWith (.ListComp elt [⟨tg,iter,ifs,0⟩] scope pos) (some (.Name y py)) spos.line X.env=pure true:=by rfl)
  (hs:∀x,foldedSetIterable iter X.env x=pure x:=by intro _;rfl):SS X W (.Assign [.Name y py] (.ListComp elt [⟨tg,iter,ifs,0⟩] scope pos) spos) (bC i (xOf (cG f nt js set tc te))):=by
 subst hsc;subst hXN
 unfold uH at hok
 simp only [Bool.and_eq_true,List.all_eq_true,Bool.or_eq_true,bne_iff_ne,beq_iff_eq,ne_eq] at hok
 obtain ⟨⟨⟨⟨⟨h1,h2⟩,h3⟩,h4⟩,h5⟩,h6⟩:=hok
 refine (aAt nd hi0 hx hsw hc hi h1 h2 (fun y hy e=>(h3 y hy).resolve_left fun z=>z e) (fun y hy e=>(h4 y hy).resolve_left fun z=>z e) h5 (fun k j e=>?_) hb hs).imp fun _ _ _ h=>aBg ht (aLf (aEv h))
 have hm:(j,k)∈js.zipIdx:=by
  rw [List.mem_iff_getElem?]
  exact ⟨k,by rw [List.getElem?_zipIdx,e];simp⟩
 have:=h6 (j,k) hm
 dsimp only at this
 split at this
 ·rename_i x y e1 e2
  rw [Bool.and_eq_true,beq_iff_eq,beq_iff_eq] at this
  exact ⟨x,e1,by rw [e2,this.1],this.2⟩
 ·cases this
end
end VL
end
section
namespace VL
open PySem PySem.Spec PyProof.Rows L2
open Sem (wp)
section
variable {prog:Program} {w:World} {A:Around} {E:Y9} {s:Shared}
end
section
variable {prog:Program} {w:World} {A:Around} {E:Y9} {s:Shared}
end
end VL
namespace VL
open PySem PySem.Spec PyProof.Rows L2
section
variable {X:Cx} {pins:Y8} {σ:L2.St} {H:Hp} {s:Shared}
end
section
variable {K:FG} {F H:Hp} {σ:L2.St}
end
end VL
end
section
namespace VL
open PySem PySem.Spec PyProof.Rows L2
open Sem (wp)
section
variable {X:Cx} {a b e:Expr} {pos:Pos}
def aVe:List (D×Bool)->R (D×Bool)
 | [(.lst _ ds,_)]=>(match dO ds with | some ns=>.ok (.bl (ns.any id),true) | none=>.bad) | _=>.bad
def aVn:List (D×Bool)->R (D×Bool)
 | [(.int i,_)]=>.ok (.int i,true) | [(.bl b,_)]=>.ok (.int (if b then 1 else 0),true) | _=>.bad
end
end VL
end
section
namespace VL
open PySem PySem.Spec PyProof.Rows L2
section
variable {X:Cx} {W:XW} {e a b:Expr} {es:List Expr} {pos:Pos}
theorem aJl {CX:CXT} {k:Nat} {f:Addr} {fd:FuncData} {ps:List Str} {sp:Sp} {dvs:List V} {ds:Y1} {E:XK} {pins:Y8} {σ:L2.St} {H:Hp} {s:Shared} {Q:VK} {us:Y1} {vs:List V} (F:FnOk X.prog X.w X.K X.mg X.base CX k f fd ps sp) (hr:Room k X.A) (hb:Binds X.K fd ps ds) (hd:Vals dvs ds)
  (hx:∀e s',CX X.stack H s E e s'->X.xe e s') (I:L2.Inv X pins σ H s) (r:Vals vs us) (h:sp (vs++dvs) H Q E):wpAny (model X.prog X.w) X.A (call (.ref f) us) (EP X pins σ Q) X.xe s:=by
 have r2:Vals (vs++dvs) (us++ds):=r.append hd
 have hl:(us++ds).length=ps.length:=by rw [<- r2.length];exact F.len _ _ _ _ h
 refine wpAny_call (codeAny_mono (F.run X.A X.stack s H ⟨us,[]⟩ (us++ds) (vs++dvs) Q E hr I.aR9 (hb s us I.kIn hl) r2 h) fun r s' hq=>?_)
 cases r with
 | error e=>exact hx e s' hq
 | ok fl =>
  cases fl with
  | ret u=>exact I.after hq
  | next=>exact False.elim hq
  | brk=>exact False.elim hq
  | cont=>exact False.elim hq
theorem aG3 {k n:Nat} {x:Str} {fn:Fn} {ta:TA} {p:Pos} (L:Lk X W) (F:Kn X.prog X.w X.K X.mg X.base k x n fn) (hr:Room k X.A) (ha:PA X (e::es) ta) (hg:Gl X x:=by rfl) (hdb:(x == ("__debug__" : Str))=false:=by decide)
  (he:starEach (e::es) X.env=(false,eval e X.env)::starEach es X.env:=by rfl) (hpl:(backTo pos (starEach es X.env)).any (·.1)=false:=by rfl):PE X (.Call (.Name x p) (e::es) [] pos) (aFz (spV X.K n fn) (wE X.K W) ta):=by
 obtain ⟨f,fd,ps,F,hm,hk,hb⟩:=F.ex
 intro pins s σ H Q I h
 refine wpAny_Call_Name_kw (nW I hg hm ?_ hdb)
 refine PySem.W.callWith_K (h₀:=X.base) I.ok.mod.kin hk (thn (ha pos pins s σ H _ I h) fun us s1 ⟨vs,H1,I1,r,q⟩=>⟨I1.kIn,?_⟩) he hpl
 exact aJl F hr hb .nil (fun e s' hq=>L.call pins σ H1 s1 e s' I1 hq) I1 r q
theorem gM {k n:Nat} {x:Str} {fn:Fn} {g:cW} {p:Pos} (L:Lk X W) (F:Kn X.prog X.w X.K X.mg X.base k x n fn) (hr:Room k X.A) (ha:SA X (e::es) g) (hl:uV n g) (hg:Gl X x:=by rfl) (hdb:(x == ("__debug__" : Str))=false:=by decide)
  (he:starEach (e::es) X.env=(false,eval e X.env)::starEach es X.env:=by rfl) (hpl:(backTo pos (starEach es X.env)).any (·.1)=false:=by rfl):SX X W (.Call (.Name x p) (e::es) [] pos) (gC fn g) :=
 (aG3 L F hr ha hg hdb he hpl).imp fun _ _ _ h=>aJ5 hl h
end
section
variable {K:FG} {W:XW} {F H:Hp} {σ:L2.St} {ρ:Env} {D':Ends}
end
section
variable {X:Cx} {W:XW} {e a:Expr} {es:List Expr} {pos:Pos}
end
end VL
end
section
namespace VL
open PySem PySem.Spec PyProof.Rows L2 PySem.W PySem.Calls PySem.Builtin.ObjectAttr PySem.Builtin PySem.Builtin.Getset_descriptor
section
variable {prog:Program} {w:World} {A:Around} {E:Y9} {s:Shared} {K:FG} {x C:Addr} {name:Str}
theorem aIk {M:Model} {h:Heap} {a g:Value} (X:K.In h) (ha:findIn K (.ref C) name=some (some a)) (hg:specialIn K a "__get__" = some (some g)) (ht:takesIn K a=some true):Looks M h (find (.ref x) (.ref C) name) (.bind g a):=by
 have L1:=looks_findIn (M:=M) X ha
 have L2:Looks M h (getOf (some a)) (some g):=looks_specialIn X hg
 have L3:=looks_takesIn (M:=M) X ht
 exact L1.andThen (L2.andThen ((show Looks M h (dataDescriptor? (some a) (some g)) (some (g,a)) from L3.andThen .now).andThen (Looks.tag .now)))
theorem aE1 {M:Model} {nameV:Value} {Q:Unit->Shared->Prop} (X:K.In s.heap) (L0:Looks M s.heap (typeOf (.ref x)) (.ref C)) (hb:mroIn K C (.type "BaseException")=some true) (hq:Q () s):wpAny M A (checkBuiltinCall "BaseException.__getattribute__" ⟨[.ref x,nameV],[]⟩) Q E s:=by
 have hk:builtinKind "BaseException.__getattribute__" = some .slot:=by decide +kernel
 have hsplit:splitId "BaseException.__getattribute__" = some ("BaseException", "__getattribute__"):=by decide +kernel
 have ha:=F.args_bexc_ga (.ref x) nameV
 have L5:=looks_mroIn (M:=M) X hb
 simp only [checkBuiltinCall,hk,hsplit]
 obtain ⟨hh,g,d,t,os⟩:=s
 refine wpAny_bind ?_
 unfold isInstance
 refine wpAny_bind (L0.at (L5.at ?_))
 cases hsig:Manifest.signature? "BaseException.__getattribute__" with
 | none=>exact wpAny_pure hq
 | some sig =>
  simp only [argsOk,hsig] at ha
  have h2:Bind.checkArgs "BaseException.__getattribute__" sig ⟨[.ref x,nameV],[]⟩=pure ():=ha
  show wpAny M A (Bind.checkArgs "BaseException.__getattribute__" sig ⟨[.ref x,nameV],[]⟩) Q E _
  rw [h2];exact wpAny_pure hq
theorem aG5 {Q:Option Value->Shared->Prop} (X:K.In s.heap) (L0:∀(h:Heap),(∀b o,s.heap.get? b=some o->h.get? b=some o)->Looks (model prog w) h (typeOf (.ref x)) (.ref C)) (hg:findIn K (.ref C) "__getattribute__" = some (some (.builtin "BaseException.__getattribute__"))) (hg2:findIn K (.ref C) "__getattr__" = some none) (ha:findIn K (.ref C) "__class__" = some (some (.builtin "object.__class__")))
  (hn:specialIn K (.builtin "object.__class__") "__get__" = some (some (.builtin "getset_descriptor.__get__"))) (htk:takesIn K (.builtin "object.__class__")=some true) (hm:mroIn K C (.type "object")=some true) (hb:mroIn K C (.type "BaseException")=some true)
  (h:Q (some (.ref C)) { s with toks:=s.toks+1 }):wpAny (model prog w) A (getAttr? (.ref x) "__class__") Q E s:=by
 obtain ⟨hh,g,d,t,os⟩:=s
 have L0:=L0 hh fun _ _ e=>e
 have L1:=looks_findIn (M:=model prog w) X hg
 have L2:=looks_findIn (M:=model prog w) X hg2
 unfold getAttr? getAttrBy? getAttrBy
 refine wpAny_bind (wpAny_mkText (wpAny_bind (wpAny_attempt (wpAny_holding (wpAny_bind (L0.at (wpAny_bind (L1.at ?_))))))))
 show wpAny _ _ (getAttrByItsOwn (.ref x) _ (.ref C) (.builtin "BaseException.__getattribute__") false false) _ _ _
 unfold getAttrByItsOwn
 refine wpAny_bind ?_
 show wpAny _ _ (typeLookup (.ref C) "__getattr__") _ _ _
 refine L2.at (wpAny_bind (wpAny_attempt (wpAny_holding ?_)))
 show wpAny _ _ (boundAndCalled _ _ _) _ _ _
 unfold boundAndCalled
 rw [F.excAttr_ValueError.ga.bind (.ref x)]
 refine wpAny_bind (wpAny_pure (wpAny_call ?_))
 refine codeAny_call_builtin F.excAttr_ValueError.ga.plain F.entry_bexc_ga (aE1 X L0 hb ?_)
 have L3:=aIk (M:=model prog w) (x:=x) X ha hn htk
 unfold Builtin.«object.__getattribute__»
 refine wpAny_bind (wpAny_pure (wpAny_bind (wpAny_pure (wpAny_bind (L0.at (wpAny_bind (L3.at ?_)))))))
 show wpAny _ _ (holding [.builtin "object.__class__"] (call (.builtin "getset_descriptor.__get__") [.builtin "object.__class__",.ref x,.ref C]) >>= ret) _ _ _
 refine wpAny_bind (wpAny_holding (wpAny_call ?_))
 have L5:=looks_mroIn (M:=model prog w) X hm
 refine codeAny_call_builtin KF.slot_gs.plain KF.entry_gs (KF.slot_gs.check _ _ _ _ _ _ _ _ KF.type_class (KF.args_gs _ _ _) ?_)
 unfold Builtin.«getset_descriptor.__get__» descrGet
 rw [dga_obj]
 refine wpAny_bind (wpAny_pure ?_)
 unfold descrGetter descrCheckInstance descrNameAndClass isInstance
 simp only [KF.owner_class]
 repeat lk
 refine ⟨Code.quiet_builtin _ (by decide +kernel),codeAny_builtin KF.entry_class ?_⟩
 unfold Builtin.«object.__class__» shownTypeOf
 repeat lk
 exact h
structure ExcF (K:FG) (C:Addr):Prop where
 cls:(clsIn K C).isSome=true
 ga:findIn K (.ref C) "__getattribute__" = some (some (.builtin "BaseException.__getattribute__"))
 gn:findIn K (.ref C) "__getattr__" = some none
 fi:findIn K (.ref C) "__class__" = some (some (.builtin "object.__class__"))
 sp:specialIn K (.builtin "object.__class__") "__get__" = some (some (.builtin "getset_descriptor.__get__"))
 tk:takesIn K (.builtin "object.__class__")=some true
 mro:mroIn K C (.type "object")=some true
 mrb:mroIn K C (.type "BaseException")=some true
theorem aFd (f:ExcF K C):KitX K (.ref x) (.ref C) (fun h=>∃o vs,h.get? x=some o/\o.cls=.ref C/\o.data=.fields vs) where
 ty:=fun M h _ p=>by
  obtain ⟨o,vs,h1,h2,_⟩:=p
  exact h2 ▸ (Looks.ld h1).andThen .now
 it:=fun M h X _=>by
  obtain ⟨cd,hc⟩:=Option.isSome_iff_exists.mp f.cls
  unfold clsIn at hc
  split at hc
  ·rename_i c' d' cd' sl' ho
   intro A' Q' E' s' k q
   unfold isType loadHead
   exact wpAny_bind (wpAny_loadPart (k _ _ (X _ _ ho)) (wpAny_pure q))
  ·cases hc
 ne:=fun h tp dd its n sl X htp=>by
  obtain ⟨cd,hc⟩:=Option.isSome_iff_exists.mp f.cls
  refine Bool.eq_false_iff.mpr fun q=>?_
  have e:C=tp:=Value.ref.inj (beq_iff_eq.mp q)
  subst e
  unfold clsIn at hc
  split at hc
  ·rename_i c' d' cd' sl' ho
   have z:=(X _ _ ho).symm.trans htp
   cases z
  ·cases hc
 ca:=fun {prog w A E Q s} X p k=>by
  obtain ⟨o,vs,h1,h2,_⟩:=p
  exact aG5 X (fun h kk=>h2 ▸ (Looks.ld (kk _ _ h1)).andThen .now) f.ga f.gn f.fi f.sp f.tk f.mro f.mrb k
end
section
variable {X:Cx}
def sQ (kn tb:Str->Bool):D×Bool->R (D×Bool):=fun x=>match x.1 with
 | .ext _ (.exc c)=>if kn c then .ok (.bl (tb c),true) else .bad
 | _=>.bad
theorem aG1 {cv:V} {cu:Value} {kn tb:Str->Bool} (hcv:∀u,RelV cv u->u=cu) (hf:∀c C,kn c=true->dZ X.K c C->ExcF X.K C/\PySem.W.kitOne X.K (.ref C) cu=some (tb c)) :
  jI X (.builtin "isinstance") (fun vs H Q=>∃F d v fp c o,Same F H/\vs=[v,cv]/\d=D.ext o (.exc c)/\Own X.K F H d v fp/\kn c=true/\Q (.bl (tb c)) H):=by
 intro pins s σ H vs us Q I r h
 obtain ⟨F,d,v,fp,c,ow,hs,e,rfl,o,hk,q⟩:=h
 subst e
 obtain ⟨u,u2,rfl,r1,r2⟩:=r.two
 rw [hcv _ r2]
 unfold Own at o
 obtain ⟨a,w,ev,⟨C,hC,ew⟩,o⟩:=o
 subst ev
 cases (show u=Value.ref a from r1)
 have hH:H a=some (ExcAt a C):=by
  rcases o with ⟨_,_,o,_⟩ | ⟨_,o,_⟩
  ·rw [<- ew];exact o
  ·rw [<- ew];exact hs a _ o
 obtain ⟨ef,ek⟩:=hf c C hk hC
 have ho:∃o vs,s.heap.get? a=some o/\o.cls=.ref C/\o.data=.fields vs:=(I.hok a _ hH).1
 exact PySem.W.kia_one (aFd ef) I.kIn ho ek (fun z=>nomatch z) fun tk=>⟨.bl (tb c),H,I.tok _,rfl,q⟩
theorem oV {cv:V} {cu:Value} {kn tb:Str->Bool} {a ce:Expr} {f:aL} {p pos:Pos} (hce:PE X ce fun σ H Q=>Q cv H) (hcv:∀u,RelV cv u->u=cu) (hf:∀c C,kn c=true->dZ X.K c C->ExcF X.K C/\PySem.W.kitOne X.K (.ref C) cu=some (tb c)) (ha:SE X a f) (hm:X.mg "isinstance" = none) (hg:Gl X "isinstance" :=by rfl)
  (hs1:starEach [a,ce] X.env=(false,eval a X.env)::starEach [ce] X.env:=by rfl) (hs2:starEach [ce] X.env=(false,eval ce X.env)::starEach [] X.env:=by rfl)
  (hpl:(backTo pos (starEach [ce] X.env)).any (·.1)=false:=by rfl):SE X (.Call (.Name "isinstance" p) [a,ce] [] pos) (v1 (sQ kn tb) f) :=
 (sH (aG1 hcv hf) hg hm PyProof.Rows.boot_isinstance (gN ha (gN hce mS hs2) hs1) (by decide) (by decide) hs1 hpl).imp fun σ H Q h=>by
  obtain ⟨ρ,F,fps,S,h⟩:=h
  refine ⟨ρ,F,fps,S,R.aI (R.aJ.mp h) fun x hx v F1 H1 fx g1 o1 n1 k1=>?_⟩
  unfold sQ at hx
  split at hx
  ·rename_i o c e
   by_cases hc:kn c=true
   ·rw [if_pos hc] at hx
    exact ⟨F1,x.1,v,fx,c,o,g1.inn,rfl,e,o1,hc,EPost.dE g1 hx rfl⟩
   ·rw [if_neg hc] at hx;exact hx.elim
  ·exact hx.elim
end
end VL
end
section
namespace VL
open PySem PySem.Spec PyProof.Rows L2 PySem.SeqAt
section
variable {X:Cx}
def isB (b:Bool):Value->Bool
 | .bool y=>y == b | _=>false
theorem mG {b:Bool}:∀ {ns:List Bool} {us:Y1},Vals (ns.map V.bl) us->us.countP (isB b)=ns.countP (· == b)/\∀k:Nat,(us[k]?).map (isB b)=(ns[k]?).map (· == b)
 | [],us,r=>by rw [List.map_nil] at r;cases r;exact ⟨rfl,fun k=>by simp⟩
 | n::ns,us,r=>by
  rw [List.map_cons] at r
  cases r with
  | cons h t =>
   obtain ⟨h1,h2⟩:=mG (b:=b) t
   cases h
   refine ⟨?_,fun k=>?_⟩
   ·rw [List.countP_cons,List.countP_cons,h1];rfl
   ·cases k with
    | zero=>rfl
    | succ k=>simpa using h2 k
theorem qS {b:Bool}:∀ {ns:List Bool} {us:Y1},Vals (ns.map V.bl) us->∀y∈us,∃c,y=Value.bool c
 | [],us,r,y,hy=>by rw [List.map_nil] at r;cases r;cases hy
 | n::ns,us,r,y,hy=>by
  rw [List.map_cons] at r
  cases r with
  | cons h t =>
   rcases List.mem_cons.mp hy with rfl | hy
   ·exact ⟨n,h⟩
   ·exact qS (b:=b) t y hy
def aUb (K:FG):V->List V->Hp->VK->Prop:=fun x vs H Q=>∃(p:Addr) (ns:List Bool) (b:Bool),x=.ref p/\vs=[.bl b]/\SqL K H p (ns.map V.bl)/\Q (.int (ns.countP (· == b):Nat)) H
theorem aGf:MtM X "list.count" (aUb X.K):=by
 intro pins s σ H x vs v us Q I rx rv h
 obtain ⟨p,ns,b,rfl,rfl,hq,q⟩:=h
 cases rx
 obtain ⟨u,rfl,ru⟩:=vals1 rv
 cases ru
 obtain ⟨its,r,pl,_⟩:=I.list hq
 obtain ⟨⟨cls,dd,data,sl⟩,ho,hc,n,hd⟩:=pl.isList
 simp only at hc hd
 subst hc hd
 refine call_meets PySem.F.slot_list_count ⟨_,ho,rfl⟩ PySem.F.entry_list_count (PySem.F.args_list_count_2 _ _) (list_countAt p its.toArray n dd sl (.bool b) (isB b)) ⟨ho,fun y hy=>?_,?_⟩
 ·obtain ⟨c,rfl⟩:=qS (b:=b) r y (by simpa using hy)
  exact EqAt.bool_bool c b
 ·rw [show its.toArray.toList=its from rfl,(mG r).1]
  exact ⟨.int _,H,I.tok _,⟨_,rfl⟩,q⟩
def aUz (K:FG):V->List V->Hp->VK->Prop:=fun x vs H Q=>∃(p:Addr) (ns:List Bool) (b:Bool) (j:Nat),x=.ref p/\vs=[.bl b]/\SqL K H p (ns.map V.bl)/\ns[j]?=some b/\(∀m:Nat,m<j->ns[m]? ≠ some b)/\j<1000000/\Q (.int (j:Nat)) H
theorem aFy:MtM X "list.index" (aUz X.K):=by
 intro pins s σ H x vs v us Q I rx rv h
 obtain ⟨p,ns,b,j,rfl,rfl,hq,hj,hno,hjs,q⟩:=h
 cases rx
 obtain ⟨u,rfl,ru⟩:=vals1 rv
 cases ru
 obtain ⟨its,r,pl,_⟩:=I.list hq
 have hlen:=r.length
 rw [List.length_map] at hlen
 have hjl:j<ns.length:=(List.getElem?_eq_some_iff.mp hj).1
 obtain ⟨⟨cls,dd,data,sl⟩,ho,hc,n,hd⟩:=pl.isList
 simp only at hc hd
 subst hc hd
 have vb:=(mG (b:=b) r).2
 refine call_meets PySem.F.slot_list_index ⟨_,ho,rfl⟩ PySem.F.entry_list_index (PySem.F.args_list_index_2 _ _) (list_indexAt p its.toArray n dd sl (.bool b) (isB b) j (by rw [List.size_toArray];omega) (by omega) ?_ ?_) ⟨ho,fun y hy=>?_,⟨.int _,H,I.tok _,⟨_,rfl⟩,q⟩⟩
 ·have:=vb j
  rw [hj,List.getElem?_eq_getElem (by omega)] at this
  have:=Option.some.inj this
  simpa using this
 ·intro m hm hlt
  have e:=vb m
  have hml:m<ns.length:=by omega
  rw [List.getElem?_eq_getElem (show m<its.length by omega),List.getElem?_eq_getElem hml] at e
  have e:=Option.some.inj e
  have hne:=hno m hlt
  rw [List.getElem?_eq_getElem hml] at hne
  have:(ns[m] == b)=false:=beq_eq_false_iff_ne.mpr fun z=>hne (by rw [z])
  have e:isB b its[m]=(ns[m] == b):=e
  rw [this] at e
  simpa using e
 ·obtain ⟨c,rfl⟩:=qS (b:=b) r y (by simpa using hy)
  exact EqAt.bool_bool c b
variable {o e:Expr} {ap cp:Pos}
def aDc (b:Bool):List Bool->Option Nat
 | []=>none
 | n::ns=>if n=b then some 0 else (aDc b ns).map (· + 1)
theorem aBu {b:Bool}:∀ {ns:List Bool} {j:Nat},aDc b ns=some j->ns[j]?=some b/\∀m:Nat,m<j->ns[m]? ≠ some b
 | [],j,e=>by cases e
 | n::ns,j,e=>by
  unfold aDc at e
  by_cases h:n=b
  ·rw [if_pos h] at e;cases e
   exact ⟨by rw [h];rfl,fun m hm=>absurd hm (Nat.not_lt_zero m)⟩
  ·rw [if_neg h] at e
   cases q:aDc b ns with
   | none=>rw [q] at e;cases e
   | some i =>
    rw [q] at e
    have e:some (i+1)=some j:=e
    cases e
    obtain ⟨h1,h2⟩:=aBu q
    refine ⟨by simpa using h1,fun m hm=>?_⟩
    cases m with
    | zero=>simpa using h
    | succ m=>simpa using h2 m (by omega)
def oP:D×Bool->D×Bool->R (D×Bool):=fun x y=>match x.1,y.1 with
 | .lst _ ds,.bl b=>(match dO ds with | some ns=>.ok (.int (ns.countP (· == b):Nat),true) | none=>.bad)
 | _,_=>.bad
def oT:D×Bool->D×Bool->R (D×Bool):=fun x y=>match x.1,y.1 with
 | .lst _ ds,.bl b=>(match (dO ds).bind (aDc b) with | some j=>if j<1000000 then .ok (.int (j:Nat),true) else .bad | none=>.bad)
 | _,_=>.bad
theorem aEq {id:String} {name:Str} {r:V->List V->Hp->VK->Prop} {k:D×Bool->D×Bool->R (D×Bool)} {f g:aL} (slot:PySem.Slot "list" name id) (hty:typeOf (.builtin id)=pure (.type "method_descriptor")) (hm:MtM X id r)
  (hl:∀x y z,k x y=.ok z->∃o ds,x.1=D.lst o ds) (hk:∀(F0 H0 F H:Hp) (x y:D×Bool) (v u:V) (fx fy:Y2) (Q:VK),Grow F0 H0 F H->Own X.K F H x.1 v fx->Own X.K F H y.1 u fy->(k x y).holds (EPost X.K F0 H0 Q)->r v [u] H Q)
  (ho:SE X o f) (he:SE X e g) (hbase:attributeBase o name X.env (eval o X.env)=eval o X.env:=by rfl)
  (hfew:((backTo cp (starEach [e] X.env)).all (fun x=>!x.1) && (backToKw cp (keywordEach [] X.env)).all (fun x=>x.1.isSome)
   && decide (([e]:List Expr).length+([]:List Keyword).length+(if ([]:List Keyword).isEmpty then 0 else 1)<30))=true:=by rfl)
  (hline:(ap.endLine == cp.line)=true:=by rfl) (hst:starEach [e] X.env=(false,eval e X.env)::starEach [] X.env:=by rfl) (hplain:(backTo cp (starEach [] X.env)).any (·.1)=false:=by rfl) :
  SE X (.Call (.Attribute o name ap) [e] [] cp) (v2 k f g) :=
 (aEk PySem.F.plainAttrs_list slot hty hm ho (gN he mS hst) hbase hfew hline hst hplain).imp fun σ H Q h=>by
  obtain ⟨ρ,F,fps,S,h⟩:=h
  refine ⟨ρ,F,fps,S,R.aI (R.aJ.mp h) fun x hx v F1 H1 fx g1 o1 n1 k1=>?_⟩
  obtain ⟨y,ey,hy⟩:=R.jK (R.aJ.mp hx)
  obtain ⟨z,ez,hz⟩:=R.jK hy
  obtain ⟨ow,ds,ex⟩:=hl x y z ez
  have o1':=o1
  rw [ex] at o1'
  obtain ⟨p,xs,fq,e1,q1,_⟩:=Own.lst g1.inn o1'
  subst e1
  refine ⟨.inl ⟨rfl,xs,q1⟩,ρ,F1,fps,S.grow g1,?_⟩
  rw [ey]
  intro u F2 H2 fy g2 o2 n2 k2
  exact hk F H F2 H2 x y _ u fx fy Q (g1.trans g2) (o1.grow g2) o2 hy
theorem aGi {f g:aL} (ho:SE X o f) (he:SE X e g) (hbase:attributeBase o "count" X.env (eval o X.env)=eval o X.env:=by rfl)
  (hfew:((backTo cp (starEach [e] X.env)).all (fun x=>!x.1) && (backToKw cp (keywordEach [] X.env)).all (fun x=>x.1.isSome)
   && decide (([e]:List Expr).length+([]:List Keyword).length+(if ([]:List Keyword).isEmpty then 0 else 1)<30))=true:=by rfl)
  (hline:(ap.endLine == cp.line)=true:=by rfl) (hst:starEach [e] X.env=(false,eval e X.env)::starEach [] X.env:=by rfl) (hplain:(backTo cp (starEach [] X.env)).any (·.1)=false:=by rfl):SE X (.Call (.Attribute o "count" ap) [e] [] cp) (v2 oP f g) :=
 aEq PySem.F.slot_list_count PySem.F.type_list_count aGf (fun x y z h=>by
  unfold oP at h
  split at h
  ·rename_i ow ds b e1 e2;exact ⟨ow,ds,e1⟩
  ·cases h) (fun F0 H0 F H x y v u fx fy Q gr o1 o2 h=>by
  unfold oP at h
  split at h
  ·rename_i ow ds b e1 e2
   rw [e1] at o1;rw [e2] at o2
   cases q:dO ds with
   | none=>rw [q] at h;exact h.elim
   | some ns =>
    rw [q] at h
    obtain ⟨p,ys,fq,e1',q1,r1,_⟩:=Own.lst gr.inn o1
    unfold Own at o2
    rw [iP ds q r1] at q1
    exact ⟨p,ns,b,e1',by rw [o2.1],q1,EPost.dE gr h rfl⟩
  ·exact h.elim) ho he hbase hfew hline hst hplain
theorem aEh {f g:aL} (ho:SE X o f) (he:SE X e g) (hbase:attributeBase o "index" X.env (eval o X.env)=eval o X.env:=by rfl)
  (hfew:((backTo cp (starEach [e] X.env)).all (fun x=>!x.1) && (backToKw cp (keywordEach [] X.env)).all (fun x=>x.1.isSome)
   && decide (([e]:List Expr).length+([]:List Keyword).length+(if ([]:List Keyword).isEmpty then 0 else 1)<30))=true:=by rfl)
  (hline:(ap.endLine == cp.line)=true:=by rfl) (hst:starEach [e] X.env=(false,eval e X.env)::starEach [] X.env:=by rfl) (hplain:(backTo cp (starEach [] X.env)).any (·.1)=false:=by rfl):SE X (.Call (.Attribute o "index" ap) [e] [] cp) (v2 oT f g) :=
 aEq PySem.F.slot_list_index PySem.F.type_list_index aFy (fun x y z h=>by
  unfold oT at h
  split at h
  ·rename_i ow ds b e1 e2;exact ⟨ow,ds,e1⟩
  ·cases h) (fun F0 H0 F H x y v u fx fy Q gr o1 o2 h=>by
  unfold oT at h
  split at h
  ·rename_i ow ds b e1 e2
   rw [e1] at o1;rw [e2] at o2
   cases q:dO ds with
   | none=>rw [q] at h;exact h.elim
   | some ns =>
    rw [q] at h
    dsimp only [Option.bind] at h
    cases qi:aDc b ns with
    | none=>rw [qi] at h;exact h.elim
    | some j =>
     rw [qi] at h
     dsimp only at h
     by_cases hj:j<1000000
     ·rw [if_pos hj] at h
      obtain ⟨p,ys,fq,e1',q1,r1,_⟩:=Own.lst gr.inn o1
      unfold Own at o2
      rw [iP ds q r1] at q1
      obtain ⟨i1,i2⟩:=aBu qi
      exact ⟨p,ns,b,j,e1',by rw [o2.1],q1,i1,i2,hj,EPost.dE gr h rfl⟩
     ·rw [if_neg hj] at h;exact h.elim
  ·exact h.elim) ho he hbase hfew hline hst hplain
end
end VL
end
section
namespace ST
open PySem PySem.SetTable
def adv (mask:Nat) (p:Probe):Probe :=
 if p.more > 0 then { p with j:=p.j+1,more:=p.more - 1 } else
 { p with j:=(leap mask p.i p.perturb).1,more:=runEnd mask (leap mask p.i p.perturb).1 - (leap mask p.i p.perturb).1,i:=(leap mask p.i p.perturb).1,perturb:=(leap mask p.i p.perturb).2 }
def start (mask i u:Nat):Probe:={ j:=i,more:=runEnd mask i - i,i,perturb:=u,dummy:=none }
def pos (mask:Nat) (h:Int):Nat->Probe
 | 0=>start mask (bits h % (mask+1)) (bits h)
 | k+1=>adv mask (pos mask h k)
theorem tP (mask:Nat) (h:Int):∀k,(pos mask h k).dummy=none
 | 0=>rfl
 | k+1=>by
  show (adv mask (pos mask h k)).dummy=none
  unfold adv
  split<;>exact tP mask h k
def iter {α:Type} (f:α->α):Nat->α->α
 | 0,x=>x
 | n+1,x=>iter f n (f x)
theorem gD {α:Type} (f:α->α):∀(n m:Nat) (x:α),iter f (n+m) x=iter f m (iter f n x)
 | 0,m,x=>by rw [Nat.zero_add];rfl
 | n+1,m,x=>by rw [Nat.succ_add];exact gD f n m (f x)
theorem lE {α:Type} (f:α->α) (n:Nat) (x:α):iter f (n+1) x=f (iter f n x):=gD f n 1 x
theorem vZ (mask:Nat) (h:Int):∀k,pos mask h k=iter (adv mask) k (pos mask h 0)
 | 0=>rfl
 | k+1=>by rw [lE,<- vZ mask h k];rfl
theorem wL {mask:Nat}:∀(m:Nat) (p:Probe),p.more=m->iter (adv mask) (m+1) p={ p with j:=(leap mask p.i p.perturb).1,more:=runEnd mask (leap mask p.i p.perturb).1 - (leap mask p.i p.perturb).1,i:=(leap mask p.i p.perturb).1,perturb:=(leap mask p.i p.perturb).2 }
 | 0,p,e=>by
  show adv mask p=_
  unfold adv
  rw [if_neg (by omega)]
 | m+1,p,e=>by
  have e1:adv mask p={ p with j:=p.j+1,more:=p.more - 1 }:=by unfold adv;rw [if_pos (by omega)]
  show iter (adv mask) (m+1) (adv mask p)=_
  rw [e1,wL m _ (by show p.more - 1=m;omega)]
theorem turn {mask i u:Nat}:∃m,m<=10/\iter (adv mask) m (start mask i u)=start mask (leap mask i u).1 (leap mask i u).2:=by
 refine ⟨runEnd mask i - i+1,?_,?_⟩
 ·unfold runEnd;split<;>omega
 ·exact wL (runEnd mask i - i) (start mask i u) rfl
def lp (mask:Nat) (x:Nat×Nat):Nat×Nat:=leap mask x.1 x.2
theorem xX {mask i u:Nat}:∀T,∃m,m<=10 * T/\iter (adv mask) m (start mask i u)=start mask (iter (lp mask) T (i,u)).1 (iter (lp mask) T (i,u)).2
 | 0=>⟨0,by omega,rfl⟩
 | T+1=>by
  obtain ⟨m,hm,e⟩:=xX (mask:=mask) (i:=i) (u:=u) T
  obtain ⟨m',hm',e'⟩:=turn (mask:=mask) (i:=(iter (lp mask) T (i,u)).1) (u:=(iter (lp mask) T (i,u)).2)
  refine ⟨m+m',by omega,?_⟩
  rw [gD,e,e',lE];rfl
theorem aMj {mask:Nat}:∀(T:Nat) (x:Nat×Nat),(iter (lp mask) T x).2=x.2 / 32 ^ T
 | 0,x=>by simp [iter]
 | T+1,x=>by
  rw [lE]
  show (iter (lp mask) T x).2 / 32=_
  rw [aMj T x,Nat.div_div_eq_div_mul,Nat.pow_succ]
def lc (mask x:Nat):Nat:=(x * 5+1) % (mask+1)
theorem mI {mask:Nat}:∀(m x:Nat),iter (lp mask) m (x,0)=(iter (lc mask) m x,0)
 | 0,x=>rfl
 | m+1,x=>by
  show iter (lp mask) m (lp mask (x,0))=_
  have:lp mask (x,0)=(lc mask x,0):=by simp [lp,leap,lc]
  rw [this,mI m];rfl
theorem aB5 (h:Int):bits h<2 ^ 64:=by unfold bits;omega
def eK (mask:Nat):Prop:=∀x,x<=mask->∀j,j<=mask->∃m,m<=mask/\iter (lc mask) m x=j
theorem aB8:eK 7:=by
 have:∀x:Fin 8,∀j:Fin 8,∃m:Fin 8,iter (lc 7) m.1 x.1=j.1:=by decide +kernel
 intro x hx j hj
 obtain ⟨m,e⟩:=this ⟨x,by omega⟩ ⟨j,by omega⟩
 exact ⟨m.1,by have:=m.2;omega,e⟩
theorem wG:eK 31:=by
 have:∀x:Fin 32,∀j:Fin 32,∃m:Fin 32,iter (lc 31) m.1 x.1=j.1:=by decide +kernel
 intro x hx j hj
 obtain ⟨m,e⟩:=this ⟨x,by omega⟩ ⟨j,by omega⟩
 exact ⟨m.1,by have:=m.2;omega,e⟩
theorem aKo {mask:Nat}:∀(T:Nat) (x:Nat×Nat),x.1<=mask->(iter (lp mask) T x).1<=mask
 | 0,x,h=>h
 | T+1,x,h=>by
  rw [lE]
  show (_ % (mask+1))<=mask
  have:=Nat.mod_lt ((iter (lp mask) T x).1 * 5+1+(iter (lp mask) T x).2 / 32) (show mask+1 > 0 by omega)
  omega
theorem met {mask:Nat} (hc:eK mask) (h:Int) {j:Nat} (hj:j<=mask):∃k,k<=10 * (13+mask)/\(pos mask h k).j=j:=by
 have h0:(bits h % (mask+1),bits h).1<=mask:=by
  have:=Nat.mod_lt (bits h) (show mask+1 > 0 by omega)
  show bits h % (mask+1)<=mask;omega
 have e13:iter (lp mask) 13 (bits h % (mask+1),bits h)=((iter (lp mask) 13 (bits h % (mask+1),bits h)).1,0):=by
  refine Prod.ext rfl ?_
  rw [aMj]
  exact Nat.div_eq_of_lt (Nat.lt_of_lt_of_le (aB5 h) (by decide))
 obtain ⟨m,hm,e⟩:=hc _ (aKo 13 _ h0) j hj
 obtain ⟨k,hk,ek⟩:=xX (mask:=mask) (i:=bits h % (mask+1)) (u:=bits h) (13+m)
 refine ⟨k,by omega,?_⟩
 rw [vZ]
 show (iter (adv mask) k (start mask (bits h % (mask+1)) (bits h))).j=j
 rw [ek,gD,e13,mI]
 exact e
theorem aNr {mask:Nat} (h:Int):∀k,(pos mask h k).j+(pos mask h k).more<=mask/\(pos mask h k).i<=mask:=by
 have hs:∀i u,i<=mask->(start mask i u).j+(start mask i u).more<=mask:=fun i u hi=>by
  show i+(runEnd mask i - i)<=mask
  unfold runEnd;split<;>omega
 intro k
 induction k with
 | zero =>
  have:bits h % (mask+1)<=mask:=by have:=Nat.mod_lt (bits h) (show mask+1 > 0 by omega);omega
  exact ⟨hs _ _ this,this⟩
 | succ k ih =>
  show (adv mask (pos mask h k)).j+(adv mask (pos mask h k)).more<=mask/\(adv mask (pos mask h k)).i<=mask
  unfold adv
  split
  ·exact ⟨by show (pos mask h k).j+1+((pos mask h k).more - 1)<=mask;omega,ih.2⟩
  ·have:(leap mask (pos mask h k).i (pos mask h k).perturb).1<=mask:=by
    show (_ % (mask+1))<=mask
    have:=Nat.mod_lt ((pos mask h k).i * 5+1+(pos mask h k).perturb / 32) (show mask+1 > 0 by omega)
    omega
   exact ⟨hs _ 0 this,this⟩
end ST
end
section
namespace ST
open PySem PySem.SetTable
def sD (xs:Array Nat):Prop:=∀(i k a b:Nat),xs[i]?=some a->xs[k]?=some b->i<k->a<b
theorem uW {xs:Array Nat} {j:Nat} (hr:sD xs):∀(fuel lo hi:Nat),lo<=hi->hi<=xs.size->hi - lo<=fuel->(∀(i v:Nat),xs[i]?=some v->i<lo->v<j)->(∀(i v:Nat),xs[i]?=some v->hi<=i->j<=v) ->
  below.go xs j fuel lo hi<=xs.size/\(∀(i v:Nat),xs[i]?=some v->i<below.go xs j fuel lo hi->v<j)/\∀(i v:Nat),xs[i]?=some v->below.go xs j fuel lo hi<=i->j<=v
 | 0,lo,hi,h1,h2,h3,h4,h5=>by
  have e:lo=hi:=by omega
  subst e
  exact ⟨h2,h4,h5⟩
 | fuel+1,lo,hi,h1,h2,h3,h4,h5=>by
  unfold below.go
  by_cases hl:lo<hi
  ·rw [if_pos hl]
   dsimp only
   have hm:(lo+hi) / 2<xs.size:=by omega
   have em:xs[(lo+hi) / 2]?=some xs[(lo+hi) / 2]:=Array.getElem?_eq_getElem hm
   have eg:xs.getD ((lo+hi) / 2) j=xs[(lo+hi) / 2]:=by simp [Array.getD,hm]
   rw [eg]
   by_cases hv:xs[(lo+hi) / 2]<j
   ·rw [if_pos hv]
    refine uW hr fuel _ hi (by omega) h2 (by omega) (fun i v e hi'=>?_) h5
    by_cases hq:i=(lo+hi) / 2
    ·subst hq;rw [em] at e;cases e;exact hv
    ·have:=hr i _ v _ e em (by omega);omega
   ·rw [if_neg hv]
    refine uW hr fuel lo _ (by omega) (by omega) (by omega) h4 (fun i v e hi'=>?_)
    by_cases hq:i=(lo+hi) / 2
    ·subst hq;rw [em] at e;cases e;omega
    ·have:=hr _ i _ v em e (by omega);omega
  ·rw [if_neg hl]
   have e:lo=hi:=by omega
   subst e
   exact ⟨h2,h4,h5⟩
theorem iD {xs:Array Nat} (hr:sD xs) (j:Nat):below xs j<=xs.size/\(∀(i v:Nat),xs[i]?=some v->i<below xs j->v<j)/\∀(i v:Nat),xs[i]?=some v->below xs j<=i->j<=v :=
 uW hr xs.size 0 xs.size (Nat.zero_le _) (Nat.le_refl _) (by omega) (fun _ _ _ h=>by omega) fun i v e h=>by
  have:=(Array.getElem?_eq_some_iff.mp e).1;omega
theorem below_at {xs:Array Nat} (hr:sD xs) {i j:Nat} (e:xs[i]?=some j):below xs j=i:=by
 obtain ⟨_,h2,h3⟩:=iD hr j
 rcases Nat.lt_trichotomy i (below xs j) with q | q | q
 ·have:=h2 i j e q;omega
 ·exact q.symm
 ·have hs:=(Array.getElem?_eq_some_iff.mp e).1
  have eb:xs[below xs j]?=some (xs[below xs j]'(by omega)):=Array.getElem?_eq_getElem (by omega)
  have a1:=h3 _ _ eb (Nat.le_refl _)
  have a2:=hr _ _ _ _ eb e q
  omega
theorem oF {t:SetTable} (hr:sD t.place) {i j:Nat} (e:t.place[i]?=some j):t.slot j=.live i:=by
 unfold SetTable.slot
 dsimp only
 rw [below_at hr e,e];simp
theorem aAi {t:SetTable} (hd:t.dummies = #[]) {j:Nat} (hn:∀i:Nat,t.place[i]? ≠ some j):t.slot j=.empty:=by
 unfold SetTable.slot
 dsimp only
 rw [if_neg (by simpa using hn _),hd]
 rfl
theorem gR {α:Type} {xs:Array α} {p:Nat} {x:α} (hp:p<=xs.size) (i:Nat):(insertAt xs p x)[i]?=if i<p then xs[i]? else if i=p then some x else xs[i - 1]?:=by
 have e:(insertAt xs p x).toList=xs.toList.take p++x::xs.toList.drop p:=by
  simp [insertAt,List.take_of_length_le]
 rw [<- Array.getElem?_toList,e]
 have hl:(xs.toList.take p).length=p:=by simp;omega
 by_cases h1:i<p
 ·rw [if_pos h1,List.getElem?_append_left (by omega),List.getElem?_take,if_pos h1,Array.getElem?_toList]
 ·rw [if_neg h1,List.getElem?_append_right (by omega),hl]
  by_cases h2:i=p
  ·rw [if_pos h2,h2,Nat.sub_self];rfl
  ·rw [if_neg h2]
   obtain ⟨k,rfl⟩:∃k,i=p+1+k:=⟨i - p - 1,by omega⟩
   rw [show p+1+k - p=k+1 by omega,List.getElem?_cons_succ,List.getElem?_drop,Array.getElem?_toList]
   congr 1;omega
theorem kW {α:Type} {xs:Array α} {p:Nat} {x:α} (hp:p<=xs.size):(insertAt xs p x).size=xs.size+1:=by
 simp [insertAt];omega
theorem aG4 {xs:Array Nat} (hr:sD xs) {j:Nat} (hn:∀i:Nat,xs[i]? ≠ some j):sD (insertAt xs (below xs j) j):=by
 obtain ⟨h1,h2,h3⟩:=iD hr j
 intro i k a b ea eb hik
 rw [gR h1] at ea eb
 have ne:∀(i v:Nat),xs[i]?=some v->v ≠ j:=fun i v e z=>hn i (z ▸ e)
 split at ea
 ·split at eb
  ·exact hr _ _ _ _ ea eb hik
  ·split at eb
   ·cases eb;exact h2 _ _ ea (by omega)
   ·exact hr _ _ _ _ ea eb (by omega)
 ·split at ea
  ·cases ea
   split at eb
   ·omega
   ·split at eb
    ·omega
    ·have a1:=h3 _ _ eb (by omega);have a2:=ne _ _ eb;omega
  ·split at eb
   ·omega
   ·split at eb
    ·omega
    ·exact hr _ _ _ _ ea eb (by omega)
theorem aKf {α:Type} {xs:Array α} {p:Nat} {x:α} (hp:p<=xs.size) {y:α}:(∃i:Nat,(insertAt xs p x)[i]?=some y) ↔ y=x\/∃i:Nat,xs[i]?=some y:=by
 constructor
 ·rintro ⟨i,e⟩
  rw [gR hp] at e
  split at e
  ·exact .inr ⟨_,e⟩
  ·split at e
   ·cases e;exact .inl rfl
   ·exact .inr ⟨_,e⟩
 ·rintro (rfl | ⟨i,e⟩)
  ·exact ⟨p,by rw [gR hp,if_neg (by omega),if_pos rfl]⟩
  ·by_cases h:i<p
   ·exact ⟨i,by rw [gR hp,if_pos h];exact e⟩
   ·exact ⟨i+1,by rw [gR hp,if_neg (by omega),if_neg (by omega)];exact e⟩
theorem yI {t:SetTable} {f:Nat->Int} {h:Int}:∀(d m fuel:Nat),d<fuel->(∀k,m<=k->k<m+d->∃i,t.slot (pos t.mask h k).j=.live i/\(f i == h)=false) ->
  probe.go t f h fuel (pos t.mask h m)=probe.go t f h (fuel - d) (pos t.mask h (m+d))
 | 0,m,fuel,_,_=>rfl
 | d+1,m,0,hf,_=>by omega
 | d+1,m,fuel+1,hf,hk=>by
  obtain ⟨i,e1,e2⟩:=hk m (Nat.le_refl _) (by omega)
  have:=yI d (m+1) fuel (by omega) fun k h1 h2=>hk k (by omega) (by omega)
  have e:probe.go t f h (fuel+1) (pos t.mask h m)=probe.go t f h fuel (pos t.mask h (m+1)):=by
   show (match t.slot (pos t.mask h m).j with | .empty=>some (Met.empty (pos t.mask h m).j (pos t.mask h m).dummy) | .dummy=>probe.go t f h fuel (t.advance { pos t.mask h m with dummy:=some (pos t.mask h m).j }) | .live i=>if f i == h then some (.candidate (pos t.mask h m).j i (t.advance (pos t.mask h m))) else probe.go t f h fuel (t.advance (pos t.mask h m)))=_
   rw [e1]
   dsimp only
   rw [e2,if_neg (by simp)];rfl
  rw [e,this,show fuel+1 - (d+1)=fuel - d by omega,show m+1+d=m+(d+1) by omega]
theorem aF2 {t:SetTable} {f:Nat->Int} {h:Int} {m fuel:Nat} (hf:0<fuel) (e:t.slot (pos t.mask h m).j=.empty):probe.go t f h fuel (pos t.mask h m)=some (.empty (pos t.mask h m).j none):=by
 obtain ⟨n,rfl⟩:∃n,fuel=n+1:=⟨fuel - 1,by omega⟩
 show (match t.slot (pos t.mask h m).j with | .empty=>some (Met.empty (pos t.mask h m).j (pos t.mask h m).dummy) | .dummy=>probe.go t f h n (t.advance { pos t.mask h m with dummy:=some (pos t.mask h m).j }) | .live i=>if f i == h then some (.candidate (pos t.mask h m).j i (t.advance (pos t.mask h m))) else probe.go t f h n (t.advance (pos t.mask h m)))=_
 rw [e]
 dsimp only
 rw [tP]
theorem aJu {t:SetTable} {f:Nat->Int} {h:Int} {m fuel i:Nat} (hf:0<fuel) (e:t.slot (pos t.mask h m).j=.live i) (eh:(f i == h)=true):probe.go t f h fuel (pos t.mask h m)=some (.candidate (pos t.mask h m).j i (pos t.mask h (m+1))):=by
 obtain ⟨n,rfl⟩:∃n,fuel=n+1:=⟨fuel - 1,by omega⟩
 show (match t.slot (pos t.mask h m).j with | .empty=>some (Met.empty (pos t.mask h m).j (pos t.mask h m).dummy) | .dummy=>probe.go t f h n (t.advance { pos t.mask h m with dummy:=some (pos t.mask h m).j }) | .live i=>if f i == h then some (.candidate (pos t.mask h m).j i (t.advance (pos t.mask h m))) else probe.go t f h n (t.advance (pos t.mask h m)))=_
 rw [e]
 dsimp only
 rw [eh,if_pos rfl];rfl
end ST
end
section
namespace ST
open PySem PySem.SetTable
def Occ (xs:Array Nat) (j:Nat):Prop:=∃i:Nat,xs[i]?=some j
def Reach (mask:Nat) (xs:Array Nat) (h:Int) (j:Nat):Prop:=∃k,(pos mask h k).j=j/\∀k',k'<k->Occ xs (pos mask h k').j
structure TOk (es:Y3) (t:SetTable):Prop where
 cov:eK t.mask
 rise:sD t.place
 dum:t.dummies = #[]
 size:t.place.size=es.size
 fill:es.size<=t.mask
 reach:∀(i:Nat) (e:Int×Value) (j:Nat),es[i]?=some e->t.place[i]?=some j->Reach t.mask t.place e.1 j
theorem nD {P:Nat->Prop}:∀(N:Nat),P N->∃K,K<=N/\P K/\∀k,k<K->¬ P k:=by
 intro N
 induction N using Nat.strongRecOn with
 | _ N ih =>
  intro h
  by_cases q:∃k,k<N/\P k
  ·obtain ⟨k,hk,hp⟩:=q
   obtain ⟨K,h1,h2,h3⟩:=ih k hk hp
   exact ⟨K,by omega,h2,h3⟩
  ·exact ⟨N,Nat.le_refl _,h,fun k hk hp=>q ⟨k,hk,hp⟩⟩
theorem aFh {xs:Array Nat} (hr:sD xs):∀(j:Nat),(∀k,k<=j->Occ xs k)->∃i,j<=i/\xs[i]?=some j
 | 0,h=>by obtain ⟨i,e⟩:=h 0 (Nat.le_refl _);exact ⟨i,Nat.zero_le _,e⟩
 | j+1,h=>by
  obtain ⟨i,hi,e⟩:=aFh hr j fun k hk=>h k (by omega)
  obtain ⟨i',e'⟩:=h (j+1) (Nat.le_refl _)
  have:i<i':=by
   rcases Nat.lt_trichotomy i i' with q | q | q
   ·exact q
   ·subst q;rw [e] at e';cases e'
   ·have:=hr _ _ _ _ e' e q;omega
  exact ⟨i',by omega,e'⟩
theorem zM {mask:Nat} {xs:Array Nat} (hc:eK mask) (hr:sD xs) (hs:xs.size<=mask) (h:Int):∃K,K<=10 * (13+mask)/\¬ Occ xs (pos mask h K).j/\∀k,k<K->Occ xs (pos mask h k).j:=by
 have:∃j,j<=mask/\¬ Occ xs j:=by
  refine Classical.byContradiction fun q=>?_
  obtain ⟨i,hi,e⟩:=aFh hr mask fun k hk=>Classical.byContradiction fun z=>q ⟨k,hk,z⟩
  have:=(Array.getElem?_eq_some_iff.mp e).1
  omega
 obtain ⟨j,hj,hn⟩:=this
 obtain ⟨k,hk,e⟩:=met hc h hj
 obtain ⟨K,h1,h2,h3⟩:=nD (P:=fun k=>¬ Occ xs (pos mask h k).j) k (by rw [e];exact hn)
 exact ⟨K,by omega,h2,fun k hk=>Classical.byContradiction (h3 k hk)⟩
theorem TOk.free {es:Y3} {t:SetTable} (o:TOk es t) (h:Int):∃K,K<=10 * (13+t.mask)/\¬ Occ t.place (pos t.mask h K).j/\∀k,k<K->Occ t.place (pos t.mask h k).j :=
 zM o.cov o.rise (by rw [o.size];exact o.fill) h
theorem Reach.mono {mask:Nat} {xs ys:Array Nat} {h:Int} {j:Nat} (r:Reach mask xs h j) (hs:∀j,Occ xs j->Occ ys j):Reach mask ys h j:=by
 obtain ⟨k,e,q⟩:=r
 exact ⟨k,e,fun k' hk=>hs _ (q k' hk)⟩
theorem TOk.put {es:Y3} {t:SetTable} (o:TOk es t) {h:Int} {x:Value} {K:Nat} (hn:¬ Occ t.place (pos t.mask h K).j) (hk:∀k,k<K->Occ t.place (pos t.mask h k).j) (hf:es.size+1<=t.mask) :
  TOk (insertAt es (t.put (pos t.mask h K).j).2 (h,x)) (t.put (pos t.mask h K).j).1/\(t.put (pos t.mask h K).j).2<=es.size:=by
 obtain ⟨b1,b2,b3⟩:=iD o.rise (pos t.mask h K).j
 have hp:below t.place (pos t.mask h K).j<=es.size:=by rw [<- o.size];exact b1
 have sub:∀j,Occ t.place j->Occ (insertAt t.place (below t.place (pos t.mask h K).j) (pos t.mask h K).j) j:=fun j hj=>(aKf b1).mpr (.inr hj)
 refine ⟨⟨o.cov,aG4 o.rise fun i e=>hn ⟨i,e⟩,?_,?_,?_,?_⟩,hp⟩
 ·show (if has t.dummies (pos t.mask h K).j then eraseAt t.dummies (below t.dummies (pos t.mask h K).j) else t.dummies) = #[]
  rw [o.dum];rfl
 ·show (insertAt t.place (below t.place (pos t.mask h K).j) (pos t.mask h K).j).size=(insertAt es (below t.place (pos t.mask h K).j) (h,x)).size
  rw [kW b1,kW hp,o.size]
 ·show (insertAt es (below t.place (pos t.mask h K).j) (h,x)).size<=t.mask
  rw [kW hp];exact hf
 ·intro i e j e1 e2
  have e1:(insertAt es (below t.place (pos t.mask h K).j) (h,x))[i]?=some e:=e1
  have e2:(insertAt t.place (below t.place (pos t.mask h K).j) (pos t.mask h K).j)[i]?=some j:=e2
  rw [gR hp] at e1
  rw [gR b1] at e2
  show Reach t.mask (insertAt t.place (below t.place (pos t.mask h K).j) (pos t.mask h K).j) e.1 j
  by_cases q1:i<below t.place (pos t.mask h K).j
  ·rw [if_pos q1] at e1 e2
   exact (o.reach i e j e1 e2).mono sub
  ·rw [if_neg q1] at e1 e2
   by_cases q2:i=below t.place (pos t.mask h K).j
   ·rw [if_pos q2] at e1 e2
    cases e1;cases e2
    exact ⟨K,rfl,fun k' hk'=>sub _ (hk k' hk')⟩
   ·rw [if_neg q2] at e1 e2
    exact (o.reach (i - 1) e j e1 e2).mono sub
def At (owner:Array (Option Nat)) (j k:Nat):Prop:=owner[j]?=some (some k)
structure Lay (mask:Nat) (hs:Y0) (owner:Array (Option Nat)) (n:Nat):Prop where
 size:owner.size=mask+1
 all:∀k,k<n->∃j,At owner j k
 one:∀j j' k,At owner j k->At owner j' k->j=j'
 lt:∀j k,At owner j k->k<n
 reach:∀j k h,At owner j k->hs[k]?=some h->∃q,(pos mask h q).j=j/\∀q',q'<q->∃k',At owner (pos mask h q').j k'
theorem pN {mask:Nat} {h:Int} {b i u:Nat} (e:pos mask h b=start mask i u):∀k,k<=runEnd mask i - i->pos mask h (b+k)={ start mask i u with j:=i+k,more:=runEnd mask i - i - k }
 | 0,_=>by rw [Nat.add_zero,e];rfl
 | k+1,hk=>by
  have ih:=pN e k (by omega)
  show adv mask (pos mask h (b+k))=_
  rw [ih]
  unfold adv
  rw [if_pos (by show runEnd mask i - i - k > 0;omega)]
  show ({ j:=i+k+1,more:=runEnd mask i - i - k - 1,i:=i,perturb:=u,dummy:=none }:Probe)={ j:=i+(k+1),more:=runEnd mask i - i - (k+1),i:=i,perturb:=u,dummy:=none }
  congr 1
theorem aCn {mask:Nat} {h:Int} {b i u:Nat} (e:pos mask h b=start mask i u):pos mask h (b+(runEnd mask i - i+1))=start mask (leap mask i u).1 (leap mask i u).2:=by
 have:=pN e (runEnd mask i - i) (Nat.le_refl _)
 show adv mask (pos mask h (b+(runEnd mask i - i)))=_
 rw [this]
 unfold adv
 rw [if_neg (by show ¬ (runEnd mask i - i - (runEnd mask i - i) > 0);omega)]
 rfl
theorem tV {mask:Nat} {h:Int} {owner:Array (Option Nat)} (hsz:owner.size=mask+1):∀(fuel b i u:Nat),i<=mask->pos mask h b=start mask i u->(∀q,q<b->∃k,At owner (pos mask h q).j k) ->
  (∃T,T<fuel/\¬ ∃k,At owner (iter (lp mask) T (i,u)).1 k)->∃K,layClean.free mask owner fuel i u=some (pos mask h K).j/\(¬ ∃k,At owner (pos mask h K).j k)/\∀q,q<K->∃k,At owner (pos mask h q).j k
 | 0,b,i,u,_,_,_,⟨T,hT,_⟩=>by omega
 | fuel+1,b,i,u,hi,e,hb,⟨T,hT,hn⟩=>by
  have non:∀j,j<=mask->((owner.getD j (some 0)).isNone=true ↔ ¬ ∃k,At owner j k):=fun j hj=>by
   have hlt:j<owner.size:=by omega
   have eg:owner.getD j (some 0)=owner[j]:=by simp [Array.getD,hlt]
   rw [eg]
   constructor
   ·rintro h1 ⟨k,h2⟩
    unfold At at h2
    rw [Array.getElem?_eq_getElem hlt] at h2
    rw [Option.some.inj h2] at h1;cases h1
   ·intro h1
    cases hq:owner[j] with
    | none=>rfl
    | some k=>exact absurd ⟨k,by unfold At;rw [Array.getElem?_eq_getElem hlt,hq]⟩ h1
  have re:i<=runEnd mask i/\runEnd mask i<=mask:=by unfold runEnd;split<;>omega
  unfold layClean.free
  cases hf:(List.range (runEnd mask i+1 - i)).find? fun k=>(owner.getD (i+k) (some 0)).isNone with
  | some k =>
   obtain ⟨h1,h2,h3⟩:=List.find?_range_eq_some.mp hf
   have h2:=List.mem_range.mp h2
   have ej:∀q,q<=k->(pos mask h (b+q)).j=i+q:=fun q hq=>by rw [pN e q (by omega)]
   refine ⟨b+k,?_,?_,fun q hq=>?_⟩
   ·dsimp only;rw [ej k (Nat.le_refl _)]
   ·rw [ej k (Nat.le_refl _)];exact (non _ (by omega)).mp h1
   ·by_cases hqb:q<b
    ·exact hb q hqb
    ·obtain ⟨d,rfl⟩:∃d,q=b+d:=⟨q - b,by omega⟩
     rw [ej d (by omega)]
     refine Classical.byContradiction fun z=>?_
     have:=(non (i+d) (by omega)).mpr z
     have h4:=h3 d (by omega)
     rw [this] at h4;cases h4
  | none =>
   dsimp only
   have hall:∀d,d<=runEnd mask i - i->∃k,At owner (i+d) k:=fun d hd=>by
    refine Classical.byContradiction fun z=>?_
    have h1:=(non (i+d) (by omega)).mpr z
    have h2:=List.find?_eq_none.mp hf d (List.mem_range.mpr (by omega))
    exact h2 h1
   have hT0:T ≠ 0:=fun z=>by
    subst z
    exact hn (hall 0 (Nat.zero_le _))
   obtain ⟨T',rfl⟩:∃T',T=T'+1:=⟨T - 1,by omega⟩
   refine tV hsz fuel (b+(runEnd mask i - i+1)) _ _ ?_ (aCn e) (fun q hq=>?_) ⟨T',by omega,hn⟩
   ·show (_ % (mask+1))<=mask
    have:=Nat.mod_lt (i * 5+1+u / 32) (show mask+1 > 0 by omega)
    omega
   ·by_cases hqb:q<b
    ·exact hb q hqb
    ·obtain ⟨d,rfl⟩:∃d,q=b+d:=⟨q - b,by omega⟩
     rw [pN e d (by omega)]
     exact hall d (by omega)
end ST
end
section
namespace ST
open PySem PySem.SetTable
theorem aD8 {mask:Nat} (hc:eK mask) (h:Int) {j:Nat} (hj:j<=mask):∃T,T<=13+mask/\(iter (lp mask) T (bits h % (mask+1),bits h)).1=j:=by
 have h0:(bits h % (mask+1),bits h).1<=mask:=by
  have:=Nat.mod_lt (bits h) (show mask+1 > 0 by omega)
  show bits h % (mask+1)<=mask;omega
 have e13:iter (lp mask) 13 (bits h % (mask+1),bits h)=((iter (lp mask) 13 (bits h % (mask+1),bits h)).1,0):=by
  refine Prod.ext rfl ?_
  rw [aMj]
  exact Nat.div_eq_of_lt (Nat.lt_of_lt_of_le (aB5 h) (by decide))
 obtain ⟨m,hm,e⟩:=hc _ (aKo 13 _ h0) j hj
 refine ⟨13+m,by omega,?_⟩
 rw [gD,e13,mI]
 exact e
theorem Lay.room {mask:Nat} {hs:Y0} {owner:Array (Option Nat)} {n:Nat} (o:Lay mask hs owner n) (hn:n<=mask):∃j,j<=mask/\¬ ∃k,At owner j k:=by
 refine Classical.byContradiction fun q=>?_
 have all:∀j,j<=mask->∃k,At owner j k:=fun j hj=>Classical.byContradiction fun z=>q ⟨j,hj,z⟩
 have hex:∀j,∃k,j<=mask->At owner j k:=fun j=>by
  by_cases hj:j<=mask
  ·obtain ⟨k,e⟩:=all j hj;exact ⟨k,fun _=>e⟩
  ·exact ⟨0,fun z=>absurd z hj⟩
 obtain ⟨f,hf⟩:∃f:Nat->Nat,∀j,j<=mask->At owner j (f j):=⟨fun j=>Classical.choose (hex j),fun j=>Classical.choose_spec (hex j)⟩
 have nd:((List.range (mask+1)).map f).Nodup:=by
  refine List.pairwise_map.mpr ((List.nodup_range (n:=mask+1)).imp_of_mem fun {a b} ha hb hab z=>?_)
  have ha:=hf a (by have:=List.mem_range.mp ha;omega)
  have hb:=hf b (by have:=List.mem_range.mp hb;omega)
  rw [z] at ha
  exact hab (o.one _ _ _ ha hb)
 have sub:((List.range (mask+1)).map f) ⊆ List.range n:=fun k hk=>by
  obtain ⟨j,hj,rfl⟩:=List.mem_map.mp hk
  exact List.mem_range.mpr (o.lt _ _ (hf j (by have:=List.mem_range.mp hj;omega)))
 have:=nd.length_le_of_subset sub
 simp at this
 omega
theorem aFb {mask:Nat} {hs:Y0} {owner:Array (Option Nat)} {n:Nat} {h:Int} (hc:eK mask) (o:Lay mask hs owner n) (hn:n<=mask) (he:hs[n]?=some h) :
  ∃j,layClean.free mask owner (turns mask) (bits h % (mask+1)) (bits h)=some j/\Lay mask hs (owner.setIfInBounds j (some n)) (n+1):=by
 obtain ⟨j0,hj0,hn0⟩:=o.room hn
 obtain ⟨T,hT,eT⟩:=aD8 hc h hj0
 have hi:bits h % (mask+1)<=mask:=by have:=Nat.mod_lt (bits h) (show mask+1 > 0 by omega);omega
 obtain ⟨K,e,hK,hq⟩:=tV (h:=h) o.size (turns mask) 0 _ _ hi rfl (fun q hq=>by omega) ⟨T,by unfold turns;omega,by rw [eT];exact hn0⟩
 have hJ:(pos mask h K).j<owner.size:=by rw [o.size];have:=(aNr (mask:=mask) h K).1;omega
 have at':∀j k,At (owner.setIfInBounds (pos mask h K).j (some n)) j k ↔ (j=(pos mask h K).j/\k=n)\/(j ≠ (pos mask h K).j/\At owner j k):=fun j k=>by
  unfold At
  rw [Array.getElem?_setIfInBounds]
  by_cases q:(pos mask h K).j=j
  ·rw [if_pos q,if_pos hJ]
   constructor
   ·intro z;cases z;exact .inl ⟨q.symm,rfl⟩
   ·rintro (⟨_,rfl⟩ | ⟨z,_⟩)
    ·rfl
    ·exact absurd q.symm z
  ·rw [if_neg q]
   constructor
   ·intro z;exact .inr ⟨fun y=>q y.symm,z⟩
   ·rintro (⟨z,_⟩ | ⟨_,z⟩)
    ·exact absurd z.symm q
    ·exact z
 have keep:∀j k,At owner j k->At (owner.setIfInBounds (pos mask h K).j (some n)) j k:=fun j k z=>(at' j k).mpr (.inr ⟨fun y=>hK ⟨k,y ▸ z⟩,z⟩)
 refine ⟨_,e,⟨by rw [Array.size_setIfInBounds];exact o.size,fun k hk=>?_,fun j j' k h1 h2=>?_,fun j k h1=>?_,fun j k h' h1 h2=>?_⟩⟩
 ·by_cases q:k=n
  ·exact ⟨_,(at' _ _).mpr (.inl ⟨rfl,q⟩)⟩
  ·obtain ⟨j,z⟩:=o.all k (by omega)
   exact ⟨j,keep _ _ z⟩
 ·rcases (at' _ _).mp h1 with ⟨a1,a2⟩ | ⟨a1,a2⟩
  ·rcases (at' _ _).mp h2 with ⟨b1,b2⟩ | ⟨b1,b2⟩
   ·rw [a1,b1]
   ·have:=o.lt _ _ b2;omega
  ·rcases (at' _ _).mp h2 with ⟨b1,b2⟩ | ⟨b1,b2⟩
   ·have:=o.lt _ _ a2;omega
   ·exact o.one _ _ _ a2 b2
 ·rcases (at' _ _).mp h1 with ⟨a1,a2⟩ | ⟨a1,a2⟩
  ·omega
  ·have:=o.lt _ _ a2;omega
 ·rcases (at' _ _).mp h1 with ⟨a1,a2⟩ | ⟨a1,a2⟩
  ·subst a2
   rw [he] at h2;cases h2
   refine ⟨K,a1.symm,fun q' hq'=>?_⟩
   obtain ⟨k',z⟩:=hq q' hq'
   exact ⟨k',keep _ _ z⟩
  ·obtain ⟨q,e1,e2⟩:=o.reach j k h' a2 h2
   refine ⟨q,e1,fun q' hq'=>?_⟩
   obtain ⟨k',z⟩:=e2 q' hq'
   exact ⟨k',keep _ _ z⟩
def aJp (mask:Nat):Option (Array (Option Nat)×Nat)->Int->Option (Array (Option Nat)×Nat):=fun acc h=>do
  let (owner,k) <- acc
  let j <- layClean.free mask owner (turns mask) (bits h % (mask+1)) (bits h)
  pure (owner.setIfInBounds j (some k),k+1)
theorem xV {mask:Nat} {hs:Y0} (hc:eK mask) (hl:hs.length<=mask):∀(rest pre:Y0) (owner:Array (Option Nat)),hs=pre++rest->Lay mask hs owner pre.length ->
  ∃owner',rest.foldl (aJp mask) (some (owner,pre.length))=some (owner',hs.length)/\Lay mask hs owner' hs.length
 | [],pre,owner,e,o=>by
  rw [List.append_nil] at e
  subst e
  exact ⟨owner,rfl,o⟩
 | h::rest,pre,owner,e,o=>by
  have hn:pre.length<=mask:=by rw [e] at hl;simp at hl;omega
  have he:hs[pre.length]?=some h:=by rw [e];simp
  obtain ⟨j,e1,o1⟩:=aFb hc o hn he
  obtain ⟨owner',e2,o2⟩:=xV hc hl rest (pre ++ [h]) (owner.setIfInBounds j (some pre.length)) (by rw [e];simp) (by simpa using o1)
  refine ⟨owner',?_,o2⟩
  rw [List.foldl_cons]
  have:aJp mask (some (owner,pre.length)) h=some (owner.setIfInBounds j (some pre.length),(pre ++ [h]).length):=by
   show (layClean.free mask owner (turns mask) (bits h % (mask+1)) (bits h)).bind _=_
   rw [e1];simp
  rw [this];exact e2
theorem aC5 {mask:Nat} {hashes:Array Int} (hc:eK mask) (hl:hashes.size<=mask):∃owner,layClean mask hashes=some owner/\Lay mask hashes.toList owner hashes.size:=by
 have o0:Lay mask hashes.toList (Array.replicate (mask+1) none) ([]:Y0).length:=by
  have no:∀j k,¬ At (Array.replicate (mask+1) none) j k:=fun j k z=>by
   unfold At at z
   rw [Array.getElem?_replicate] at z
   split at z<;>cases z
  exact ⟨by simp,fun k hk=>by simp at hk,fun j j' k z _=>absurd z (no j k),fun j k z=>absurd z (no j k),fun j k h z _=>absurd z (no j k)⟩
 obtain ⟨owner,e,o⟩:=xV (hs:=hashes.toList) hc (by simpa using hl) hashes.toList [] _ rfl o0
 refine ⟨owner,?_,by simpa using o⟩
 have:layClean mask hashes=((hashes.foldl (aJp mask) (some (Array.replicate (mask+1) none,0))).map (·.1)):=rfl
 rw [this,<- Array.foldl_toList]
 show Option.map _ (List.foldl (aJp mask) (some (Array.replicate (mask+1) none,([]:Y0).length)) hashes.toList)=_
 rw [e];rfl
end ST
end
section
namespace ST
open PySem PySem.SetTable
def eJ (mask:Nat) (owner:Array (Option Nat)):List (Nat×Nat):=(List.range (mask+1)).filterMap fun j=>(owner.getD j none).map (j,·)
theorem iF {mask:Nat} {hs:Y0} {owner:Array (Option Nat)} {n:Nat} (o:Lay mask hs owner n) {j k:Nat}:(j,k)∈eJ mask owner ↔ At owner j k:=by
 unfold eJ
 rw [List.mem_filterMap]
 constructor
 ·rintro ⟨a,ha,e⟩
  have ha:=List.mem_range.mp ha
  have hlt:a<owner.size:=by rw [o.size];exact ha
  have eg:owner.getD a none=owner[a]:=by simp [Array.getD,hlt]
  rw [eg] at e
  cases hq:owner[a] with
  | none=>rw [hq] at e;cases e
  | some k' =>
   rw [hq] at e
   cases e
   unfold At;rw [Array.getElem?_eq_getElem hlt,hq]
 ·intro e
  have hlt:=(Array.getElem?_eq_some_iff.mp e).1
  refine ⟨j,List.mem_range.mpr (by rw [<- o.size];exact hlt),?_⟩
  have eg:owner.getD j none=owner[j]:=by simp [Array.getD,hlt]
  have:owner[j]=some k:=by
   have:=e;unfold At at this;rw [Array.getElem?_eq_getElem hlt] at this;exact Option.some.inj this
  rw [eg,this];rfl
theorem aA7 {mask:Nat} {owner:Array (Option Nat)}:(eJ mask owner).Pairwise fun a b=>a.1<b.1:=by
 refine List.Pairwise.filterMap (S:=fun a b:Nat×Nat=>a.1<b.1) _ (fun a a' h b hb b' hb'=>?_) (List.pairwise_lt_range (n:=mask+1))
 obtain ⟨x,_,rfl⟩:=Option.map_eq_some_iff.mp hb
 obtain ⟨y,_,rfl⟩:=Option.map_eq_some_iff.mp hb'
 exact h
theorem zE {mask:Nat} {hs:Y0} {owner:Array (Option Nat)} {n:Nat} (o:Lay mask hs owner n):((eJ mask owner).map (·.2)).Perm (List.range n):=by
 refine (List.perm_ext_iff_of_nodup ?_ List.nodup_range).mpr fun k=>?_
 ·refine List.pairwise_map.mpr ((aA7 (mask:=mask) (owner:=owner)).imp_of_mem fun {a b} ha hb hab z=>?_)
  have ha:=(iF o (j:=a.1) (k:=a.2)).mp ha
  have hb:=(iF o (j:=b.1) (k:=b.2)).mp hb
  have z:a.2=b.2:=z
  rw [z] at ha
  have:=o.one _ _ _ ha hb
  omega
 ·rw [List.mem_range]
  constructor
  ·intro h
   obtain ⟨⟨j,k'⟩,h1,rfl⟩:=List.mem_map.mp h
   exact o.lt _ _ ((iF o).mp h1)
  ·intro h
   obtain ⟨j,z⟩:=o.all k h
   exact List.mem_map.mpr ⟨(j,k),(iF o).mpr z,rfl⟩
theorem yZ {α:Type} {es:Array α}:∀ {ks:T0},(∀k∈ks,k<es.size)->∀i:Nat,(ks.filterMap (fun k=>es[k]?))[i]?=(ks[i]?).bind (fun k=>es[k]?)
 | [],_,i=>by simp
 | k::ks,h,i=>by
  have hk:=h k List.mem_cons_self
  have e:es[k]?=some es[k]:=Array.getElem?_eq_getElem hk
  rw [List.filterMap_cons_some e]
  cases i with
  | zero=>simp [e]
  | succ i=>simpa using yZ (fun k hk=>h k (List.mem_cons_of_mem _ hk)) i
theorem wR {α:Type} (es:Array α):(List.range es.size).filterMap (es[·]?)=es.toList:=by
 refine List.ext_getElem? fun i=>?_
 rw [yZ (fun k hk=>List.mem_range.mp hk) i]
 by_cases h:i<es.size
 ·rw [List.getElem?_range h,Array.getElem?_toList];rfl
 ·rw [List.getElem?_eq_none (by simp;omega),List.getElem?_eq_none (by simp;omega)];rfl
theorem xZ {es:Y3} {t:SetTable} {wanted:Nat} (hc:eK (sizeAbove wanted - 1)) (hs:es.size<=sizeAbove wanted - 1) :
  ∃t' order,t.relaid (es.map (·.1)) wanted=some (t',order)/\TOk (order.filterMap (es[·]?)) t'/\(order.filterMap (es[·]?)).toList.Perm es.toList/\t'.led=t.led/\t'.plain=t.plain/\t'.mask=sizeAbove wanted - 1:=by
 obtain ⟨owner,e,o⟩:=aC5 (mask:=sizeAbove wanted - 1) (hashes:=es.map (·.1)) hc (by simpa using hs)
 rw [Array.size_map] at o
 have perm:=zE o
 have hlt:∀k∈(eJ (sizeAbove wanted - 1) owner).map (·.2),k<es.size:=fun k hk=>List.mem_range.mp (perm.subset hk)
 have hlen:(eJ (sizeAbove wanted - 1) owner).length=es.size:=by have:=perm.length_eq;simpa using this
 refine ⟨{ mask:=sizeAbove wanted - 1,place:=((eJ (sizeAbove wanted - 1) owner).map (·.1)).toArray,dummies:=#[],finger:=t.finger,led:=t.led,moves:=t.movedTo (sizeAbove wanted - 1),plain:=t.plain },((eJ (sizeAbove wanted - 1) owner).map (·.2)).toArray,?_,?_,?_,rfl,rfl,rfl⟩
 ·unfold SetTable.relaid SetTable.laid
  rw [e];rfl
 ·have efm:(((eJ (sizeAbove wanted - 1) owner).map (·.2)).toArray.filterMap (es[·]?)).toList=((eJ (sizeAbove wanted - 1) owner).map (·.2)).filterMap (es[·]?):=by simp
  have hsz:(((eJ (sizeAbove wanted - 1) owner).map (·.2)).toArray.filterMap (es[·]?)).size=es.size:=by
   rw [<- Array.length_toList,efm,(perm.filterMap (es[·]?)).length_eq,wR];simp
  have occ:∀j,Occ ((eJ (sizeAbove wanted - 1) owner).map (·.1)).toArray j ↔ ∃k,At owner j k:=fun j=>by
   constructor
   ·rintro ⟨i,ei⟩
    rw [List.getElem?_toArray,List.getElem?_map] at ei
    obtain ⟨⟨j',k⟩,e1,rfl⟩:=Option.map_eq_some_iff.mp ei
    exact ⟨k,(iF o).mp (List.mem_of_getElem? e1)⟩
   ·rintro ⟨k,z⟩
    obtain ⟨i,hi⟩:=List.mem_iff_getElem?.mp ((iF o).mpr z)
    exact ⟨i,by rw [List.getElem?_toArray,List.getElem?_map,hi];rfl⟩
  refine ⟨hc,?_,rfl,?_,by rw [hsz];exact hs,?_⟩
  ·intro i k a b ea eb hik
   rw [List.getElem?_toArray,List.getElem?_map] at ea eb
   obtain ⟨x,e1,rfl⟩:=Option.map_eq_some_iff.mp ea
   obtain ⟨y,e2,rfl⟩:=Option.map_eq_some_iff.mp eb
   obtain ⟨h1,e1⟩:=List.getElem?_eq_some_iff.mp e1
   obtain ⟨h2,e2⟩:=List.getElem?_eq_some_iff.mp e2
   have:=List.pairwise_iff_getElem.mp (aA7 (mask:=sizeAbove wanted - 1) (owner:=owner)) i k h1 h2 hik
   rw [e1,e2] at this;exact this
  ·rw [hsz];simp [hlen]
  ·intro i en j e1 e2
   rw [<- Array.getElem?_toList,efm,yZ hlt] at e1
   obtain ⟨k,e3,e4⟩:=Option.bind_eq_some_iff.mp e1
   have e2:((eJ (sizeAbove wanted - 1) owner).map (·.1)).toArray[i]?=some j:=e2
   rw [List.getElem?_toArray,List.getElem?_map] at e2
   rw [List.getElem?_map] at e3
   obtain ⟨x,e5,rfl⟩:=Option.map_eq_some_iff.mp e2
   rw [e5] at e3
   cases e3
   have za:=(iF o (j:=x.1) (k:=x.2)).mp (List.mem_of_getElem? e5)
   have e4:es[x.2]?=some en:=e4
   obtain ⟨q,q1,q2⟩:=o.reach x.1 x.2 en.1 za (by simp [e4])
   exact ⟨q,q1,fun q' hq'=>(occ _).mpr (q2 q' hq')⟩
 ·have efm:(((eJ (sizeAbove wanted - 1) owner).map (·.2)).toArray.filterMap (es[·]?)).toList=((eJ (sizeAbove wanted - 1) owner).map (·.2)).filterMap (es[·]?):=by simp
  rw [efm]
  have:=perm.filterMap (es[·]?)
  rw [wR] at this
  exact this
end ST
end
section
namespace ST
open PySem PySem.SetTable
section
variable {prog:Program} {w:World} {K:Type} [DecidableEq K] {knd:KeyKind prog w K} {A:Around} {E:Y9} {s:Shared}
theorem rO (n:Nat) {v:Value} (h:carriedByValue v=true):ofAClassStatement n v=pure false:=by
 cases v with
 | ref a=>simp [carriedByValue] at h
 | _=>first | rfl | (cases n<;>rfl)
theorem aGa {ks:List K} {a:Addr} {Q:Bool->Shared->Prop} (hk:IsTupleKey knd s.heap ks a) (h:Q false s):wpAny (model prog w) A (ofAClassStatement 8 (.ref a)) Q E s:=by
 have hT:=hk.typeIs
 obtain ⟨o,items,n,ho,hc,hd,hi⟩:=hk
 unfold ofAClassStatement
 refine wpAny_bind (wpAny_typeOf hT ?_)
 dsimp only
 rw [if_pos (by decide)]
 refine wpAny_bind (wpAny_pure ?_)
 rw [if_neg (by simp)]
 refine wpAny_bind (wpAny_seqItems ho hd ?_)
 dsimp only
 refine wpAny_bind ?_
 show wpAny _ _ (forIn items _ _) _ _ s
 rw [<- Array.forIn_toList]
 refine wpAny_forIn_list _ (fun rest r s'=>r.1=none/\s'=s/\∀v∈rest,carriedByValue v=true) _ ?_ ?_ _ _ ⟨rfl,rfl,hi.byValue⟩
 ·rintro v rest r s' ⟨hr,rfl,hall⟩
  rw [rO _ (hall v List.mem_cons_self)]
  refine wpAny_bind (wpAny_pure ?_)
  rw [if_neg (by simp)]
  exact wpAny_pure ⟨rfl,rfl,fun u hu'=>hall u (List.mem_cons_of_mem _ hu')⟩
 ·rintro ⟨r1,r2⟩ s' ⟨hr,rfl,_⟩
  simp only at hr
  subst hr
  exact wpAny_pure h
theorem aNb {ks:List K} {a:Addr} {ys:Y1} {Q:Bool->Shared->Prop} (hk:IsTupleKey knd s.heap ks a) (hy:∀y∈ys,∃ks' b,y=.ref b/\IsTupleKey knd s.heap ks' b) (h:Q false s):wpAny (model prog w) A (searchCouldBeSeen (.ref a) ys) Q E s:=by
 unfold searchCouldBeSeen
 refine wpAny_bind ?_
 refine wpAny_forIn_list _ (fun rest r s'=>r.1=none/\s'=s/\∀y∈rest,∃ks' b,y=Value.ref b/\IsTupleKey knd s.heap ks' b) _ ?_ ?_ _ _ ⟨rfl,rfl,hy⟩
 ·rintro v rest r s' ⟨hr,rfl,hall⟩
  obtain ⟨ks',b,rfl,hb⟩:=hall v List.mem_cons_self
  have tl:∀y∈rest,∃ks' b,y=Value.ref b/\IsTupleKey knd s'.heap ks' b:=fun u hu'=>hall u (List.mem_cons_of_mem _ hu')
  dsimp only
  by_cases hab:(a == b || (carriedByValue (.ref a) && carriedByValue (.ref b)))=true
  ·rw [if_pos hab]
   exact wpAny_pure ⟨rfl,rfl,tl⟩
  ·rw [if_neg hab]
   refine wpAny_bind (wpAny_eqIsQuiet_tuple hk ?_)
   rw [if_neg (by simp)]
   refine wpAny_bind (wpAny_eqIsQuiet_tuple hb ?_)
   rw [if_neg (by simp)]
   refine wpAny_bind (aGa hk ?_)
   rw [if_neg (by simp)]
   refine wpAny_bind (aGa hb ?_)
   rw [if_neg (by simp)]
   exact wpAny_pure ⟨rfl,rfl,tl⟩
 ·rintro ⟨r1,r2⟩ s' ⟨hr,rfl,_⟩
  simp only at hr
  subst hr
  exact wpAny_pure h
end
end ST
end
section
namespace ST
open PySem PySem.SetTable
section
variable {prog:Program} {w:World} {K:Type} [DecidableEq K] (knd:KeyKind prog w K)
structure TS (h:Heap) (es:Y3) (t:SetTable) (kas:List (List K×Addr)):Prop where
 ok:TOk es t
 ents:es.toList=kas.map fun p=>(tupleKeyHash knd p.1,Value.ref p.2)
 keys:∀p∈kas,IsTupleKey knd h p.1 p.2
 nd:(kas.map (·.1)).Nodup
end
section
variable {prog:Program} {w:World} {K:Type} [DecidableEq K] {knd:KeyKind prog w K} {A:Around} {E:Y9} {s:Shared}
theorem TS.at {h:Heap} {es:Y3} {t:SetTable} {kas:List (List K×Addr)} (T:TS knd h es t kas) (i:Nat):es[i]?=(kas[i]?).map fun p=>(tupleKeyHash knd p.1,Value.ref p.2):=by
 rw [<- Array.getElem?_toList,T.ents,List.getElem?_map]
theorem TS.len {h:Heap} {es:Y3} {t:SetTable} {kas:List (List K×Addr)} (T:TS knd h es t kas):es.size=kas.length:=by
 rw [<- Array.length_toList,T.ents,List.length_map]
theorem TS.fits {h:Heap} {es:Y3} {t:SetTable} {kas:List (List K×Addr)} (T:TS knd h es t kas):t.fits es.size=true:=by
 unfold SetTable.fits SetTable.fill
 rw [T.ok.size,T.ok.dum]
 simp [T.ok.fill]
theorem tL {S x:Addr} {o:Obj} {es:Y3} {ep:Nat} {t:SetTable} {kas:List (List K×Addr)} {ks:List K} {N:Nat} {Q:SetFound->Shared->Prop}
  (ho:s.heap.get? S=some o) (hd:o.data=.set es ep t) (T:TS knd s.heap es t kas) (hx:IsTupleKey knd s.heap ks x) (hu:A.units<cLine) (hg:t.gaveWay=false) (hN:N<=10 * (13+t.mask))
  (hf:¬ Occ t.place (pos t.mask (tupleKeyHash knd ks) N).j) (hb:∀k,k<N->Occ t.place (pos t.mask (tupleKeyHash knd ks) k).j)
  (hq:Q (if ks∈kas.map (·.1) then .there none else .free (pos t.mask (tupleKeyHash knd ks) N).j false) s) :
  ∀(d m fuel:Nat) (stand:Option Probe),m+d=N->d<fuel->stand.getD (t.probeStart (tupleKeyHash knd ks))=pos t.mask (tupleKeyHash knd ks) m ->
   (∀(i:Nat) (p:List K×Addr) (j:Nat),kas[i]?=some p->p.1=ks->t.place[i]?=some j->∃k,m<=k/\k<N/\(pos t.mask (tupleKeyHash knd ks) k).j=j) ->
   wpAny (model prog w) A (setSearchFrom S (.ref x) (tupleKeyHash knd ks) true fuel stand) Q E s:=by
 intro d
 induction d using Nat.strongRecOn with
 | _ d ih =>
  intro m fuel stand hm hfu hst hkey
  obtain ⟨fuel,rfl⟩:∃n,fuel=n+1:=⟨fuel - 1,by omega⟩
  unfold setSearchFrom
  refine wpAny_bind (wpAny_setState_of ho hd T.fits ?_)
  dsimp only
  rw [hg,if_neg (by simp),hst]
  obtain ⟨k,hkN,⟨hmk,hstop⟩,hfirst⟩:=nD (P:=fun k=>m<=k/\(k=N\/∃(i:Nat) (p:List K×Addr),t.place[i]?=some (pos t.mask (tupleKeyHash knd ks) k).j/\kas[i]?=some p/\tupleKeyHash knd p.1=tupleKeyHash knd ks)) N ⟨by omega,.inl rfl⟩
  have kasAt:∀(i j:Nat),t.place[i]?=some j->∃p,kas[i]?=some p:=fun i j e=>by
   have h1:=(Array.getElem?_eq_some_iff.mp e).1
   rw [T.ok.size,T.len] at h1
   exact ⟨_,List.getElem?_eq_getElem h1⟩
  have jump:∀f:Nat->Int,(∀i,f i=(es[i]?.map (·.1)).getD 0)->t.probe f (tupleKeyHash knd ks) (pos t.mask (tupleKeyHash knd ks) m)=probe.go t f (tupleKeyHash knd ks) (10 * turns t.mask - (k - m)) (pos t.mask (tupleKeyHash knd ks) k):=fun f hf'=>by
   have:=yI (t:=t) (f:=f) (h:=tupleKeyHash knd ks) (k - m) m (10 * turns t.mask) (by unfold turns;omega) fun k' h1 h2=>by
    obtain ⟨i,e⟩:=hb k' (by omega)
    refine ⟨i,oF T.ok.rise e,?_⟩
    obtain ⟨p,ep⟩:=kasAt i _ e
    rw [hf' i,T.at i,ep]
    refine Bool.eq_false_iff.mpr fun z=>hfirst k' (by omega) ⟨h1,.inr ⟨i,p,e,ep,by simpa using z⟩⟩
   rw [show m+(k - m)=k by omega] at this
   exact this
  have fpos:0<10 * turns t.mask - (k - m):=by unfold turns;omega
  by_cases hcand:∃(i:Nat) (p:List K×Addr),t.place[i]?=some (pos t.mask (tupleKeyHash knd ks) k).j/\kas[i]?=some p/\tupleKeyHash knd p.1=tupleKeyHash knd ks
  ·obtain ⟨i,p,e1,e2,e3⟩:=hcand
   have hkN':k<N:=by
    rcases Nat.lt_or_ge k N with q | q
    ·exact q
    ·have:k=N:=by omega
     subst this
     exact absurd ⟨i,e1⟩ hf
   have pr:∀f:Nat->Int,(∀i,f i=(es[i]?.map (·.1)).getD 0)->t.probe f (tupleKeyHash knd ks) (pos t.mask (tupleKeyHash knd ks) m)=some (.candidate (pos t.mask (tupleKeyHash knd ks) k).j i (pos t.mask (tupleKeyHash knd ks) (k+1))):=fun f hf'=>by
    rw [jump f hf']
    refine aJu fpos (oF T.ok.rise e1) ?_
    rw [hf' i,T.at i,e2]
    simpa using e3
   rw [pr]
   rotate_left
   ·intro i;rfl
   dsimp only
   have ei:es[i]?=some (tupleKeyHash knd p.1,Value.ref p.2):=by rw [T.at i,e2];rfl
   have hp:=T.keys p (List.mem_of_getElem? e2)
   have rest:wpAny (model prog w) A (do
     let some (_,y):=es[i]? | unsupported "internal:set-entry"
     let equal <- holding [y] (eqBool y (.ref x))
     let (es',_,t') <- setState S
     if true && equal then return SetFound.there none
     let some same:=t'.sameMemory t.moves t.mask | unsupported "set.changed-during-lookup:is-the-new-block-at-the-old-address"
     let still <- match (if same then t'.slot (pos t.mask (tupleKeyHash knd ks) k).j else .empty) with
      | .live i'=>match es'[i']? with
       | some (_,y')=>do pure (if <- isSame y' y then some i' else none)
       | none=>pure none
      | _=>pure none
     match still with
     | none=>rule "set.search.anew";setSearchFrom S (.ref x) (tupleKeyHash knd ks) true fuel none
     | some i'=>if equal then return SetFound.there (some i') else setSearchFrom S (.ref x) (tupleKeyHash knd ks) true fuel (some (pos t.mask (tupleKeyHash knd ks) (k+1)))) Q E s:=by
    rw [ei]
    dsimp only
    refine wpAny_bind (wpAny_holding (wpAny_eqBool_tuple hu hp hx ?_))
    refine wpAny_bind (wpAny_setState_of ho hd T.fits ?_)
    dsimp only
    by_cases heq:p.1=ks
    ·rw [decide_eq_true heq,if_pos (by simp)]
     have:ks∈kas.map (·.1):=List.mem_map.mpr ⟨p,List.mem_of_getElem? e2,heq⟩
     rw [if_pos this] at hq
     exact wpAny_pure hq
    ·rw [decide_eq_false heq,if_neg (by simp)]
     have hsm:t.sameMemory t.moves t.mask=some true:=by simp [SetTable.sameMemory]
     rw [hsm]
     dsimp only
     rw [if_pos rfl,oF T.ok.rise e1]
     dsimp only
     rw [ei]
     dsimp only
     have his:isSame (.ref p.2) (.ref p.2)=pure true:=by show (if (p.2 == p.2)=true then pure true else _)=_;rw [if_pos (beq_self_eq_true p.2)]
     rw [his]
     refine wpAny_bind (wpAny_pure ?_)
     rw [if_pos rfl]
     refine wpAny_bind (wpAny_pure ?_)
     show wpAny _ _ (if false=true then _ else _) _ _ _
     rw [if_neg (by simp)]
     refine ih (N - (k+1)) (by omega) (k+1) fuel _ (by omega) (by omega) rfl fun i' p' j' h1 h2 h3=>?_
     obtain ⟨k',a1,a2,a3⟩:=hkey i' p' j' h1 h2 h3
     refine ⟨k',?_,a2,a3⟩
     rcases Nat.lt_trichotomy k' k with z | z | z
     ·exact absurd ⟨a1,.inr ⟨i',p',by rw [a3];exact h3,h1,by rw [h2]⟩⟩ (hfirst k' z)
     ·subst z
      rw [<- a3] at h3
      have:i=i':=by
       rcases Nat.lt_trichotomy i i' with y | y | y
       ·have:=T.ok.rise _ _ _ _ e1 h3 y;omega
       ·exact y
       ·have:=T.ok.rise _ _ _ _ h3 e1 y;omega
      subst this
      rw [e2] at h1;cases h1
      exact absurd h2 heq
     ·omega
   cases hl:t.led with
   | true =>
    rw [if_neg (by simp)]
    exact rest
   | false =>
    rw [if_pos (by simp)]
    refine wpAny_bind (aNb hx (fun y hy=>?_) ?_)
    ·obtain ⟨e,he,rfl⟩:=List.mem_map.mp hy
     have he:e∈es:=(Array.mem_filter.mp (Array.mem_toList_iff.mp he)).1
     have he:e∈es.toList:=Array.mem_toList_iff.mpr he
     rw [T.ents] at he
     obtain ⟨p',hp',rfl⟩:=List.mem_map.mp he
     exact ⟨p'.1,p'.2,rfl,T.keys p' hp'⟩
    ·rw [if_neg (by simp)]
     exact rest
  ·have hkN':k=N:=by
    rcases hstop with q | q
    ·exact q
    ·exact absurd q hcand
   subst hkN'
   have pr:∀f:Nat->Int,(∀i,f i=(es[i]?.map (·.1)).getD 0)->t.probe f (tupleKeyHash knd ks) (pos t.mask (tupleKeyHash knd ks) m)=some (.empty (pos t.mask (tupleKeyHash knd ks) k).j none):=fun f hf'=>by
    rw [jump f hf']
    exact aF2 fpos (aAi T.ok.dum fun i e=>hf ⟨i,e⟩)
   rw [pr]
   rotate_left
   ·intro i;rfl
   dsimp only
   have:¬ ks∈kas.map (·.1):=fun z=>by
    obtain ⟨p,hp,rfl⟩:=List.mem_map.mp z
    obtain ⟨i,hi⟩:=List.mem_iff_getElem?.mp hp
    have hlt:i<t.place.size:=by rw [T.ok.size,T.len];exact (List.getElem?_eq_some_iff.mp hi).1
    obtain ⟨k',a1,a2,a3⟩:=hkey i p _ hi rfl (Array.getElem?_eq_getElem hlt)
    exact hfirst k' a2 ⟨a1,.inr ⟨i,p,by rw [a3];exact Array.getElem?_eq_getElem hlt,hi,rfl⟩⟩
   rw [if_neg this] at hq
   exact wpAny_pure hq
end
end ST
end
section
namespace ST
open PySem PySem.SetTable
section
variable {prog:Program} {w:World} {A:Around} {E:Y9} {s:Shared}
theorem hbv {ks:Y0} {a:Addr} {Q:Bool->Shared->Prop} (hk:IsTupleKey (intKind prog w) s.heap ks a) (h:Q true s):wpAny (model prog w) A (hashByValue 8 (.ref a)) Q E s:=by
 have hT:=hk.typeIs
 obtain ⟨o,items,n,ho,hc,hd,hi⟩:=hk
 have hall:∀v∈items.toList,hashByValue 7 v=pure true:=by
  clear ho hd hc h
  generalize items.toList=l at hi
  induction hi with
  | nil=>intro v hv;simp at hv
  | @cons k v' ks vs h1 _ ih =>
   intro v hv
   rcases List.mem_cons.mp hv with rfl | hv
   ·obtain ⟨t,rfl⟩:=Value.isInt_shape h1;rfl
   ·exact ih v hv
 unfold hashByValue
 refine wpAny_bind (wpAny_specialOf hT F.slot_tuple_hash.lookup ?_)
 show wpAny _ _ (seqItems? (.ref a) >>= _) _ _ s
 refine wpAny_bind (wpAny_seqItems ho hd ?_)
 refine wpAny_bind ?_
 show wpAny _ _ (forIn items _ _) _ _ s
 rw [<- Array.forIn_toList]
 refine wpAny_forIn_list _ (fun rest r s'=>r.1=none/\s'=s/\∀v∈rest,hashByValue 7 v=pure true) _ ?_ ?_ _ _ ⟨rfl,rfl,hall⟩
 ·rintro v rest r s' ⟨hr,rfl,hall⟩
  rw [hall v List.mem_cons_self]
  refine wpAny_bind (wpAny_pure ?_)
  rw [if_neg (by simp)]
  exact wpAny_pure ⟨rfl,rfl,fun u hu'=>hall u (List.mem_cons_of_mem _ hu')⟩
 ·rintro ⟨r1,r2⟩ s' ⟨hr,rfl,_⟩
  simp only at hr
  subst hr
  exact wpAny_pure h
theorem jA {h h':Heap} {ks:Y0} {a S:Addr} {o:Obj} {es:Y3} {ep:Nat} {t:SetTable} (x:IsTupleKey (intKind prog w) h ks a) (ho:h.get? S=some o) (hd:o.data=.set es ep t) (hs:Heap.SameBut S h h'):IsTupleKey (intKind prog w) h' ks a:=by
 obtain ⟨o',items,n,ho',hc,hd',hi⟩:=x
 have hne:a ≠ S:=by
  rintro rfl
  obtain rfl:o'=o:=Option.some.inj (ho'.symm.trans ho)
  rw [hd] at hd';exact nomatch hd'
 exact ⟨o',items,n,(hs.2 a hne).trans ho',hc,hd',hi⟩
def cT (prog:Program) (w:World) (h:Heap) (S:Addr) (kas:Y7):Prop :=
 ∃o es ep t,h.get? S=some o/\o.ExactSet/\o.data=.set es ep t/\TS (intKind prog w) h es t kas/\t.plain=true/\t.led = !(w.params.followText "set-order")/\((t.mask=7/\kas.length<=4)\/(t.mask=31/\kas.length<=18))
theorem TS.heap {h h':Heap} {es:Y3} {t:SetTable} {kas:Y7} (T:TS (intKind prog w) h es t kas) (hk:∀p∈kas,IsTupleKey (intKind prog w) h' p.1 p.2):TS (intKind prog w) h' es t kas:=⟨T.ok,T.ents,hk,T.nd⟩
theorem wI {kas:Y7} {es:Y3} {p:Nat} {ks:Y0} {x:Addr} (he:es.toList=kas.map fun p=>(tupleKeyHash (intKind prog w) p.1,Value.ref p.2)) (hp:p<=es.size) :
  (insertAt es p (tupleKeyHash (intKind prog w) ks,Value.ref x)).toList=(kas.take p++(ks,x)::kas.drop p).map fun p=>(tupleKeyHash (intKind prog w) p.1,Value.ref p.2):=by
 have e:(insertAt es p (tupleKeyHash (intKind prog w) ks,Value.ref x)).toList=es.toList.take p++(tupleKeyHash (intKind prog w) ks,Value.ref x)::es.toList.drop p:=by
  simp [insertAt,List.take_of_length_le]
 rw [e,he];simp
theorem xE {α:Type} {l:List α} {p:Nat} {x:α}:(l.take p++x::l.drop p).Perm (x::l):=by
 have:(l.take p++x::l.drop p).Perm (x::(l.take p++l.drop p)):=List.perm_middle
 rwa [List.take_append_drop] at this
theorem kX {kas:Y7} {l:List (Int×Value)} (hp:l.Perm (kas.map fun p=>(tupleKeyHash (intKind prog w) p.1,Value.ref p.2))):∃kas':Y7,l=kas'.map (fun p=>(tupleKeyHash (intKind prog w) p.1,Value.ref p.2))/\kas'.Perm kas:=by
 generalize e:(kas.map fun p=>(tupleKeyHash (intKind prog w) p.1,Value.ref p.2))=m at hp
 induction hp generalizing kas with
 | nil=>exact ⟨[],rfl,by cases kas<;>first | exact .refl _ | cases e⟩
 | cons x _ ih =>
  cases kas with
  | nil=>cases e
  | cons k kas =>
   cases e
   obtain ⟨kas',h1,h2⟩:=ih rfl
   exact ⟨k::kas',by rw [h1];rfl,h2.cons k⟩
 | swap x y l =>
  cases kas with
  | nil=>cases e
  | cons k kas =>
   cases kas with
   | nil=>cases e
   | cons k2 kas=>cases e;exact ⟨k2::k::kas,rfl,.swap _ _ _⟩
 | trans h1 h2 ih1 ih2 =>
  obtain ⟨kas',a1,a2⟩:=ih2 e
  obtain ⟨kas'',b1,b2⟩:=ih1 a1.symm
  exact ⟨kas'',b1,b2.trans a2⟩
theorem mV {h:Heap} {S:Addr} {o:Obj} {es es':Y3} {ep:Nat} {t t':SetTable} (ho:h.get? S=some o) (hd:o.data=.set es ep t) :
  (h.update S (Obj.putSet es' t')).get? S=some { o with data:=.set es' (ep+1) t' }:=by
 have:=Heap.get?_update_self (Obj.putSet es' t') ho (by rw [putSet_of es' t' hd];rfl)
 rw [putSet_of es' t' hd] at this;exact this
theorem zV {S x:Addr} {kas:Y7} {ks:Y0} {Q:Bool->Shared->Prop} (hS:cT prog w s.heap S kas) (hx:IsTupleKey (intKind prog w) s.heap ks x) (hu:A.units<cLine) (hn:kas.length<18)
  (h:∀b h' kas',Heap.SameBut S s.heap h'->cT prog w h' S kas'->(if ks∈kas.map (·.1) then kas'=kas else kas'.Perm ((ks,x)::kas))->Q b { s with heap:=h',toks:=s.toks+(ks.length+1) }) :
  wpAny (model prog w) A (setAdd S (.ref x)) Q E s:=by
 obtain ⟨o,es,ep,t,ho,hex,hd,T,hpl,hled,hsz⟩:=hS
 unfold setAdd
 refine wpAny_holding (wpAny_bind (wpAny_pyHash_tuple hu hx ?_))
 unfold setAddHashed setAddHashedIn
 have hx':IsTupleKey (intKind prog w) ({ s with toks:=s.toks+(ks.length+1) }:Shared).heap ks x:=hx
 have T':TS (intKind prog w) ({ s with toks:=s.toks+(ks.length+1) }:Shared).heap es t kas:=T
 have ho':({ s with toks:=s.toks+(ks.length+1) }:Shared).heap.get? S=some o:=ho
 generalize hs1:({ s with toks:=s.toks+(ks.length+1) }:Shared)=s1 at hx' T' ho'
 have heap1:s1.heap=s.heap:=by rw [<- hs1]
 have hend:∀b h' kas',Heap.SameBut S s1.heap h'->cT prog w h' S kas'->(if ks∈kas.map (·.1) then kas'=kas else kas'.Perm ((ks,x)::kas))->Q b { s1 with heap:=h' }:=by
  rw [<- hs1];exact h
 refine wpAny_holding (wpAny_bind (wpAny_setState_of ho' hd T.fits ?_))
 dsimp only
 rw [show byScan (.ref x) es=false from rfl,if_neg (by simp)]
 obtain ⟨N,hN,hf,hb⟩:=T.ok.free (tupleKeyHash (intKind prog w) ks)
 have hg:t.gaveWay=false:=by
  unfold SetTable.gaveWay
  rcases hsz with ⟨e,_⟩ | ⟨e,_⟩<;>rw [e]<;>rfl
 unfold setSearch
 refine wpAny_bind (tL (N:=N) ho' hd T' hx' hu hg hN hf hb ?_ N 0 100000 none (by omega) ?_ rfl ?_)
 ·by_cases hin:ks∈kas.map (·.1)
  ·rw [if_pos hin]
   refine wpAny_pure ?_
   have:=hend false s1.heap kas (Heap.SameBut.refl _ _) ⟨o,es,ep,t,ho',hex,hd,T',hpl,hled,hsz⟩ (by rw [if_pos hin])
   have e:({ s1 with heap:=s1.heap }:Shared)=s1:=by cases s1;rfl
   rw [e] at this;exact this
  ·rw [if_neg hin]
   dsimp only
   refine wpAny_bind (wpAny_setState_of ho' hd T.fits ?_)
   dsimp only
   have hf1:es.size+1<=t.mask:=by
    rw [T.len]
    rcases hsz with ⟨e,hl⟩ | ⟨e,hl⟩<;>rw [e]<;>omega
   obtain ⟨ok1,hp⟩:=T.ok.put (x:=.ref x) hf hb hf1
   have epl:(t.put (pos t.mask (tupleKeyHash (intKind prog w) ks) N).j).1.plain=true:=hpl
   rw [epl,if_pos rfl]
   refine wpAny_bind (hbv hx' ?_)
   rw [if_pos rfl]
   have ents1:=wI (w:=w) (prog:=prog) (ks:=ks) (x:=x) T.ents hp
   have hsz1:(insertAt es (t.put (pos t.mask (tupleKeyHash (intKind prog w) ks) N).j).2 (tupleKeyHash (intKind prog w) ks,Value.ref x)).size=kas.length+1:=by rw [kW hp,T.len]
   refine wpAny_bind (wpAny_storeSet_of ho' hd ?_ (fits_of_scanBound (by rw [hsz1];unfold scanBound;omega)))
   have ho1:=mV (es':=insertAt es (t.put (pos t.mask (tupleKeyHash (intKind prog w) ks) N).j).2 (tupleKeyHash (intKind prog w) ks,Value.ref x)) (t':=(t.put (pos t.mask (tupleKeyHash (intKind prog w) ks) N).j).1) ho' hd
   have sb1:=Heap.SameBut.update s1.heap S (Obj.putSet (insertAt es (t.put (pos t.mask (tupleKeyHash (intKind prog w) ks) N).j).2 (tupleKeyHash (intKind prog w) ks,Value.ref x)) (t.put (pos t.mask (tupleKeyHash (intKind prog w) ks) N).j).1)
   have keys1:∀p∈(ks,x)::kas,IsTupleKey (intKind prog w) (s1.heap.update S (Obj.putSet (insertAt es (t.put (pos t.mask (tupleKeyHash (intKind prog w) ks) N).j).2 (tupleKeyHash (intKind prog w) ks,Value.ref x)) (t.put (pos t.mask (tupleKeyHash (intKind prog w) ks) N).j).1)) p.1 p.2:=fun p hp'=>by
    rcases List.mem_cons.mp hp' with rfl | hp'
    ·exact jA hx' ho' hd sb1
    ·exact jA (T'.keys p hp') ho' hd sb1
   have nd1:(((ks,x)::kas).map (·.1)).Nodup:=List.nodup_cons.mpr ⟨hin,T.nd⟩
   have perm1:=xE (l:=kas) (p:=(t.put (pos t.mask (tupleKeyHash (intKind prog w) ks) N).j).2) (x:=(ks,x))
   have T1:TS (intKind prog w) (s1.heap.update S (Obj.putSet (insertAt es (t.put (pos t.mask (tupleKeyHash (intKind prog w) ks) N).j).2 (tupleKeyHash (intKind prog w) ks,Value.ref x)) (t.put (pos t.mask (tupleKeyHash (intKind prog w) ks) N).j).1)) (insertAt es (t.put (pos t.mask (tupleKeyHash (intKind prog w) ks) N).j).2 (tupleKeyHash (intKind prog w) ks,Value.ref x)) (t.put (pos t.mask (tupleKeyHash (intKind prog w) ks) N).j).1 (kas.take (t.put (pos t.mask (tupleKeyHash (intKind prog w) ks) N).j).2++(ks,x)::kas.drop (t.put (pos t.mask (tupleKeyHash (intKind prog w) ks) N).j).2) :=
    ⟨ok1,ents1,fun p hp'=>keys1 p (perm1.subset hp'),(perm1.map (·.1)).nodup_iff.mpr nd1⟩
   have emask:(t.put (pos t.mask (tupleKeyHash (intKind prog w) ks) N).j).1.mask=t.mask:=rfl
   have efill:(t.put (pos t.mask (tupleKeyHash (intKind prog w) ks) N).j).1.fill=kas.length+1:=by
    unfold SetTable.fill
    rw [ok1.size,ok1.dum,hsz1];rfl
   by_cases hfull:(t.put (pos t.mask (tupleKeyHash (intKind prog w) ks) N).j).1.tooFull=true
   ·rw [hfull,if_pos (by simp)]
    have h4:t.mask=7/\kas.length=4:=by
     unfold SetTable.tooFull at hfull
     rw [efill,emask] at hfull
     have hfull:=of_decide_eq_true hfull
     rcases hsz with ⟨e,hl⟩ | ⟨e,hl⟩<;>rw [e] at hfull<;>constructor<;>omega
    refine wpAny_bind ?_
    unfold setRelay
    refine wpAny_bind (wpAny_setState_of ho1 rfl T1.fits ?_)
    dsimp only
    have ew:SetTable.grown (es.size+1)=20:=by rw [T.len,h4.2];rfl
    have es32:sizeAbove 20=32:=by decide
    rw [ew,es32,if_neg (by rw [sizeLine_eq];omega)]
    obtain ⟨t',order,er,ok2,perm2,l2,p2,m2⟩:=xZ (es:=insertAt es (t.put (pos t.mask (tupleKeyHash (intKind prog w) ks) N).j).2 (tupleKeyHash (intKind prog w) ks,Value.ref x)) (t:=(t.put (pos t.mask (tupleKeyHash (intKind prog w) ks) N).j).1) (wanted:=20) (by rw [es32];exact wG) (by rw [es32,hsz1];omega)
    rw [er]
    have hsz2:(order.filterMap ((insertAt es (t.put (pos t.mask (tupleKeyHash (intKind prog w) ks) N).j).2 (tupleKeyHash (intKind prog w) ks,Value.ref x))[·]?)).size=(insertAt es (t.put (pos t.mask (tupleKeyHash (intKind prog w) ks) N).j).2 (tupleKeyHash (intKind prog w) ks,Value.ref x)).size:=by
     rw [<- Array.length_toList,perm2.length_eq,Array.length_toList]
    refine wpAny_bind ?_
    show wpAny _ _ (if ((order.filterMap ((insertAt es (t.put (pos t.mask (tupleKeyHash (intKind prog w) ks) N).j).2 (tupleKeyHash (intKind prog w) ks,Value.ref x))[·]?)).size != (insertAt es (t.put (pos t.mask (tupleKeyHash (intKind prog w) ks) N).j).2 (tupleKeyHash (intKind prog w) ks,Value.ref x)).size)=true then _ else _) _ _ _
    rw [if_neg (by rw [hsz2];simp)]
    refine wpAny_pure ?_
    dsimp only
    refine wpAny_storeSet_of ho1 rfl ?_ (fits_of_scanBound (by rw [hsz2,hsz1];unfold scanBound;omega))
    refine wpAny_pure ?_
    rw [T1.ents] at perm2
    obtain ⟨kas2,e2,pk⟩:=kX perm2
    have ho2:=mV (es':=order.filterMap ((insertAt es (t.put (pos t.mask (tupleKeyHash (intKind prog w) ks) N).j).2 (tupleKeyHash (intKind prog w) ks,Value.ref x))[·]?)) (t':=t') ho1 rfl
    have sb2:=Heap.SameBut.update (s1.heap.update S (Obj.putSet (insertAt es (t.put (pos t.mask (tupleKeyHash (intKind prog w) ks) N).j).2 (tupleKeyHash (intKind prog w) ks,Value.ref x)) (t.put (pos t.mask (tupleKeyHash (intKind prog w) ks) N).j).1)) S (Obj.putSet (order.filterMap ((insertAt es (t.put (pos t.mask (tupleKeyHash (intKind prog w) ks) N).j).2 (tupleKeyHash (intKind prog w) ks,Value.ref x))[·]?)) t')
    have pk2:=pk.trans perm1
    refine hend true _ kas2 (sb1.trans sb2) ⟨_,_,_,t',ho2,hex,rfl,⟨ok2,e2,fun p hp'=>jA (keys1 p (pk2.subset hp')) ho1 rfl sb2,(pk2.map (·.1)).nodup_iff.mpr nd1⟩,by rw [p2];exact epl,by rw [l2];exact hled,.inr ⟨by rw [m2,es32],?_⟩⟩ (by rw [if_neg hin];exact pk2)
    have:=pk2.length_eq
    simp at this;omega
   ·rw [Bool.eq_false_iff.mpr hfull,if_neg (by simp)]
    refine wpAny_pure (hend true _ _ sb1 ⟨_,_,_,_,ho1,hex,rfl,T1,epl,hled,?_⟩ (by rw [if_neg hin];exact perm1))
    have hlen:=perm1.length_eq
    simp at hlen
    unfold SetTable.tooFull at hfull
    rw [efill,emask] at hfull
    have hfull:¬ ((kas.length+1) * 5 >= t.mask * 3):=fun z=>hfull (decide_eq_true z)
    rcases hsz with ⟨e,hl⟩ | ⟨e,hl⟩
    ·rw [e] at hfull
     exact .inl ⟨e,by simp;omega⟩
    ·rw [e] at hfull
     exact .inr ⟨e,by simp;omega⟩
 ·rcases hsz with ⟨e,_⟩ | ⟨e,_⟩<;>rw [e] at hN<;>omega
 ·intro i p j h1 h2 h3
  obtain ⟨k,e1,e2⟩:=T.ok.reach i (tupleKeyHash (intKind prog w) p.1,Value.ref p.2) j (by rw [T.at i,h1];rfl) h3
  have e1:(pos t.mask (tupleKeyHash (intKind prog w) p.1) k).j=j:=e1
  have e2:∀k',k'<k->Occ t.place (pos t.mask (tupleKeyHash (intKind prog w) p.1) k').j:=e2
  rw [h2] at e1 e2
  refine ⟨k,Nat.zero_le _,?_,e1⟩
  rcases Nat.lt_trichotomy k N with q | q | q
  ·exact q
  ·subst q
   exact absurd ⟨i,by rw [e1];exact h3⟩ hf
  ·exact absurd (e2 N q) hf
end
end ST
end
section
namespace ST
open PySem PySem.SetTable
section
variable {prog:Program} {w:World} {A:Around} {E:Y9} {s:Shared}
theorem cT.keep {h h':Heap} {S:Addr} {kas:Y7} (x:cT prog w h S kas) (hk:∀o,h.get? S=some o->h'.get? S=some o) (ht:∀p∈kas,IsTupleKey (intKind prog w) h' p.1 p.2):cT prog w h' S kas:=by
 obtain ⟨o,es,ep,t,ho,hex,hd,T,r⟩:=x
 exact ⟨o,es,ep,t,hk o ho,hex,hd,T.heap ht,r⟩
theorem cT.len {h:Heap} {S:Addr} {kas:Y7} (x:cT prog w h S kas):kas.length<=18:=by
 obtain ⟨o,es,ep,t,ho,hex,hd,T,_,_,r⟩:=x
 rcases r with ⟨_,r⟩ | ⟨_,r⟩<;>omega
theorem cT.keys {h:Heap} {S:Addr} {kas:Y7} (x:cT prog w h S kas):∀p∈kas,IsTupleKey (intKind prog w) h p.1 p.2:=by
 obtain ⟨o,es,ep,t,ho,hex,hd,T,_⟩:=x
 exact T.keys
theorem cT.nd {h:Heap} {S:Addr} {kas:Y7} (x:cT prog w h S kas):(kas.map (·.1)).Nodup:=by
 obtain ⟨o,es,ep,t,ho,hex,hd,T,_⟩:=x
 exact T.nd
def Ded (key:Nat->Y0) (adr:Nat->Addr) (i:Nat) (kas:Y7):Prop :=
 (∀ks,ks∈kas.map (·.1) ↔ ∃i',i'<i/\key i'=ks)/\(∀p∈kas,∃i',i'<i/\p=(key i',adr i'))/\kas.length<=i
theorem Ded.zero {key:Nat->Y0} {adr:Nat->Addr}:Ded key adr 0 []:=⟨fun ks=>⟨fun z=>by simp at z,fun ⟨i,h,_⟩=>by omega⟩,fun p hp=>by simp at hp,by simp⟩
theorem Ded.step {key:Nat->Y0} {adr:Nat->Addr} {i:Nat} {kas kas':Y7} (d:Ded key adr i kas) (h:if key i∈kas.map (·.1) then kas'=kas else kas'.Perm ((key i,adr i)::kas)):Ded key adr (i+1) kas':=by
 obtain ⟨d1,d2,d3⟩:=d
 by_cases hin:key i∈kas.map (·.1)
 ·rw [if_pos hin] at h
  subst h
  refine ⟨fun ks=>?_,fun p hp=>?_,by omega⟩
  ·rw [d1 ks]
   constructor
   ·rintro ⟨i',h1,h2⟩;exact ⟨i',by omega,h2⟩
   ·rintro ⟨i',h1,h2⟩
    by_cases q:i'=i
    ·subst q;rw [<- h2];exact (d1 _).mp hin
    ·exact ⟨i',by omega,h2⟩
  ·obtain ⟨i',h1,h2⟩:=d2 p hp
   exact ⟨i',by omega,h2⟩
 ·rw [if_neg hin] at h
  refine ⟨fun ks=>?_,fun p hp=>?_,by have:=h.length_eq;simp at this;omega⟩
  ·rw [(h.map (·.1)).mem_iff,List.map_cons,List.mem_cons,d1 ks]
   constructor
   ·rintro (rfl | ⟨i',h1,h2⟩)
    ·exact ⟨i,by omega,rfl⟩
    ·exact ⟨i',by omega,h2⟩
   ·rintro ⟨i',h1,h2⟩
    by_cases q:i'=i
    ·subst q;exact .inl h2.symm
    ·exact .inr ⟨i',by omega,h2⟩
  ·rcases List.mem_cons.mp (h.subset hp) with rfl | hp
   ·exact ⟨i,by omega,rfl⟩
   ·obtain ⟨i',h1,h2⟩:=d2 p hp
    exact ⟨i',by omega,h2⟩
theorem cU {h h':Heap} {ks:Y0} {a:Addr} (x:IsTupleKey (intKind prog w) h ks a) (hk:∀o,h.get? a=some o->h'.get? a=some o):IsTupleKey (intKind prog w) h' ks a:=by
 obtain ⟨o,items,n,ho,hc,hd,hi⟩:=x
 exact ⟨o,items,n,hk o ho,hc,hd,hi⟩
theorem aGl {R:Result->Shared->Prop} {I:Addr} {fp wr:Y2} {G:Array GenState->Array GenState->Prop} {n:Nat} {P:Nat->Value->Prop} {St:Nat->Shared->Prop}
  (W:WalksS prog w A.in1 I fp wr G n P St) (S:Addr) (hSf:S ∉ fp) (hu:A.in1.units<cLine) (key:Nat->Y0) (adr:Nat->Addr) (hval:∀i v,P i v->v=.ref (adr i)) (hb:n<=18) (hnw:∀i,i<n->adr i ∉ S::wr) :
  ∀(k i:Nat) (s:Shared) (kas:Y7),n - i=k->i<=n->St i s->cT prog w s.heap S kas->Ded key adr i kas->(∀i,i<n->IsTupleKey (intKind prog w) s.heap (key i) (adr i)) ->
   (∀s' kas',Moved (S::wr) G s s'->cT prog w s'.heap S kas'->Ded key adr n kas'->R (.ok (.ret .none)) s') ->
   codeAny (model prog w) A (.builtin "set.update.loop" ⟨[.ref S,.ref I],[]⟩) R s:=by
 have hSw:S ∉ wr:=fun h=>hSf (W.sub _ h)
 have hsub:∀b∈wr,b∈S::wr:=fun b hb=>List.mem_cons_of_mem _ hb
 intro k
 induction k with
 | zero =>
  intro i s kas hk hi hst hS hD hT hR
  have hin:i=n:=by omega
  subst hin
  refine codeAny_builtin PyProof.Rows.F.entry_set_update_loop ?_
  rw [Around.under_plainId PyProof.Rows.F.plain_set_update_loop _]
  show wpAny _ A.in1 (pyNext (.ref I) >>= _) _ _ s
  refine wpAny_bind (W.done s _ _ hst fun s' hm=>?_)
  show wpAny _ A.in1 (ret Value.none) _ _ s'
  refine wpAny_pure (hR s' kas (hm.mono hsub) (hS.keep (fun o e=>hm.heap S o hSw e) fun p hp=>?_) hD)
  obtain ⟨i',h1,rfl⟩:=hD.2.1 p hp
  exact cU (hT i' h1) fun o e=>hm.heap _ o (fun z=>hnw i' h1 (hsub _ z)) e
 | succ k ih =>
  intro i s kas hk hi hst hS hD hT hR
  have hlt:i<n:=by omega
  refine codeAny_builtin PyProof.Rows.F.entry_set_update_loop ?_
  rw [Around.under_plainId PyProof.Rows.F.plain_set_update_loop _]
  show wpAny _ A.in1 (pyNext (.ref I) >>= _) _ _ s
  refine wpAny_bind (W.item i s _ _ hlt hst fun v s' hP hst' hm=>?_)
  obtain rfl:=hval i v hP
  have hT':∀i,i<n->IsTupleKey (intKind prog w) s'.heap (key i) (adr i):=fun i' h1=>cU (hT i' h1) fun o e=>hm.heap _ o (fun z=>hnw i' h1 (hsub _ z)) e
  have hS':cT prog w s'.heap S kas:=hS.keep (fun o e=>hm.heap S o hSw e) fun p hp=>by
   obtain ⟨i',h1,rfl⟩:=hD.2.1 p hp
   exact hT' i' (by omega)
  show wpAny _ A.in1 (holding [Value.ref (adr i)] (setAdd S (.ref (adr i))) >>= _) _ _ s'
  refine wpAny_bind (wpAny_holding (zV hS' (hT' i hlt) hu (by have:=hD.2.2;omega) fun b h' kas' sb hS2 hc=>?_))
  have hT2:∀i,i<n->IsTupleKey (intKind prog w) h' (key i) (adr i):=fun i' h1=>cU (hT' i' h1) fun o e=>by
   rw [sb.2 _ (fun z=>hnw i' h1 (by rw [z];exact List.mem_cons_self))];exact e
  refine wpAny_pure ⟨plainId_quiet PyProof.Rows.F.plain_set_update_loop _,ih (i+1) _ kas' (by omega) hlt (W.frame _ s' _ _ hst' (Nat.le_add_right _ _) fun b hb o e=>?_) hS2 (hD.step hc) hT2 fun s'' kas'' hm'' hS'' hD''=>?_⟩
  ·rw [sb.2 b (fun h:b=S=>hSf (by rw [<- h];exact hb))];exact e
  ·refine hR s'' kas'' (Moved.trans W.gtrans ((hm.mono hsub).then_heap (Nat.le_add_right _ _) fun b o hb e=>?_) hm'') hS'' hD''
   rw [sb.2 b (fun h:b=S=>hb (by rw [h];exact List.mem_cons_self))];exact e
theorem wH {Q₁:Y9} (a:Value)
  (h:Q₁ (.ref s.heap.objs.size) { s with heap:=s.heap.push { cls:=.type "set",dict:=none,data:=.set #[] 0 (.fresh 0 0 (!(w.params.followText "set-order"))) } }) :
  codeAny (model prog w) A (.call (.builtin "set.__new__") ⟨[.type "set",a],[]⟩) (wants Q₁ E) s:=by
 refine codeAny_of_tree ?_
 show wpAny _ A.in1 (do checkBuiltinCall "set.__new__" ⟨[.type "set",a],[]⟩;again (.builtin "set.__new__" ⟨[.type "set",a],[]⟩)) _ _ s
 refine wpAny_bind (wpAny_of_eq (F.newCall_set_1 a) (wpAny_pure ⟨plainId_quiet F.plain_set_new _,codeAny_builtin F.entry_set_new ?_⟩))
 rw [Around.under_plainId F.plain_set_new _]
 unfold Builtin.«set.__new__» Builtin.Frozenset.newClass
 have hsub:=sub_set_self
 obtain ⟨hp,g,d,tk,os⟩:=s
 dsimp only
 wp_walk
 refine wpAny_askSetting (wpAny_pure ?_)
 dsimp only
 simp only [newObj]
 refine wpAny_bind (wpAny_alloc (wpAny_pure ?_))
 exact wpAny_pure h
end
end ST
end
section
namespace ST
open PySem PySem.SetTable
section
variable {prog:Program} {w:World} {A:Around} {E:Y9} {s:Shared}
theorem rP {h:Heap} {S:Addr} {o:Obj} (ho:h.get? S=some o) (he:o={ cls:=.type "set",dict:=none,data:=.set #[] 0 (.fresh 0 0 (!(w.params.followText "set-order"))) }):cT prog w h S []:=by
 subst he
 refine ⟨_,#[],0,_,ho,⟨rfl,rfl,rfl⟩,rfl,⟨⟨aB8,fun i k a b e=>by simp [SetTable.fresh] at e,rfl,rfl,by simp,fun i e j e1=>by simp at e1⟩,rfl,fun p hp=>by simp at hp,by simp⟩,rfl,rfl,.inl ⟨rfl,by simp⟩⟩
theorem call_setT {l:Addr} {items:Array Value} {key:Nat->Y0} {adr:Nat->Addr} {Q:Y9}
  (hh:A.handled=none) (hu:∀B:Around,B.units<=A.units+100->B.units<cLine) (hl:s.heap.IsList l items) (hi:∀(i:Nat) (v:Value),items[i]?=some v->v=Value.ref (adr i)) (hk:∀i,i<items.size->IsTupleKey (intKind prog w) s.heap (key i) (adr i)) (hb:items.size<=18)
  (h:∀(h':Heap) (tk:Nat) (kas:Y7),cT prog w h' s.heap.objs.size kas->Ded key adr items.size kas ->
   (∀b o,b<s.heap.objs.size->s.heap.get? b=some o->h'.get? b=some o)->Q (.ref s.heap.objs.size) { s with heap:=h',toks:=tk }) :
  wpAny (model prog w) A (call (.type "set") [.ref l]) Q E s:=by
 obtain ⟨c,tl,hmro⟩:=F.called_set.mro
 have hmade:=F.called_set.made
 have hsub:=F.called_set.sub
 refine wpAny_call (codeAny_of_tree ?_)
 show wpAny _ _ (callAny (.type "set") _) _ _ _
 refine wpAny_pure ⟨Code.quiet_builtin _ (by decide +kernel),codeAny_builtin F.entry_type_call ?_⟩
 rw [Around.under_plain (weight_type_call_type "set" [.ref l] []) rfl]
 have h1:=F.called_set.notType
 have h2:=F.called_set.canCreate
 have hct:=F.typeCall_set_1 (.ref l)
 repeat (any_goals (first | assumption | wp_step))
 generalize hfr:(SetTable.fresh 0 0 (!(w.params.followText "set-order")))=fr
 refine codeAny_mono (wH (.ref l) (E:=E) (Q₁:=fun obj s₁=>obj=.ref s.heap.objs.size/\s₁={ s with heap:=s.heap.push { cls:=.type "set",dict:=none,data:=.set #[] 0 fr } }) (by rw [hfr];exact ⟨rfl,rfl⟩)) fun r s₁ hr=>?_
 cases r with
 | error e=>exact hr
 | ok fl =>
  cases fl with
  | ret obj =>
   obtain ⟨rfl,rfl⟩:=hr
   have hS:(s.heap.push { cls:=.type "set",dict:=none,data:=.set #[] 0 fr }).get? s.heap.objs.size=some { cls:=.type "set",dict:=none,data:=.set #[] 0 fr }:=Heap.get?_push_size _ rfl
   have hT:Shared.TypeIs { s with heap:=s.heap.push { cls:=.type "set",dict:=none,data:=.set #[] 0 fr } } (.ref s.heap.objs.size) "set" :=⟨_,hS,rfl⟩
   have hli:=F.called_set.init.lookup
   have hbi:=F.called_set.init.bind (.ref s.heap.objs.size)
   repeat (any_goals (first | assumption | wp_step))
   refine codeAny_mono (codeAny_call_builtin (R:=wants (fun r s₂=>r=.none/\∃h' tk kas,s₂={ s with heap:=h',toks:=tk }/\cT prog w h' s.heap.objs.size kas/\Ded key adr items.size kas /\
     (∀b o,b<s.heap.objs.size->s.heap.get? b=some o->h'.get? b=some o)) E) F.called_set.init.plain F.entry_set_init (check_set_init_1 hT ?_)) fun r₂ s₂ hr₂=>?_
   ·obtain ⟨ol,hol,hcl,nl,hdl⟩:=hl
    obtain ⟨ocls,odict,odata,oslots⟩:=ol
    simp only at hcl hdl
    subst hcl;subst hdl
    have hol':(s.heap.push { cls:=.type "set",dict:=none,data:=.set #[] 0 fr }).get? l=some { cls:=.type "list",dict:=odict,data:=.seq items nl,slots:=oslots }:=Heap.get?_push_of_some _ hol
    have hsls:=F.sub_list_set
    have hslf:=F.sub_list_frozenset
    have hne:(Value.type "list" == Value.type "dict")=false:=by decide
    have hl1:(s.heap.push { cls:=.type "set",dict:=none,data:=.set #[] 0 fr }).IsList l items:=⟨_,hol',rfl,nl,rfl⟩
    have hfits:fr.fits 0=true:=by rw [<- hfr];rfl
    have hfr':fr=(SetTable.fresh 0 0 (!(w.params.followText "set-order"))):=hfr.symm
    unfold Builtin.«set.__init__» noKeywords Builtin.Frozenset.updateFrom
    generalize hPI:pyIter=PI
    subst hfr'
    wp_walk
    subst hPI
    refine wpAny_pyIter_list hl1 ?_
    refine wpAny_bind (wpAny_runValue ?_)
    have hlS:l<s.heap.objs.size:=Heap.lt_size hol
    have hh3:A.in1.in1.in1.handled=none:=by simp [hh]
    have hneI:l ≠ (s.heap.push { cls:=.type "set",dict:=none,data:=.set #[] 0 (.fresh 0 0 (!(w.params.followText "set-order"))) }).objs.size:=by
     rw [Heap.size_push];exact Nat.ne_of_lt (Nat.lt_succ_of_lt hlS)
    have hSf:s.heap.objs.size ∉ [(s.heap.push { cls:=.type "set",dict:=none,data:=.set #[] 0 (.fresh 0 0 (!(w.params.followText "set-order"))) }).objs.size,l]:=by
     rw [Heap.size_push];simp only [List.mem_cons,List.mem_singleton,List.not_mem_nil,or_false,not_or]
     exact ⟨Nat.ne_of_lt (Nat.lt_succ_self _),Nat.ne_of_gt hlS⟩
    have adlt:∀i,i<items.size->adr i<s.heap.objs.size:=fun i hi'=>by
     obtain ⟨o,_,_,ho,_⟩:=hk i hi'
     exact Heap.lt_size ho
    refine aGl ((Walks.list hh3 _ l hneI items).toS) s.heap.objs.size hSf (hu _ ?hU) key adr hi hb (fun i hi' z=>?_) (items.size - 0) 0 _ [] (by omega) (Nat.zero_le _)
     ⟨⟨_,Heap.get?_push_size _ rfl,rfl,rfl⟩,(hl1.push _)⟩ ?hS0 Ded.zero (fun i hi'=>?_) ?hR
    case hU=>simp
    case hS0 =>
     exact rP (Heap.get?_push_of_some _ hS) rfl
    case hR =>
     intro s' kas hm hS' hD'
     obtain ⟨h',g',d',tk',os'⟩:=s'
     have eg:g'=s.gens:=hm.gens
     have ed:d'=s.drawn:=hm.drawn
     have eo:os'=s.os:=hm.os
     subst eg;subst ed;subst eo
     show wpAny _ _ _ _ _ _
     refine wpAny_pure ?_
     show wpAny _ _ (ret Value.none) _ _ _
     refine wpAny_pure ⟨rfl,h',tk',kas,rfl,hS',hD',fun b o hb e=>?_⟩
     have hb1:b ≠ s.heap.objs.size:=Nat.ne_of_lt hb
     have hb2:b ≠ (s.heap.push { cls:=.type "set",dict:=none,data:=.set #[] 0 (.fresh 0 0 (!(w.params.followText "set-order"))) }).objs.size:=by
      rw [Heap.size_push];exact Nat.ne_of_lt (Nat.lt_succ_of_lt hb)
     exact hm.heap b o (by simp only [List.mem_cons,List.mem_singleton,List.not_mem_nil,or_false,not_or];exact ⟨hb1,hb2⟩) (Heap.get?_push_of_some _ (Heap.get?_push_of_some _ e))
    ·have:=adlt i hi'
     rw [Heap.size_push] at z
     simp only [List.mem_cons,List.mem_singleton,List.not_mem_nil,or_false] at z
     rcases z with z | z
     ·exact Nat.ne_of_lt this z
     ·exact Nat.ne_of_lt (Nat.lt_succ_of_lt this) z
    ·exact cU (hk i hi') fun o e=>Heap.get?_push_of_some _ (Heap.get?_push_of_some _ e)
   ·cases r₂ with
    | error e=>exact hr₂
    | ok fl₂ =>
     cases fl₂ with
     | ret r =>
      obtain ⟨rfl,h',tk,kas,rfl,hS',hD',hk'⟩:=hr₂
      repeat (any_goals (first | assumption | wp_step))
      exact h _ _ _ hS' hD' hk'
     | _=>exact hr₂.elim
  | _=>exact hr.elim
end
end ST
end
section
namespace ST
open PySem PySem.SetTable
theorem tU {α:Type} {next:Nat->Nat}:∀(fuel k:Nat) (left:List α) (out:Array α),left.length=fuel->(pickOrder.go next fuel k left out).toList.Perm (out.toList++left)
 | 0,k,left,out,h=>by
  have:left=[]:=List.length_eq_zero_iff.mp h
  subst this
  show out.toList.Perm _
  rw [List.append_nil]
 | fuel+1,k,left,out,h=>by
  unfold pickOrder.go
  have hlt:next k % left.length<left.length:=Nat.mod_lt _ (by omega)
  rw [List.getElem?_eq_getElem hlt]
  dsimp only
  refine (tU fuel (k+1) (left.eraseIdx (next k % left.length)) _ (by rw [List.length_eraseIdx,if_pos hlt];omega)).trans ?_
  rw [Array.toList_push,List.append_assoc]
  refine List.Perm.append_left _ ?_
  rw [List.eraseIdx_eq_take_drop_succ]
  have e2:left=left.take (next k % left.length)++left[next k % left.length]::left.drop (next k % left.length+1):=by simp
  have:=(List.perm_middle (l₁:=left.take (next k % left.length)) (a:=left[next k % left.length]) (l₂:=left.drop (next k % left.length+1))).symm
  rw [<- e2] at this
  exact this
def dX (w:World) (S:Addr) (ep:Nat) (es:Y3):Y3:=if w.params.followText "set-order" then pickOrder (w.params.setOrder S ep) es else es
theorem oO {w:World} {S:Addr} {ep:Nat} {es:Y3}:(dX w S ep es).toList.Perm es.toList:=by
 unfold dX
 split
 ·have:=tU (next:=w.params.setOrder S ep) es.size 0 es.toList #[] (by simp)
  simpa [pickOrder] using this
 ·exact .refl _
theorem lD {w:World} {S:Addr} {ep:Nat} {es:Y3}:(dX w S ep es).size=es.size:=by
 have:=(oO (w:=w) (S:=S) (ep:=ep) (es:=es)).length_eq
 simpa using this
theorem zD {xs:Array Nat} (hr:sD xs) {i j:Nat} (e:xs[i]?=some j):below xs (j+1)=i+1:=by
 obtain ⟨h1,h2,h3⟩:=iD hr (j+1)
 rcases Nat.lt_trichotomy (below xs (j+1)) (i+1) with q | q | q
 ·have:=h3 i j e (by omega);omega
 ·exact q
 ·have hs:i+1<xs.size:=by omega
  have e2:=h2 (i+1) _ (Array.getElem?_eq_getElem hs) q
  have e3:=hr _ _ _ _ e (Array.getElem?_eq_getElem hs) (by omega)
  omega
theorem rT {xs:Array Nat} (hr:sD xs):below xs 0=0:=by
 obtain ⟨h1,h2,h3⟩:=iD hr 0
 rcases Nat.eq_zero_or_pos (below xs 0) with q | q
 ·exact q
 ·have hs:0<xs.size:=by omega
  have:=h2 0 _ (Array.getElem?_eq_getElem hs) q
  omega
section
variable {prog:Program} {w:World} {A:Around} {E:Y9} {s:Shared}
theorem aBr {S:Addr} {o:Obj} {es:Y3} {ep i slot:Nat} {t:SetTable} {kas:Y7} {Q:Option (Value×Nat)->Shared->Prop}
  (ho:s.heap.get? S=some o) (hd:o.data=.set es ep t) (T:TS (intKind prog w) s.heap es t kas) (hpl:t.plain=true) (hled:t.led = !(w.params.followText "set-order")) (hsl:w.params.followText "set-order" = false->below t.place slot=i)
  (hQ:match (dX w S ep es)[i]? with | some e=>∀slot',(w.params.followText "set-order" = false->below t.place slot'=i+1)->Q (some (e.2,slot')) s | none=>Q none s) :
  wpAny (model prog w) A (setNext S slot i ep) Q E s:=by
 unfold setNext
 refine wpAny_bind (wpAny_setState_of ho hd T.fits ?_)
 dsimp only
 unfold setsByText
 refine wpAny_bind (wpAny_bind (wpAny_askSetting (wpAny_pure ?_)))
 dsimp only
 cases hb:w.params.followText "set-order" with
 | true =>
  show wpAny _ _ (if w.params.followText "set-order" = true then _ else _) _ _ _
  rw [if_pos hb,if_neg (by simp)]
  refine wpAny_bind ?_
  unfold setWalk
  refine wpAny_bind (wpAny_setState_of ho hd T.fits ?_)
  dsimp only
  unfold setsByText
  refine wpAny_bind (wpAny_bind (wpAny_askSetting (wpAny_pure ?_)))
  show wpAny _ _ (if w.params.followText "set-order" = true then _ else _) _ _ _
  rw [if_pos hb]
  refine wpAny_bind (wpAny_askSetting (wpAny_pure ?_))
  refine wpAny_pure ?_
  have ew:dX w S ep es=pickOrder (w.params.setOrder S ep) es:=by unfold dX;rw [if_pos hb]
  rw [ew] at hQ
  show Q (((pickOrder (w.params.setOrder S ep) es)[i]?).map fun e=>(e.2,slot)) s
  cases hg:(pickOrder (w.params.setOrder S ep) es)[i]? with
  | none=>rw [hg] at hQ;exact hQ
  | some e=>rw [hg] at hQ;exact hQ slot fun z=>by rw [hb] at z;cases z
 | false =>
  show wpAny _ _ (if w.params.followText "set-order" = true then _ else _) _ _ _
  have ew:dX w S ep es=es:=by unfold dX;rw [if_neg (by rw [hb];simp)]
  rw [ew] at hQ
  rw [if_neg (by rw [hb];simp)]
  have hl:t.led=true:=by rw [hled,hb];rfl
  have hdr:(!t.plain && decide (es.size > 1))=false:=by rw [hpl];rfl
  show wpAny _ _ (if (!t.plain && decide (es.size > 1))=true then _ else _) _ _ _
  rw [if_neg (by rw [hdr];simp)]
  refine wpAny_bind ?_
  show wpAny _ _ (if (!t.led && !es.isEmpty)=true then _ else _) _ _ _
  rw [if_neg (by rw [hl];simp)]
  refine wpAny_pure (wpAny_pure ?_)
  rw [hsl hb]
  cases hg:es[i]? with
  | none =>
   rw [hg] at hQ
   exact hQ
  | some e =>
   rw [hg] at hQ
   have hlt:i<t.place.size:=by rw [T.ok.size];exact (Array.getElem?_eq_some_iff.mp hg).1
   rw [Array.getElem?_eq_getElem hlt]
   exact hQ _ fun _=>zD T.ok.rise (Array.getElem?_eq_getElem hlt)
end
end ST
end
section
namespace ST
open PySem PySem.SetTable
namespace F
theorem slot_next:Slot "set_iterator" "__next__" "set_iterator.__next__" :=
 .of (owner := "set_iterator") (n := "__next__") (by rw [typeLookup_type,builtinLookup_eq_fast];kernel_rfl) (by decide +kernel) (by decide +kernel) (by decide +kernel)
  (by first | exact .inl (by decide +kernel) | exact .inr (by decide +kernel)) (by rw [isSubtype_type];kernel_rfl)
theorem entry_next:entryFor table "set_iterator.__next__" = some Builtin.«set_iterator.__next__» :=entryFor_of_fast (by kernel_rfl)
theorem args_next (a:Value):argsOk "set_iterator.__next__" ⟨[a],[]⟩:=by unfold argsOk;kernel_rfl
theorem slot_iter:Slot "set_iterator" "__iter__" "set_iterator.__iter__" :=
 .of (owner := "set_iterator") (n := "__iter__") (by rw [typeLookup_type,builtinLookup_eq_fast];kernel_rfl) (by decide +kernel) (by decide +kernel) (by decide +kernel)
  (by first | exact .inl (by decide +kernel) | exact .inr (by decide +kernel)) (by rw [isSubtype_type];kernel_rfl)
theorem args_iter (a:Value):argsOk "set_iterator.__iter__" ⟨[a],[]⟩:=by unfold argsOk;kernel_rfl
theorem entry_iter:entryFor table "set_iterator.__iter__" = some Builtin.«dict_keyiterator.__iter__» :=
 entryFor_alias (id' := "dict_keyiterator.__iter__") (by kernel_rfl) (by first | rfl | decide +kernel) (by decide +kernel) (by kernel_rfl)
theorem entry_set_iter:entryFor table "set.__iter__" = some Builtin.«frozenset.__iter__» :=
 entryFor_alias (id' := "frozenset.__iter__") (by kernel_rfl) (by first | rfl | decide +kernel) (by decide +kernel) (by kernel_rfl)
end F
section
variable {prog:Program} {w:World} {A:Around} {E:Y9} {s:Shared}
def lG (slot i:Nat) (S:Addr) (n ep:Nat):Obj:={ cls:=.type "set_iterator",dict:=none,data:=.fields #[.int slot 0,.int i 0,.ref S,.int n 0,.int ep 0],slots:=#[] }
def StS (I S:Addr) (o:Obj) (es:Y3) (ep:Nat) (t:SetTable) (prog:Program) (w:World) (kas:Y7) (i:Nat) (s:Shared):Prop :=
 ∃slot,s.heap.get? I=some (lG slot i S es.size ep)/\(w.params.followText "set-order" = false->below t.place slot=i)/\s.heap.get? S=some o/\TS (intKind prog w) s.heap es t kas
theorem StS.ty {I S:Addr} {o:Obj} {es:Y3} {ep:Nat} {t:SetTable} {kas:Y7} {i:Nat} (h:StS I S o es ep t prog w kas i s):s.TypeIs (.ref I) "set_iterator" :=by
 obtain ⟨slot,h1,_⟩:=h
 exact ⟨_,h1,rfl⟩
theorem aJg {I S:Addr} {o:Obj} {es:Y3} {ep:Nat} {t:SetTable} {kas:Y7} {i:Nat} {Q:Option Value->Shared->Prop} (hd:o.data=.set es ep t) (hpl:t.plain=true) (hled:t.led = !(w.params.followText "set-order")) (hIS:I ≠ S) (hka:∀p∈kas,p.2 ≠ I)
  (hst:StS I S o es ep t prog w kas i s) (hi:i<es.size)
  (hQ:∀v h',(dX w S ep es)[i]?.map (·.2)=some v->StS I S o es ep t prog w kas (i+1) { s with heap:=h' }->Heap.SameBut I s.heap h'->Q (some v) { s with heap:=h' }):wpAny (model prog w) A (pyNext (.ref I)) Q E s:=by
 have hT:=hst.ty
 obtain ⟨slot,h1,h2,h3,T⟩:=hst
 have hlt:i<(dX w S ep es).size:=by rw [lD];exact hi
 have eg:=Array.getElem?_eq_getElem hlt
 unfold pyNext
 refine wpAny_bind (wpAny_attempt (wpAny_callSpecial?_slot (name:=Str.ofString "__next__") hT F.slot_next
  (wpAny_call_entry F.slot_next hT F.entry_next ?_ (F.args_next _))))
 show wpAny _ _ (fieldsOf (.ref I) >>= _) _ _ s
 refine wpAny_bind (wpAny_fieldsOf h1 rfl ?_)
 show wpAny _ _ (setEntries S >>= _) _ _ s
 refine wpAny_bind (wpAny_setEntries_of h3 hd T.fits ?_)
 show wpAny _ _ (if ((es.size:Int) != (es.size:Int))=true then _ else _) _ _ s
 rw [if_neg (by simp)]
 show wpAny _ _ (setNext S (slot:Int).toNat (i:Int).toNat (ep:Int).toNat >>= _) _ _ s
 rw [Int.toNat_natCast,Int.toNat_natCast,Int.toNat_natCast]
 refine wpAny_bind (aBr h3 hd T hpl hled h2 ?_)
 rw [eg]
 dsimp only
 intro slot' hs'
 refine wpAny_bind (wpAny_setField_rec h1 (by simp) fun h' e1 sb1=>?_)
 refine wpAny_bind (wpAny_setField_rec (s:={ s with heap:=h' }) e1 (by simp) fun h'' e2 sb2=>?_)
 refine wpAny_pure ⟨_,rfl,?_⟩
 refine wpAny_pure (hQ _ h'' (by rw [eg];rfl) ⟨slot',?_,hs',?_,T.heap fun p hp=>?_⟩ (sb1.trans sb2))
 ·exact e2
 ·have:h''.get? S=some o:=by rw [sb2.2 S (Ne.symm hIS),sb1.2 S (Ne.symm hIS)];exact h3
  exact this
 ·exact cU (T.keys p hp) fun o' e'=>by
   show h''.get? p.2=some o'
   rw [sb2.2 _ (hka p hp),sb1.2 _ (hka p hp)];exact e'
theorem aM3 {I S:Addr} {o:Obj} {es:Y3} {ep:Nat} {t:SetTable} {kas:Y7} {Q:Option Value->Shared->Prop} (hh:A.handled=none) (hd:o.data=.set es ep t) (hpl:t.plain=true) (hled:t.led = !(w.params.followText "set-order"))
  (hst:StS I S o es ep t prog w kas es.size s) (hQ:∀h',Heap.ExtBut I s.heap h'->Q none { s with heap:=h' }):wpAny (model prog w) A (pyNext (.ref I)) Q E s:=by
 have hT:=hst.ty
 obtain ⟨slot,h1,h2,h3,T⟩:=hst
 have eg:(dX w S ep es)[es.size]?=none:=by rw [Array.getElem?_eq_none];rw [lD];exact Nat.le_refl _
 unfold pyNext
 refine wpAny_bind (wpAny_attempt (wpAny_callSpecial?_slot (name:=Str.ofString "__next__") hT F.slot_next
  (wpAny_call_entry F.slot_next hT F.entry_next ?_ (F.args_next _))))
 show wpAny _ _ (fieldsOf (.ref I) >>= _) _ _ s
 refine wpAny_bind (wpAny_fieldsOf h1 rfl ?_)
 show wpAny _ _ (setEntries S >>= _) _ _ s
 refine wpAny_bind (wpAny_setEntries_of h3 hd T.fits ?_)
 show wpAny _ _ (if ((es.size:Int) != (es.size:Int))=true then _ else _) _ _ s
 rw [if_neg (by simp)]
 show wpAny _ _ (setNext S (slot:Int).toNat ((es.size:Nat):Int).toNat (ep:Int).toNat >>= _) _ _ s
 rw [Int.toNat_natCast,Int.toNat_natCast,Int.toNat_natCast]
 refine wpAny_bind (aBr h3 hd T hpl hled h2 ?_)
 rw [eg]
 dsimp only
 refine wpAny_bind (wpAny_setField_rec h1 (by simp) fun h' e1 sb1=>?_)
 show wpAny _ _ (newExc (.type "StopIteration") [] >>= _) _ _ _
 refine wpAny_bind ?_
 simp only [newExc,newTuple]
 refine wpAny_bind (wpAny_newObj_type ?_ (by size_fits))
 refine wpAny_bind (m:=firstArgMember _ _) (wpAny_of_eq (a:=Value.none) (by first | rfl | (simp only [firstArgMember];rfl)) ?_)
 refine wpAny_newObj_type ?_ (by size_fits)
 simp only [raiseNew]
 refine wpAny_bind (wpAny_handled ?_)
 rw [show A.in1.handled=none from hh]
 refine wpAny_bind (wpAny_pure (wpAny_throw ?_))
 refine wpAny_bind (wpAny_isInstance (T := "StopIteration") (b:=true) ⟨_,Heap.get?_push_size _ rfl,rfl⟩ isSubtype_stop ?_)
 exact wpAny_pure (hQ _ ((sb1.extBut.push _).push _))
end
end ST
end
section
namespace ST
open PySem PySem.SetTable
section
variable {prog:Program} {w:World} {A:Around} {E:Y9} {s:Shared}
def StH (I S:Addr) (o:Obj) (es:Y3) (ep:Nat) (t:SetTable) (prog:Program) (w:World) (kas:Y7) (i:Nat) (h:Heap):Prop :=
 ∃slot,h.get? I=some (lG slot i S es.size ep)/\(w.params.followText "set-order" = false->below t.place slot=i)/\h.get? S=some o/\TS (intKind prog w) h es t kas
theorem aFx {I S:Addr} {o:Obj} {es:Y3} {ep:Nat} {t:SetTable} {kas:Y7} (hh:A.handled=none) (hd:o.data=.set es ep t) (hpl:t.plain=true) (hled:t.led = !(w.params.followText "set-order")) (hIS:I ≠ S) (hka:∀p∈kas,p.2 ≠ I) :
  Walks prog w A I (I::S::kas.map (·.2)) [I] es.size (fun i v=>(dX w S ep es)[i]?.map (·.2)=some v) (fun i h=>StH I S o es ep t prog w kas i h) where
 sub:=fun b hb=>by simp at hb;simp [hb]
 frame:=fun i h h' st hk=>by
  obtain ⟨slot,h1,h2,h3,T⟩:=st
  exact ⟨slot,hk I (by simp) _ h1,h2,hk S (by simp) _ h3,T.heap fun p hp=>cU (T.keys p hp) fun o' e=>hk p.2 (by simp;exact .inr (.inr ⟨p.1,hp⟩)) o' e⟩
 item:=fun i s Q E hi st hQ=>by
  refine aJg (i:=i) hd hpl hled hIS hka st hi fun v h' hv st' sb=>?_
  exact hQ v h' s.toks hv st' fun b o' hb e=>by rw [sb.2 b (fun z=>hb (by simp [z]))];exact e
 done:=fun s Q E st hQ=>aM3 hh hd hpl hled st fun h' he=>hQ h' s.toks fun b o' hb e=>he b o' (fun z=>hb (by simp [z])) e
 self:=fun i s Q E st hQ=>by
  have hT:s.TypeIs (.ref I) "set_iterator" :=by obtain ⟨slot,h1,_⟩:=st;exact ⟨_,h1,rfl⟩
  refine wpAny_pyIter_slot hT F.slot_iter (wpAny_call_entry F.slot_iter hT F.entry_iter ?_ (F.args_iter _))
  show wpAny _ _ (ret (.ref I)) _ _ s
  exact wpAny_pure ⟨_,rfl, "set_iterator",_,hT,F.slot_next.lookup,hQ⟩
theorem qG {P:Nat->Value->Prop} {acc:Array Value} {ws:Y3} (h:ItemsOf P acc ws.size) (hP:∀i v,P i v->ws[i]?.map (·.2)=some v):acc.toList=ws.toList.map (·.2):=by
 refine List.ext_getElem? fun i=>?_
 rw [List.getElem?_map,Array.getElem?_toList,Array.getElem?_toList]
 by_cases hi:i<acc.size
 ·have e:=Array.getElem?_eq_getElem hi
  rw [e]
  exact (hP i _ (h.2 i _ e)).symm
 ·have hw:¬ i<ws.size:=by rw [<- h.1];exact hi
  rw [Array.getElem?_eq_none (by omega),Array.getElem?_eq_none (by omega)];rfl
theorem kS {S:Addr} {kas:Y7} {Q:Y1->Shared->Prop} (hh:A.handled=none) (hS:cT prog w s.heap S kas)
  (hQ:∀(kas':Y7) (s':Shared),kas'.Perm kas->Moved [] (fun a b=>b=a) s s'->s.heap.objs.size<=s'.heap.objs.size->Q (kas'.map fun p=>Value.ref p.2) s'):wpAny (model prog w) A (collect (.ref S)) Q E s:=by
 obtain ⟨o,es,ep,t,ho,hex,hd,T,hpl,hled,hsz⟩:=hS
 have hT:s.TypeIs (.ref S) "set" :=⟨o,ho,hex.1⟩
 have hSlt:S<s.heap.objs.size:=Heap.lt_size ho
 unfold collect
 refine wpAny_bind (wpAny_runValue (codeAny_builtin PySem.F.entry_proto_collect ?_))
 rw [Around.under_plainId PySem.F.plain_proto_collect _]
 show wpAny _ A.in1 (newList [] >>= fun l=>again (.builtin "list.__iadd__" ⟨[l,.ref S],[]⟩)) _ _ s
 refine wpAny_bind (wpAny_newObj_type ?_)
 refine wpAny_pure ⟨plainId_quiet PySem.F.plain_list_iadd _,codeAny_builtin PySem.F.entry_list_iadd ?_⟩
 rw [Around.under_plainId PySem.F.plain_list_iadd _]
 generalize hh1:s.heap.push { cls:=.type "list",data:=.seq ([]:Y1).toArray }=h1
 have e1:∀b o,s.heap.get? b=some o->h1.get? b=some o:=fun b o e=>by rw [<- hh1];exact Heap.get?_push_of_some _ e
 have hL:h1.get? s.heap.objs.size=some { cls:=.type "list",data:=.seq ([]:Y1).toArray }:=by rw [<- hh1];exact Heap.get?_push_size _ rfl
 have sz1:h1.objs.size=s.heap.objs.size+1:=by rw [<- hh1,Heap.size_push]
 have hne:s.heap.objs.size ≠ S:=Ne.symm (Nat.ne_of_lt hSlt)
 have hT1:Shared.TypeIs { s with heap:=h1 } (.ref S) "set" :=⟨o,e1 _ _ ho,hex.1⟩
 have T1:TS (intKind prog w) h1 es t kas:=T.heap fun p hp=>cU (T.keys p hp) fun o e=>e1 _ _ e
 show wpAny _ A.in1 (Builtin.List.listExtendWith (.ref s.heap.objs.size) (.ref S) (.ref s.heap.objs.size)) _ _ _
 unfold Builtin.List.listExtendWith
 refine wpAny_bind (wpAny_typeOf hT1 ?_)
 have hsr:Builtin.List.listSameRef (.ref s.heap.objs.size) (.ref S)=false:=by simp [Builtin.List.listSameRef,hne]
 rw [if_neg (by rw [hsr];decide)]
 refine wpAny_bind (wpAny_pyIter_slot hT1 PySem.F.slot_set_iter (wpAny_call_entry PySem.F.slot_set_iter hT1 F.entry_set_iter ?_ (PySem.F.args_set_iter_1 _)))
 show wpAny _ _ (Builtin.Frozenset.sizeOf S >>= _) _ _ _
 unfold Builtin.Frozenset.sizeOf
 refine wpAny_bind (wpAny_bind (wpAny_setEntries_of (s:={ s with heap:=h1 }) (e1 _ _ ho) hd T.fits (wpAny_pure ?_)))
 unfold setDrawn
 refine wpAny_bind (wpAny_bind (wpAny_setState_of (s:={ s with heap:=h1 }) (e1 _ _ ho) hd T.fits ?_))
 dsimp only
 unfold setsByText
 refine wpAny_bind (wpAny_bind (wpAny_askSetting (wpAny_pure ?_)))
 refine wpAny_pure ?_
 show wpAny _ _ (if (!(w.params.followText "set-order") && (!t.plain && decide (es.size > 1)))=true then _ else _) _ _ _
 rw [hpl,if_neg (by simp)]
 refine wpAny_bind (wpAny_pure ?_)
 refine wpAny_bind (wpAny_setEpoch_of (s:={ s with heap:=h1 }) (e1 _ _ ho) hd T.fits ?_)
 refine wpAny_bind (wpAny_newObj_type ?_)
 refine wpAny_pure ⟨_,rfl, "set_iterator",_,⟨_,Heap.get?_push_size _ rfl,rfl⟩,F.slot_next.lookup,?_⟩
 generalize hh2:h1.push _=h2
 have eI:h2.get? h1.objs.size=some (lG 0 0 S es.size ep):=by rw [<- hh2];exact Heap.get?_push_size _ rfl
 have e2:∀b o,h1.get? b=some o->h2.get? b=some o:=fun b o e=>by rw [<- hh2];exact Heap.get?_push_of_some _ e
 have T2:TS (intKind prog w) h2 es t kas:=T1.heap fun p hp=>cU (T1.keys p hp) fun o e=>e2 _ _ e
 have hT2:Shared.TypeIs { s with heap:=h2 } (.ref S) "set" :=⟨o,e2 _ _ (e1 _ _ ho),hex.1⟩
 refine wpAny_bind (wpAny_holding ?_)
 unfold Builtin.List.listLengthHint
 refine wpAny_bind (wpAny_specialOf hT2 PySem.F.slot_set_len.lookup ?_)
 generalize hid:("set.__len__" : String)=id0
 wp_delta
 rw [show splitId id0=some ("set", "__len__") from by subst hid;decide +kernel]
 subst hid
 refine wpAny_bind (wpAny_isInstance (b:=true) hT2 (by rw [isSubtype_type];kernel_rfl) ?_)
 show wpAny _ _ (typeOf (.ref S) >>= _) _ _ _
 refine wpAny_bind (wpAny_typeOf hT2 ?_)
 refine wpAny_pure ?_
 rw [if_pos (by rfl)]
 have hL2:h2.get? s.heap.objs.size=some { cls:=.type "list",dict:=none,data:=.seq #[] 0,slots:=#[] }:=e2 _ _ hL
 refine wpAny_bind (wpAny_rule (wpAny_bind ?_))
 unfold Builtin.List.listTouch
 refine wpAny_bind (PyProof.Rows.listUpdate_at (s:={ s with heap:=h2 }) hL2 rfl ?_)
 have hL3:(h2.update s.heap.objs.size (Obj.mapSeq (·.push Value.none))).get? s.heap.objs.size=some { cls:=.type "list",dict:=none,data:=.seq #[Value.none] 1,slots:=#[] }:=Heap.get?_update_self _ hL2 rfl
 refine PyProof.Rows.listUpdate_at (s:={ s with heap:=h2.update s.heap.objs.size (Obj.mapSeq (·.push Value.none)) }) hL3 rfl ?_
 have hL4:((h2.update s.heap.objs.size (Obj.mapSeq (·.push Value.none))).update s.heap.objs.size (Obj.mapSeq (·.pop))).get? s.heap.objs.size=some { cls:=.type "list",dict:=none,data:=.seq #[] 2,slots:=#[] }:=Heap.get?_update_self _ hL3 rfl
 have e4:∀b,b ≠ s.heap.objs.size->((h2.update s.heap.objs.size (Obj.mapSeq (·.push Value.none))).update s.heap.objs.size (Obj.mapSeq (·.pop))).get? b=h2.get? b:=fun b hb=>by
  rw [Heap.get?_update_other _ _ (Ne.symm hb),Heap.get?_update_other _ _ (Ne.symm hb)]
 generalize ((h2.update s.heap.objs.size (Obj.mapSeq (·.push Value.none))).update s.heap.objs.size (Obj.mapSeq (·.pop)))=h4 at hL4 e4
 have klt:∀p∈kas,p.2<s.heap.objs.size:=fun p hp=>by
  obtain ⟨o',_,_,ho',_⟩:=T.keys p hp
  exact Heap.lt_size ho'
 have hI4:h4.get? h1.objs.size=some (lG 0 0 S es.size ep):=by
  rw [e4 _ (by rw [sz1];exact Nat.succ_ne_self _)];exact eI
 have hS4:h4.get? S=some o:=by rw [e4 _ (Ne.symm hne)];exact e2 _ _ (e1 _ _ ho)
 have T4:TS (intKind prog w) h4 es t kas:=T2.heap fun p hp=>cU (T2.keys p hp) fun o' e=>by
  rw [e4 _ (Nat.ne_of_lt (klt p hp))];exact e
 have hIS:h1.objs.size ≠ S:=by rw [sz1];exact Ne.symm (Nat.ne_of_lt (Nat.lt_succ_of_lt hSlt))
 have hkI:∀p∈kas,p.2 ≠ h1.objs.size:=fun p hp=>by rw [sz1];exact Nat.ne_of_lt (Nat.lt_succ_of_lt (klt p hp))
 have W:=aFx (prog:=prog) (w:=w) (A:=A.in1) (I:=h1.objs.size) (S:=S) (o:=o) (es:=es) (ep:=ep) (t:=t) (kas:=kas) (by simpa using hh) hd hpl hled hIS hkI
 have hLf:s.heap.objs.size ∉ h1.objs.size::S::kas.map (·.2):=fun z=>by
  rcases List.mem_cons.mp z with z | z
  ·rw [sz1] at z;exact Nat.succ_ne_self _ z.symm
  ·rcases List.mem_cons.mp z with z | z
   ·exact hne z
   ·obtain ⟨p,hp,e⟩:=List.mem_map.mp z
    exact Nat.ne_of_lt (klt p hp) e
 have hn:es.size<=sizeLine:=by
  rw [sizeLine_eq,T.len]
  rcases hsz with ⟨_,h⟩ | ⟨_,h⟩<;>omega
 refine wpAny_pure ⟨plainId_quiet PySem.F.plain_extend_loop _,codeAny_extend_loopS W.toS hn _ hLf _ es.size 0 _ _ _ rfl (Nat.zero_le _) ⟨0,hI4,fun _=>rT T.ok.rise,hS4,T4⟩ hL4 (ItemsOf.nil _) fun s' acc' c' hm hS' hacc=>?_⟩
 show wpAny _ A (load s.heap.objs.size >>= _) _ _ s'
 refine wpAny_bind (wpAny_load hS' ?_)
 refine wpAny_pure ?_
 have eacc:=qG (ws:=dX w S ep es) (by rw [lD];exact hacc) (fun i v h=>h)
 show Q acc'.toList s'
 have pm:(dX w S ep es).toList.Perm (kas.map fun p=>(tupleKeyHash (intKind prog w) p.1,Value.ref p.2)):=by
  have:=oO (w:=w) (S:=S) (ep:=ep) (es:=es)
  rw [T.ents] at this;exact this
 obtain ⟨kas',ek,pk⟩:=kX pm
 rw [eacc,ek,List.map_map]
 refine hQ kas' s' pk ⟨fun b o' _ e=>?_,hm.gens,hm.drawn,hm.os,hm.toks⟩ (Nat.le_of_lt (Heap.lt_size hS'))
 have hb1:b ≠ s.heap.objs.size:=Nat.ne_of_lt (Heap.lt_size e)
 have hb2:b ≠ h1.objs.size:=by rw [sz1];exact Nat.ne_of_lt (Nat.lt_succ_of_lt (Heap.lt_size e))
 refine hm.heap b o' (fun z=>?_) (by show h4.get? b=some o';rw [e4 b hb1];exact e2 _ _ (e1 _ _ e))
 rcases List.mem_cons.mp z with z | z
 ·exact hb1 z
 ·exact hb2 (List.mem_singleton.mp z)
end
end ST
end
section
namespace ST
open PySem PySem.W PyProof.Rows
section
variable {n:Nat} {lt:Nat->Nat->Bool} {cmp:Nat->Nat->(Bool->Shared->Prop)->Shared->Prop} {s:Shared}
structure Ord (n:Nat) (lt:Nat->Nat->Bool):Prop where
 irr:∀i,lt i i=false
 tr:∀i j k,lt i j=true->lt j k=true->lt i k=true
 tot:∀i j,i<n->j<n->i ≠ j->lt i j=true\/lt j i=true
structure Arr (n:Nat) (p:Array Nat):Prop where
 size:p.size=n
 lt:∀i,i<n->p.getD i 0<n
 inj:∀i j,i<n->j<n->p.getD i 0=p.getD j 0->i=j
def Up (lt:Nat->Nat->Bool) (p:Array Nat) (k:Nat):Prop:=∀i j,i<j->j<k->lt (p.getD i 0) (p.getD j 0)=true
def Down (lt:Nat->Nat->Bool) (p:Array Nat) (k:Nat):Prop:=∀i j,i<j->j<k->lt (p.getD j 0) (p.getD i 0)=true
theorem aJs (o:Ord n lt) {p:Array Nat} {k:Nat} (hk:1<=k) (h:Up lt p k) (h1:lt (p.getD (k - 1) 0) (p.getD k 0)=true):Up lt p (k+1):=fun i j hij hj=>by
 by_cases q:j=k
 ·subst q
  by_cases q2:i=j - 1
  ·subst q2;exact h1
  ·exact o.tr _ _ _ (h i (j - 1) (by omega) (by omega)) h1
 ·exact h i j hij (by omega)
theorem aCv (o:Ord n lt) {p:Array Nat} {k:Nat} (hk:1<=k) (h:Down lt p k) (h1:lt (p.getD k 0) (p.getD (k - 1) 0)=true):Down lt p (k+1):=fun i j hij hj=>by
 by_cases q:j=k
 ·subst q
  by_cases q2:i=j - 1
  ·subst q2;exact h1
  ·exact o.tr _ _ _ h1 (h i (j - 1) (by omega) (by omega))
 ·exact h i j hij (by omega)
variable (o:Ord n lt) (hc:∀i j,i<n->j<n->∀C:Bool->Shared->Prop,C (lt i j) s->cmp i j C s)
include o hc
theorem aAq {p:Array Nat} (a:Arr n p):∀(f m:Nat) {Q:Nat->Shared->Prop},m+f=n->1<=m->Up lt p m->(∀m',m<=m'->m'<=n->Up lt p m'->(m'<n->lt (p.getD m' 0) (p.getD (m' - 1) 0)=true)->Q m' s)->(kas_asc p f m).kasWp cmp Q s
 | 0,m,Q,e,h1,hu,hq=>hq m (Nat.le_refl _) (by omega) hu fun z=>by omega
 | f+1,m,Q,e,h1,hu,hq=>by
  refine hc _ _ (a.lt m (by omega)) (a.lt (m - 1) (by omega)) _ ?_
  cases ec:lt (p.getD m 0) (p.getD (m - 1) 0) with
  | true =>
   dsimp only;rw [if_pos rfl]
   exact hq m (Nat.le_refl _) (by omega) hu fun _=>ec
  | false =>
   dsimp only;rw [if_neg (by simp)]
   have h2:lt (p.getD (m - 1) 0) (p.getD m 0)=true:=by
    rcases o.tot _ _ (a.lt (m - 1) (by omega)) (a.lt m (by omega)) (fun z=>by have:=a.inj _ _ (by omega) (by omega) z;omega) with q | q
    ·exact q
    ·rw [ec] at q;cases q
   exact aAq a f (m+1) (by omega) (by omega) (aJs o h1 hu h2) fun m' g1 g2 g3 g4=>hq m' (by omega) g2 g3 g4
theorem aBy {p:Array Nat} (a:Arr n p):∀(f k:Nat) {Q:Array Nat×Nat×Nat->Shared->Prop},k+f=n->2<=k->Down lt p k->(∀k',k<=k'->k'<=n->Down lt p k'->Q (p,k',0) s)->(kas_desc f p k 0).kasWp cmp Q s
 | 0,k,Q,e,h1,hd,hq=>hq k (Nat.le_refl _) (by omega) hd
 | f+1,k,Q,e,h1,hd,hq=>by
  refine hc _ _ (a.lt k (by omega)) (a.lt (k - 1) (by omega)) _ ?_
  cases ec:lt (p.getD k 0) (p.getD (k - 1) 0) with
  | true =>
   dsimp only;rw [if_pos rfl,if_neg (by omega)]
   exact aBy a f (k+1) (by omega) (by omega) (aCv o (by omega) hd ec) fun k' g1 g2 g3=>hq k' (by omega) g2 g3
  | false =>
   dsimp only;rw [if_neg (by simp)]
   refine hc _ _ (a.lt (k - 1) (by omega)) (a.lt k (by omega)) _ ?_
   have h2:lt (p.getD (k - 1) 0) (p.getD k 0)=true:=by
    rcases o.tot _ _ (a.lt (k - 1) (by omega)) (a.lt k (by omega)) (fun z=>by have:=a.inj _ _ (by omega) (by omega) z;omega) with q | q
    ·exact q
    ·rw [ec] at q;cases q
   rw [h2];dsimp only;rw [if_pos rfl]
   exact hq k (Nat.le_refl _) (by omega) hd
end
theorem getD_eq {p:Array Nat} {i:Nat}:p.getD i 0=(p[i]?).getD 0:=by
 by_cases h:i<p.size
 ·simp [Array.getD,h]
 ·simp [Array.getD,h,Array.getElem?_eq_none (Nat.le_of_not_lt h)]
theorem rev_getD {n:Nat} {p:Array Nat} (hs:p.size=n) {k:Nat} (hk:k<=n) (i:Nat):(kas_rev p 0 k).getD i 0=if i<k then p.getD (k - 1 - i) 0 else p.getD i 0:=by
 rw [getD_eq]
 unfold kas_rev
 rw [getElem?_mirror (by omega) _ (by omega)]
 by_cases h1:i<k
 ·rw [if_pos h1]
  by_cases h2:(0<=i/\i<0+(k - 0) / 2)\/(k - (k - 0) / 2<=i/\i<k)
  ·rw [if_pos h2,getD_eq,show 0+k - 1 - i=k - 1 - i by omega]
  ·rw [if_neg h2,getD_eq]
   have:i=k - 1 - i:=by omega
   rw [<- this]
 ·rw [if_neg h1,if_neg (by omega),getD_eq]
theorem aBc {n:Nat} {p:Array Nat} (a:Arr n p) {k:Nat} (hk:k<=n):Arr n (kas_rev p 0 k):=by
 refine ⟨by rw [kas_rev_size];exact a.size,fun i hi=>?_,fun i j hi hj e=>?_⟩
 ·rw [rev_getD a.size hk];split<;>exact a.lt _ (by omega)
 ·rw [rev_getD a.size hk,rev_getD a.size hk] at e
  split at e
  ·split at e
   ·have:=a.inj _ _ (by omega) (by omega) e;omega
   ·have:=a.inj _ _ (by omega) (by omega) e;omega
  ·split at e
   ·have:=a.inj _ _ (by omega) (by omega) e;omega
   ·exact a.inj _ _ (by omega) (by omega) e
theorem kD {n:Nat} {p:Array Nat} (hs:p.size=n) {k l:Nat} (hk:k<n) (hl:l<=k) (i:Nat):(bubble p k (k - l)).getD i 0=if i=l then p.getD k 0 else if l<i/\i<=k then p.getD (i - 1) 0 else p.getD i 0:=by
 rw [getD_eq,getElem?_bubble (by omega) _ (by omega),show k - (k - l)=l by omega]
 split
 ·rw [getD_eq]
 ·split
  ·rw [getD_eq]
  ·rw [getD_eq]
theorem aIz {n:Nat} {p:Array Nat} (a:Arr n p) {k l:Nat} (hk:k<n) (hl:l<=k):Arr n (bubble p k (k - l)):=by
 refine ⟨by rw [bubble_size];exact a.size,fun i hi=>?_,fun i j hi hj e=>?_⟩
 ·rw [kD a.size hk hl];split
  ·exact a.lt _ hk
  ·split<;>exact a.lt _ (by omega)
 ·rw [kD a.size hk hl,kD a.size hk hl] at e
  have iv:∀x y,x<n->y<n->p.getD x 0=p.getD y 0->x=y:=a.inj
  split at e
  ·split at e
   ·omega
   ·split at e
    ·have:=iv _ _ (by omega) (by omega) e;omega
    ·have:=iv _ _ (by omega) (by omega) e;omega
  ·split at e
   ·split at e
    ·have:=iv _ _ (by omega) (by omega) e;omega
    ·split at e
     ·have:=iv _ _ (by omega) (by omega) e;omega
     ·have:=iv _ _ (by omega) (by omega) e;omega
   ·split at e
    ·have:=iv _ _ (by omega) (by omega) e;omega
    ·split at e
     ·have:=iv _ _ (by omega) (by omega) e;omega
     ·exact iv _ _ (by omega) (by omega) e
section
variable {n:Nat} {lt:Nat->Nat->Bool} {cmp:Nat->Nat->(Bool->Shared->Prop)->Shared->Prop} {s:Shared}
variable (o:Ord n lt) (hc:∀i j,i<n->j<n->∀C:Bool->Shared->Prop,C (lt i j) s->cmp i j C s)
include o hc
theorem aIc {p:Array Nat} (a:Arr n p) {k:Nat} (hk:1<=k) (hkn:k<=n) (hd:Down lt p k) {Q:Nat×Array Nat->Shared->Prop} (hq:∀m p',Arr n p'->1<=m->m<=n->Up lt p' m->Q (m,p') s):(kas_tail3 k n p).kasWp cmp Q s:=by
 unfold kas_tail3
 rw [KasT.kasWp_bind]
 refine aAq o hc (aBc a hkn) (n - k) k (by omega) hk (fun i j hij hj=>?_) fun m' g1 g2 g3 g4=>hq m' _ (aBc a hkn) (by omega) g2 g3
 rw [rev_getD a.size hkn,rev_getD a.size hkn,if_pos (by omega),if_pos (by omega)]
 exact hd _ _ (by omega) (by omega)
theorem aFk {p:Array Nat} (a:Arr n p) (hn:1<=n) {Q:Nat×Array Nat->Shared->Prop} (hq:∀m p',Arr n p'->1<=m->m<=n->Up lt p' m->Q (m,p') s):(kas_count n p).kasWp cmp Q s:=by
 unfold kas_count
 rw [KasT.kasWp_bind]
 refine aAq o hc a (n - 1) 1 (by omega) (Nat.le_refl _) (fun i j h1 h2=>by omega) fun m g1 g2 g3 g4=>?_
 by_cases hm:m=n
 ·rw [if_pos (by simp [hm])]
  exact hq m p a g1 g2 g3
 ·rw [if_neg (by simpa using hm)]
  by_cases h1:m > 1
  ·rw [if_pos h1]
   refine hc _ _ (a.lt 0 (by omega)) (a.lt (m - 1) (by omega)) _ ?_
   rw [g3 0 (m - 1) (by omega) (by omega)];dsimp only;rw [if_pos rfl]
   exact hq m p a g1 g2 g3
  ·rw [if_neg h1]
   have e1:m=1:=by omega
   subst e1
   have h10:=g4 (by omega)
   unfold kas_descPart
   rw [KasT.kasWp_bind]
   refine aBy o hc a (n - 2) 2 (by omega) (Nat.le_refl _) (fun i j hij hj=>?_) fun k' q1 q2 q3=>?_
   ·have:i=0:=by omega
    have:j=1:=by omega
    subst i;subst j;exact h10
   ·dsimp only
    rw [if_neg (by omega)]
    exact aIc o hc a (by omega) q2 q3 hq
theorem rR {p:Array Nat} (a:Arr n p) {k:Nat} (hk:k<n) (hu:Up lt p k):∀(f l r:Nat) {Q:Nat->Shared->Prop},r - l<=f->l<=r->r<=k->(∀i,i<l->lt (p.getD i 0) (p.getD k 0)=true)->(∀i,r<=i->i<k->lt (p.getD k 0) (p.getD i 0)=true) ->
  (∀l',l'<=k->(∀i,i<l'->lt (p.getD i 0) (p.getD k 0)=true)->(∀i,l'<=i->i<k->lt (p.getD k 0) (p.getD i 0)=true)->Q l' s)->(kas_place p k f l r).kasWp cmp Q s
 | 0,l,r,Q,h1,h2,h3,h4,h5,hq=>by
  have:l=r:=by omega
  subst this
  exact hq l h3 h4 h5
 | f+1,l,r,Q,h1,h2,h3,h4,h5,hq=>by
  unfold kas_place
  by_cases hlr:l >= r
  ·rw [if_pos hlr]
   have:l=r:=by omega
   subst this
   exact hq l h3 h4 h5
  ·rw [if_neg hlr]
   refine hc _ _ (a.lt k hk) (a.lt _ (by omega)) _ ?_
   cases ec:lt (p.getD k 0) (p.getD ((l+r) / 2) 0) with
   | true =>
    dsimp only;rw [if_pos rfl]
    refine rR a hk hu f l ((l+r) / 2) (by omega) (by omega) (by omega) h4 (fun i g1 g2=>?_) hq
    by_cases q:i=(l+r) / 2
    ·subst q;exact ec
    ·exact o.tr _ _ _ ec (hu _ _ (by omega) g2)
   | false =>
    dsimp only;rw [if_neg (by simp)]
    have h6:lt (p.getD ((l+r) / 2) 0) (p.getD k 0)=true:=by
     rcases o.tot _ _ (a.lt ((l+r) / 2) (by omega)) (a.lt k hk) (fun z=>by have:=a.inj _ _ (by omega) (by omega) z;omega) with q | q
     ·exact q
     ·rw [ec] at q;cases q
    refine rR a hk hu f ((l+r) / 2+1) r (by omega) (by omega) h3 (fun i g1=>?_) h5 hq
    by_cases q:i=(l+r) / 2
    ·subst q;exact h6
    ·exact o.tr _ _ _ (hu _ _ (by omega) (by omega)) h6
theorem aFv:∀(f k:Nat) (p:Array Nat) {Q:Array Nat->Shared->Prop},Arr n p->k+f=n->Up lt p k->(∀p',Arr n p'->Up lt p' n->Q p' s)->(kas_bin f p k).kasWp cmp Q s
 | 0,k,p,Q,a,e,hu,hq=>by
  have:k=n:=by omega
  subst this
  exact hq p a hu
 | f+1,k,p,Q,a,e,hu,hq=>by
  unfold kas_bin
  rw [KasT.kasWp_bind]
  refine rR o hc a (show k<n by omega) hu k 0 k (by omega) (by omega) (Nat.le_refl _) (fun i hi=>by omega) (fun i h1 h2=>by omega) fun l h1 h2 h3=>?_
  refine aFv f (k+1) _ (aIz a (by omega) h1) (by omega) (fun i j hij hj=>?_) hq
  rw [kD a.size (by omega) h1,kD a.size (by omega) h1]
  by_cases q1:i=l
  ·rw [if_pos q1,if_neg (by omega),if_pos (by omega)]
   exact h3 _ (by omega) (by omega)
  ·rw [if_neg q1]
   by_cases q2:l<i/\i<=k
   ·rw [if_pos q2,if_neg (by omega),if_pos (by omega)]
    exact hu _ _ (by omega) (by omega)
   ·rw [if_neg q2]
    by_cases q3:j=l
    ·rw [if_pos q3];exact h2 _ (by omega)
    ·rw [if_neg q3]
     by_cases q4:l<j/\j<=k
     ·rw [if_pos q4];exact hu _ _ (by omega) (by omega)
     ·rw [if_neg q4];exact hu _ _ (by omega) (by omega)
theorem aJv (hn:1<=n) {Q:Array Nat->Shared->Prop} (hq:∀p,Arr n p->Up lt p n->Q p s):(kas_sort n).kasWp cmp Q s:=by
 have a0:Arr n (List.toArray (List.range n)):=by
  have g:∀i,i<n->(List.toArray (List.range n)).getD i 0=i:=fun i hi=>by rw [getD_eq,List.getElem?_toArray,List.getElem?_range hi];rfl
  exact ⟨by simp,fun i hi=>by rw [g i hi];exact hi,fun i j hi hj e=>by rwa [g i hi,g j hj] at e⟩
 unfold kas_sort
 rw [KasT.kasWp_bind]
 refine aFk o hc a0 hn fun m p' a' h1 h2 hu=>?_
 dsimp only
 by_cases hm:m<n
 ·rw [if_pos hm,show max m 1=m by omega]
  exact aFv o hc (n - m) m p' a' (by omega) hu hq
 ·rw [if_neg hm]
  have:m=n:=by omega
  subst this
  exact hq p' a' hu
end
end ST
end
section
namespace ST
open PySem PySem.W PyProof.Rows
def ltL:Y0->Y0->Bool
 | [],[]=>false
 | [],_::_=>true
 | _::_,[]=>false
 | x::xs,y::ys=>if x=y then ltL xs ys else decide (x<y)
theorem ltL_irr:∀x,ltL x x=false
 | []=>rfl
 | x::xs=>by unfold ltL;rw [if_pos rfl];exact ltL_irr xs
theorem ltL_tr:∀x y z,ltL x y=true->ltL y z=true->ltL x z=true
 | [],[],z,h,_=>by cases h
 | [],_::_,[],_,h=>by cases h
 | [],_::_,_::_,_,_=>rfl
 | _::_,[],_,h,_=>by cases h
 | _::_,_::_,[],_,h=>by cases h
 | x::xs,y::ys,z::zs,h1,h2=>by
  unfold ltL at h1 h2 ⊢
  by_cases e1:x=y
  ·rw [if_pos e1] at h1
   subst e1
   by_cases e2:x=z
   ·rw [if_pos e2] at h2 ⊢;exact ltL_tr xs ys zs h1 h2
   ·rw [if_neg e2] at h2 ⊢;exact h2
  ·rw [if_neg e1] at h1
   have h1:=of_decide_eq_true h1
   by_cases e2:y=z
   ·subst e2;rw [if_neg e1];exact decide_eq_true h1
   ·rw [if_neg e2] at h2
    have h2:=of_decide_eq_true h2
    rw [if_neg (by omega)];exact decide_eq_true (by omega)
theorem ltL_tot:∀x y,x ≠ y->ltL x y=true\/ltL y x=true
 | [],[],h=>absurd rfl h
 | [],_::_,_=>.inl rfl
 | _::_,[],_=>.inr rfl
 | x::xs,y::ys,h=>by
  unfold ltL
  by_cases e:x=y
  ·subst e
   rw [if_pos rfl,if_pos rfl]
   exact ltL_tot xs ys fun z=>h (by rw [z])
  ·rw [if_neg e,if_neg (Ne.symm e)]
   rcases Int.lt_or_gt_of_ne e with q | q
   ·exact .inl (decide_eq_true q)
   ·exact .inr (decide_eq_true q)
section
variable {prog:Program} {w:World} {A:Around} {E:Y9} {s:Shared}
theorem aFj {b:Bool} {Q:Bool->Shared->Prop}:∀ {x y:Y0} {xs ys:Y1} {fin:Bool} (i:Nat),ItemsAre (intKind prog w) x xs->ItemsAre (intKind prog w) y ys->fin=decide (x.length<y.length)->Q (ltL x y) s->KatLex prog w A b fin Q (xs.zip ys) i s
 | _,_,_,_,fin,i,.nil,.nil,hf,hq=>by
  have:fin=false:=by rw [hf];rfl
  subst this
  exact kat_nil hq
 | _,_,_,_,fin,i,.nil,.cons _ _,hf,hq=>by
  have:fin=true:=by rw [hf];simp
  subst this
  exact kat_nil hq
 | _,_,_,_,fin,i,.cons _ _,.nil,hf,hq=>by
  have:fin=false:=by rw [hf];simp
  subst this
  exact kat_nil hq
 | x::x',y::y',_,_,fin,i,.cons h1 hx,.cons h2 hy,hf,hq=>by
  refine kat_cons ((intKind prog w).eqBool h1 h2 ?_)
  unfold ltL at hq
  by_cases e:x=y
  ·rw [decide_eq_true e]
   rw [if_pos e] at hq
   have hf':fin=decide (x'.length<y'.length):=by
    rw [hf];simp only [List.length_cons,Nat.add_lt_add_iff_right]
   exact kat_yes (aFj (i+1) hx hy hf' hq)
  ·rw [decide_eq_false e]
   rw [if_neg e] at hq
   obtain ⟨t,rfl⟩:=Value.isInt_shape h1
   obtain ⟨u,rfl⟩:=Value.isInt_shape h2
   refine kat_no ?_
   cases (b && i == 0) with
   | true=>exact oneLt_int hq
   | false=>exact kat_one _ _ (PyProof.Rows.lt_int (show W.BoolBack Q (.bool _) s from hq))
theorem aK3 {b:Bool} {Q:Bool->Shared->Prop} {x y:Y0} {a c:Addr} (hx:IsTupleKey (intKind prog w) s.heap x a) (hy:IsTupleKey (intKind prog w) s.heap y c) (hq:Q (ltL x y) s):wpAny (model prog w) A (keyLt' (tuples' b) (.ref a) (.ref c)) Q E s:=by
 obtain ⟨ox,xs,n,hox,_,hdx,hix⟩:=hx
 obtain ⟨oy,ys,k,hoy,_,hdy,hiy⟩:=hy
 refine kat_lt hox hdx hoy hdy (aFj 0 hix hiy ?_ hq)
 have l1:=hix.length;have l2:=hiy.length
 simp at l1 l2
 rw [l1,l2]
end
end ST
end
section
namespace VL
open PySem L2
def gJ:List D->Option (LI)
 | []=>some []
 | d::ds=>match d with
  | .tup es=>(match dD es,gJ ds with | some k,some ks=>some (k::ks) | _,_=>none)
  | _=>none
def pF (k:Y0):LI->LI
 | []=>[k]
 | x::xs=>if ST.ltL k x=true then k::x::xs else if k=x then x::xs else x::pF k xs
def dW (ks:LI):LI:=ks.foldr pF []
def TI (k:Y0):D:=.tup (k.map .int)
def kSS:List (D×Bool)->R (D×Bool)
 | [(.lst _ ds,_)]=>(match gJ ds with
  | some ks=>if decide (ks.length<=18) && ks.all (fun k=>!k.isEmpty) then .ok (.lst true ((dW ks).map TI),true) else .bad
  | none=>.bad)
 | _=>.bad
def aGt:D×Bool->D×Bool->R (D×Bool):=fun x y=>match x.1,y.1 with
 | .tup ds,.tup es=>(match dD ds,dD es with | some a,some b=>.ok (.bl (!ST.ltL b a),true) | _,_=>.bad)
 | _,_=>.bad
end VL
end
section
namespace ST
open PySem PySem.W PyProof.Rows
section
variable {prog:Program} {w:World} {A:Around} {E:Y9} {s:Shared}
def refs (kas:Y7):Y1:=kas.map fun p=>Value.ref p.2
theorem qK (kas:Y7) {i:Nat} (h:i<kas.length):(refs kas).getD i Value.none=Value.ref (kas[i].2):=by
 simp [refs,h]
theorem lW {h:Heap}:∀ {kas:Y7},(∀p∈kas,IsTupleKey (intKind prog w) h p.1 p.2)->(∀p∈kas,p.1 ≠ [])->∃fs,KatTups h (refs kas) fs/\fs.length=kas.length/\∀v∈fs,∃x t,v=.int x t
 | [],_,_=>⟨[],KatTups.nil,rfl,fun v hv=>by simp at hv⟩
 | p::kas,hk,hn=>by
  obtain ⟨fs,h1,h2,h3⟩:=lW (fun q hq=>hk q (List.mem_cons_of_mem _ hq)) fun q hq=>hn q (List.mem_cons_of_mem _ hq)
  obtain ⟨o,items,m,ho,hc,hd,hi⟩:=hk p List.mem_cons_self
  have hne:=hn p List.mem_cons_self
  obtain ⟨ks,ad⟩:=p
  cases hq:items.toList with
  | nil=>rw [hq] at hi;cases hi;exact absurd rfl hne
  | cons v vs =>
   rw [hq] at hi
   cases hi with
   | @cons k _ _ _ h4 _ =>
    obtain ⟨t,rfl⟩:=Value.isInt_shape h4
    refine ⟨.int k t::fs,KatTups.cons ho hc hd ?_ h1,by simp [h2],fun v hv=>?_⟩
    ·rw [<- Array.getElem?_toList,hq];rfl
    ·rcases List.mem_cons.mp hv with rfl | hv
     ·exact ⟨_,t,rfl⟩
     ·exact h3 v hv
theorem yB {a:Addr} {kas:Y7} {n:Nat} {P:PySem.Fin->Shared->Prop} (ho:s.heap.get? a=some (seqObj "list" (refs kas).toArray n)) (hk:∀p∈kas,IsTupleKey (intKind prog w) s.heap p.1 p.2) (hne:∀p∈kas,p.1 ≠ []) (nd:(kas.map (·.1)).Nodup) (h64:kas.length<64)
  (h:∀kas':Y7,kas'.Perm kas->kas'.Pairwise (fun x y=>ltL x.1 y.1=true)->P (.done (.ret .none)) { s with heap:=sortedHeap s.heap a (refs kas) (refs kas').toArray }) :
  wpAny (model prog w) A (Builtin.«list.sort» ⟨[.ref a],[]⟩) P E s:=by
 rw [list_sort_plain]
 have ha:a<s.heap.objs.size:=Heap.lt_size ho
 have hl:(refs kas).length=kas.length:=by simp [refs]
 refine wpAny_bind (listItems_at ho rfl ?_)
 refine wpAny_bind (listUpdate_at ho rfl ?_ (by rw [List.size_toArray,sizeLine_eq,hl];omega) (Nat.zero_le _))
 obtain ⟨e1,ho1⟩:∃e1,(s.heap.update a (Obj.mapSeq fun _=>#[])).get? a=some (seqObj "list" #[] e1):=⟨_,get?_update_seq ho (fun _=>#[])⟩
 refine wpAny_bind (seqEpoch_at ho1 rfl ?_)
 refine wpAny_bind (wpAny_newTuple ?_ (by show (refs kas).length<=_;rw [sizeLine_eq,hl];omega))
 refine wpAny_bind (wpAny_newList ?_ (Nat.zero_le _))
 refine wpAny_holding ?_
 have ho6:(((s.heap.update a (Obj.mapSeq fun _=>#[])).push (seqObj "tuple" (refs kas).toArray 0)).push (seqObj "list" #[] 0)).get? a=some (seqObj "list" #[] e1) :=
  Heap.get?_push_of_some _ (Heap.get?_push_of_some _ ho1)
 have hk6:∀p∈kas,IsTupleKey (intKind prog w) (((s.heap.update a (Obj.mapSeq fun _=>#[])).push (seqObj "tuple" (refs kas).toArray 0)).push (seqObj "list" #[] 0)) p.1 p.2:=fun p hp=>by
  obtain ⟨o,items,m,h1,h2,h3,h4⟩:=hk p hp
  have hpa:p.2 ≠ a:=fun z=>by
   rw [z] at h1
   rw [ho] at h1
   cases h1
   exact absurd (show Value.type "list" = Value.type "tuple" from h2) (by decide)
  refine ⟨o,items,m,Heap.get?_push_of_some _ (Heap.get?_push_of_some _ ?_),h2,h3,h4⟩
  rw [Heap.get?_update_other _ _ (Ne.symm hpa)];exact h1
 show wpAny (model prog w) A _ P E { s with heap:=((s.heap.update a (Obj.mapSeq fun _=>#[])).push (seqObj "tuple" (refs kas).toArray 0)).push (seqObj "list" #[] 0) }
 dsimp only
 by_cases h2:(refs kas).toArray.size<2
 ·rw [if_pos h2,if_pos h2]
  refine wpAny_bind (wpAny_pure ?_)
  rw [StateT.run_pure]
  refine wpAny_bind (wpAny_pure ?_)
  dsimp only
  refine wpAny_bind (seqEpoch_at ho6 rfl ?_)
  have e0:((arrOf (SortSt.mk' general' ((refs kas).toArray.zip (refs kas).toArray) #[] 7 none)).map (·.2))=(refs kas).toArray:=by
   show ((refs kas).toArray.zip (refs kas).toArray).map (·.2)=_
   apply Array.toList_inj.mp
   simp
   exact List.map_snd_zip (Nat.le_refl _)
  refine wpAny_bind (listUpdate_at ho6 rfl ?_ (Nat.zero_le _) (hsz2:=by rw [e0,List.size_toArray,sizeLine_eq,hl];omega))
  rw [e0]
  simp only [bne_self_eq_false,Bool.false_eq_true,if_false]
  refine wpAny_pure (h kas (.refl _) ?_)
  rw [List.size_toArray,hl] at h2
  match kas,h2 with
  | [],_=>exact .nil
  | [x],_=>exact List.pairwise_singleton _ _
  | _::_::_,h2=>simp at h2;omega
 ·rw [if_neg h2,if_neg h2]
  rw [List.size_toArray,hl] at h2
  obtain ⟨fs,t1,t2,t3⟩:=lW hk6 hne
  refine wpAny_bind (kat_kind (T:=.type "int") t1 (by omega) (fun v hv=>?_) (by decide) ?_)
  ·obtain ⟨x,t,rfl⟩:=t3 v hv
   exact Looks.of_pure rfl
  ·have inj:∀i j (hi:i<kas.length) (hj:j<kas.length),kas[i].1=kas[j].1->i=j:=fun i j hi hj e=>by
    have:=(List.getElem_inj (xs:=kas.map (·.1)) (i:=i) (j:=j) (h₀:=by simpa using hi) (h₁:=by simpa using hj) nd).mp (by simpa using e)
    exact this
   have o:Ord kas.length (fun i j=>ltL ((kas[i]?.map (·.1)).getD []) ((kas[j]?.map (·.1)).getD [])):=by
    refine ⟨fun i=>ltL_irr _,fun i j k=>ltL_tr _ _ _,fun i j hi hj hij=>ltL_tot _ _ fun z=>hij (inj i j hi hj ?_)⟩
    simpa [hi,hj] using z
   refine wpAny_bind (wpAny_mono (kat_run (ks:=refs kas) (vs:=refs kas) (κ:=tuples' (Value.type "int" != Value.type "tuple")) (Q:=fun st' s'=>∃p:Array Nat,arrOf st'=p.map (kas_item ((refs kas).toArray.zip (refs kas).toArray))/\failedOf st'=none/\Arr kas.length p/\Up (fun i j=>ltL ((kas[i]?.map (·.1)).getD []) ((kas[j]?.map (·.1)).getD [])) p kas.length/\s'={ s with heap:=((s.heap.update a (Obj.mapSeq fun _=>#[])).push (seqObj "tuple" (refs kas).toArray 0)).push (seqObj "list" #[] 0) })
    (G:=fun p s'=>Arr kas.length p/\Up (fun i j=>ltL ((kas[i]?.map (·.1)).getD []) ((kas[j]?.map (·.1)).getD [])) p kas.length/\s'={ s with heap:=((s.heap.update a (Obj.mapSeq fun _=>#[])).push (seqObj "tuple" (refs kas).toArray 0)).push (seqObj "list" #[] 0) })
    rfl (by omega) (by omega) (fun p st' s' _ a2 a3 a4=>⟨p,a2,a3,a4⟩) ?_) ?_ fun _ _ e=>e)
   ·rw [hl]
    refine aJv o (fun i j hi hj C hC=>?_) (by omega) fun p a1 a2=>⟨a1,a2,rfl⟩
    unfold kas_ask
    rw [qK kas hi,qK kas hj]
    refine aK3 (hk6 _ (List.getElem_mem hi)) (hk6 _ (List.getElem_mem hj)) ?_
    simpa [hi,hj] using hC
   ·rintro ⟨⟨⟩,st'⟩ s' ⟨p,har,hf,ar,up,rfl⟩
    dsimp only
    have hout:=kat_snds (ks:=refs kas) (vs:=refs kas) rfl har
    obtain ⟨kas',ek⟩:∃kas',kas'=p.toList.map fun i=>kas.getD i ([],0):=⟨_,rfl⟩
    have psz:p.toList.length=kas.length:=by rw [Array.length_toList,ar.size]
    have plt:∀i∈p.toList,i<kas.length:=fun i hi=>by
     obtain ⟨k,hk',e⟩:=List.mem_iff_getElem.mp hi
     have:=ar.lt k (by omega)
     rw [getD_eq,Array.getElem?_eq_getElem (by rw [ar.size];omega)] at this
     rw [<- e];simpa using this
    have pget:∀k (hk':k<kas.length),p.getD k 0=p.toList[k]'(by omega):=fun k hk'=>by
     rw [getD_eq,Array.getElem?_eq_getElem (by rw [ar.size];omega)];simp
    have er:(p.toList.map fun i=>(refs kas).getD i Value.none)=refs kas':=by
     rw [ek]
     show _=List.map (fun p:Y0×Addr=>Value.ref p.2) (List.map (fun i=>kas.getD i ([],0)) p.toList)
     rw [List.map_map]
     refine List.map_congr_left fun i hi=>?_
     have:=plt i hi
     rw [qK kas this]
     simp [this]
    rw [er] at hout
    have hsz:(refs kas').length=kas.length:=by rw [<- er,List.length_map,psz]
    refine wpAny_bind (seqEpoch_at ho6 rfl ?_)
    refine wpAny_bind (listUpdate_at ho6 rfl ?_ (Nat.zero_le _) (hsz2:=by rw [hout,List.size_toArray,hsz,sizeLine_eq];omega))
    rw [hf,hout]
    simp only [bne_self_eq_false,Bool.false_eq_true,if_false]
    refine wpAny_pure (h kas' ?_ ?_)
    ·have pp:p.toList.Perm (List.range kas.length):=by
      refine (List.perm_ext_iff_of_nodup ?_ List.nodup_range).mpr fun k=>?_
      ·refine List.pairwise_iff_getElem.mpr fun i j hi hj hij z=>?_
       have:=ar.inj i j (by omega) (by omega) (by rw [pget i (by omega),pget j (by omega)];exact z)
       omega
      ·constructor
       ·intro hk';exact List.mem_range.mpr (plt k hk')
       ·intro hk'
        refine Classical.byContradiction fun z=>?_
        have nd2:p.toList.Nodup:=by
         refine List.pairwise_iff_getElem.mpr fun i j hi hj hij z=>?_
         have:=ar.inj i j (by omega) (by omega) (by rw [pget i (by omega),pget j (by omega)];exact z)
         omega
        have sub:(k::p.toList) ⊆ List.range kas.length:=fun y hy=>by
         rcases List.mem_cons.mp hy with rfl | hy
         ·exact hk'
         ·exact List.mem_range.mpr (plt y hy)
        have:=(List.nodup_cons.mpr ⟨z,nd2⟩).length_le_of_subset sub
        rw [List.length_cons,psz,List.length_range] at this
        omega
     have:=pp.map fun i=>kas.getD i ([],0)
     rw [<- ek] at this
     refine this.trans (List.Perm.of_eq ?_)
     refine List.ext_getElem (by simp) fun i h1 h2=>?_
     simp at h1
     simp [h1]
    ·rw [ek]
     refine List.pairwise_iff_getElem.mpr fun i j hi hj hij=>?_
     rw [List.length_map] at hi hj
     have u:=up i j hij (by omega)
     rw [pget i (by omega),pget j (by omega)] at u
     have l1:=plt _ (List.getElem_mem (l:=p.toList) (n:=i) hi)
     have l2:=plt _ (List.getElem_mem (l:=p.toList) (n:=j) hj)
     rw [List.getElem_map,List.getElem_map]
     have gd:∀k,k<kas.length->(kas.getD k ([],0)).1=((kas[k]?.map (·.1)).getD []):=fun k hk'=>by simp [hk']
     rw [gd _ l1,gd _ l2]
     exact u
end
end ST
end
section
namespace ST
open PySem PySem.W PyProof.Rows
section
variable {prog:Program} {w:World} {A:Around} {E:Y9} {s:Shared}
theorem sorted_set {S:Addr} {kas:Y7} {Q:Y9} (hh:A.handled=none) (hS:cT prog w s.heap S kas) (hne:∀p∈kas,p.1 ≠ [])
  (h:∀(kas':Y7) (D:Addr) (e:Nat) (h':Heap) (tk:Nat),kas'.Perm kas->kas'.Pairwise (fun x y=>ltL x.1 y.1=true)->h'.get? D=some (seqObj "list" (refs kas').toArray e)->s.heap.objs.size<=D->s.toks<=tk->(∀b o,s.heap.get? b=some o->h'.get? b=some o) ->
   Q (.ref D) { s with heap:=h',toks:=tk }):wpAny (model prog w) A (call (.builtin "sorted") [.ref S]) Q E s:=by
 have hlen:=hS.len
 refine Calls.call_function_entry kind_sorted plain_sorted entry_sorted (args_sorted1 _) ?_
 unfold Builtin.«sorted»
 refine wpAny_bind (m:=checkCount "sorted" 1 1 _) (wpAny_pure ?_)
 refine wpAny_bind (kS (by simpa using hh) hS fun kas1 s1 pk hm hsz=>?_)
 have hk1:∀p∈kas1,IsTupleKey (intKind prog w) s1.heap p.1 p.2:=fun p hp=>cU (hS.keys p (pk.subset hp)) fun o e=>hm.heap _ o (by simp) e
 have hl1:kas1.length=kas.length:=pk.length_eq
 refine wpAny_bind (wpAny_newList ?_ (by show (refs kas1).length<=_;rw [sizeLine_eq];simp [refs];omega))
 have hoL:(s1.heap.push (seqObj "list" (refs kas1).toArray 0)).get? s1.heap.objs.size=some (seqObj "list" (refs kas1).toArray 0):=Heap.get?_push_size _ rfl
 refine wpAny_bind (wpAny_holding (wpAny_call_entry slot_list_sort ⟨_,hoL,rfl⟩ entry_list_sort ?body (args_list_sort _)))
 case body =>
  refine yB (s:={ s1 with heap:=s1.heap.push (seqObj "list" (refs kas1).toArray 0) }) hoL (fun p hp=>cU (hk1 p hp) fun o e=>Heap.get?_push_of_some _ e) (fun p hp=>hne p (pk.subset hp)) ((pk.map (·.1)).nodup_iff.mpr hS.nd) (by omega) fun kas2 pk2 up2=>?_
  refine ⟨_,rfl,wpAny_pure ⟨_,rfl,?_⟩⟩
  obtain ⟨h1,g1,d1,t1,o1⟩:=s1
  have eg:g1=s.gens:=hm.gens
  have ed:d1=s.drawn:=hm.drawn
  have eo:o1=s.os:=hm.os
  subst eg;subst ed;subst eo
  have hlt:h1.objs.size<(h1.push (seqObj "list" (refs kas1).toArray 0)).objs.size:=by rw [size_push'];exact Nat.lt_succ_self _
  obtain ⟨e2,he2⟩:∃e2,(sortedHeap (h1.push (seqObj "list" (refs kas1).toArray 0)) h1.objs.size (refs kas1) (refs kas2).toArray).get? h1.objs.size=some (seqObj "list" (refs kas2).toArray e2):=by
   unfold sortedHeap
   obtain ⟨e1,ho1⟩:∃e1,((h1.push (seqObj "list" (refs kas1).toArray 0)).update h1.objs.size (Obj.mapSeq fun _=>#[])).get? h1.objs.size=some (seqObj "list" #[] e1):=⟨_,get?_update_seq hoL (fun _=>#[])⟩
   exact ⟨_,get?_update_seq (Heap.get?_push_of_some _ (Heap.get?_push_of_some _ ho1)) fun _=>(refs kas2).toArray⟩
  refine h kas2 h1.objs.size e2 _ t1 (pk2.trans pk) up2 he2 hsz hm.toks fun b o e=>?_
  have e':h1.get? b=some o:=hm.heap b o (by simp) e
  have hne':h1.objs.size ≠ b:=Ne.symm (Nat.ne_of_lt (Heap.lt_size e'))
  unfold sortedHeap
  rw [Heap.get?_update_other _ _ hne']
  refine Heap.get?_push_of_some _ (Heap.get?_push_of_some _ ?_)
  rw [Heap.get?_update_other _ _ hne']
  exact Heap.get?_push_of_some _ e'
end
end ST
end
section
namespace VL
open PySem PySem.Spec PyProof.Rows L2
section
variable {P:Program} {w:World} {K:FG} {mg:Y6} {h:Heap}
theorem aM1 {x:Str} {st:Stmt} {N ps:List Str} {k n np:Nat} {body:aQ} (F:FnAt K x st) (kb:K.In h) (nb:h.Ns mainGlobals mg) (S:FnScope N ps (aO st)) (hN:N.length=n) (hnp:ps.length=np) (hk:np<=n)
  (hb:∀(kV doc pm:Value) (an:Option Addr) (cdv ct:Value) (us:Y1),us.length=ps.length->bindArgs (PySem.W.fnOf x x (iJ st) (fB st) (aO st) .none kV doc pm an cdv ct) ⟨us,[]⟩=pure (ps.zip us))
  (hbody:∀base:Heap,K.In base->base.Ns mainGlobals mg->∀(f:Addr) (cdv:Value) (A:Around) (outer:List PySem.Env) (s:Shared) (H:Hp) (E:XK),Room k (A.deeper (envOfC x (aO st) s.heap.objs.size f cdv)) ->
   SSs (lO (CX1 P w) P w K mg base N x (aO st) f cdv A outer s H E) (wOf K E) (fB st) body) :
  ∃(f:Addr) (fd:FuncData),mg x=some (.ref f)/\(∀(s:Shared) (us:Y1),us.length=ps.length->BindsTo s fd ⟨us,[]⟩ (ps.zip us)) /\
   ∀base:Heap,K.In base->base.Ns mainGlobals mg->FnOk P w K mg base (CX1 P w) (k+1) f fd ps (spV K np (fnOf n body)):=by
 obtain ⟨f,fd,hf,F⟩:=F.ex
 obtain ⟨oc,od,kV,doc,pm,an,cdv,ct,osl,rfl,lk,hcd⟩:=F.ex
 refine ⟨f,_,PySem.W.mg_of kb nb hf,fun s us hl=>.of_eq (hb kV doc pm an cdv ct us hl),fun base kb' nb'=>?_⟩
 refine aK5 lk hcd S (fun vs H Q E h=>h.1.trans hnp.symm) fun A outer s H vs Q E hr hsp=>?_
 exact ⟨_,hbody base kb' nb' f cdv A outer s H E hr,aLd hN hk hsp⟩
end
def aO6 (o:Obj):Bool:=match o.data,o.cls with
 | .seq _ _,.type t=>t == "list"
 | _,_=>false
def nO (K:FG):Bool:=K.all fun q=>!aO6 q.2
theorem aE5:∀ {K:FG} {a:Addr} {o:Obj},K.lookup a=some o->(a,o)∈K
 | [],_,_,e=>by cases e
 | (b,u)::K,a,o,e=>by
  rw [List.lookup_cons] at e
  cases q:a == b with
  | true =>
   rw [q] at e
   have hb:a=b:=by simpa using q
   cases e;rw [hb];exact List.mem_cons_self
  | false=>rw [q] at e;exact List.mem_cons_of_mem _ (aE5 e)
theorem zB {K:FG} (h:nO K=true) {a:Addr} {o:Obj} (e:K.lookup a=some o):aO6 o=false:=by
 unfold nO at h
 rw [List.all_eq_true] at h
 have:=h (a,o) (aE5 e)
 simpa using this
theorem aRz {K:FG} (h:nO K=true) {H:Hp} {a:Addr} {xs:List V} (s:SqL K H a xs):Rd H a (.lst xs):=by
 rcases s with s | ⟨o,its,n,e,c,d,e2,r⟩
 ·exact s
 ·have:=zB h e
  unfold aO6 at this
  rw [e2,c] at this
  have this:(("list" : String) == "list")=false:=this
  simp at this
theorem qT {K:FG} {F H:Hp}:∀ns:Y0,aF K F H (ns.map D.int) (ns.map V.int) []
 | []=>⟨rfl,rfl⟩
 | n::ns=>⟨.int n,ns.map V.int,[],[],rfl,⟨rfl,rfl⟩,qT ns,rfl⟩
theorem aI8 {K:FG} (hn:nO K=true) {fn:Fn} {ns:Y0} (hf:∃os,fn [.lst false (ns.map D.int)]=.ok (.bl true,os)) {H:Hp} {a:Addr} (s:SqL K H a (ns.map V.int)):spV K 1 fn [.ref a] H (fun v _=>v=.bl true) fun _ _ _=>False:=by
 obtain ⟨os,hf⟩:=hf
 refine ⟨rfl,H,[.lst false (ns.map D.int)],[[]],Same.refl _,⟨rfl,rfl,fun i d e=>?_⟩,by simp,by simp,?_⟩
 ·cases i with
  | zero =>
   have e:D.lst false (ns.map D.int)=d:=by simpa using e
   subst e
   refine ⟨.ref a,[],rfl,rfl,?_⟩
   unfold Own
   exact ⟨a,ns.map V.int,[],rfl,qT ns,.inr ⟨rfl,aRz hn s,rfl,rfl⟩⟩
  | succ i=>simp at e
 ·rw [hf]
  intro r F' H' fps' fr _ _ _ _ o _ _
  unfold Own at o
  exact o.1
theorem aGh {P:Program} {w:World} {H:Hp} {s:Shared} {e:Value} {s':Shared} (h:CX1 P w [] H s (fun _ _ _=>False) e s'):False:=by
 obtain ⟨_,_,_,_,_,_,_,_,_,_,_,_,_,z⟩:=h
 exact z
end VL
end
section
namespace VL
open PySem PySem.Spec PyProof.Rows L2
abbrev UpL (xs:LI):Prop:=xs.Pairwise fun x y=>ST.ltL x y=true
theorem rD {k y:Y0}:∀ {xs:LI},y∈pF k xs ↔ y=k\/y∈xs
 | []=>by simp [pF]
 | x::xs=>by
  unfold pF
  by_cases h1:ST.ltL k x=true
  ·rw [if_pos h1];simp
  ·rw [if_neg h1]
   by_cases h2:k=x
   ·rw [if_pos h2];subst h2;simp
   ·rw [if_neg h2,List.mem_cons,rD (xs:=xs),List.mem_cons]
    constructor
    ·rintro (h | h | h)
     ·exact .inr (.inl h)
     ·exact .inl h
     ·exact .inr (.inr h)
    ·rintro (h | h | h)
     ·exact .inr (.inl h)
     ·exact .inl h
     ·exact .inr (.inr h)
theorem aA3 {k:Y0}:∀ {xs:LI},UpL xs->UpL (pF k xs)
 | [],_=>by simp [pF]
 | x::xs,h=>by
  obtain ⟨h1,h2⟩:=List.pairwise_cons.mp h
  unfold pF
  by_cases q1:ST.ltL k x=true
  ·rw [if_pos q1]
   refine List.pairwise_cons.mpr ⟨fun y hy=>?_,h⟩
   rcases List.mem_cons.mp hy with rfl | hy
   ·exact q1
   ·exact ST.ltL_tr _ _ _ q1 (h1 y hy)
  ·rw [if_neg q1]
   by_cases q2:k=x
   ·rw [if_pos q2];exact h
   ·rw [if_neg q2]
    refine List.pairwise_cons.mpr ⟨fun y hy=>?_,aA3 h2⟩
    rcases rD.mp hy with rfl | hy
    ·rcases ST.ltL_tot _ _ q2 with z | z
     ·exact absurd z q1
     ·exact z
    ·exact h1 y hy
theorem jC:∀ks:LI,UpL (dW ks)
 | []=>List.Pairwise.nil
 | k::ks=>aA3 (jC ks)
theorem jD {y:Y0}:∀ {ks:LI},y∈dW ks ↔ y∈ks
 | []=>by simp [dW]
 | k::ks=>by
  show y∈pF k (dW ks) ↔ _
  rw [rD,jD (ks:=ks),List.mem_cons]
theorem vD:∀ {xs ys:LI},UpL xs->UpL ys->(∀z,z∈xs ↔ z∈ys)->xs=ys
 | [],[],_,_,_=>rfl
 | [],y::ys,_,_,h=>by have:=(h y).mpr List.mem_cons_self;cases this
 | x::xs,[],_,_,h=>by have:=(h x).mp List.mem_cons_self;cases this
 | x::xs,y::ys,h1,h2,h=>by
  obtain ⟨p1,p2⟩:=List.pairwise_cons.mp h1
  obtain ⟨q1,q2⟩:=List.pairwise_cons.mp h2
  have e:x=y:=by
   rcases List.mem_cons.mp ((h x).mp List.mem_cons_self) with e | e
   ·exact e
   ·rcases List.mem_cons.mp ((h y).mpr List.mem_cons_self) with e' | e'
    ·exact e'.symm
    ·have:=ST.ltL_tr _ _ _ (p1 y e') (q1 x e)
     rw [ST.ltL_irr] at this;cases this
  subst e
  congr 1
  refine vD p2 q2 fun z=>?_
  constructor
  ·intro hz
   rcases List.mem_cons.mp ((h z).mp (List.mem_cons_of_mem _ hz)) with e | e
   ·subst e;have:=p1 _ hz;rw [ST.ltL_irr] at this;cases this
   ·exact e
  ·intro hz
   rcases List.mem_cons.mp ((h z).mpr (List.mem_cons_of_mem _ hz)) with e | e
   ·subst e;have:=q1 _ hz;rw [ST.ltL_irr] at this;cases this
   ·exact e
section
variable {X:Cx} {W:XW} {e:Expr} {pos:Pos}
def mT (rs:Y7):List V:=rs.map fun p=>V.ref p.2
def rSS (K:FG):List V->Hp->VK->Prop:=fun vs H Q=>∃l rs,vs=[.ref l]/\SqL K H l (mT rs)/\(∀p∈rs,SqT K H p.2 (p.1.map V.int))/\rs.length<=18/\(∀p∈rs,p.1 ≠ []) /\
 ∀p rs',H p=none->rs'.map (·.1)=dW (rs.map (·.1))->(∀q∈rs',q∈rs)->Q (.ref p) (upd H p (.lst (mT rs')))
theorem rH {prog:Program} {w:World}:∀ {ns:Y0} {us:Y1},Vals (ns.map V.int) us->ItemsAre (intKind prog w) ns us
 | [],us,r=>by rw [List.map_nil] at r;cases r;exact .nil
 | n::ns,us,r=>by
  rw [List.map_cons] at r
  cases r with
  | cons h t =>
   obtain ⟨t',rfl⟩:=h
   exact .cons (by simp [intKind,Value.isInt]) (rH t)
theorem oQ:∀ {rs:Y7} {us:Y1},Vals (mT rs) us->us=ST.refs rs
 | [],us,r=>by cases r;rfl
 | p::rs,us,r=>by
  have r:Vals (V.ref p.2::mT rs) us:=r
  cases r with
  | cons h t=>rw [oQ t];cases h;rfl
theorem oX:∀ {rs:Y7},Vals (mT rs) (ST.refs rs)
 | []=>.nil
 | p::rs=>.cons rfl oX
theorem aAo {k:Nat} {t:TA} {p p2 pos2:Pos} (hr:Room k X.A) (hc:X.calm=true) (hm1:X.mg "sorted" = none) (hm2:X.mg "set" = none) (ha:PA X [e] t) (hg1:Gl X "sorted" :=by rfl) (hg2:Gl X "set" :=by rfl)
  (hs1:starEach [.Call (.Name "set" p2) [e] [] pos2] X.env=(false,eval (.Call (.Name "set" p2) [e] [] pos2) X.env)::starEach [] X.env:=by rfl)
  (hs2:starEach [e] X.env=(false,eval e X.env)::starEach [] X.env:=by rfl) (hpl1:(backTo pos (starEach [] X.env)).any (·.1)=false:=by rfl) (hpl2:(backTo pos2 (starEach [] X.env)).any (·.1)=false:=by rfl)
  (hb0:backTo pos (starEach [] X.env)=[]:=by rfl)
  (hv1:bootBuiltins "sorted" = some (.builtin "sorted"):=by decide +kernel) (hv2:bootBuiltins "set" = some (.type "set"):=by decide +kernel) :
  PE X (.Call (.Name "sorted" p) [.Call (.Name "set" p2) [e] [] pos2] [] pos) (tCB (rSS X.K) t):=by
 intro pins s σ H Q I h
 refine wpAny_Call_Name_kw (iR I hg1 hm1 hv1 ?_ (by decide) (by decide))
 refine PyProof.Rows.callWith_builtin1 ?_ hs1 hpl1
 rw [hs1]
 show wpAny _ _ (spliced ((false,eval (.Call (.Name "set" p2) [e] [] pos2) X.env)::backTo pos (starEach [] X.env))) _ _ s
 refine Calls.spliced_cons ?_
 refine wpAny_Call_Name_kw (iR I hg2 hm2 hv2 ?_ (by decide) (by decide))
 refine PyProof.Rows.callWith_type1 (thn (ha pos2 pins s σ H _ I h) fun us s1 ⟨vs,H1,I1,r1,q1⟩=>?_) hs2 hpl2
 obtain ⟨l,rs,rfl,hl,ht,hlen,hne,q⟩:=q1
 obtain ⟨u,rfl,ru⟩:=vals1 r1
 cases ru
 obtain ⟨its,rv,pl,hz⟩:=I1.list hl
 have eits:=oQ rv
 subst eits
 have hkey:∀p∈rs,IsTupleKey (intKind X.prog X.w) s1.heap p.1 p.2:=fun p hp=>by
  obtain ⟨its,r,⟨o,ho,hc,n,hd⟩,_⟩:=I1.tuple (ht p hp)
  exact ⟨o,_,n,ho,hc,hd,rH (by simpa using r)⟩
 have hsz:(ST.refs rs).toArray.size=rs.length:=by simp [ST.refs]
 refine ST.call_setT (key:=fun i=>((rs[i]?).getD ([],0)).1) (adr:=fun i=>((rs[i]?).getD ([],0)).2) (I1.ok.hd hc) (fun B hB=>by have:=hr.un;omega) pl.isList (fun i v e=>?_) (fun i hi=>?_) (by rw [hsz];exact hlen) fun h' tk kas hS hD keep=>?_
 ·simp [ST.refs] at e
  obtain ⟨a,b,e1,e2⟩:=e
  rw [e1,<- e2];rfl
 ·rw [hsz] at hi
  rw [List.getElem?_eq_getElem hi]
  exact hkey _ (List.getElem_mem hi)
 ·rw [hsz] at hD
  rw [hb0]
  refine Calls.spliced_nil ?_
  have hin:∀p∈kas,p∈rs:=fun p hp=>by
   obtain ⟨i,hi,e⟩:=hD.2.1 p hp
   dsimp only at e
   rw [List.getElem?_eq_getElem hi] at e
   rw [e];exact List.getElem_mem hi
  refine ST.sorted_set (s:={ s1 with heap:=h',toks:=tk }) (I1.ok.hd hc) hS (fun p hp=>hne p (hin p hp)) fun kas' D ep h2 tk2 hp hu hD2 hsz2 _ keep2=>?_
  obtain ⟨oS,_,_,_,hoS,_⟩:=hS
  have hlt:s1.heap.objs.size<=D:=Nat.le_trans (Nat.le_of_lt (Heap.lt_size hoS)) hsz2
  have k2:∀b u,s1.heap.get? b=some u->h2.get? b=some u:=fun b u e=>keep2 b u (keep b u (Heap.lt_size e) e)
  refine ⟨.ref D,upd H1 D (.lst (mT kas')),I1.laid (t':=tk2) (o:=.lst (mT kas')) k2 hlt ?_,rfl,q D kas' (I1.hok.fresh hlt) ?_ fun p hp'=>hin p (hp.mem_iff.mp hp')⟩
  ·refine ⟨?_,ST.refs kas',ep,oX,hD2⟩
   have e1:=hp.length_eq
   have e2:=hD.2.2
   refine gT ?_
   simp [mT];omega
  ·refine vD ?_ (jC _) fun z=>?_
   ·exact List.pairwise_map.mpr hu
   ·rw [jD,(hp.map (·.1)).mem_iff,hD.1 z]
    constructor
    ·rintro ⟨i,hi,e⟩
     dsimp only at e
     rw [List.getElem?_eq_getElem hi] at e
     rw [<- e];exact List.mem_map_of_mem (List.getElem_mem hi)
    ·intro hz'
     obtain ⟨p,hp',e⟩:=List.mem_map.mp hz'
     obtain ⟨i,hi,e'⟩:=List.getElem_of_mem hp'
     exact ⟨i,hi,by dsimp only;rw [List.getElem?_eq_getElem hi];show rs[i].1=z;rw [e',e]⟩
theorem oN {K:FG} {F H:Hp} (hs:Same F H):∀(ds:List D) {ks:LI} {xs:List V} {fp:Y2},gJ ds=some ks->aF K F H ds xs fp->∃rs:Y7,rs.map (·.1)=ks/\xs=mT rs/\∀p∈rs,Own K F H (TI p.1) (.ref p.2) []
 | [],ks,xs,fp,e,o=>by
  unfold gJ at e;cases e
  unfold aF at o
  exact ⟨[],rfl,o.1,fun p hp=>by cases hp⟩
 | d::ds,ks,xs,fp,e,o=>by
  unfold gJ at e
  cases d<;>try cases e
  rename_i es
  dsimp only at e
  cases q1:dD es with
  | none=>rw [q1] at e;cases e
  | some k =>
   cases q2:gJ ds with
   | none=>rw [q1,q2] at e;cases e
   | some ks' =>
    rw [q1,q2] at e
    have e:some (k::ks')=some ks:=e
    cases e
    unfold aF at o
    obtain ⟨v,r,f1,f2,e1,o1,o2,e2⟩:=o
    obtain ⟨rs,h1,h2,h3⟩:=oN hs ds q2 o2
    unfold Own at o1
    obtain ⟨_,a,ys,ev,hq,ho⟩:=o1
    have ey:=eN es q1 ho
    refine ⟨(k,a)::rs,by rw [List.map_cons,h1],by rw [e1,h2,ev];rfl,fun p hp=>?_⟩
    rcases List.mem_cons.mp hp with rfl | hp
    ·unfold TI Own
     exact ⟨rfl,a,ys,rfl,hq,by rw [ey];exact qT k⟩
    ·exact h3 p hp
theorem rS:∀ns:Y0,dD (ns.map D.int)=some ns
 | []=>rfl
 | n::ns=>by
  show (dD (ns.map D.int)).map (n::·)=_
  rw [rS ns];rfl
theorem uG {K:FG} {F H:Hp}:∀(rs:Y7),(∀p∈rs,Own K F H (TI p.1) (.ref p.2) [])->aF K F H ((rs.map (·.1)).map TI) (mT rs) []
 | [],_=>aF.nil
 | p::rs,h=>aF.cons (h p List.mem_cons_self) (uG rs fun q hq=>h q (List.mem_cons_of_mem _ hq))
theorem aMl {K:FG}:OpA K kSS (rSS K):=by
 intro F0 H0 F H xs vs fa Q gr a n k h
 match xs,h,a with
 | [(.lst o ds,b)],h,a =>
  unfold Args at a
  obtain ⟨v,r,fp,f2,e,o1,n1,t,w⟩:=a
  unfold Args at t
  obtain ⟨p,ys,fq,e1,q1,r1,_⟩:=Own.lst gr.inn o1
  have h:(match gJ ds with | some ks=>(if (decide (ks.length<=18) && ks.all (fun k=>!k.isEmpty))=true then R.ok (D.lst true ((dW ks).map TI),true) else .bad) | none=>.bad).holds (EPost K F0 H0 Q):=h
  cases qt:gJ ds with
  | none=>rw [qt] at h;exact h.elim
  | some ks =>
   rw [qt] at h
   dsimp only at h
   by_cases hc:(decide (ks.length<=18) && ks.all (fun k=>!k.isEmpty))=true
   ·rw [if_pos hc] at h
    rw [Bool.and_eq_true,decide_eq_true_iff] at hc
    obtain ⟨rs,h1,h2,h3⟩:=oN gr.inn ds qt r1
    subst h1
    rw [List.length_map] at hc
    refine ⟨p,rs,by rw [e,t.1,e1],h2 ▸ q1,fun p hp=>?_,hc.1,fun p hp z=>?_,fun q rs' hq e1 e2=>?_⟩
    ·have:=h3 p hp
     unfold TI Own at this
     obtain ⟨_,a,xs,ea,sq,ow⟩:=this
     cases ea
     have ow':=eN (p.1.map D.int) (ns:=p.1) (rS p.1) ow
     rw [<- ow']
     exact Same.sO gr.inn sq
    ·have:=List.all_eq_true.mp hc.2 p.1 (List.mem_map_of_mem hp)
     rw [z] at this;cases this
    ·rw [<- e1] at h
     exact EPost.yS gr h hq (uG rs' fun p hp=>h3 p (e2 p hp))
   ·rw [if_neg hc] at h;exact h.elim
 | [],h,a=>exact h.elim
 | [(.non,_)],h,a=>exact h.elim
 | [(.bl _,_)],h,a=>exact h.elim
 | [(.int _,_)],h,a=>exact h.elim
 | [(.str _,_)],h,a=>exact h.elim
 | [(.tup _,_)],h,a=>exact h.elim
 | [(.ext _ _,_)],h,a=>exact h.elim
 | (x,bx)::y::ys,h,a=>cases x<;>exact h.elim
theorem aAh {k:Nat} {f:aL} {p p2 pos2:Pos} (hr:Room k X.A) (hc:X.calm=true) (hm1:X.mg "sorted" = none) (hm2:X.mg "set" = none) (ha:SE X e f) (hg1:Gl X "sorted" :=by rfl) (hg2:Gl X "set" :=by rfl)
  (hs1:starEach [.Call (.Name "set" p2) [e] [] pos2] X.env=(false,eval (.Call (.Name "set" p2) [e] [] pos2) X.env)::starEach [] X.env:=by rfl)
  (hs2:starEach [e] X.env=(false,eval e X.env)::starEach [] X.env:=by rfl) (hpl1:(backTo pos (starEach [] X.env)).any (·.1)=false:=by rfl) (hpl2:(backTo pos2 (starEach [] X.env)).any (·.1)=false:=by rfl)
  (hb0:backTo pos (starEach [] X.env)=[]:=by rfl)
  (hv1:bootBuiltins "sorted" = some (.builtin "sorted"):=by decide +kernel) (hv2:bootBuiltins "set" = some (.type "set"):=by decide +kernel) :
  SE X (.Call (.Name "sorted" p) [.Call (.Name "set" p2) [e] [] pos2] [] pos) (vCB kSS (aC f aK)) :=
 L2.PE.imp (aAo hr hc hm1 hm2 (aB ha aH hs2) hg1 hg2 hs1 hs2 hpl1 hpl2 hb0 hv1 hv2) fun _ _ _ h=>aBv aMl h
end
end VL
end
section
namespace HT
open PySem PyProof.Rows
section
open PySem.SeqAt
open PySem.AutoSeq1 (wpAny_loadPart')
open PySem.MeetsSeq PySem.MeetsSeq2 PySem.MeetsSeq3
def lexLe (a b:Y0):Bool:=!ST.ltL b a
theorem aAp (x y:Int) (xs ys:Y0):lexLe (x::xs) (y::ys)=if x=y then lexLe xs ys else decide (x<=y):=by
 unfold lexLe;rw [ST.ltL]
 by_cases h:x=y
 ·rw [if_pos h,if_pos h.symm]
 ·rw [if_neg h,if_neg (Ne.symm h)]
  by_cases h2:x<=y
  ·rw [decide_eq_true h2,decide_eq_false (show ¬ y<x by omega)];rfl
  ·rw [decide_eq_false h2,decide_eq_true (show y<x by omega)];rfl
theorem aEe (A:Around) (s:Shared) (a:Int) (t:Tok) (c:Int) (u:Tok) (prog:Program) (w:World) (E:Y9) (Q:Y9) (h:Q (.bool (decide (a<=c))) s) :
  wpAny (model prog w) A (richCompare .LtE (.int a t) (.int c u)) Q E s :=
 (PyProof.Rows.le_int h:wpAny (model prog w) A (compareOp .LtE (.int a t) (.int c u)) Q E s)
theorem sU (l b:Addr) (items items2:Array Value) (n n2:Nat) (dd dd2:Option Addr) (sl sl2:Array (Option Value)) (ns ms:Y0) (hi:IntsAre items.toList ns) (hj:IntsAre items2.toList ms) :
  Meets (Builtin.«tuple.__le__» ⟨[.ref l,.ref b],[]⟩)
   (fun _ R s=>s.heap.get? l=some { cls:=.type "tuple",dict:=dd,data:=.seq items n,slots:=sl }/\s.heap.get? b=some { cls:=.type "tuple",dict:=dd2,data:=.seq items2 n2,slots:=sl2 } /\
    R (.ok (.ret (.bool (lexLe ns ms)))) s) :=
 .of_wp fun prog w A R s h=>by
  obtain ⟨hp,g,d,tk,os⟩:=s;obtain ⟨hl,hb,h⟩:=h
  have f2:=AutoSeq1.sub_tuple_tuple
  have z1:items.size=ns.length:=by rw [<- hi.length];simp
  have z2:items2.size=ms.length:=by rw [<- hj.length];simp
  wp_walk using wpAny_loadPart' hl,wpAny_loadPart' hb,wpAny_forIn_list _ (fun rest b s'=>b.1=none/\s'=⟨hp,g,d,tk,os⟩/\∃(vs ws:Y1) (ns' ms':Y0),rest=vs.zip ws /\
   IntsAre vs ns'/\IntsAre ws ms'/\ns'.length+items2.size=ms'.length+items.size/\R (.ok (.ret (.bool (lexLe ns' ms')))) ⟨hp,g,d,tk,os⟩) _
  case turn =>
   rintro ⟨y,x⟩ rest b s' ⟨hb',rfl,vs,ws,ns',ms',hz,hvi,hwi,hlen,hR⟩
   cases hvi with
   | nil=>rw [List.zip_nil_left] at hz;cases hz
   | cons a t hvi' =>
    cases hwi with
    | nil=>rw [List.zip_nil_right] at hz;cases hz
    | cons c u hwi' =>
     rw [List.zip_cons_cons] at hz
     injection hz with hyx hrest
     injection hyx with hy hx
     subst hy hx
     rw [aAp] at hR
     simp only [List.length_cons] at hlen
     obtain ⟨e,he,hiff⟩:=aHg A.in1 ⟨hp,g,d,tk,os⟩ a t c u
     refine wpAny_bind (he prog w _ _ ?_)
     cases e with
     | true =>
      rw [if_pos (hiff.mp rfl)] at hR
      wp_walk
      exact ⟨rfl,rfl,_,_,_,_,hrest,hvi',hwi',by omega,hR⟩
     | false =>
      rw [if_neg (fun q=>absurd (hiff.mpr q) Bool.false_ne_true)] at hR
      have hri:=aEe A.in1 ⟨hp,g,d,tk,os⟩ a t c u prog w
      wp_walk using hri
      exact ⟨_,rfl,by simpa using hR⟩
  case fin =>
   rintro ⟨b1,b2⟩ s' ⟨hb',rfl,vs,ws,ns',ms',hz,hvi,hwi,hlen,hR⟩
   simp only at hb'
   subst hb'
   have hv:lexLe ns' ms'=decide (items.size<=items2.size):=by
    cases hvi with
    | nil =>
     cases hwi with
     | nil =>
      simp only [List.length_nil] at hlen
      exact (decide_eq_true (by omega)).symm
     | cons c u hw =>
      simp only [List.length_nil,List.length_cons] at hlen
      exact (decide_eq_true (by omega)).symm
    | cons a t hv =>
     cases hwi with
     | nil =>
      simp only [List.length_nil,List.length_cons] at hlen
      exact (decide_eq_false (by omega)).symm
     | cons c u hw =>
      rw [List.zip_cons_cons] at hz
      cases hz
   rw [hv] at hR
   wp_walk
   exact ⟨_,rfl,by simpa [Builtin.Tuple.tupleCompareSizes] using hR⟩
  case h =>
   exact ⟨rfl,rfl,items.toList,items2.toList,ns,ms,rfl,hi,hj,by omega,h⟩
end
section
variable {prog:Program} {w:World} {A:Around} {E:Y9} {s:Shared}
theorem le_tupInts {l b:Addr} {items items2:Array Value} {ns ms:Y0} {Q:Y9} (hl:IsTup s.heap l items) (hb:IsTup s.heap b items2) (hi:IntsAre items.toList ns) (hj:IntsAre items2.toList ms)
  (hu:A.units<cLine) (h:Q (.bool (lexLe ns ms)) s):wpAny (model prog w) A (compareOp .LtE (.ref l) (.ref b)) Q E s:=by
 obtain ⟨⟨cls,dd,data,sl⟩,ho,hc,n,hd⟩:=id hl
 obtain ⟨⟨cls2,dd2,data2,sl2⟩,ho2,hc2,n2,hd2⟩:=id hb
 simp only at hc hd hc2 hd2
 subst hc hd hc2 hd2
 exact richCompare_meets_room (op:=.LtE) ⟨_,ho,rfl⟩ ⟨_,ho2,rfl⟩ PySem.F.slot_tuple_le PySem.F.entry_tuple_le (PySem.F.args_tuple_le_2 _ _) (sU l b items items2 n n2 dd dd2 sl sl2 ns ms hi hj)
  ⟨ho,ho2,show Value.bool (lexLe ns ms) ≠ Value.notImplemented/\Q (.bool (lexLe ns ms)) s from ⟨(fun x=>nomatch x),h⟩⟩ hu
end
end HT
namespace VL
open PySem PySem.Spec PyProof.Rows L2
section
variable {X:Cx} {W:XW} {a b e:Expr} {pos:Pos}
def aQb (K:FG):R2:=fun x y H Q=>∃a b ns ms,x=.ref a/\y=.ref b/\SqT K H a (ns.map V.int)/\SqT K H b (ms.map V.int)/\Q (.bl (HT.lexLe ns ms)) H
theorem aNo (hu:X.A.units<cLine):OpR X (compareOp .LtE) (aQb X.K):=by
 intro pins s σ H x y v u Q I rx ry h
 obtain ⟨a,b,ns,ms,rfl,rfl,ha,hb,q⟩:=h
 cases rx
 cases ry
 obtain ⟨its,r1,p1,_⟩:=I.tuple ha
 obtain ⟨its2,r2,p2,_⟩:=I.tuple hb
 have i1:IntsAre its.toArray.toList ns:=intsAre_of r1
 have i2:IntsAre its2.toArray.toList ms:=intsAre_of r2
 exact HT.le_tupInts p1 p2 i1 i2 hu ⟨.bl (HT.lexLe ns ms),H,I,rfl,q⟩
theorem aKa {K:FG}:Op2 K aGt (aQb K):=by
 intro F0 H0 F H x y v u fx fy Q gr o1 n1 k1 o2 n2 k2 h
 obtain ⟨x,bx⟩:=x
 obtain ⟨y,by'⟩:=y
 cases x<;>try exact h.elim
 cases y<;>try exact h.elim
 rename_i ds es
 have h:(match dD ds,dD es with | some a,some b=>R.ok (D.bl (!ST.ltL b a),true) | _,_=>.bad).holds (EPost K F0 H0 Q):=h
 cases q1:dD ds with
 | none=>rw [q1] at h;exact h.elim
 | some a =>
  cases q2:dD es with
  | none=>rw [q1,q2] at h;exact h.elim
  | some b =>
   rw [q1,q2] at h
   obtain ⟨p1,xs,e1,s1,r1,_⟩:=Own.tup gr.inn o1
   obtain ⟨p2,ys,e2,s2,r2,_⟩:=Own.tup gr.inn o2
   rw [eN ds q1 r1] at s1
   rw [eN es q2 r2] at s2
   exact ⟨p1,p2,a,b,e1,e2,s1,s2,EPost.dE gr h rfl⟩
theorem aN4 {k:Nat} {f g:aL} (hr:Room k X.A) (ha:SE X a f) (hb:SE X b g):ST X (.Compare a [.LtE] [b] pos) (aU (v2 aGt f g)):=jP (aNo (by have:=hr.un;omega)) aKa ha hb (iX _)
theorem aP3 {c:Expr} {t:bU} {f g:iW} (hc:ST X c t) (ha:SX X W a f) (hb:SX X W b g):SX X W (.IfExp c a b pos) (xIf t f g):=(wN hc ha hb).imp fun _ _ _ h=>aRe h
theorem wM (i:Nat) {x:Str} {f g:aL} {p sp ap cp pos':Pos} (hi:SE X b g) (he:SE X e f) (hN:X.N[i]?=some x:=by rfl) (hv:Vis X.env.scope x:=by first | exact Or.inl rfl | exact Or.inr (Or.inl rfl) | exact Or.inr (Or.inr rfl)) (hd:(x == ("__debug__" : Str))=false:=by decide)
  (hcd:(x == ("__classdict__" : Str))=false:=by decide) (hix:vL b:=by intro _ _;rfl) (hs:swapsWith (.Call (.Attribute (.Subscript (.Name x p) b sp) "append" ap) [e] [] cp) none pos'.line X.env=pure false:=by rfl)
  (hbase:attributeBase (.Subscript (.Name x p) b sp) "append" X.env (eval (.Subscript (.Name x p) b sp) X.env)=eval (.Subscript (.Name x p) b sp) X.env:=by rfl)
  (hfew:((backTo cp (starEach [e] X.env)).all (fun x=>!x.1) && (backToKw cp (keywordEach [] X.env)).all (fun x=>x.1.isSome)
   && decide (([e]:List Expr).length+([]:List Keyword).length+(if ([]:List Keyword).isEmpty then 0 else 1)<30))=true:=by rfl)
  (hline:(ap.endLine == cp.line)=true:=by rfl) (hst:starEach [e] X.env=(false,eval e X.env)::starEach [] X.env:=by rfl) (hplain:(backTo cp (starEach [] X.env)).any (·.1)=false:=by rfl) :
  SS X W (.Expr (.Call (.Attribute (.Subscript (.Name x p) b sp) "append" ap) [e] [] cp) pos') (gZ i g f) :=
 (vK (aEk PySem.F.plainAttrs_list PySem.F.slot_list_append PySem.F.type_list_append oJ (aKq aBk (rK hN hv hd hcd) hi hix) (gN he mS hst) hbase hfew hline hst hplain) hs).imp fun _ _ _ h=>yL h
theorem aEt {K:FG} {F H:Hp} {ds:List D} {xs:List V} (h:aF K F H ds xs []):aF K F H ds.reverse xs.reverse []:=by
 have hl:=aF.length ds h
 refine aF.of_get _ (by simpa using hl) fun i d v e1 e2=>?_
 have hi:i<ds.length:=by simpa using (List.getElem?_eq_some_iff.mp e1).1
 rw [List.getElem?_reverse hi] at e1
 rw [List.getElem?_reverse (by omega)] at e2
 rw [<- hl] at e2
 exact aF.aO9 h e1 e2
end
end VL
end
section
namespace VL.PY
open VL PySem
def knF:Str->Bool:=fun c=>c == "BadMachine" || c == "BadRow" || c == "BadPrices"
def ttF:Str->Bool:=fun _=>true
def eqF (n:Str):Str->Bool:=fun c=>c == n
def fuel:Nat:=1000
def rB:aQ:=(dJ (xOf (yF (v1 (jZ "int") (aD 0)) (v1 aJn (v1 (jZ "bool") (aD 0))))))
def lZ:Fn:=fnOf 1 rB
def nP:aQ:=(dJ (xOf (yF (bG lZ (aC (aD 0) aK)) (jO (fun i j=>decide (i<=j)) (fun i j=>decide (i<=j)) (aD 1) (aD 0) (aD 2)))))
def bL:Fn:=fnOf 3 nP
def fP:aQ:=(aS (sIf (iS (eS (jE (v1 (jZ "tuple") (aD 1)))) (aU (v2 (kEq true) (vCB fG (aC (aD 1) aK)) (vC (.int 4))))) (dJ (xOf (vC (.bl false)))) bN) (aS (bC 2 (xOf (v2 aAa (v2 kIx (aD 0) (vC (.int 0))) (vC (.int 1))))) (aS (sIf (iS (eS (jE (bG bL (aC (v2 kIx (aD 1) (vC (.int 0))) (aC (vC (.int 0)) (aC (aD 2) aK)))))) (eS (jE (bG bL (aC (v2 kIx (aD 1) (vC (.int 2))) (aC (vC (.int 0)) (aC (aD 2) aK))))))) (dJ (xOf (vC (.bl false)))) bN) (dJ (xOf (yF (bG bL (aC (v2 kIx (aD 1) (vC (.int 1))) (aC (vC (.int 0)) (aC (v2 aAa (v2 kIx (aD 0) (vC (.int 1))) (vC (.int 1))) aK)))) (bG bL (aC (v2 kIx (aD 1) (vC (.int 3))) (aC (vC (.int 0)) (aC (vC (.int 1000)) aK))))))))))
def lK:Fn:=fnOf 3 fP
def dS:aQ:=(aS (bC 1 (xOf (v2 kIx (aD 0) (vC (.int 2))))) (aS (sIf (iS (eS (jE (v1 (jZ "list") (aD 1)))) (aU (v2 kGt (vCB fG (aC (aD 1) aK)) (vC (.int 600))))) (gI "BadMachine" (zTop (iU (fun _=>some ("the deeds are a list of " : Str).length) (iU (vS (vC (.int 600))) (iU (fun _=>some (" at most" : Str).length) (fun _=>some 0)))))) bN) (aS (jQ (zW (aD 1)) (fZ [2,3]) (sIf (eS (jE (bG lK (aC (aD 0) (aC (aD 3) aK))))) (gI "BadMachine" (zTop (iU (fun _=>some ("number " : Str).length) (iU (vS (aD 2)) (iU (fun _=>some (" is no deed of such a machine" : Str).length) (fun _=>some 0)))))) bN)) (jQ (iR2 (aC (vC (.int 1)) (aC (vCB fG (aC (aD 1) aK)) aK))) (bH 2) (sIf (aU (v2 aGt (v2 kIx (aD 1) (aD 2)) (v2 kIx (aD 1) (v2 aAa (aD 2) (vC (.int 1)))))) (gI "BadMachine" (zTop (iU (fun _=>some ("deed " : Str).length) (iU (vS (aD 2)) (iU (fun _=>some (" does not rise above the one ahead of it" : Str).length) (fun _=>some 0)))))) bN)))))
def dU:Fn:=fnOf 4 dS
def bS:aQ:=(aS (sIf (iS (eS (jE (v1 (jZ "tuple") (aD 0)))) (aU (v2 (kEq true) (vCB fG (aC (aD 0) aK)) (vC (.int 3))))) (gI "BadMachine" (fun _=>some ("a machine is a triple of places, kinds and deeds" : Str).length)) bN) (aS (sIf (eS (jE (bG bL (aC (v2 kIx (aD 0) (vC (.int 0))) (aC (vC (.int 1)) (aC (vC (.int 200)) aK)))))) (gI "BadMachine" (zTop (iU (fun _=>some ("a machine has 1 to " : Str).length) (iU (vS (vC (.int 200))) (iU (fun _=>some (" places" : Str).length) (fun _=>some 0)))))) bN) (aS (sIf (eS (jE (bG bL (aC (v2 kIx (aD 0) (vC (.int 1))) (aC (vC (.int 1)) (aC (vC (.int 8)) aK)))))) (gI "BadMachine" (zTop (iU (fun _=>some ("a machine has 1 to " : Str).length) (iU (vS (vC (.int 8))) (iU (fun _=>some (" kinds of deeds" : Str).length) (fun _=>some 0)))))) bN) (kR (gC dU (aC (aD 0) aK))))))
def bE:Fn:=fnOf 1 bS
def vM:aQ:=(aS (kR (gC bE (aC (aD 0) aK))) (aS (sIf (eS (jE (v1 (jZ "list") (aD 1)))) (gI "BadRow" (fun _=>some ("a row is a list of the numbers of deeds" : Str).length)) bN) (aS (bC 2 (xOf (v2 kIx (aD 0) (vC (.int 2))))) (aS (bC 3 (xOf (dR (aC (vC (.int 0)) aK)))) (aS (jQ (kA (aD 1)) (bH 4) (aS (sIf (eS (jE (bG bL (aC (aD 4) (aC (vC (.int 0)) (aC (v2 aAa (vCB fG (aC (aD 2) aK)) (vC (.int 1))) aK)))))) (gI "BadRow" (fun _=>some ("the row has a number that no deed has" : Str).length)) bN) (aS (sIf (aU (v2 (kEq true) (v2 kIx (v2 kIx (aD 2) (aD 4)) (vC (.int 0))) (v2 kIx (aD 3) (v1 (kU fun i=>.int (-i)) (vC (.int 1)))))) (gI "BadRow" (zTop (iU (fun _=>some ("deed " : Str).length) (iU (vS (aD 4)) (iU (fun _=>some (" does not begin where the row has come to" : Str).length) (fun _=>some 0)))))) bN) (dH 3 (v2 kIx (v2 kIx (aD 2) (aD 4)) (vC (.int 2))))))) (lT 3))))))
def jN:Fn:=fnOf 5 vM
def nJ:aQ:=(aS (bC 1 (xOf (cG (iR1 (aC (v2 kIx (aD 0) (vC (.int 0))) aK)) 1 [] (bH 0) cJ (dR aK)))) (aS (jQ (zW (v2 kIx (aD 0) (vC (.int 2)))) (fZ [2,3]) (gZ 1 (v2 kIx (aD 3) (vC (.int 0))) (aD 2))) (lT 1)))
def jV:Fn:=fnOf 4 nJ
def tM:aQ:=(aS (bC 1 (xOf (bG jV (aC (aD 0) aK)))) (aS (bC 2 (xOf (cG (iR1 (aC (v2 kIx (aD 0) (vC (.int 0))) aK)) 1 [] (bH 0) cJ (vC .non)))) (aS (bC 3 (xOf (dR (aC (vC (.int 0)) aK)))) (aS (bC 4 (xOf (vC (.int 0)))) (aS (pG [1] (dY (aU (v2 kLt (aD 4) (vCB fG (aC (aD 3) aK)))) (aS (jQ (kA (v2 kIx (aD 1) (v2 kIx (aD 3) (aD 4)))) (bH 5) (aS (bC 6 (xOf (v2 kIx (v2 kIx (v2 kIx (aD 0) (vC (.int 2))) (aD 5)) (vC (.int 2))))) (sIf (nV (aU (v2 (kEq true) (aD 6) (vC (.int 0)))) (aU (v2 (nT false) (v2 kIx (aD 2) (aD 6)) (vC .non)))) (aS (gA 2 (aD 6) (aD 5)) (dH 3 (aD 6))) bN))) (aAu 4 (fun i j=>i+j) (vC (.int 1)))) fuel)) (lT 2))))))
def lF:Fn:=fnOf 7 tM
def oH:aQ:=(aS (kR (gC bE (aC (aD 0) aK))) (dJ (xOf (cG (zW (bG lF (aC (aD 0) aK))) 2 [] (fZ [0,1]) cJ (vOr (v2 (kEq false) (aD 0) (vC (.int 0))) (v2 (nT true) (aD 1) (vC .non)))))))
def fL:Fn:=fnOf 1 oH
end VL.PY
end
section
namespace VL.K10
open VL PySem PY
def sJ:aQ:=(aS (sIf (jE (aD 0)) (dJ (xOf (v2 kIx (aD 0) (v2 eY (aD 1) (vCB fG (aC (aD 0) aK)))))) bN) (dJ (xOf (vC (.int 0)))))
def rZ:Fn:=fnOf 2 sJ
def aB6:aQ:=(aS (bC 2 (xOf (v2 eY (v2 bT (bG rZ (aC (aD 0) (aC (aD 1) aK))) (v2 jR (vC (.int 104729)) (v2 bT (aD 1) (vC (.int 1))))) (vC (.int 4294967291))))) (aS (bC 2 (xOf (v2 eY (v2 jR (aD 2) (vC (.int 48271))) (vC (.int 4294967279))))) (dJ (xOf (v2 eY (v2 bT (v2 jR (v2 gK (aD 2) (vC (.int 64))) (vC (.int 69621))) (aD 2)) (vC (.int 4294967231)))))))
def bX:Fn:=fnOf 3 aB6
def pD:aQ:=(aS (bC 3 (xOf (v2 bT (vC (.int 1)) (v2 eY (bG bX (aC (aD 0) (aC (aD 1) aK))) (aD 2))))) (aS (bC 4 (xOf (v2 bT (vC (.int 1)) (v2 eY (bG bX (aC (aD 0) (aC (v2 bT (aD 1) (vC (.int 1))) aK))) (vC (.int 3)))))) (aS (bC 5 (xOf (dR aK))) (aS (jQ (iR1 (aC (v2 eY (bG bX (aC (aD 0) (aC (v2 bT (aD 1) (vC (.int 2))) aK))) (v2 bT (v2 jR (vC (.int 2)) (aD 2)) (vC (.int 1)))) aK)) (bH 6) (aS (bC 7 (xOf (bG bX (aC (aD 0) (aC (v2 bT (v2 bT (aD 1) (vC (.int 3))) (aD 6)) aK))))) (aS (bC 8 (xOf (v2 kIx (dR (aC (vC (.int 0)) (aC (vC (.int 1)) (aC (vC (.int 2)) (aC (vC (.int 3)) (aC (vC (.int 5)) (aC (vC (.int 9)) (aC (vC (.int 1)) (aC (vC (.int 0)) aK))))))))) (v2 eY (v2 gK (aD 7) (vC (.int 4096))) (vC (.int 8)))))) (dH 5 (nR (aC (v2 eY (aD 7) (aD 3)) (aC (v2 eY (v2 gK (aD 7) (vC (.int 16))) (aD 4)) (aC (v2 eY (v2 gK (aD 7) (vC (.int 64))) (aD 3)) (aC (aD 8) aK))))))))) (pG [5] (dJ (xOf (nR (aC (aD 3) (aC (aD 4) (aC (vCB kSS (aC (aD 5) aK)) aK)))))))))))
def iI:Fn:=fnOf 9 pD
def aB1:aQ:=(aS (bC 4 (xOf (dR aK))) (aS (bC 5 (xOf (vC (.int 0)))) (aS (jQ (iR1 (aC (v2 eY (bG bX (aC (aD 0) (aC (aD 1) aK))) (v2 bT (aD 3) (vC (.int 1)))) aK)) (bH 6) (aS (bC 7 (xOf (cG (iR1 (aC (vCB fG (aC (v2 kIx (aD 2) (vC (.int 2))) aK)) aK)) 1 [5,2] (bH 0) (aU (v2 (kEq false) (v2 kIx (v2 kIx (v2 kIx (aD 2) (vC (.int 2))) (aD 0)) (vC (.int 0))) (aD 1))) (aD 0)))) (sIf (jE (aD 7)) (aS (dH 4 (v2 kIx (aD 7) (v2 eY (bG bX (aC (aD 0) (aC (v2 bT (v2 bT (aD 1) (vC (.int 1))) (aD 6)) aK))) (vCB fG (aC (aD 7) aK))))) (bC 5 (xOf (v2 kIx (v2 kIx (v2 kIx (aD 2) (vC (.int 2))) (v2 kIx (aD 4) (v1 (kU fun i=>.int (-i)) (vC (.int 1))))) (vC (.int 2)))))) bN))) (lT 4))))
def nG:Fn:=fnOf 8 aB1
def oZ:aQ:=(aS (bC 1 (xOf (dR (aC (vC (.int 0)) aK)))) (aS (bC 2 (xOf (vC (.int 0)))) (aS (dY (aU (v2 kLt (aD 2) (vCB fG (aC (aD 1) aK)))) (aS (jQ (kA (v2 kIx (aD 0) (vC (.int 2)))) (fZ [3,4,5,6]) (sIf (nV (aU (v2 (kEq false) (aD 3) (v2 kIx (aD 1) (aD 2)))) (aU (v2 (kIn true) (aD 5) (aD 1)))) (dH 1 (aD 5)) bN)) (bC 2 (xOf (v2 bT (aD 2) (vC (.int 1)))))) fuel) (lT 1))))
def iO:Fn:=fnOf 7 oZ
def kC:aQ:=(aS (sIf (aU (v2 (nT false) (aD 0) (vC .non))) (dJ (xOf (vC (.str "ok")))) bN) (aS (bC 1 (xOf (dR (aC (v1 (sQ knF (eqF "BadMachine")) (aD 0)) (aC (v1 (sQ knF (eqF "BadRow")) (aD 0)) (aC (v1 (sQ knF (eqF "BadPrices")) (aD 0)) aK)))))) (aS (bC 1 (xOf (v2 bT (aD 1) (dR (aC (v1 (sQ knF (eqF "BadModel")) (aD 0)) (aC (v1 (sQ knF (eqF "BadForm")) (aD 0)) aK)))))) (aS (sIf (iS (aU (v2 (kEq true) (v2 oP (aD 1) (vC (.bl true))) (vC (.int 1)))) (eS (jE (v1 (sQ knF ttF) (aD 0))))) (dJ (xOf (vC (.str "wrong")))) bN) (dJ (xOf (v2 kIx (dR (aC (vC (.str "machine")) (aC (vC (.str "row")) (aC (vC (.str "prices")) (aC (vC (.str "model")) (aC (vC (.str "form")) aK)))))) (v2 oT (aD 1) (vC (.bl true))))))))))
def fY:Fn:=fnOf 2 kC
end VL.K10
end
section
namespace ST
def orb (mask:Nat):Nat->Nat->Nat->Nat
 | 0,_,acc=>acc
 | n+1,x,acc=>orb mask n (lc mask x) (acc ||| (1 <<< x))
theorem aBs {mask j:Nat}:∀(n x acc:Nat),(orb mask n x acc).testBit j=true->acc.testBit j=true\/∃m,m<n/\iter (lc mask) m x=j
 | 0,x,acc,h=>.inl h
 | n+1,x,acc,h=>by
  rcases aBs n (lc mask x) _ h with h | ⟨m,h1,h2⟩
  ·rw [Nat.testBit_or,Bool.or_eq_true] at h
   rcases h with h | h
   ·exact .inl h
   ·rw [Nat.one_shiftLeft,Nat.testBit_two_pow] at h
    exact .inr ⟨0,by omega,by have h:x=j:=(by simpa using h);exact h⟩
  ·exact .inr ⟨m+1,by omega,h2⟩
theorem oG {mask k:Nat} (hk:mask+1=2 ^ k) (h1:orb mask (mask+1) 0 0=2 ^ (mask+1) - 1) (h2:iter (lc mask) (mask+1) 0=0):eK mask:=by
 have all:∀j,j<=mask->∃m,m<=mask/\iter (lc mask) m 0=j:=fun j hj=>by
  have:(orb mask (mask+1) 0 0).testBit j=true:=by
   rw [h1,Nat.testBit_two_pow_sub_one]
   exact decide_eq_true (by omega)
  rcases aBs _ _ _ this with h | ⟨m,h3,h4⟩
  ·simp at h
  ·exact ⟨m,by omega,h4⟩
 intro x hx j hj
 obtain ⟨a,ha,ea⟩:=all x hx
 obtain ⟨b,hb,eb⟩:=all j hj
 by_cases h:a<=b
 ·refine ⟨b - a,by omega,?_⟩
  rw [<- ea,<- gD,show a+(b - a)=b by omega];exact eb
 ·refine ⟨mask+1 - a+b,by omega,?_⟩
  rw [<- ea,<- gD,show a+(mask+1 - a+b)=(mask+1)+b by omega,gD,h2];exact eb
theorem aDs:eK 127:=oG (k:=7) (by decide) (by decide +kernel) (by decide +kernel)
theorem aC1:eK 511:=oG (k:=9) (by decide) (by decide +kernel) (by decide +kernel)
theorem aAf:eK 2047:=oG (k:=11) (by decide) (by decide +kernel) (by decide +kernel)
end ST
end
section
namespace SV
open PySem PySem.SetTable ST
section
variable {prog:Program} {w:World} {A:Around} {E:Y9} {s:Shared}
def cT (prog:Program) (w:World) (h:Heap) (S:Addr) (kas:Y7):Prop :=
 ∃o es ep t,h.get? S=some o/\o.ExactSet/\o.data=.set es ep t/\TS (intKind prog w) h es t kas/\t.plain=true/\t.led = !(w.params.followText "set-order")/\((t.mask=7\/t.mask=31\/t.mask=127\/t.mask=511\/t.mask=2047)/\kas.length * 5<t.mask * 3)
theorem zV {S x:Addr} {kas:Y7} {ks:Y0} {Q:Bool->Shared->Prop} (hS:cT prog w s.heap S kas) (hx:IsTupleKey (intKind prog w) s.heap ks x) (hu:A.units<cLine) (hn:kas.length<1000)
  (h:∀b h' kas',Heap.SameBut S s.heap h'->cT prog w h' S kas'->(if ks∈kas.map (·.1) then kas'=kas else kas'.Perm ((ks,x)::kas))->Q b { s with heap:=h',toks:=s.toks+(ks.length+1) }) :
  wpAny (model prog w) A (setAdd S (.ref x)) Q E s:=by
 obtain ⟨o,es,ep,t,ho,hex,hd,T,hpl,hled,hsz⟩:=hS
 unfold setAdd
 refine wpAny_holding (wpAny_bind (wpAny_pyHash_tuple hu hx ?_))
 unfold setAddHashed setAddHashedIn
 have hx':IsTupleKey (intKind prog w) ({ s with toks:=s.toks+(ks.length+1) }:Shared).heap ks x:=hx
 have T':TS (intKind prog w) ({ s with toks:=s.toks+(ks.length+1) }:Shared).heap es t kas:=T
 have ho':({ s with toks:=s.toks+(ks.length+1) }:Shared).heap.get? S=some o:=ho
 generalize hs1:({ s with toks:=s.toks+(ks.length+1) }:Shared)=s1 at hx' T' ho'
 have heap1:s1.heap=s.heap:=by rw [<- hs1]
 have hend:∀b h' kas',Heap.SameBut S s1.heap h'->cT prog w h' S kas'->(if ks∈kas.map (·.1) then kas'=kas else kas'.Perm ((ks,x)::kas))->Q b { s1 with heap:=h' }:=by
  rw [<- hs1];exact h
 refine wpAny_holding (wpAny_bind (wpAny_setState_of ho' hd T.fits ?_))
 dsimp only
 rw [show byScan (.ref x) es=false from rfl,if_neg (by simp)]
 obtain ⟨N,hN,hf,hb⟩:=T.ok.free (tupleKeyHash (intKind prog w) ks)
 have hg:t.gaveWay=false:=by
  unfold SetTable.gaveWay
  rcases hsz.1 with e | e | e | e | e<;>rw [e]<;>rfl
 unfold setSearch
 refine wpAny_bind (tL (N:=N) ho' hd T' hx' hu hg hN hf hb ?_ N 0 100000 none (by omega) ?_ rfl ?_)
 ·by_cases hin:ks∈kas.map (·.1)
  ·rw [if_pos hin]
   refine wpAny_pure ?_
   have:=hend false s1.heap kas (Heap.SameBut.refl _ _) ⟨o,es,ep,t,ho',hex,hd,T',hpl,hled,hsz⟩ (by rw [if_pos hin])
   have e:({ s1 with heap:=s1.heap }:Shared)=s1:=by cases s1;rfl
   rw [e] at this;exact this
  ·rw [if_neg hin]
   dsimp only
   refine wpAny_bind (wpAny_setState_of ho' hd T.fits ?_)
   dsimp only
   have hf1:es.size+1<=t.mask:=by
    rw [T.len]
    have:=hsz.2
    rcases hsz.1 with e | e | e | e | e<;>rw [e] at this ⊢<;>omega
   obtain ⟨ok1,hp⟩:=T.ok.put (x:=.ref x) hf hb hf1
   have epl:(t.put (pos t.mask (tupleKeyHash (intKind prog w) ks) N).j).1.plain=true:=hpl
   rw [epl,if_pos rfl]
   refine wpAny_bind (hbv hx' ?_)
   rw [if_pos rfl]
   have ents1:=wI (w:=w) (prog:=prog) (ks:=ks) (x:=x) T.ents hp
   have hsz1:(insertAt es (t.put (pos t.mask (tupleKeyHash (intKind prog w) ks) N).j).2 (tupleKeyHash (intKind prog w) ks,Value.ref x)).size=kas.length+1:=by rw [kW hp,T.len]
   refine wpAny_bind (wpAny_storeSet_of ho' hd ?_ (fits_of_scanBound (by rw [hsz1];unfold scanBound;omega)))
   have ho1:=mV (es':=insertAt es (t.put (pos t.mask (tupleKeyHash (intKind prog w) ks) N).j).2 (tupleKeyHash (intKind prog w) ks,Value.ref x)) (t':=(t.put (pos t.mask (tupleKeyHash (intKind prog w) ks) N).j).1) ho' hd
   have sb1:=Heap.SameBut.update s1.heap S (Obj.putSet (insertAt es (t.put (pos t.mask (tupleKeyHash (intKind prog w) ks) N).j).2 (tupleKeyHash (intKind prog w) ks,Value.ref x)) (t.put (pos t.mask (tupleKeyHash (intKind prog w) ks) N).j).1)
   have keys1:∀p∈(ks,x)::kas,IsTupleKey (intKind prog w) (s1.heap.update S (Obj.putSet (insertAt es (t.put (pos t.mask (tupleKeyHash (intKind prog w) ks) N).j).2 (tupleKeyHash (intKind prog w) ks,Value.ref x)) (t.put (pos t.mask (tupleKeyHash (intKind prog w) ks) N).j).1)) p.1 p.2:=fun p hp'=>by
    rcases List.mem_cons.mp hp' with rfl | hp'
    ·exact jA hx' ho' hd sb1
    ·exact jA (T'.keys p hp') ho' hd sb1
   have nd1:(((ks,x)::kas).map (·.1)).Nodup:=List.nodup_cons.mpr ⟨hin,T.nd⟩
   have perm1:=xE (l:=kas) (p:=(t.put (pos t.mask (tupleKeyHash (intKind prog w) ks) N).j).2) (x:=(ks,x))
   have T1:TS (intKind prog w) (s1.heap.update S (Obj.putSet (insertAt es (t.put (pos t.mask (tupleKeyHash (intKind prog w) ks) N).j).2 (tupleKeyHash (intKind prog w) ks,Value.ref x)) (t.put (pos t.mask (tupleKeyHash (intKind prog w) ks) N).j).1)) (insertAt es (t.put (pos t.mask (tupleKeyHash (intKind prog w) ks) N).j).2 (tupleKeyHash (intKind prog w) ks,Value.ref x)) (t.put (pos t.mask (tupleKeyHash (intKind prog w) ks) N).j).1 (kas.take (t.put (pos t.mask (tupleKeyHash (intKind prog w) ks) N).j).2++(ks,x)::kas.drop (t.put (pos t.mask (tupleKeyHash (intKind prog w) ks) N).j).2) :=
    ⟨ok1,ents1,fun p hp'=>keys1 p (perm1.subset hp'),(perm1.map (·.1)).nodup_iff.mpr nd1⟩
   have emask:(t.put (pos t.mask (tupleKeyHash (intKind prog w) ks) N).j).1.mask=t.mask:=rfl
   have efill:(t.put (pos t.mask (tupleKeyHash (intKind prog w) ks) N).j).1.fill=kas.length+1:=by
    unfold SetTable.fill
    rw [ok1.size,ok1.dum,hsz1];rfl
   by_cases hfull:(t.put (pos t.mask (tupleKeyHash (intKind prog w) ks) N).j).1.tooFull=true
   ·rw [hfull,if_pos (by simp)]
    have h4:∃W,SetTable.grown (es.size+1)=W/\eK (sizeAbove W - 1)/\(kas.length+1) * 5<(sizeAbove W - 1) * 3/\(sizeAbove W - 1=31\/sizeAbove W - 1=127\/sizeAbove W - 1=511\/sizeAbove W - 1=2047)/\sizeAbove W<=4096:=by
     unfold SetTable.tooFull at hfull
     rw [efill,emask] at hfull
     have hfull:=of_decide_eq_true hfull
     have h2:=hsz.2
     rw [T.len]
     rcases hsz.1 with e | e | e | e | e
     ·have e2:kas.length=4:=by omega
      rw [e2]
      exact ⟨20,rfl,wG,by decide,.inl (by decide),by decide⟩
     ·have e2:kas.length=18:=by omega
      rw [e2]
      exact ⟨76,rfl,aDs,by decide,.inr (.inl (by decide)),by decide⟩
     ·have e2:kas.length=76:=by omega
      rw [e2]
      exact ⟨308,rfl,aC1,by decide,.inr (.inr (.inl (by decide))),by decide⟩
     ·have e2:kas.length=306:=by omega
      rw [e2]
      exact ⟨1228,rfl,aAf,by decide,.inr (.inr (.inr (by decide))),by decide⟩
     ·omega
    obtain ⟨W,ew,cov,hW,hM,hZ⟩:=h4
    refine wpAny_bind ?_
    unfold setRelay
    refine wpAny_bind (wpAny_setState_of ho1 rfl T1.fits ?_)
    dsimp only
    rw [ew,if_neg (by rw [sizeLine_eq];omega)]
    obtain ⟨t',order,er,ok2,perm2,l2,p2,m2⟩:=xZ (es:=insertAt es (t.put (pos t.mask (tupleKeyHash (intKind prog w) ks) N).j).2 (tupleKeyHash (intKind prog w) ks,Value.ref x)) (t:=(t.put (pos t.mask (tupleKeyHash (intKind prog w) ks) N).j).1) (wanted:=W) cov (by rw [hsz1];omega)
    rw [er]
    have hsz2:(order.filterMap ((insertAt es (t.put (pos t.mask (tupleKeyHash (intKind prog w) ks) N).j).2 (tupleKeyHash (intKind prog w) ks,Value.ref x))[·]?)).size=(insertAt es (t.put (pos t.mask (tupleKeyHash (intKind prog w) ks) N).j).2 (tupleKeyHash (intKind prog w) ks,Value.ref x)).size:=by
     rw [<- Array.length_toList,perm2.length_eq,Array.length_toList]
    refine wpAny_bind ?_
    show wpAny _ _ (if ((order.filterMap ((insertAt es (t.put (pos t.mask (tupleKeyHash (intKind prog w) ks) N).j).2 (tupleKeyHash (intKind prog w) ks,Value.ref x))[·]?)).size != (insertAt es (t.put (pos t.mask (tupleKeyHash (intKind prog w) ks) N).j).2 (tupleKeyHash (intKind prog w) ks,Value.ref x)).size)=true then _ else _) _ _ _
    rw [if_neg (by rw [hsz2];simp)]
    refine wpAny_pure ?_
    dsimp only
    refine wpAny_storeSet_of ho1 rfl ?_ (fits_of_scanBound (by rw [hsz2,hsz1];unfold scanBound;omega))
    refine wpAny_pure ?_
    rw [T1.ents] at perm2
    obtain ⟨kas2,e2,pk⟩:=kX perm2
    have ho2:=mV (es':=order.filterMap ((insertAt es (t.put (pos t.mask (tupleKeyHash (intKind prog w) ks) N).j).2 (tupleKeyHash (intKind prog w) ks,Value.ref x))[·]?)) (t':=t') ho1 rfl
    have sb2:=Heap.SameBut.update (s1.heap.update S (Obj.putSet (insertAt es (t.put (pos t.mask (tupleKeyHash (intKind prog w) ks) N).j).2 (tupleKeyHash (intKind prog w) ks,Value.ref x)) (t.put (pos t.mask (tupleKeyHash (intKind prog w) ks) N).j).1)) S (Obj.putSet (order.filterMap ((insertAt es (t.put (pos t.mask (tupleKeyHash (intKind prog w) ks) N).j).2 (tupleKeyHash (intKind prog w) ks,Value.ref x))[·]?)) t')
    have pk2:=pk.trans perm1
    refine hend true _ kas2 (sb1.trans sb2) ⟨_,_,_,t',ho2,hex,rfl,⟨ok2,e2,fun p hp'=>jA (keys1 p (pk2.subset hp')) ho1 rfl sb2,(pk2.map (·.1)).nodup_iff.mpr nd1⟩,by rw [p2];exact epl,by rw [l2];exact hled,⟨?_,?_⟩⟩ (by rw [if_neg hin];exact pk2)
    ·rw [m2];exact .inr hM
    ·rw [m2]
     have:=pk2.length_eq
     simp at this;omega
   ·rw [Bool.eq_false_iff.mpr hfull,if_neg (by simp)]
    refine wpAny_pure (hend true _ _ sb1 ⟨_,_,_,_,ho1,hex,rfl,T1,epl,hled,?_⟩ (by rw [if_neg hin];exact perm1))
    have hlen:=perm1.length_eq
    simp at hlen
    unfold SetTable.tooFull at hfull
    rw [efill,emask] at hfull
    have hfull:¬ ((kas.length+1) * 5 >= t.mask * 3):=fun z=>hfull (decide_eq_true z)
    exact ⟨hsz.1,by rw [emask];simp;omega⟩
 ·rcases hsz.1 with e | e | e | e | e<;>rw [e] at hN<;>omega
 ·intro i p j h1 h2 h3
  obtain ⟨k,e1,e2⟩:=T.ok.reach i (tupleKeyHash (intKind prog w) p.1,Value.ref p.2) j (by rw [T.at i,h1];rfl) h3
  have e1:(pos t.mask (tupleKeyHash (intKind prog w) p.1) k).j=j:=e1
  have e2:∀k',k'<k->Occ t.place (pos t.mask (tupleKeyHash (intKind prog w) p.1) k').j:=e2
  rw [h2] at e1 e2
  refine ⟨k,Nat.zero_le _,?_,e1⟩
  rcases Nat.lt_trichotomy k N with q | q | q
  ·exact q
  ·subst q
   exact absurd ⟨i,by rw [e1];exact h3⟩ hf
  ·exact absurd (e2 N q) hf
end
end SV
end
section
namespace SV
open PySem PySem.SetTable ST
section
variable {prog:Program} {w:World} {A:Around} {E:Y9} {s:Shared}
theorem cT.keep {h h':Heap} {S:Addr} {kas:Y7} (x:cT prog w h S kas) (hk:∀o,h.get? S=some o->h'.get? S=some o) (ht:∀p∈kas,IsTupleKey (intKind prog w) h' p.1 p.2):cT prog w h' S kas:=by
 obtain ⟨o,es,ep,t,ho,hex,hd,T,r⟩:=x
 exact ⟨o,es,ep,t,hk o ho,hex,hd,T.heap ht,r⟩
theorem cT.len {h:Heap} {S:Addr} {kas:Y7} (x:cT prog w h S kas):kas.length<=1228:=by
 obtain ⟨o,es,ep,t,ho,hex,hd,T,_,_,r⟩:=x
 have:=r.2
 rcases r.1 with e | e | e | e | e<;>omega
theorem cT.keys {h:Heap} {S:Addr} {kas:Y7} (x:cT prog w h S kas):∀p∈kas,IsTupleKey (intKind prog w) h p.1 p.2:=by
 obtain ⟨o,es,ep,t,ho,hex,hd,T,_⟩:=x
 exact T.keys
theorem cT.nd {h:Heap} {S:Addr} {kas:Y7} (x:cT prog w h S kas):(kas.map (·.1)).Nodup:=by
 obtain ⟨o,es,ep,t,ho,hex,hd,T,_⟩:=x
 exact T.nd
theorem aGl {R:Result->Shared->Prop} {I:Addr} {fp wr:Y2} {G:Array GenState->Array GenState->Prop} {n:Nat} {P:Nat->Value->Prop} {St:Nat->Shared->Prop}
  (W:WalksS prog w A.in1 I fp wr G n P St) (S:Addr) (hSf:S ∉ fp) (hu:A.in1.units<cLine) (key:Nat->Y0) (adr:Nat->Addr) (hval:∀i v,P i v->v=.ref (adr i)) (hb:n<=1000) (hnw:∀i,i<n->adr i ∉ S::wr) :
  ∀(k i:Nat) (s:Shared) (kas:Y7),n - i=k->i<=n->St i s->cT prog w s.heap S kas->Ded key adr i kas->(∀i,i<n->IsTupleKey (intKind prog w) s.heap (key i) (adr i)) ->
   (∀s' kas',Moved (S::wr) G s s'->cT prog w s'.heap S kas'->Ded key adr n kas'->R (.ok (.ret .none)) s') ->
   codeAny (model prog w) A (.builtin "set.update.loop" ⟨[.ref S,.ref I],[]⟩) R s:=by
 have hSw:S ∉ wr:=fun h=>hSf (W.sub _ h)
 have hsub:∀b∈wr,b∈S::wr:=fun b hb=>List.mem_cons_of_mem _ hb
 intro k
 induction k with
 | zero =>
  intro i s kas hk hi hst hS hD hT hR
  have hin:i=n:=by omega
  subst hin
  refine codeAny_builtin PyProof.Rows.F.entry_set_update_loop ?_
  rw [Around.under_plainId PyProof.Rows.F.plain_set_update_loop _]
  show wpAny _ A.in1 (pyNext (.ref I) >>= _) _ _ s
  refine wpAny_bind (W.done s _ _ hst fun s' hm=>?_)
  show wpAny _ A.in1 (ret Value.none) _ _ s'
  refine wpAny_pure (hR s' kas (hm.mono hsub) (hS.keep (fun o e=>hm.heap S o hSw e) fun p hp=>?_) hD)
  obtain ⟨i',h1,rfl⟩:=hD.2.1 p hp
  exact cU (hT i' h1) fun o e=>hm.heap _ o (fun z=>hnw i' h1 (hsub _ z)) e
 | succ k ih =>
  intro i s kas hk hi hst hS hD hT hR
  have hlt:i<n:=by omega
  refine codeAny_builtin PyProof.Rows.F.entry_set_update_loop ?_
  rw [Around.under_plainId PyProof.Rows.F.plain_set_update_loop _]
  show wpAny _ A.in1 (pyNext (.ref I) >>= _) _ _ s
  refine wpAny_bind (W.item i s _ _ hlt hst fun v s' hP hst' hm=>?_)
  obtain rfl:=hval i v hP
  have hT':∀i,i<n->IsTupleKey (intKind prog w) s'.heap (key i) (adr i):=fun i' h1=>cU (hT i' h1) fun o e=>hm.heap _ o (fun z=>hnw i' h1 (hsub _ z)) e
  have hS':cT prog w s'.heap S kas:=hS.keep (fun o e=>hm.heap S o hSw e) fun p hp=>by
   obtain ⟨i',h1,rfl⟩:=hD.2.1 p hp
   exact hT' i' (by omega)
  show wpAny _ A.in1 (holding [Value.ref (adr i)] (setAdd S (.ref (adr i))) >>= _) _ _ s'
  refine wpAny_bind (wpAny_holding (zV hS' (hT' i hlt) hu (by have:=hD.2.2;omega) fun b h' kas' sb hS2 hc=>?_))
  have hT2:∀i,i<n->IsTupleKey (intKind prog w) h' (key i) (adr i):=fun i' h1=>cU (hT' i' h1) fun o e=>by
   rw [sb.2 _ (fun z=>hnw i' h1 (by rw [z];exact List.mem_cons_self))];exact e
  refine wpAny_pure ⟨plainId_quiet PyProof.Rows.F.plain_set_update_loop _,ih (i+1) _ kas' (by omega) hlt (W.frame _ s' _ _ hst' (Nat.le_add_right _ _) fun b hb o e=>?_) hS2 (hD.step hc) hT2 fun s'' kas'' hm'' hS'' hD''=>?_⟩
  ·rw [sb.2 b (fun h:b=S=>hSf (by rw [<- h];exact hb))];exact e
  ·refine hR s'' kas'' (Moved.trans W.gtrans ((hm.mono hsub).then_heap (Nat.le_add_right _ _) fun b o hb e=>?_) hm'') hS'' hD''
   rw [sb.2 b (fun h:b=S=>hb (by rw [h];exact List.mem_cons_self))];exact e
end
end SV
end
section
namespace SV
open PySem PySem.SetTable ST
section
variable {prog:Program} {w:World} {A:Around} {E:Y9} {s:Shared}
theorem rP {h:Heap} {S:Addr} {o:Obj} (ho:h.get? S=some o) (he:o={ cls:=.type "set",dict:=none,data:=.set #[] 0 (.fresh 0 0 (!(w.params.followText "set-order"))) }):cT prog w h S []:=by
 subst he
 refine ⟨_,#[],0,_,ho,⟨rfl,rfl,rfl⟩,rfl,⟨⟨aB8,fun i k a b e=>by simp [SetTable.fresh] at e,rfl,rfl,by simp,fun i e j e1=>by simp at e1⟩,rfl,fun p hp=>by simp at hp,by simp⟩,rfl,rfl,.inl rfl,by show 0 * 5<7 * 3;decide⟩
theorem call_setT {l:Addr} {items:Array Value} {key:Nat->Y0} {adr:Nat->Addr} {Q:Y9}
  (hh:A.handled=none) (hu:∀B:Around,B.units<=A.units+100->B.units<cLine) (hl:s.heap.IsList l items) (hi:∀(i:Nat) (v:Value),items[i]?=some v->v=Value.ref (adr i)) (hk:∀i,i<items.size->IsTupleKey (intKind prog w) s.heap (key i) (adr i)) (hb:items.size<=1000)
  (h:∀(h':Heap) (tk:Nat) (kas:Y7),cT prog w h' s.heap.objs.size kas->Ded key adr items.size kas ->
   (∀b o,b<s.heap.objs.size->s.heap.get? b=some o->h'.get? b=some o)->Q (.ref s.heap.objs.size) { s with heap:=h',toks:=tk }) :
  wpAny (model prog w) A (call (.type "set") [.ref l]) Q E s:=by
 obtain ⟨c,tl,hmro⟩:=F.called_set.mro
 have hmade:=F.called_set.made
 have hsub:=F.called_set.sub
 refine wpAny_call (codeAny_of_tree ?_)
 show wpAny _ _ (callAny (.type "set") _) _ _ _
 refine wpAny_pure ⟨Code.quiet_builtin _ (by decide +kernel),codeAny_builtin F.entry_type_call ?_⟩
 rw [Around.under_plain (weight_type_call_type "set" [.ref l] []) rfl]
 have h1:=F.called_set.notType
 have h2:=F.called_set.canCreate
 have hct:=F.typeCall_set_1 (.ref l)
 repeat (any_goals (first | assumption | wp_step))
 generalize hfr:(SetTable.fresh 0 0 (!(w.params.followText "set-order")))=fr
 refine codeAny_mono (wH (.ref l) (E:=E) (Q₁:=fun obj s₁=>obj=.ref s.heap.objs.size/\s₁={ s with heap:=s.heap.push { cls:=.type "set",dict:=none,data:=.set #[] 0 fr } }) (by rw [hfr];exact ⟨rfl,rfl⟩)) fun r s₁ hr=>?_
 cases r with
 | error e=>exact hr
 | ok fl =>
  cases fl with
  | ret obj =>
   obtain ⟨rfl,rfl⟩:=hr
   have hS:(s.heap.push { cls:=.type "set",dict:=none,data:=.set #[] 0 fr }).get? s.heap.objs.size=some { cls:=.type "set",dict:=none,data:=.set #[] 0 fr }:=Heap.get?_push_size _ rfl
   have hT:Shared.TypeIs { s with heap:=s.heap.push { cls:=.type "set",dict:=none,data:=.set #[] 0 fr } } (.ref s.heap.objs.size) "set" :=⟨_,hS,rfl⟩
   have hli:=F.called_set.init.lookup
   have hbi:=F.called_set.init.bind (.ref s.heap.objs.size)
   repeat (any_goals (first | assumption | wp_step))
   refine codeAny_mono (codeAny_call_builtin (R:=wants (fun r s₂=>r=.none/\∃h' tk kas,s₂={ s with heap:=h',toks:=tk }/\cT prog w h' s.heap.objs.size kas/\Ded key adr items.size kas /\
     (∀b o,b<s.heap.objs.size->s.heap.get? b=some o->h'.get? b=some o)) E) F.called_set.init.plain F.entry_set_init (check_set_init_1 hT ?_)) fun r₂ s₂ hr₂=>?_
   ·obtain ⟨ol,hol,hcl,nl,hdl⟩:=hl
    obtain ⟨ocls,odict,odata,oslots⟩:=ol
    simp only at hcl hdl
    subst hcl;subst hdl
    have hol':(s.heap.push { cls:=.type "set",dict:=none,data:=.set #[] 0 fr }).get? l=some { cls:=.type "list",dict:=odict,data:=.seq items nl,slots:=oslots }:=Heap.get?_push_of_some _ hol
    have hsls:=F.sub_list_set
    have hslf:=F.sub_list_frozenset
    have hne:(Value.type "list" == Value.type "dict")=false:=by decide
    have hl1:(s.heap.push { cls:=.type "set",dict:=none,data:=.set #[] 0 fr }).IsList l items:=⟨_,hol',rfl,nl,rfl⟩
    have hfits:fr.fits 0=true:=by rw [<- hfr];rfl
    have hfr':fr=(SetTable.fresh 0 0 (!(w.params.followText "set-order"))):=hfr.symm
    unfold Builtin.«set.__init__» noKeywords Builtin.Frozenset.updateFrom
    generalize hPI:pyIter=PI
    subst hfr'
    wp_walk
    subst hPI
    refine wpAny_pyIter_list hl1 ?_
    refine wpAny_bind (wpAny_runValue ?_)
    have hlS:l<s.heap.objs.size:=Heap.lt_size hol
    have hh3:A.in1.in1.in1.handled=none:=by simp [hh]
    have hneI:l ≠ (s.heap.push { cls:=.type "set",dict:=none,data:=.set #[] 0 (.fresh 0 0 (!(w.params.followText "set-order"))) }).objs.size:=by
     rw [Heap.size_push];exact Nat.ne_of_lt (Nat.lt_succ_of_lt hlS)
    have hSf:s.heap.objs.size ∉ [(s.heap.push { cls:=.type "set",dict:=none,data:=.set #[] 0 (.fresh 0 0 (!(w.params.followText "set-order"))) }).objs.size,l]:=by
     rw [Heap.size_push];simp only [List.mem_cons,List.mem_singleton,List.not_mem_nil,or_false,not_or]
     exact ⟨Nat.ne_of_lt (Nat.lt_succ_self _),Nat.ne_of_gt hlS⟩
    have adlt:∀i,i<items.size->adr i<s.heap.objs.size:=fun i hi'=>by
     obtain ⟨o,_,_,ho,_⟩:=hk i hi'
     exact Heap.lt_size ho
    refine aGl ((Walks.list hh3 _ l hneI items).toS) s.heap.objs.size hSf (hu _ ?hU) key adr hi hb (fun i hi' z=>?_) (items.size - 0) 0 _ [] (by omega) (Nat.zero_le _)
     ⟨⟨_,Heap.get?_push_size _ rfl,rfl,rfl⟩,(hl1.push _)⟩ ?hS0 Ded.zero (fun i hi'=>?_) ?hR
    case hU=>simp
    case hS0 =>
     exact rP (Heap.get?_push_of_some _ hS) rfl
    case hR =>
     intro s' kas hm hS' hD'
     obtain ⟨h',g',d',tk',os'⟩:=s'
     have eg:g'=s.gens:=hm.gens
     have ed:d'=s.drawn:=hm.drawn
     have eo:os'=s.os:=hm.os
     subst eg;subst ed;subst eo
     show wpAny _ _ _ _ _ _
     refine wpAny_pure ?_
     show wpAny _ _ (ret Value.none) _ _ _
     refine wpAny_pure ⟨rfl,h',tk',kas,rfl,hS',hD',fun b o hb e=>?_⟩
     have hb1:b ≠ s.heap.objs.size:=Nat.ne_of_lt hb
     have hb2:b ≠ (s.heap.push { cls:=.type "set",dict:=none,data:=.set #[] 0 (.fresh 0 0 (!(w.params.followText "set-order"))) }).objs.size:=by
      rw [Heap.size_push];exact Nat.ne_of_lt (Nat.lt_succ_of_lt hb)
     exact hm.heap b o (by simp only [List.mem_cons,List.mem_singleton,List.not_mem_nil,or_false,not_or];exact ⟨hb1,hb2⟩) (Heap.get?_push_of_some _ (Heap.get?_push_of_some _ e))
    ·have:=adlt i hi'
     rw [Heap.size_push] at z
     simp only [List.mem_cons,List.mem_singleton,List.not_mem_nil,or_false] at z
     rcases z with z | z
     ·exact Nat.ne_of_lt this z
     ·exact Nat.ne_of_lt (Nat.lt_succ_of_lt this) z
    ·exact cU (hk i hi') fun o e=>Heap.get?_push_of_some _ (Heap.get?_push_of_some _ e)
   ·cases r₂ with
    | error e=>exact hr₂
    | ok fl₂ =>
     cases fl₂ with
     | ret r =>
      obtain ⟨rfl,h',tk,kas,rfl,hS',hD',hk'⟩:=hr₂
      repeat (any_goals (first | assumption | wp_step))
      exact h _ _ _ hS' hD' hk'
     | _=>exact hr₂.elim
  | _=>exact hr.elim
end
end SV
end
section
namespace SV
open PySem PySem.SetTable ST
section
variable {prog:Program} {w:World} {A:Around} {E:Y9} {s:Shared}
theorem kS {S:Addr} {kas:Y7} {Q:Y1->Shared->Prop} (hh:A.handled=none) (hS:cT prog w s.heap S kas)
  (hQ:∀(kas':Y7) (s':Shared),kas'.Perm kas->Moved [] (fun a b=>b=a) s s'->s.heap.objs.size<=s'.heap.objs.size->Q (kas'.map fun p=>Value.ref p.2) s'):wpAny (model prog w) A (collect (.ref S)) Q E s:=by
 obtain ⟨o,es,ep,t,ho,hex,hd,T,hpl,hled,hsz⟩:=hS
 have hT:s.TypeIs (.ref S) "set" :=⟨o,ho,hex.1⟩
 have hSlt:S<s.heap.objs.size:=Heap.lt_size ho
 unfold collect
 refine wpAny_bind (wpAny_runValue (codeAny_builtin PySem.F.entry_proto_collect ?_))
 rw [Around.under_plainId PySem.F.plain_proto_collect _]
 show wpAny _ A.in1 (newList [] >>= fun l=>again (.builtin "list.__iadd__" ⟨[l,.ref S],[]⟩)) _ _ s
 refine wpAny_bind (wpAny_newObj_type ?_)
 refine wpAny_pure ⟨plainId_quiet PySem.F.plain_list_iadd _,codeAny_builtin PySem.F.entry_list_iadd ?_⟩
 rw [Around.under_plainId PySem.F.plain_list_iadd _]
 generalize hh1:s.heap.push { cls:=.type "list",data:=.seq ([]:Y1).toArray }=h1
 have e1:∀b o,s.heap.get? b=some o->h1.get? b=some o:=fun b o e=>by rw [<- hh1];exact Heap.get?_push_of_some _ e
 have hL:h1.get? s.heap.objs.size=some { cls:=.type "list",data:=.seq ([]:Y1).toArray }:=by rw [<- hh1];exact Heap.get?_push_size _ rfl
 have sz1:h1.objs.size=s.heap.objs.size+1:=by rw [<- hh1,Heap.size_push]
 have hne:s.heap.objs.size ≠ S:=Ne.symm (Nat.ne_of_lt hSlt)
 have hT1:Shared.TypeIs { s with heap:=h1 } (.ref S) "set" :=⟨o,e1 _ _ ho,hex.1⟩
 have T1:TS (intKind prog w) h1 es t kas:=T.heap fun p hp=>cU (T.keys p hp) fun o e=>e1 _ _ e
 show wpAny _ A.in1 (Builtin.List.listExtendWith (.ref s.heap.objs.size) (.ref S) (.ref s.heap.objs.size)) _ _ _
 unfold Builtin.List.listExtendWith
 refine wpAny_bind (wpAny_typeOf hT1 ?_)
 have hsr:Builtin.List.listSameRef (.ref s.heap.objs.size) (.ref S)=false:=by simp [Builtin.List.listSameRef,hne]
 rw [if_neg (by rw [hsr];decide)]
 refine wpAny_bind (wpAny_pyIter_slot hT1 PySem.F.slot_set_iter (wpAny_call_entry PySem.F.slot_set_iter hT1 F.entry_set_iter ?_ (PySem.F.args_set_iter_1 _)))
 show wpAny _ _ (Builtin.Frozenset.sizeOf S >>= _) _ _ _
 unfold Builtin.Frozenset.sizeOf
 refine wpAny_bind (wpAny_bind (wpAny_setEntries_of (s:={ s with heap:=h1 }) (e1 _ _ ho) hd T.fits (wpAny_pure ?_)))
 unfold setDrawn
 refine wpAny_bind (wpAny_bind (wpAny_setState_of (s:={ s with heap:=h1 }) (e1 _ _ ho) hd T.fits ?_))
 dsimp only
 unfold setsByText
 refine wpAny_bind (wpAny_bind (wpAny_askSetting (wpAny_pure ?_)))
 refine wpAny_pure ?_
 show wpAny _ _ (if (!(w.params.followText "set-order") && (!t.plain && decide (es.size > 1)))=true then _ else _) _ _ _
 rw [hpl,if_neg (by simp)]
 refine wpAny_bind (wpAny_pure ?_)
 refine wpAny_bind (wpAny_setEpoch_of (s:={ s with heap:=h1 }) (e1 _ _ ho) hd T.fits ?_)
 refine wpAny_bind (wpAny_newObj_type ?_)
 refine wpAny_pure ⟨_,rfl, "set_iterator",_,⟨_,Heap.get?_push_size _ rfl,rfl⟩,F.slot_next.lookup,?_⟩
 generalize hh2:h1.push _=h2
 have eI:h2.get? h1.objs.size=some (lG 0 0 S es.size ep):=by rw [<- hh2];exact Heap.get?_push_size _ rfl
 have e2:∀b o,h1.get? b=some o->h2.get? b=some o:=fun b o e=>by rw [<- hh2];exact Heap.get?_push_of_some _ e
 have T2:TS (intKind prog w) h2 es t kas:=T1.heap fun p hp=>cU (T1.keys p hp) fun o e=>e2 _ _ e
 have hT2:Shared.TypeIs { s with heap:=h2 } (.ref S) "set" :=⟨o,e2 _ _ (e1 _ _ ho),hex.1⟩
 refine wpAny_bind (wpAny_holding ?_)
 unfold Builtin.List.listLengthHint
 refine wpAny_bind (wpAny_specialOf hT2 PySem.F.slot_set_len.lookup ?_)
 generalize hid:("set.__len__" : String)=id0
 wp_delta
 rw [show splitId id0=some ("set", "__len__") from by subst hid;decide +kernel]
 subst hid
 refine wpAny_bind (wpAny_isInstance (b:=true) hT2 (by rw [isSubtype_type];kernel_rfl) ?_)
 show wpAny _ _ (typeOf (.ref S) >>= _) _ _ _
 refine wpAny_bind (wpAny_typeOf hT2 ?_)
 refine wpAny_pure ?_
 rw [if_pos (by rfl)]
 have hL2:h2.get? s.heap.objs.size=some { cls:=.type "list",dict:=none,data:=.seq #[] 0,slots:=#[] }:=e2 _ _ hL
 refine wpAny_bind (wpAny_rule (wpAny_bind ?_))
 unfold Builtin.List.listTouch
 refine wpAny_bind (PyProof.Rows.listUpdate_at (s:={ s with heap:=h2 }) hL2 rfl ?_)
 have hL3:(h2.update s.heap.objs.size (Obj.mapSeq (·.push Value.none))).get? s.heap.objs.size=some { cls:=.type "list",dict:=none,data:=.seq #[Value.none] 1,slots:=#[] }:=Heap.get?_update_self _ hL2 rfl
 refine PyProof.Rows.listUpdate_at (s:={ s with heap:=h2.update s.heap.objs.size (Obj.mapSeq (·.push Value.none)) }) hL3 rfl ?_
 have hL4:((h2.update s.heap.objs.size (Obj.mapSeq (·.push Value.none))).update s.heap.objs.size (Obj.mapSeq (·.pop))).get? s.heap.objs.size=some { cls:=.type "list",dict:=none,data:=.seq #[] 2,slots:=#[] }:=Heap.get?_update_self _ hL3 rfl
 have e4:∀b,b ≠ s.heap.objs.size->((h2.update s.heap.objs.size (Obj.mapSeq (·.push Value.none))).update s.heap.objs.size (Obj.mapSeq (·.pop))).get? b=h2.get? b:=fun b hb=>by
  rw [Heap.get?_update_other _ _ (Ne.symm hb),Heap.get?_update_other _ _ (Ne.symm hb)]
 generalize ((h2.update s.heap.objs.size (Obj.mapSeq (·.push Value.none))).update s.heap.objs.size (Obj.mapSeq (·.pop)))=h4 at hL4 e4
 have klt:∀p∈kas,p.2<s.heap.objs.size:=fun p hp=>by
  obtain ⟨o',_,_,ho',_⟩:=T.keys p hp
  exact Heap.lt_size ho'
 have hI4:h4.get? h1.objs.size=some (lG 0 0 S es.size ep):=by
  rw [e4 _ (by rw [sz1];exact Nat.succ_ne_self _)];exact eI
 have hS4:h4.get? S=some o:=by rw [e4 _ (Ne.symm hne)];exact e2 _ _ (e1 _ _ ho)
 have T4:TS (intKind prog w) h4 es t kas:=T2.heap fun p hp=>cU (T2.keys p hp) fun o' e=>by
  rw [e4 _ (Nat.ne_of_lt (klt p hp))];exact e
 have hIS:h1.objs.size ≠ S:=by rw [sz1];exact Ne.symm (Nat.ne_of_lt (Nat.lt_succ_of_lt hSlt))
 have hkI:∀p∈kas,p.2 ≠ h1.objs.size:=fun p hp=>by rw [sz1];exact Nat.ne_of_lt (Nat.lt_succ_of_lt (klt p hp))
 have W:=aFx (prog:=prog) (w:=w) (A:=A.in1) (I:=h1.objs.size) (S:=S) (o:=o) (es:=es) (ep:=ep) (t:=t) (kas:=kas) (by simpa using hh) hd hpl hled hIS hkI
 have hLf:s.heap.objs.size ∉ h1.objs.size::S::kas.map (·.2):=fun z=>by
  rcases List.mem_cons.mp z with z | z
  ·rw [sz1] at z;exact Nat.succ_ne_self _ z.symm
  ·rcases List.mem_cons.mp z with z | z
   ·exact hne z
   ·obtain ⟨p,hp,e⟩:=List.mem_map.mp z
    exact Nat.ne_of_lt (klt p hp) e
 have hn:es.size<=sizeLine:=by
  rw [sizeLine_eq,T.len]
  have:=hsz.2
  rcases hsz.1 with e | e | e | e | e<;>omega
 refine wpAny_pure ⟨plainId_quiet PySem.F.plain_extend_loop _,codeAny_extend_loopS W.toS hn _ hLf _ es.size 0 _ _ _ rfl (Nat.zero_le _) ⟨0,hI4,fun _=>rT T.ok.rise,hS4,T4⟩ hL4 (ItemsOf.nil _) fun s' acc' c' hm hS' hacc=>?_⟩
 show wpAny _ A (load s.heap.objs.size >>= _) _ _ s'
 refine wpAny_bind (wpAny_load hS' ?_)
 refine wpAny_pure ?_
 have eacc:=qG (ws:=dX w S ep es) (by rw [lD];exact hacc) (fun i v h=>h)
 show Q acc'.toList s'
 have pm:(dX w S ep es).toList.Perm (kas.map fun p=>(tupleKeyHash (intKind prog w) p.1,Value.ref p.2)):=by
  have:=oO (w:=w) (S:=S) (ep:=ep) (es:=es)
  rw [T.ents] at this;exact this
 obtain ⟨kas',ek,pk⟩:=kX pm
 rw [eacc,ek,List.map_map]
 refine hQ kas' s' pk ⟨fun b o' _ e=>?_,hm.gens,hm.drawn,hm.os,hm.toks⟩ (Nat.le_of_lt (Heap.lt_size hS'))
 have hb1:b ≠ s.heap.objs.size:=Nat.ne_of_lt (Heap.lt_size e)
 have hb2:b ≠ h1.objs.size:=by rw [sz1];exact Nat.ne_of_lt (Nat.lt_succ_of_lt (Heap.lt_size e))
 refine hm.heap b o' (fun z=>?_) (by show h4.get? b=some o';rw [e4 b hb1];exact e2 _ _ (e1 _ _ e))
 rcases List.mem_cons.mp z with z | z
 ·exact hb1 z
 ·exact hb2 (List.mem_singleton.mp z)
end
end SV
end
section
namespace VT
section
variable {α:Type} (ρ:α->Int)
def Srt (l:List α):Prop:=l.Pairwise (fun x y=>ρ x<=ρ y)
structure LInv (A B out:List α) (i j:Nat):Prop where
 perm:out.Perm (A.take i++B.take j)
 srt:Srt ρ out
 le:∀x∈out,∀y∈A.drop i++B.drop j,ρ x<=ρ y
variable {ρ} {A B out:List α} {i j:Nat}
theorem nU (h:Srt ρ A) (hi:i<A.length):∀y∈A.drop i,ρ A[i]<=ρ y:=by
 intro y hy
 rw [List.drop_eq_getElem_cons hi] at hy
 have h2:=List.Pairwise.drop (i:=i) h
 rw [List.drop_eq_getElem_cons hi,List.pairwise_cons] at h2
 rcases List.mem_cons.mp hy with rfl | hy
 ·exact Int.le_refl _
 ·exact h2.1 y hy
theorem LInv.pushA (v:LInv ρ A B out i j) (hA:Srt ρ A) (hi:i<A.length) (h:∀y∈B.drop j,ρ A[i]<=ρ y):LInv ρ A B (out ++ [A[i]]) (i+1) j:=by
 have e:A.drop i=A[i]::A.drop (i+1):=List.drop_eq_getElem_cons hi
 refine ⟨?_,?_,?_⟩
 ·rw [List.take_succ_eq_append_getElem hi]
  refine (v.perm.append_right _).trans ?_
  rw [List.append_assoc,List.append_assoc]
  exact List.Perm.append_left _ List.perm_append_comm
 ·refine List.pairwise_append.mpr ⟨v.srt,List.pairwise_singleton _ _,fun x hx y hy=>?_⟩
  rw [List.mem_singleton] at hy
  subst hy
  exact v.le x hx _ (List.mem_append_left _ (by rw [e];exact List.mem_cons_self))
 ·intro x hx y hy
  rcases List.mem_append.mp hx with hx | hx
  ·refine v.le x hx y ?_
   rw [e]
   rcases List.mem_append.mp hy with hy | hy
   ·first | exact List.mem_append_left _ (List.mem_cons_of_mem _ hy) | exact List.mem_append_left _ hy
   ·first | exact List.mem_append_right _ (List.mem_cons_of_mem _ hy) | exact List.mem_append_right _ hy
  ·rw [List.mem_singleton] at hx
   subst hx
   rcases List.mem_append.mp hy with hy | hy
   ·exact nU hA hi y (by rw [e];exact List.mem_cons_of_mem _ hy)
   ·exact h y hy
theorem LInv.pushB (v:LInv ρ A B out i j) (hB:Srt ρ B) (hj:j<B.length) (h:∀y∈A.drop i,ρ B[j]<=ρ y):LInv ρ A B (out ++ [B[j]]) i (j+1):=by
 have e:B.drop j=B[j]::B.drop (j+1):=List.drop_eq_getElem_cons hj
 refine ⟨?_,?_,?_⟩
 ·rw [List.take_succ_eq_append_getElem hj]
  refine (v.perm.append_right _).trans ?_
  rw [List.append_assoc]
 ·refine List.pairwise_append.mpr ⟨v.srt,List.pairwise_singleton _ _,fun x hx y hy=>?_⟩
  rw [List.mem_singleton] at hy
  subst hy
  exact v.le x hx _ (List.mem_append_right _ (by rw [e];exact List.mem_cons_self))
 ·intro x hx y hy
  rcases List.mem_append.mp hx with hx | hx
  ·refine v.le x hx y ?_
   rw [e]
   rcases List.mem_append.mp hy with hy | hy
   ·first | exact List.mem_append_left _ (List.mem_cons_of_mem _ hy) | exact List.mem_append_left _ hy
   ·first | exact List.mem_append_right _ (List.mem_cons_of_mem _ hy) | exact List.mem_append_right _ hy
  ·rw [List.mem_singleton] at hx
   subst hx
   rcases List.mem_append.mp hy with hy | hy
   ·exact h y hy
   ·exact nU hB hj y (by rw [e];exact List.mem_cons_of_mem _ hy)
theorem LInv.yV (hA:Srt ρ A):∀(k:Nat) {i:Nat} {out:List α},LInv ρ A B out i j->i+k<=A.length->(∀m,i<=m->(hm:m<A.length)->m<i+k->∀y∈B.drop j,ρ A[m]<=ρ y)->LInv ρ A B (out++(A.drop i).take k) (i+k) j
 | 0,i,out,v,_,_=>by simpa using v
 | k+1,i,out,v,hk,h=>by
  have hi:i<A.length:=by omega
  have:=LInv.yV hA k (v.pushA hA hi (h i (Nat.le_refl _) hi (by omega))) (by omega) (fun m h1 h2 h3=>h m (by omega) h2 (by omega))
  rw [List.drop_eq_getElem_cons hi,List.take_succ_cons]
  rw [List.append_assoc,List.singleton_append] at this
  rw [show i+(k+1)=i+1+k by omega]
  exact this
theorem LInv.yT (hB:Srt ρ B):∀(k:Nat) {j:Nat} {out:List α},LInv ρ A B out i j->j+k<=B.length->(∀m,j<=m->(hm:m<B.length)->m<j+k->∀y∈A.drop i,ρ B[m]<=ρ y)->LInv ρ A B (out++(B.drop j).take k) i (j+k)
 | 0,j,out,v,_,_=>by simpa using v
 | k+1,j,out,v,hk,h=>by
  have hj:j<B.length:=by omega
  have:=LInv.yT hB k (v.pushB hB hj (h j (Nat.le_refl _) hj (by omega))) (by omega) (fun m h1 h2 h3=>h m (by omega) h2 (by omega))
  rw [List.drop_eq_getElem_cons hj,List.take_succ_cons]
  rw [List.append_assoc,List.singleton_append] at this
  rw [show j+(k+1)=j+1+k by omega]
  exact this
theorem LInv.aHk (v:LInv ρ A B out i j) (hA:Srt ρ A) (hj:B.length<=j):(out++A.drop i++B.drop j).Perm (A++B)/\Srt ρ (out++A.drop i++B.drop j):=by
 have e:B.drop j=[]:=List.drop_eq_nil_of_le hj
 have e2:B.take j=B:=List.take_of_length_le hj
 rw [e,List.append_nil]
 have p:=v.perm
 rw [e2] at p
 refine ⟨?_,List.pairwise_append.mpr ⟨v.srt,hA.drop,fun x hx y hy=>v.le x hx y (List.mem_append_left _ hy)⟩⟩
 refine (p.append_right _).trans ?_
 rw [List.append_assoc]
 refine (List.Perm.append_left _ List.perm_append_comm).trans ?_
 rw [<- List.append_assoc,List.take_append_drop]
theorem LInv.aHm (v:LInv ρ A B out i j) (hB:Srt ρ B) (hi:A.length<=i):(out++A.drop i++B.drop j).Perm (A++B)/\Srt ρ (out++A.drop i++B.drop j):=by
 have e:A.drop i=[]:=List.drop_eq_nil_of_le hi
 have e2:A.take i=A:=List.take_of_length_le hi
 have le:=v.le
 rw [e] at le
 rw [e,List.append_nil]
 have p:=v.perm
 rw [e2] at p
 refine ⟨?_,List.pairwise_append.mpr ⟨v.srt,hB.drop,fun x hx y hy=>le x hx y (by simpa using hy)⟩⟩
 refine (p.append_right _).trans ?_
 rw [List.append_assoc,List.take_append_drop]
theorem LInv.last (v:LInv ρ A B out i j) (hB:Srt ρ B) (hi:i+1=A.length) (h:∀y∈B,ρ y<=ρ A[i]):(out++B.drop j++A.drop i).Perm (A++B)/\Srt ρ (out++B.drop j++A.drop i):=by
 have e:A.drop i=[A[i]]:=by rw [List.drop_eq_getElem_cons (by omega),List.drop_eq_nil_of_le (by omega)]
 refine ⟨?_,?_⟩
 ·refine ((v.perm.append_right _).append_right _).trans ?_
  rw [List.append_assoc (A.take i),List.take_append_drop,List.append_assoc]
  refine (List.Perm.append_left _ List.perm_append_comm).trans ?_
  rw [<- List.append_assoc,List.take_append_drop]
 ·rw [e]
  refine List.pairwise_append.mpr ⟨List.pairwise_append.mpr ⟨v.srt,hB.drop,fun x hx y hy=>v.le x hx y (List.mem_append_right _ hy)⟩,List.pairwise_singleton _ _,fun x hx y hy=>?_⟩
  rw [List.mem_singleton] at hy
  subst hy
  rcases List.mem_append.mp hx with hx | hx
  ·exact v.le x hx _ (List.mem_append_left _ (by rw [e];simp))
  ·exact h x (List.mem_of_mem_drop hx)
structure HInv (ρ:α->Int) (A B out:List α) (i j:Nat):Prop where
 perm:out.Perm (A.drop i++B.drop j)
 srt:Srt ρ out.reverse
 le:∀x∈A.take i++B.take j,∀y∈out,ρ x<=ρ y
theorem sN (h:Srt ρ A) (hi:i<A.length):∀y∈A.take i,ρ y<=ρ A[i]:=by
 intro y hy
 have h2:=List.Pairwise.take (i:=i+1) h
 rw [List.take_succ_eq_append_getElem hi,List.pairwise_append] at h2
 exact h2.2.2 y hy _ (by simp)
theorem HInv.pushA (v:HInv ρ A B out (i+1) j) (hA:Srt ρ A) (hi:i<A.length) (h:∀y∈B.take j,ρ y<=ρ A[i]):HInv ρ A B (out ++ [A[i]]) i j:=by
 have e:A.take (i+1)=A.take i ++ [A[i]]:=List.take_succ_eq_append_getElem hi
 refine ⟨?_,?_,?_⟩
 ·rw [List.drop_eq_getElem_cons hi]
  exact List.perm_append_comm.trans (List.Perm.cons _ v.perm)
 ·rw [List.reverse_append]
  refine List.pairwise_append.mpr ⟨List.pairwise_singleton _ _,v.srt,fun x hx y hy=>?_⟩
  simp at hx
  subst hx
  exact v.le _ (List.mem_append_left _ (by rw [e];exact List.mem_append_right _ (List.mem_singleton.mpr rfl))) y (by simpa using hy)
 ·intro x hx y hy
  rcases List.mem_append.mp hy with hy | hy
  ·refine v.le x ?_ y hy
   rw [e]
   rcases List.mem_append.mp hx with hx | hx
   ·first | exact List.mem_append_left _ (List.mem_append_left _ hx) | exact List.mem_append_left _ hx
   ·first | exact List.mem_append_right _ (List.mem_append_left _ hx) | exact List.mem_append_right _ hx
  ·rw [List.mem_singleton] at hy
   subst hy
   rcases List.mem_append.mp hx with hx | hx
   ·exact sN hA hi x hx
   ·exact h x hx
theorem HInv.pushB (v:HInv ρ A B out i (j+1)) (hB:Srt ρ B) (hj:j<B.length) (h:∀y∈A.take i,ρ y<=ρ B[j]):HInv ρ A B (out ++ [B[j]]) i j:=by
 have e:B.take (j+1)=B.take j ++ [B[j]]:=List.take_succ_eq_append_getElem hj
 refine ⟨?_,?_,?_⟩
 ·rw [List.drop_eq_getElem_cons hj]
  refine (v.perm.append_right _).trans ?_
  rw [List.append_assoc]
  exact List.Perm.append_left _ List.perm_append_comm
 ·rw [List.reverse_append]
  refine List.pairwise_append.mpr ⟨List.pairwise_singleton _ _,v.srt,fun x hx y hy=>?_⟩
  simp at hx
  subst hx
  exact v.le _ (List.mem_append_right _ (by rw [e];exact List.mem_append_right _ (List.mem_singleton.mpr rfl))) y (by simpa using hy)
 ·intro x hx y hy
  rcases List.mem_append.mp hy with hy | hy
  ·refine v.le x ?_ y hy
   rw [e]
   rcases List.mem_append.mp hx with hx | hx
   ·first | exact List.mem_append_left _ (List.mem_append_left _ hx) | exact List.mem_append_left _ hx
   ·first | exact List.mem_append_right _ (List.mem_append_left _ hx) | exact List.mem_append_right _ hx
  ·rw [List.mem_singleton] at hy
   subst hy
   rcases List.mem_append.mp hx with hx | hx
   ·exact h x hx
   ·exact sN hB hj x hx
theorem HInv.yV (hA:Srt ρ A):∀(k:Nat) {i:Nat} {out:List α},HInv ρ A B out (i+k) j->i+k<=A.length->(∀m,i<=m->(hm:m<A.length)->m<i+k->∀y∈B.take j,ρ y<=ρ A[m])->HInv ρ A B (out++((A.drop i).take k).reverse) i j
 | 0,i,out,v,_,_=>by simpa using v
 | k+1,i,out,v,hk,h=>by
  have hi:i<A.length:=by omega
  have e:i+1+k=i+(k+1):=by omega
  have:=(HInv.yV hA k (i:=i+1) (by rw [e];exact v) (by omega) (fun m h1 h2 h3=>h m (by omega) h2 (by omega))).pushA hA hi (h i (Nat.le_refl _) hi (by omega))
  rw [List.drop_eq_getElem_cons hi,List.take_succ_cons,List.reverse_cons,<- List.append_assoc]
  exact this
theorem HInv.yT (hB:Srt ρ B):∀(k:Nat) {j:Nat} {out:List α},HInv ρ A B out i (j+k)->j+k<=B.length->(∀m,j<=m->(hm:m<B.length)->m<j+k->∀y∈A.take i,ρ y<=ρ B[m])->HInv ρ A B (out++((B.drop j).take k).reverse) i j
 | 0,j,out,v,_,_=>by simpa using v
 | k+1,j,out,v,hk,h=>by
  have hj:j<B.length:=by omega
  have e:j+1+k=j+(k+1):=by omega
  have:=(HInv.yT hB k (j:=j+1) (by rw [e];exact v) (by omega) (fun m h1 h2 h3=>h m (by omega) h2 (by omega))).pushB hB hj (h j (Nat.le_refl _) hj (by omega))
  rw [List.drop_eq_getElem_cons hj,List.take_succ_cons,List.reverse_cons,<- List.append_assoc]
  exact this
theorem HInv.aHm (v:HInv ρ A B out 0 j) (hB:Srt ρ B):(B.take j++out.reverse).Perm (A++B)/\Srt ρ (B.take j++out.reverse):=by
 refine ⟨?_,List.pairwise_append.mpr ⟨hB.take,v.srt,fun x hx y hy=>v.le x (List.mem_append_right _ hx) y (by simpa using hy)⟩⟩
 refine (List.Perm.append_left _ ((List.reverse_perm _).trans v.perm)).trans ?_
 rw [List.drop_zero]
 refine (List.Perm.append_left _ List.perm_append_comm).trans ?_
 rw [<- List.append_assoc,List.take_append_drop]
 exact List.perm_append_comm
theorem HInv.aHk (v:HInv ρ A B out i 0) (hA:Srt ρ A):(A.take i++out.reverse).Perm (A++B)/\Srt ρ (A.take i++out.reverse):=by
 refine ⟨?_,List.pairwise_append.mpr ⟨hA.take,v.srt,fun x hx y hy=>v.le x (List.mem_append_left _ hx) y (by simpa using hy)⟩⟩
 refine (List.Perm.append_left _ ((List.reverse_perm _).trans v.perm)).trans ?_
 rw [List.drop_zero,<- List.append_assoc,List.take_append_drop]
theorem HInv.first (v:HInv ρ A B out i 1) (hA:Srt ρ A) (hb:0<B.length) (h:∀y∈A,ρ B[0]<=ρ y):(B.take 1++A.take i++out.reverse).Perm (A++B)/\Srt ρ (B.take 1++A.take i++out.reverse):=by
 have e:B.take 1=[B[0]]:=by
  have:=List.take_succ_eq_append_getElem hb
  simpa using this
 refine ⟨?_,?_⟩
 ·refine (List.Perm.append_left _ ((List.reverse_perm _).trans v.perm)).trans ?_
  rw [List.append_assoc,<- List.append_assoc (A.take i),List.take_append_drop]
  refine List.perm_append_comm.trans ?_
  rw [List.append_assoc]
  refine List.Perm.append_left _ (List.perm_append_comm.trans ?_)
  rw [List.take_append_drop]
 ·refine List.pairwise_append.mpr ⟨List.pairwise_append.mpr ⟨?_,hA.take,fun x hx y hy=>?_⟩,v.srt,fun x hx y hy=>?_⟩
  ·rw [e];exact List.pairwise_singleton _ _
  ·rw [e,List.mem_singleton] at hx
   subst hx
   exact h y (List.mem_of_mem_take hy)
  ·refine v.le x ?_ y (by simpa using hy)
   rcases List.mem_append.mp hx with hx | hx
   ·exact List.mem_append_right _ hx
   ·exact List.mem_append_left _ hx
end
end VT
end
section
namespace VT
open PySem PyProof.Rows
abbrev aJk:Bool->Keyed->Array Keyed->Nat->Nat->Nat->StateT SortSt Sem (Option Nat):=sortPriv% PySem.Builtin.gallop
abbrev aE7:Array Keyed->Array Keyed->StateT SortSt Sem (Array Keyed):=sortPriv% PySem.Builtin.mergeLo
abbrev aFc:Array Keyed->Array Keyed->StateT SortSt Sem (Array Keyed):=sortPriv% PySem.Builtin.mergeHi
def Cmp (prog:Program) (w:World) (A:Around) (s:Shared) (κ:SortKind) (ρ:Keyed->Int) (a₀:List Keyed):Prop :=
 ∀x∈a₀,∀y∈a₀,∀Q:Bool->Shared->Prop,Q (decide (ρ x < ρ y)) s->wpAny (model prog w) A (keyLt' κ x.1 y.1) Q (fun _ _=>False) s
def Rk (ρ:Keyed->Int) (xs:Array Keyed) (i:Nat):Int:=match xs[i]? with
 | some p=>ρ p
 | none=>0
theorem cH {ρ:Keyed->Int} {xs:Array Keyed} {i:Nat} {x:Keyed} (h:xs[i]?=some x):Rk ρ xs i=ρ x:=by unfold Rk;rw [h]
section
variable {prog:Program} {w:World} {A:Around} {E:Y9} {s:Shared} {κ:SortKind} {ρ:Keyed->Int} {a₀:List Keyed} {st:SortSt}
theorem bD {arr:Array Keyed} {i:Nat} {x:Keyed} {Q:Keyed->SortSt->Prop} (h:arr[i]?=some x) (hq:Q x st):wpS (model prog w) A E s (elem' arr i) Q st:=by
 rw [elem'_eq,h];exact wpS_pure hq
theorem mW (C:Cmp prog w A s κ ρ a₀) (hk:kindOf st=κ) {x y:Keyed} (hx:x∈a₀) (hy:y∈a₀) {Q:Option Bool->SortSt->Prop} (h:Q (some (decide (ρ x < ρ y))) st):wpS (model prog w) A E s (lt' x y) Q st:=by
 rw [lt'_eq]
 refine wpS_bind (wpS_get ?_)
 rw [hk]
 refine wpS_bind (wpS_lift (wpAny_attempt (wpAny_mono (C x hx y hy (fun b s'=>s'=s/\b=decide (ρ x < ρ y)) ⟨rfl,rfl⟩) (fun b s' hb=>?_) fun _ _ hF=>hF.elim)))
 obtain ⟨rfl,rfl⟩:=hb
 exact ⟨rfl,wpS_pure h⟩
def bey (ρ:Keyed->Int) (left:Bool) (key:Keyed) (arr:Array Keyed) (base i:Nat):Bool:=bif left then decide (Rk ρ arr (base+i) < ρ key) else !decide (ρ key<Rk ρ arr (base+i))
theorem aGo {left:Bool} {key:Keyed} {arr:Array Keyed} {base i j:Nat} (h:Rk ρ arr (base+i)<=Rk ρ arr (base+j)) (hb:bey ρ left key arr base j=true):bey ρ left key arr base i=true:=by
 unfold bey at *
 cases left<;>simp at *<;>omega
structure Gal (ρ:Keyed->Int) (a₀:List Keyed) (arr:Array Keyed) (base n:Nat):Prop where
 mem:∀i,i<n->∃x,arr[base+i]?=some x/\x∈a₀
 srt:∀i j,i<=j->j<n->Rk ρ arr (base+i)<=Rk ρ arr (base+j)
theorem fO (C:Cmp prog w A s κ ρ a₀) (hk:kindOf st=κ) {left:Bool} {key:Keyed} {arr:Array Keyed} {base n hint:Nat} (hkey:key∈a₀) (g:Gal ρ a₀ arr base n) (hh:hint<n) {Q:Option Nat->SortSt->Prop}
  (h:∀k,k<=n->(∀i,i<k->bey ρ left key arr base i=true)->(∀i,k<=i->i<n->bey ρ left key arr base i=false)->Q (some k) st):wpS (model prog w) A E s (aJk left key arr base n hint) Q st:=by
 have hb:∀(i:Nat) (_:i<n) (Q:Option Bool->SortSt->Prop),Q (some (bey ρ left key arr base i)) st->wpS (model prog w) A E s (do let x <- elem' arr (base+i);if left=true then lt' x key else do let r <- lt' key x;pure (Option.map (fun x=>!x) r)) Q st:=by
  intro i hi Q hq
  obtain ⟨x,hx,hm⟩:=g.mem i hi
  refine wpS_bind (bD hx ?_)
  unfold bey at hq
  rw [cH hx] at hq
  cases left with
  | true=>simp only [if_true];exact mW C hk hm hkey hq
  | false=>simp only [Bool.false_eq_true,if_false];exact wpS_bind (mW C hk hkey hm (wpS_pure hq))
 have hmono:∀i j,i<=j->j<n->bey ρ left key arr base j=true->bey ρ left key arr base i=true:=fun i j h1 h2 h3=>aGo (g.srt i j h1 h2) h3
 refine wpS_bind (hb hint hh _ ?_)
 dsimp only
 cases hr:bey ρ left key arr base hint with
 | true =>
  simp only [if_true]
  refine wpS_bind (wpS_mono (wpS_forRange (I:=fun x c st'=>st'=st/\∃la ofs,c=(none,la,ofs)/\la<ofs/\x<ofs/\hint+la<n/\bey ρ left key arr base (hint+la)=true)
   (Q:=fun c st'=>st'=st/\∃la ofs,c=(none,la,ofs)/\la<ofs/\hint+la<n/\bey ρ left key arr base (hint+la)=true/\(n - hint<=ofs\/hint+ofs<n/\bey ρ left key arr base (hint+ofs)=false)) ?_ ?_ ⟨rfl,0,1,rfl,by omega,by omega,hh,hr⟩) ?_)
  ·rintro x c st' _ hx ⟨rfl,la,ofs,rfl,a1,a2,a3,a4⟩
   dsimp only
   by_cases hg:ofs >= n - hint
   ·rw [if_pos hg]
    exact wpS_pure ⟨rfl,la,ofs,rfl,a1,a3,a4,.inl hg⟩
   ·rw [if_neg hg]
    refine wpS_bind (hb _ (by omega) _ ?_)
    dsimp only
    cases hc:bey ρ left key arr base (hint+ofs) with
    | true =>
     simp only [Bool.not_true,Bool.false_eq_true,if_false]
     exact wpS_pure ⟨rfl,_,_,rfl,by omega,by omega,by omega,hc⟩
    | false =>
     simp only [Bool.not_false,if_true]
     exact wpS_pure ⟨rfl,la,ofs,rfl,a1,a3,a4,.inr ⟨by omega,hc⟩⟩
  ·rintro c st' ⟨rfl,la,ofs,rfl,a1,a2,a3,a4⟩
   exact ⟨rfl,la,ofs,rfl,a1,a3,a4,.inl (by omega)⟩
  ·rintro c st' ⟨rfl,la,ofs,rfl,a1,a3,a4,a5⟩
   dsimp only
   have f1:hint+la+1<=hint+min ofs (n - hint):=by omega
   have f2:hint+min ofs (n - hint)<=n:=by omega
   have f3:∀i,i<hint+la+1->bey ρ left key arr base i=true:=fun i hi=>hmono i _ (by omega) a3 a4
   have f4:∀i,hint+min ofs (n - hint)<=i->i<n->bey ρ left key arr base i=false:=by
    intro i h1 h2
    rcases a5 with a5 | ⟨a5,a6⟩
    ·omega
    ·cases hd:bey ρ left key arr base i with
     | false=>rfl
     | true=>rw [hmono _ i (by omega) h2 hd] at a6;cases a6
   generalize hint+la+1=lo at *
   generalize hint+min ofs (n - hint)=hi at *
   refine wpS_bind (wpS_mono (wpS_forRange (I:=fun x c st''=>st''=st'/\∃lo hi,c=(none,lo,hi)/\lo<=hi/\hi<=n/\hi - lo<=n - x/\(∀i,i<lo->bey ρ left key arr base i=true)/\(∀i,hi<=i->i<n->bey ρ left key arr base i=false))
    (Q:=fun c st''=>st''=st'/\∃hi,c=(none,hi,hi)/\hi<=n/\(∀i,i<hi->bey ρ left key arr base i=true)/\(∀i,hi<=i->i<n->bey ρ left key arr base i=false)) ?_ ?_ ⟨rfl,lo,hi,rfl,f1,f2,by omega,f3,f4⟩) ?_)
   ·rintro x c st' _ hx ⟨rfl,lo,hi,rfl,f1,f2,f5,f3,f4⟩
    dsimp only
    by_cases hg:lo >= hi
    ·rw [if_pos hg]
     have e:lo=hi:=by omega
     subst e
     exact wpS_pure ⟨rfl,lo,rfl,f2,f3,f4⟩
    ·rw [if_neg hg]
     refine wpS_bind (hb _ (by omega) _ ?_)
     dsimp only
     cases hc:bey ρ left key arr base (lo+(hi - lo) / 2) with
     | true =>
      simp only [if_true]
      exact wpS_pure ⟨rfl,_,_,rfl,by omega,f2,by omega,fun i hi'=>hmono i _ (by omega) (by omega) hc,f4⟩
     | false =>
      simp only [Bool.false_eq_true,if_false]
      refine wpS_pure ⟨rfl,_,_,rfl,by omega,by omega,by omega,f3,fun i h1 h2=>?_⟩
      cases hd:bey ρ left key arr base i with
      | false=>rfl
      | true=>rw [hmono _ i h1 h2 hd] at hc;cases hc
   ·rintro c st' ⟨rfl,lo,hi,rfl,f1,f2,f5,f3,f4⟩
    have e:lo=hi:=by omega
    subst e
    exact ⟨rfl,lo,rfl,f2,f3,f4⟩
   ·rintro c st' ⟨rfl,hi,rfl,f2,f3,f4⟩
    exact wpS_pure (h hi f2 f3 f4)
 | false =>
  simp only [Bool.false_eq_true,if_false]
  refine wpS_bind (wpS_mono (wpS_forRange (I:=fun x c st'=>st'=st/\∃la ofs,c=(none,la,ofs)/\la<ofs/\x<ofs/\la<=hint/\bey ρ left key arr base (hint - la)=false)
   (Q:=fun c st'=>st'=st/\∃la ofs,c=(none,la,ofs)/\la<ofs/\la<=hint/\bey ρ left key arr base (hint - la)=false/\(hint+1<=ofs\/ofs<=hint/\bey ρ left key arr base (hint - ofs)=true)) ?_ ?_ ⟨rfl,0,1,rfl,by omega,by omega,by omega,hr⟩) ?_)
  ·rintro x c st' _ hx ⟨rfl,la,ofs,rfl,a1,a2,a3,a4⟩
   dsimp only
   by_cases hg:ofs >= hint+1
   ·rw [if_pos hg]
    exact wpS_pure ⟨rfl,la,ofs,rfl,a1,a3,a4,.inl hg⟩
   ·rw [if_neg hg]
    refine wpS_bind (hb _ (by omega) _ ?_)
    dsimp only
    cases hc:bey ρ left key arr base (hint - ofs) with
    | true =>
     simp only [if_true]
     exact wpS_pure ⟨rfl,la,ofs,rfl,a1,a3,a4,.inr ⟨by omega,hc⟩⟩
    | false =>
     simp only [Bool.false_eq_true,if_false]
     exact wpS_pure ⟨rfl,_,_,rfl,by omega,by omega,by omega,hc⟩
  ·rintro c st' ⟨rfl,la,ofs,rfl,a1,a2,a3,a4⟩
   exact ⟨rfl,la,ofs,rfl,a1,a3,a4,.inl (by omega)⟩
  ·rintro c st' ⟨rfl,la,ofs,rfl,a1,a3,a4,a5⟩
   dsimp only
   have f1:hint+1 - min ofs (hint+1)<=hint - la:=by omega
   have f2:hint - la<=n:=by omega
   have f4:∀i,hint - la<=i->i<n->bey ρ left key arr base i=false:=by
    intro i h1 h2
    cases hd:bey ρ left key arr base i with
    | false=>rfl
    | true=>rw [hmono _ i h1 h2 hd] at a4;cases a4
   have f3:∀i,i<hint+1 - min ofs (hint+1)->bey ρ left key arr base i=true:=by
    intro i hi
    rcases a5 with a5 | ⟨a5,a6⟩
    ·omega
    ·exact hmono i _ (by omega) (by omega) a6
   generalize hint+1 - min ofs (hint+1)=lo at *
   generalize hint - la=hi at *
   refine wpS_bind (wpS_mono (wpS_forRange (I:=fun x c st''=>st''=st'/\∃lo hi,c=(none,lo,hi)/\lo<=hi/\hi<=n/\hi - lo<=n - x/\(∀i,i<lo->bey ρ left key arr base i=true)/\(∀i,hi<=i->i<n->bey ρ left key arr base i=false))
    (Q:=fun c st''=>st''=st'/\∃hi,c=(none,hi,hi)/\hi<=n/\(∀i,i<hi->bey ρ left key arr base i=true)/\(∀i,hi<=i->i<n->bey ρ left key arr base i=false)) ?_ ?_ ⟨rfl,lo,hi,rfl,f1,f2,by omega,f3,f4⟩) ?_)
   ·rintro x c st' _ hx ⟨rfl,lo,hi,rfl,f1,f2,f5,f3,f4⟩
    dsimp only
    by_cases hg:lo >= hi
    ·rw [if_pos hg]
     have e:lo=hi:=by omega
     subst e
     exact wpS_pure ⟨rfl,lo,rfl,f2,f3,f4⟩
    ·rw [if_neg hg]
     refine wpS_bind (hb _ (by omega) _ ?_)
     dsimp only
     cases hc:bey ρ left key arr base (lo+(hi - lo) / 2) with
     | true =>
      simp only [if_true]
      exact wpS_pure ⟨rfl,_,_,rfl,by omega,f2,by omega,fun i hi'=>hmono i _ (by omega) (by omega) hc,f4⟩
     | false =>
      simp only [Bool.false_eq_true,if_false]
      refine wpS_pure ⟨rfl,_,_,rfl,by omega,by omega,by omega,f3,fun i h1 h2=>?_⟩
      cases hd:bey ρ left key arr base i with
      | false=>rfl
      | true=>rw [hmono _ i h1 h2 hd] at hc;cases hc
   ·rintro c st' ⟨rfl,lo,hi,rfl,f1,f2,f5,f3,f4⟩
    have e:lo=hi:=by omega
    subst e
    exact ⟨rfl,lo,rfl,f2,f3,f4⟩
   ·rintro c st' ⟨rfl,hi,rfl,f2,f3,f4⟩
    exact wpS_pure (h hi f2 f3 f4)
end
end VT
end
section
namespace VT
open PySem PyProof.Rows
structure Same (st st':SortSt):Prop where
 kind:kindOf st'=kindOf st
 arr:arrOf st'=arrOf st
 pend:pendingOf st'=pendingOf st
 failed:failedOf st'=failedOf st
theorem Same.refl (st:SortSt):Same st st:=⟨rfl,rfl,rfl,rfl⟩
section
variable {ρ:Keyed->Int} {a b out:Array Keyed} {i j:Nat} {x:Keyed}
theorem ex1 {k:Nat}:(a.extract i (i+k)).toList=(a.toList.drop i).take k:=by
 rw [Array.toList_extract,List.extract_eq_take_drop,show i+k - i=k by omega]
theorem ex2:(a.extract i).toList=a.toList.drop i:=by
 rw [Array.toList_extract,List.extract_eq_take_drop,List.take_of_length_le (by simp)]
theorem kE (hi:i<a.size):Rk ρ a i=ρ a.toList[i]:=cH (by simp [hi])
theorem aH5 (sa:Srt ρ a.toList) (h:i<=j) (hj:j<a.size):Rk ρ a i<=Rk ρ a j:=by
 rw [kE hj,kE (by omega)]
 by_cases e:i=j
 ·subst e;exact Int.le_refl _
 ·exact List.pairwise_iff_getElem.mp sa i j (by simpa using (by omega:i<a.size)) (by simpa using hj) (by omega)
theorem pV (sb:Srt ρ b.toList) (hj:j<b.size):∀y∈b.toList.drop j,Rk ρ b j<=ρ y:=by
 rw [kE hj]
 exact nU sb (by simpa using hj)
theorem pL (sb:Srt ρ b.toList) (hj:j<b.size):∀y∈b.toList.take (j+1),ρ y<=Rk ρ b j:=by
 rw [kE hj]
 intro y hy
 rw [List.take_succ_eq_append_getElem (by simpa using hj)] at hy
 rcases List.mem_append.mp hy with hy | hy
 ·exact sN sb (by simpa using hj) y hy
 ·rw [List.mem_singleton] at hy;subst hy;exact Int.le_refl _
theorem uJ (h:a[i]?=some x):∃hi:i<a.size,x=a.toList[i]:=by
 obtain ⟨hi,e⟩:=Array.getElem?_eq_some_iff.mp h
 exact ⟨hi,by rw [<- e];simp⟩
theorem aAb (v:LInv ρ a.toList b.toList out.toList i j) (sa:Srt ρ a.toList) (sb:Srt ρ b.toList) (hx:a[i]?=some x) (hj:j<b.size) (h:ρ x<=Rk ρ b j):LInv ρ a.toList b.toList (out.push x).toList (i+1) j:=by
 obtain ⟨hi,rfl⟩:=uJ hx
 rw [Array.toList_push]
 exact v.pushA sa (by simpa using hi) fun y hy=>Int.le_trans h (pV sb hj y hy)
theorem aAe (v:LInv ρ a.toList b.toList out.toList i j) (sa:Srt ρ a.toList) (sb:Srt ρ b.toList) (hx:b[j]?=some x) (hi:i<a.size) (h:ρ x<=Rk ρ a i):LInv ρ a.toList b.toList (out.push x).toList i (j+1):=by
 obtain ⟨hj,rfl⟩:=uJ hx
 rw [Array.toList_push]
 exact v.pushB sb (by simpa using hj) fun y hy=>Int.le_trans h (pV sa hi y hy)
theorem aOa {k:Nat} (v:LInv ρ a.toList b.toList out.toList i j) (sa:Srt ρ a.toList) (sb:Srt ρ b.toList) (hk:i+k<=a.size) (hj:j<b.size) (h:∀m,m<k->Rk ρ a (i+m)<=Rk ρ b j):LInv ρ a.toList b.toList (out++a.extract i (i+k)).toList (i+k) j:=by
 rw [Array.toList_append,ex1]
 refine v.yV sa k (by simpa using hk) fun m h1 hm h3 y hy=>Int.le_trans ?_ (pV sb hj y hy)
 have:=h (m - i) (by omega)
 rw [show i+(m - i)=m by omega,kE (by simpa using hm)] at this
 exact this
theorem aNu {k:Nat} (v:LInv ρ a.toList b.toList out.toList i j) (sa:Srt ρ a.toList) (sb:Srt ρ b.toList) (hk:j+k<=b.size) (hi:i<a.size) (h:∀m,m<k->Rk ρ b (j+m)<=Rk ρ a i):LInv ρ a.toList b.toList (out++b.extract j (j+k)).toList i (j+k):=by
 rw [Array.toList_append,ex1]
 refine v.yT sb k (by simpa using hk) fun m h1 hm h3 y hy=>Int.le_trans ?_ (pV sa hi y hy)
 have:=h (m - j) (by omega)
 rw [show j+(m - j)=m by omega,kE (by simpa using hm)] at this
 exact this
def Res (ρ:Keyed->Int) (a b r:Array Keyed):Prop:=r.toList.Perm (a.toList++b.toList)/\Srt ρ r.toList
theorem uL (v:LInv ρ a.toList b.toList out.toList i j) (sa:Srt ρ a.toList) (hj:j=b.size):Res ρ a b (out++a.extract i++b.extract j):=by
 unfold Res
 rw [Array.toList_append,Array.toList_append,ex2,ex2]
 exact v.aHk sa (by simp [hj])
theorem aL5 (v:LInv ρ a.toList b.toList out.toList i j) (sb:Srt ρ b.toList) (hi:i=a.size):Res ρ a b (out++a.extract i++b.extract j):=by
 unfold Res
 rw [Array.toList_append,Array.toList_append,ex2,ex2]
 exact v.aHm sb (by simp [hi])
theorem xU (v:LInv ρ a.toList b.toList out.toList i j) (sb:Srt ρ b.toList) (hi:i+1=a.size) (hl:∀y∈b.toList,ρ y<=Rk ρ a (a.size - 1)):Res ρ a b (out++b.extract j++a.extract i):=by
 unfold Res
 rw [Array.toList_append,Array.toList_append,ex2,ex2]
 refine v.last sb (by simp [hi]) fun y hy=>?_
 have:=hl y hy
 rw [kE (by omega)] at this
 have e:a.size - 1=i:=by omega
 simp only [e] at this
 exact this
theorem kJ {a₀:List Keyed} (ma:∀x∈a.toList,x∈a₀) (sa:Srt ρ a.toList) {n:Nat} (hn:i+n<=a.size):Gal ρ a₀ a i n:=by
 refine ⟨fun m hm=>⟨a.toList[i+m]'(by simp;omega),?_,ma _ (List.getElem_mem _)⟩,fun m k h1 h2=>aH5 sa (by omega) (by omega)⟩
 rw [<- Array.getElem?_toList]
 exact List.getElem?_eq_getElem _
theorem aBf {key:Keyed} (h:bey ρ false key a i j=true):Rk ρ a (i+j)<=ρ key:=by
 unfold bey at h;simp at h;exact h
theorem uD {key:Keyed} (h:bey ρ false key a i j=false):ρ key<=Rk ρ a (i+j):=by
 unfold bey at h;simp at h;omega
theorem aBa {key:Keyed} (h:bey ρ true key a i j=true):Rk ρ a (i+j)<=ρ key:=by
 unfold bey at h;simp at h;omega
theorem uC {key:Keyed} (h:bey ρ true key a i j=false):ρ key<=Rk ρ a (i+j):=by
 unfold bey at h;simp at h;exact h
end
section
variable {prog:Program} {w:World} {A:Around} {E:Y9} {s:Shared} {κ:SortKind} {ρ:Keyed->Int} {a₀:List Keyed} {st:SortSt}
theorem uE {Q:PUnit->SortSt->Prop} {g:Nat} {st₀:SortSt} (hs:Same st₀ st) (h:∀st',Same st₀ st'->Q ⟨⟩ st'):wpS (model prog w) A E s ((sortPriv% PySem.Builtin.setMinGallop) g) Q st :=
 wpS_modify (h _ ⟨hs.kind,hs.arr,hs.pend,hs.failed⟩)
def zS (ρ:Keyed->Int) (a b:Array Keyed) (st:SortSt) (z n:Nat):ForInStep (Option (Array Keyed)×Array Keyed×Nat×Nat×Nat×Nat×Nat)->SortSt->Prop
 | .done c,st'=>Same st st'/\((∃r q,c=(some r,q)/\Res ρ a b r)\/∃out i j mg ac bc,c=(none,out,i,j,mg,ac,bc)/\LInv ρ a.toList b.toList out.toList i j/\i+1<a.size/\j<b.size/\z<=i+j)
 | .yield c,st'=>Same st st'/\∃out i j mg ac bc,c=(none,out,i,j,mg,ac,bc)/\LInv ρ a.toList b.toList out.toList i j/\i+1<a.size/\j<b.size/\n+z<=i+j
theorem wF (C:Cmp prog w A s κ ρ a₀) (hk:kindOf st=κ) {a b:Array Keyed} (ma:∀x∈a.toList,x∈a₀) (mb:∀x∈b.toList,x∈a₀) (sa:Srt ρ a.toList) (sb:Srt ρ b.toList) (ha:0<a.size) (hb:0<b.size)
  (h0:Rk ρ b 0<=Rk ρ a 0) (hl:∀y∈b.toList,ρ y<=Rk ρ a (a.size - 1)) {Q:Array Keyed->SortSt->Prop}
  (h:∀out st',Same st st'->Res ρ a b out->Q out st'):wpS (model prog w) A E s (aE7 a b) Q st:=by
 have ga:∀i,i<a.size->∃x,a[i]?=some x/\x∈a₀:=fun i hi=>by simpa using (kJ (i:=0) ma sa (Nat.le_of_eq (Nat.zero_add _))).mem i hi
 have gb:∀i,i<b.size->∃x,b[i]?=some x/\x∈a₀:=fun i hi=>by simpa using (kJ (i:=0) mb sb (Nat.le_of_eq (Nat.zero_add _))).mem i hi
 refine wpS_bind (wpS_lift (wpAny_rule ⟨rfl,?_⟩))
 obtain ⟨y0,hy0,my0⟩:=gb 0 hb
 refine wpS_bind (bD hy0 ?_)
 have v0:LInv ρ a.toList b.toList (#[y0]:Array Keyed).toList 0 1:=by
  have:LInv ρ a.toList b.toList (#[]:Array Keyed).toList 0 0:=⟨by simp,List.Pairwise.nil,by simp⟩
  exact aAe this sa sb hy0 ha (by rw [<- cH (ρ:=ρ) hy0];exact h0)
 dsimp (config:={zeta:=false}) only
 by_cases c1:1=b.size
 ·rw [if_pos (by simpa using c1)]
  exact wpS_pure (h _ st (Same.refl _) (uL v0 sa c1))
 rw [if_neg (by simpa using c1)]
 by_cases c2:0+1=a.size
 ·rw [if_pos (by simpa using c2)]
  exact wpS_pure (h _ st (Same.refl _) (xU v0 sb c2 hl))
 rw [if_neg (by simpa using c2)]
 refine wpS_bind (wpS_get ?_)
 refine wpS_bind (wpS_mono (wpS_forRange (I:=fun x c st'=>Same st st'/\∃out ia ib mg,c=(none,out,ia,ib,mg)/\LInv ρ a.toList b.toList out.toList ia ib/\ia+1<a.size/\ib<b.size/\x+1<=ia+ib)
  (Q:=fun c st'=>Same st st'/\∃r q,c=(some r,q)/\Res ρ a b r) ?_ ?_ ⟨Same.refl _,_,_,_,_,rfl,v0,by omega,by omega,by omega⟩) ?_)
 rotate_left
 ·rintro c st' ⟨_,out,ia,ib,mg,rfl,v,u1,u2,u3⟩
  omega
 ·rintro c st' ⟨hS,r,q,rfl,hr⟩
  exact wpS_pure (h r st' hS hr)
 rintro x c st1 _ hx ⟨hS,out,ia,ib,mg,rfl,v,u1,u2,u3⟩
 dsimp (config:={zeta:=false}) only
 refine wpS_bind (wpS_mono (wpS_forRange (I:=fun y c st'=>st'=st1/\∃out ia' ib' ac bc,c=(none,out,ia',ib',ac,bc)/\LInv ρ a.toList b.toList out.toList ia' ib'/\ia'+1<a.size/\ib'<b.size/\y+ia+ib<=ia'+ib')
  (Q:=fun c st'=>st'=st1/\((∃r q,c=(some r,q)/\Res ρ a b r)\/∃out ia' ib' ac bc,c=(none,out,ia',ib',ac,bc)/\LInv ρ a.toList b.toList out.toList ia' ib'/\ia'+1<a.size/\ib'<b.size/\ia+ib+1<=ia'+ib')) ?_ ?_ ⟨rfl,_,_,_,_,_,rfl,v,u1,u2,by dsimp only;omega⟩) ?_)
 ·rintro y c st' _ hy ⟨rfl,out,ia',ib',ac,bc,rfl,v,u1,u2,u3⟩
  dsimp (config:={zeta:=false}) only
  obtain ⟨xb,hxb,mxb⟩:=gb ib' u2
  obtain ⟨xa,hxa,mxa⟩:=ga ia' (by omega)
  refine wpS_bind (bD hxb (wpS_bind (bD hxa (wpS_bind (mW C (hS.kind.trans hk) mxb mxa ?_)))))
  by_cases hlt:ρ xb < ρ xa
  ·simp only [hlt,decide_true,if_true]
   have v':=aAe v sa sb hxb (by omega) (by rw [cH hxa];omega)
   refine wpS_bind (bD hxb ?_)
   by_cases e1:ib'+1=b.size
   ·rw [if_pos (by simpa using e1)]
    exact wpS_pure ⟨rfl,.inl ⟨_,_,rfl,uL v' sa e1⟩⟩
   ·rw [if_neg (by simpa using e1)]
    split
    ·exact wpS_pure ⟨rfl,.inr ⟨_,_,_,_,_,rfl,v',u1,by omega,by omega⟩⟩
    ·exact wpS_pure ⟨rfl,_,_,_,_,_,rfl,v',u1,by omega,by omega⟩
  ·simp only [hlt,decide_false,Bool.false_eq_true,if_false]
   have v':=aAb v sa sb hxa u2 (by rw [cH hxb];omega)
   refine wpS_bind (bD hxa ?_)
   by_cases e1:ia'+1+1=a.size
   ·rw [if_pos (by simpa using e1)]
    exact wpS_pure ⟨rfl,.inl ⟨_,_,rfl,xU v' sb e1 hl⟩⟩
   ·rw [if_neg (by simpa using e1)]
    split
    ·exact wpS_pure ⟨rfl,.inr ⟨_,_,_,_,_,rfl,v',by omega,by omega,by omega⟩⟩
    ·exact wpS_pure ⟨rfl,_,_,_,_,_,rfl,v',by omega,by omega,by omega⟩
 ·rintro c st' ⟨rfl,out,ia',ib',ac,bc,rfl,v,u1,u2,u3⟩
  omega
 rintro c st' ⟨rfl,⟨r,q,rfl,hr⟩ | ⟨out,ia1,ib1,ac,bc,rfl,v,u1,u2,u4⟩⟩
 ·exact wpS_pure ⟨hS,_,_,rfl,hr⟩
 dsimp (config:={zeta:=false}) only
 refine wpS_bind (wpS_lift (wpAny_rule ⟨rfl,?_⟩))
 refine wpS_bind (wpS_mono (wpS_forRange (I:=fun y c st'=>Same st st'/\∃out ia' ib' mg ac bc,c=(none,out,ia',ib',mg,ac,bc)/\LInv ρ a.toList b.toList out.toList ia' ib'/\ia'+1<a.size/\ib'<b.size/\y+ia1+ib1<=ia'+ib')
  (Q:=fun c st'=>Same st st'/\((∃r q,c=(some r,q)/\Res ρ a b r)\/∃out ia' ib' mg ac bc,c=(none,out,ia',ib',mg,ac,bc)/\LInv ρ a.toList b.toList out.toList ia' ib'/\ia'+1<a.size/\ib'<b.size/\ia1+ib1<=ia'+ib')) ?_ ?_ ⟨hS,_,_,_,_,_,_,rfl,v,u1,u2,by dsimp only;omega⟩) ?_)
 rotate_left
 ·rintro c st' ⟨_,out,ia',ib',mg,ac,bc,rfl,v,u1,u2,u3⟩
  omega
 ·rintro c st' ⟨hS',⟨r,q,rfl,hr⟩ | ⟨out,ia2,ib2,mg,ac,bc,rfl,v,u1,u2,u5⟩⟩
  ·exact wpS_pure ⟨hS',_,_,rfl,hr⟩
  ·dsimp (config:={zeta:=false}) only
   exact wpS_bind (uE hS' fun st'' hS''=>wpS_pure ⟨hS'',_,_,_,_,rfl,v,u1,u2,by dsimp only;omega⟩)
 rintro y c st2 _ hy ⟨hS2,out,i2,j2,mg,ac,bc,rfl,v,w1,w2,w3⟩
 refine wpS_mono (Q:=zS ρ a b st (ia1+ib1) (y+1)) ?_ ?_
 rotate_left
 ·intro r st' hr
  cases r with
  | done c=>exact hr
  | yield c =>
   obtain ⟨q1,out,i,j,m1,m2,m3,q2,q3,q4,q5,q6⟩:=hr
   exact ⟨q1,out,i,j,m1,m2,m3,q2,q3,q4,q5,by omega⟩
 dsimp (config:={zeta:=false}) only
 extract_lets z1 o1 z2 i3 z3 j3 z4 mg3 z5 ac3 bc3 j5 jp mg5
 have E1:z3.fst=j2:=rfl
 have E2:z2.fst=i2:=rfl
 have hjp:∀g,wpS (model prog w) A E s (jp () g) (zS ρ a b st (ia1+ib1) (y+1)) st2:=by
  intro g
  refine wpS_bind (uE hS2 fun st3 hS3=>?_)
  obtain ⟨xb,hxb,mxb⟩:=gb j2 w2
  refine wpS_bind (bD hxb (wpS_bind (fO (base:=i2) (n:=a.size - i2) (hint:=0) C (hS3.kind.trans hk) mxb (kJ (i:=i2) ma sa (by omega)) (by omega) fun k k1 k2 k3=>?_)))
  dsimp (config:={zeta:=false}) only
  extract_lets ac4 jp2 o6 i6
  have hjp2:∀out i4,LInv ρ a.toList b.toList out.toList i4 j2->i4+1<a.size->ρ xb<=Rk ρ a i4->i2<=i4->wpS (model prog w) A E s (jp2 () out i4) (zS ρ a b st (ia1+ib1) (y+1)) st3:=by
   intro out i4 v e1 e2 e3
   refine wpS_bind (bD hxb ?_)
   have v':=aAe v sa sb hxb (by omega) e2
   dsimp only
   by_cases e4:j2+1=b.size
   ·rw [if_pos (by simpa using e4)]
    exact wpS_pure ⟨hS3,.inl ⟨_,_,rfl,uL v' sa e4⟩⟩
   rw [if_neg (by simpa using e4)]
   obtain ⟨xa,hxa,mxa⟩:=ga i4 (by omega)
   refine wpS_bind (bD hxa (wpS_bind (fO (base:=j2+1) (n:=b.size - (j2+1)) (hint:=0) C (hS3.kind.trans hk) mxa (kJ (i:=j2+1) mb sb (by omega)) (by omega) fun m m1 m2 m3=>?_)))
   dsimp only
   by_cases e5:m > 0
   ·rw [if_pos e5]
    have v2:=aNu (k:=m) v' sa sb (by omega) (show i4<a.size by omega) fun q hq=>by rw [cH hxa];exact aBa (m2 q hq)
    by_cases e6:j2+1+m=b.size
    ·rw [if_pos (by simpa using e6)]
     exact wpS_pure ⟨hS3,.inl ⟨_,_,rfl,uL v2 sa e6⟩⟩
    rw [if_neg (by simpa using e6)]
    refine wpS_bind (bD hxa ?_)
    have v3:=aAb v2 sa sb hxa (by omega) (uC (m3 m (Nat.le_refl _) (by omega)))
    by_cases e7:i4+1+1=a.size
    ·rw [if_pos (by simpa using e7)]
     exact wpS_pure ⟨hS3,.inl ⟨_,_,rfl,xU v3 sb e7 hl⟩⟩
    rw [if_neg (by simpa using e7)]
    split
    ·exact wpS_pure ⟨hS3,.inr ⟨_,_,_,_,_,_,rfl,v3,by omega,by omega,by omega⟩⟩
    ·exact wpS_pure ⟨hS3,_,_,_,_,_,_,rfl,v3,by omega,by omega,by omega⟩
   ·rw [if_neg e5]
    have e6:m=0:=by omega
    subst e6
    refine wpS_bind (bD hxa ?_)
    have v3:=aAb v' sa sb hxa (by omega) (uC (m3 0 (Nat.le_refl _) (by omega)))
    by_cases e7:i4+1+1=a.size
    ·rw [if_pos (by simpa using e7)]
     exact wpS_pure ⟨hS3,.inl ⟨_,_,rfl,xU v3 sb e7 hl⟩⟩
    rw [if_neg (by simpa using e7)]
    split
    ·exact wpS_pure ⟨hS3,.inr ⟨_,_,_,_,_,_,rfl,v3,by omega,by omega,by omega⟩⟩
    ·exact wpS_pure ⟨hS3,_,_,_,_,_,_,rfl,v3,by omega,by omega,by omega⟩
  clear_value jp2
  dsimp only [i6,o6,i3,j3,o1,z1,z2,z3]
  by_cases e5:k > 0
  ·rw [if_pos e5]
   have v2:=aOa (k:=k) v sa sb (by omega) w2 fun q hq=>by rw [cH hxb];exact aBf (k2 q hq)
   by_cases e6:i2+k+1=a.size
   ·rw [if_pos (by simpa using e6)]
    exact wpS_pure ⟨hS3,.inl ⟨_,_,rfl,xU v2 sb e6 hl⟩⟩
   rw [if_neg (by simpa using e6)]
   by_cases e7:i2+k=a.size
   ·rw [if_pos (by simpa using e7)]
    exact wpS_pure ⟨hS3,.inl ⟨_,_,rfl,aL5 v2 sb e7⟩⟩
   rw [if_neg (by simpa using e7)]
   exact hjp2 _ _ v2 (by omega) (uD (k3 k (Nat.le_refl _) (by omega))) (by omega)
  ·rw [if_neg e5]
   have e6:k=0:=by omega
   subst e6
   exact hjp2 _ _ v (by omega) (uD (k3 0 (Nat.le_refl _) (by omega))) (by omega)
 clear_value jp
 split
 ·exact hjp _
 ·exact hjp _
end
end VT
end
section
namespace VT
open PySem PyProof.Rows
section
variable {ρ:Keyed->Int} {a b out:Array Keyed} {i j:Nat} {x:Keyed}
theorem ex3 {n:Nat}:(a.extract i n).toList=(a.toList.drop i).take (n - i):=by
 rw [Array.toList_extract,List.extract_eq_take_drop]
theorem ex4 {n:Nat}:(a.extract 0 n).toList=a.toList.take n:=by
 rw [ex3,List.drop_zero,Nat.sub_zero]
theorem pR (v:HInv ρ a.toList b.toList out.toList (i+1) j) (sa:Srt ρ a.toList) (sb:Srt ρ b.toList) (hx:a[i]?=some x) (hj:0<j) (hj2:j<=b.size) (h:Rk ρ b (j - 1)<=ρ x):HInv ρ a.toList b.toList (out.push x).toList i j:=by
 obtain ⟨hi,rfl⟩:=uJ hx
 rw [Array.toList_push]
 refine v.pushA sa (by simpa using hi) fun y hy=>Int.le_trans ?_ h
 exact pL sb (by omega) y (by rw [show j - 1+1=j by omega];exact hy)
theorem aB4 (v:HInv ρ a.toList b.toList out.toList i (j+1)) (sa:Srt ρ a.toList) (sb:Srt ρ b.toList) (hx:b[j]?=some x) (hi:0<i) (hi2:i<=a.size) (h:Rk ρ a (i - 1)<=ρ x):HInv ρ a.toList b.toList (out.push x).toList i j:=by
 obtain ⟨hj,rfl⟩:=uJ hx
 rw [Array.toList_push]
 refine v.pushB sb (by simpa using hj) fun y hy=>Int.le_trans ?_ h
 exact pL sa (by omega) y (by rw [show i - 1+1=i by omega];exact hy)
theorem aIl {n:Nat} (v:HInv ρ a.toList b.toList out.toList n j) (sa:Srt ρ a.toList) (sb:Srt ρ b.toList) (hin:i<=n) (hn:n<=a.size) (hj:0<j) (hj2:j<=b.size) (h:∀m,i<=m->m<n->Rk ρ b (j - 1)<=Rk ρ a m):HInv ρ a.toList b.toList (out++(a.extract i n).reverse).toList i j:=by
 rw [Array.toList_append,Array.toList_reverse,ex3]
 refine HInv.yV sa (n - i) (by rw [show i+(n - i)=n by omega];exact v) (by simp;omega) fun m h1 hm h3 y hy=>?_
 have q:=h m h1 (by omega)
 rw [kE (a:=a) (i:=m) (by simpa using hm)] at q
 refine Int.le_trans ?_ q
 exact pL sb (by omega) y (by rw [show j - 1+1=j by omega];exact hy)
theorem aJd {n:Nat} (v:HInv ρ a.toList b.toList out.toList i n) (sa:Srt ρ a.toList) (sb:Srt ρ b.toList) (hin:j<=n) (hn:n<=b.size) (hi:0<i) (hi2:i<=a.size) (h:∀m,j<=m->m<n->Rk ρ a (i - 1)<=Rk ρ b m):HInv ρ a.toList b.toList (out++(b.extract j n).reverse).toList i j:=by
 rw [Array.toList_append,Array.toList_reverse,ex3]
 refine HInv.yT sb (n - j) (by rw [show j+(n - j)=n by omega];exact v) (by simp;omega) fun m h1 hm h3 y hy=>?_
 have q:=h m h1 (by omega)
 rw [kE (a:=b) (i:=m) (by simpa using hm)] at q
 refine Int.le_trans ?_ q
 exact pL sa (by omega) y (by rw [show i - 1+1=i by omega];exact hy)
theorem nA (v:HInv ρ a.toList b.toList out.toList i j) (sb:Srt ρ b.toList) (hi:i=0):Res ρ a b (a.extract 0 i++b.extract 0 j++out.reverse):=by
 subst hi
 unfold Res
 rw [Array.toList_append,Array.toList_append,ex4,ex4,Array.toList_reverse,List.take_zero,List.nil_append]
 exact v.aHm sb
theorem aH3 (v:HInv ρ a.toList b.toList out.toList i j) (sa:Srt ρ a.toList) (hj:j=0):Res ρ a b (a.extract 0 i++b.extract 0 j++out.reverse):=by
 subst hj
 unfold Res
 rw [Array.toList_append,Array.toList_append,ex4,ex4,Array.toList_reverse,List.take_zero,List.append_nil]
 exact v.aHk sa
theorem pO (v:HInv ρ a.toList b.toList out.toList i j) (sa:Srt ρ a.toList) (hb:0<b.size) (hj:j=1) (h0:∀y∈a.toList,Rk ρ b 0<=ρ y):Res ρ a b (b.extract 0 j++a.extract 0 i++out.reverse):=by
 subst hj
 unfold Res
 rw [Array.toList_append,Array.toList_append,ex4,ex4,Array.toList_reverse]
 refine v.first sa (by simpa using hb) fun y hy=>?_
 have:=h0 y hy
 rw [kE hb] at this
 exact this
end
section
variable {prog:Program} {w:World} {A:Around} {E:Y9} {s:Shared} {κ:SortKind} {ρ:Keyed->Int} {a₀:List Keyed} {st:SortSt}
def zQ (ρ:Keyed->Int) (a b:Array Keyed) (st:SortSt) (z n:Nat):ForInStep (Option (Array Keyed)×Nat×Nat×Array Keyed×Nat×Nat×Nat)->SortSt->Prop
 | .done c,st'=>Same st st'/\((∃r q,c=(some r,q)/\Res ρ a b r)\/∃out i j mg ac bc,c=(none,i,j,out,mg,ac,bc)/\HInv ρ a.toList b.toList out.toList i j/\0<i/\1<j/\i<=a.size/\j<=b.size/\i+j<=z)
 | .yield c,st'=>Same st st'/\∃out i j mg ac bc,c=(none,i,j,out,mg,ac,bc)/\HInv ρ a.toList b.toList out.toList i j/\0<i/\1<j/\i<=a.size/\j<=b.size/\n+i+j<=z
theorem yM (C:Cmp prog w A s κ ρ a₀) (hk:kindOf st=κ) {a b:Array Keyed} (ma:∀x∈a.toList,x∈a₀) (mb:∀x∈b.toList,x∈a₀) (sa:Srt ρ a.toList) (sb:Srt ρ b.toList) (ha:0<a.size) (hb:0<b.size)
  (h0:∀y∈a.toList,Rk ρ b 0<=ρ y) (hl:Rk ρ b (b.size - 1)<=Rk ρ a (a.size - 1)) {Q:Array Keyed->SortSt->Prop}
  (h:∀out st',Same st st'->Res ρ a b out->Q out st'):wpS (model prog w) A E s (aFc a b) Q st:=by
 have ga:∀i,i<a.size->∃x,a[i]?=some x/\x∈a₀:=fun i hi=>by simpa using (kJ (i:=0) ma sa (Nat.le_of_eq (Nat.zero_add _))).mem i hi
 have gb:∀i,i<b.size->∃x,b[i]?=some x/\x∈a₀:=fun i hi=>by simpa using (kJ (i:=0) mb sb (Nat.le_of_eq (Nat.zero_add _))).mem i hi
 refine wpS_bind (wpS_lift (wpAny_rule ⟨rfl,?_⟩))
 obtain ⟨y0,hy0,my0⟩:=ga (a.size - 1) (by omega)
 refine wpS_bind (bD hy0 ?_)
 have v0:HInv ρ a.toList b.toList (#[y0]:Array Keyed).toList (a.size - 1) b.size:=by
  have:HInv ρ a.toList b.toList (#[]:Array Keyed).toList (a.size - 1+1) b.size:=⟨by rw [show a.size - 1+1=a.size by omega];simp,List.Pairwise.nil,by simp⟩
  exact pR this sa sb hy0 hb (Nat.le_refl _) (by rw [<- cH (ρ:=ρ) hy0];exact hl)
 dsimp (config:={zeta:=false}) only
 by_cases c1:a.size - 1=0
 ·rw [if_pos (by simpa using c1)]
  exact wpS_pure (h _ st (Same.refl _) (nA v0 sb c1))
 rw [if_neg (by simpa using c1)]
 by_cases c2:b.size=1
 ·rw [if_pos (by simpa using c2)]
  exact wpS_pure (h _ st (Same.refl _) (pO v0 sa hb c2 h0))
 rw [if_neg (by simpa using c2)]
 refine wpS_bind (wpS_get ?_)
 refine wpS_bind (wpS_mono (wpS_forRange (I:=fun x c st'=>Same st st'/\∃out ia ib mg,c=(none,ia,ib,out,mg)/\HInv ρ a.toList b.toList out.toList ia ib/\0<ia/\1<ib/\ia<=a.size/\ib<=b.size/\x+1+ia+ib<=a.size+b.size)
  (Q:=fun c st'=>Same st st'/\∃r q,c=(some r,q)/\Res ρ a b r) ?_ ?_ ⟨Same.refl _,_,_,_,_,rfl,v0,by omega,by omega,by omega,by omega,by omega⟩) ?_)
 rotate_left
 ·rintro c st' ⟨_,out,ia,ib,mg,rfl,v,u1,u2,u3⟩
  omega
 ·rintro c st' ⟨hS,r,q,rfl,hr⟩
  exact wpS_pure (h r st' hS hr)
 rintro x c st1 _ hx ⟨hS,out,ia,ib,mg,rfl,v,u1,u2,u3,u4,u5⟩
 dsimp (config:={zeta:=false}) only
 refine wpS_bind (wpS_mono (wpS_forRange (I:=fun y c st'=>st'=st1/\∃out ia' ib' ac bc,c=(none,ia',ib',out,ac,bc)/\HInv ρ a.toList b.toList out.toList ia' ib'/\0<ia'/\1<ib'/\ia'<=a.size/\ib'<=b.size/\y+ia'+ib'<=ia+ib)
  (Q:=fun c st'=>st'=st1/\((∃r q,c=(some r,q)/\Res ρ a b r)\/∃out ia' ib' ac bc,c=(none,ia',ib',out,ac,bc)/\HInv ρ a.toList b.toList out.toList ia' ib'/\0<ia'/\1<ib'/\ia'<=a.size/\ib'<=b.size/\ia'+ib'+1<=ia+ib)) ?_ ?_ ⟨rfl,_,_,_,_,_,rfl,v,u1,u2,u3,u4,by dsimp only;omega⟩) ?_)
 ·rintro y c st' _ hy ⟨rfl,out,ia',ib',ac,bc,rfl,v,u1,u2,u3,u4,u6⟩
  dsimp (config:={zeta:=false}) only
  obtain ⟨xb,hxb,mxb⟩:=gb (ib' - 1) (by omega)
  obtain ⟨xa,hxa,mxa⟩:=ga (ia' - 1) (by omega)
  refine wpS_bind (bD hxb (wpS_bind (bD hxa (wpS_bind (mW C (hS.kind.trans hk) mxb mxa ?_)))))
  by_cases hlt:ρ xb < ρ xa
  ·simp only [hlt,decide_true,if_true]
   have v':=pR (i:=ia' - 1) (by rw [show ia' - 1+1=ia' by omega];exact v) sa sb hxa (by omega) u4 (by rw [cH hxb];omega)
   refine wpS_bind (bD hxa ?_)
   by_cases e1:ia' - 1=0
   ·rw [if_pos (by simpa using e1)]
    exact wpS_pure ⟨rfl,.inl ⟨_,_,rfl,nA v' sb e1⟩⟩
   ·rw [if_neg (by simpa using e1)]
    split
    ·exact wpS_pure ⟨rfl,.inr ⟨_,_,_,_,_,rfl,v',by omega,by omega,by omega,by omega,by omega⟩⟩
    ·exact wpS_pure ⟨rfl,_,_,_,_,_,rfl,v',by omega,by omega,by omega,by omega,by omega⟩
  ·simp only [hlt,decide_false,Bool.false_eq_true,if_false]
   have v':=aB4 (j:=ib' - 1) (by rw [show ib' - 1+1=ib' by omega];exact v) sa sb hxb (by omega) u3 (by rw [cH hxa];omega)
   refine wpS_bind (bD hxb ?_)
   by_cases e1:ib' - 1=1
   ·rw [if_pos (by simpa using e1)]
    exact wpS_pure ⟨rfl,.inl ⟨_,_,rfl,pO v' sa hb e1 h0⟩⟩
   ·rw [if_neg (by simpa using e1)]
    split
    ·exact wpS_pure ⟨rfl,.inr ⟨_,_,_,_,_,rfl,v',by omega,by omega,by omega,by omega,by omega⟩⟩
    ·exact wpS_pure ⟨rfl,_,_,_,_,_,rfl,v',by omega,by omega,by omega,by omega,by omega⟩
 ·rintro c st' ⟨rfl,out,ia',ib',ac,bc,rfl,v,u1,u2,u3⟩
  omega
 rintro c st' ⟨rfl,⟨r,q,rfl,hr⟩ | ⟨out,ia1,ib1,ac,bc,rfl,v,u1,u2,u3,u4,u6⟩⟩
 ·exact wpS_pure ⟨hS,_,_,rfl,hr⟩
 dsimp (config:={zeta:=false}) only
 refine wpS_bind (wpS_lift (wpAny_rule ⟨rfl,?_⟩))
 refine wpS_bind (wpS_mono (wpS_forRange (I:=fun y c st'=>Same st st'/\∃out ia' ib' mg ac bc,c=(none,ia',ib',out,mg,ac,bc)/\HInv ρ a.toList b.toList out.toList ia' ib'/\0<ia'/\1<ib'/\ia'<=a.size/\ib'<=b.size/\y+ia'+ib'<=ia1+ib1)
  (Q:=fun c st'=>Same st st'/\((∃r q,c=(some r,q)/\Res ρ a b r)\/∃out ia' ib' mg ac bc,c=(none,ia',ib',out,mg,ac,bc)/\HInv ρ a.toList b.toList out.toList ia' ib'/\0<ia'/\1<ib'/\ia'<=a.size/\ib'<=b.size/\ia'+ib'<=ia1+ib1)) ?_ ?_ ⟨hS,_,_,_,_,_,_,rfl,v,u1,u2,u3,u4,by dsimp only;omega⟩) ?_)
 rotate_left
 ·rintro c st' ⟨_,out,ia',ib',mg,ac,bc,rfl,v,u1,u2,u3⟩
  omega
 ·rintro c st' ⟨hS',⟨r,q,rfl,hr⟩ | ⟨out,ia2,ib2,mg,ac,bc,rfl,v,u1,u2,u3,u4,u7⟩⟩
  ·exact wpS_pure ⟨hS',_,_,rfl,hr⟩
  ·dsimp (config:={zeta:=false}) only
   exact wpS_bind (uE hS' fun st'' hS''=>wpS_pure ⟨hS'',_,_,_,_,rfl,v,u1,u2,u3,u4,by dsimp only;omega⟩)
 rintro y c st2 _ hy ⟨hS2,out,i2,j2,mg,ac,bc,rfl,v,w1,w2,w3,w4,w5⟩
 refine wpS_mono (Q:=zQ ρ a b st (ia1+ib1) (y+1)) ?_ ?_
 rotate_left
 ·intro r st' hr
  cases r with
  | done c=>exact hr
  | yield c=>exact hr
 dsimp (config:={zeta:=false}) only
 extract_lets z1 i3 z2 j3 z3 o1 z4 mg3 z5 ac3 bc3 j5 jp mg5
 have E1:z2.fst=j2:=rfl
 have E2:z1.fst=i2:=rfl
 have hjp:∀g,wpS (model prog w) A E s (jp () g) (zQ ρ a b st (ia1+ib1) (y+1)) st2:=by
  intro g
  refine wpS_bind (uE hS2 fun st3 hS3=>?_)
  obtain ⟨xb,hxb,mxb⟩:=gb (j2 - 1) (by omega)
  refine wpS_bind (bD hxb (wpS_bind (fO (base:=0) (n:=i2) (hint:=i2 - 1) C (hS3.kind.trans hk) mxb (kJ (i:=0) ma sa (by omega)) (by omega) fun k k1 k2 k3=>?_)))
  dsimp (config:={zeta:=false}) only
  extract_lets kk ac4 jp2 o6 i6
  have hjp2:∀i4 out,HInv ρ a.toList b.toList out.toList i4 j2->0<i4->Rk ρ a (i4 - 1)<=ρ xb->i4<=i2->wpS (model prog w) A E s (jp2 () i4 out) (zQ ρ a b st (ia1+ib1) (y+1)) st3:=by
   intro i4 out v e1 e2 e3
   refine wpS_bind (bD hxb ?_)
   have v':=aB4 (j:=j2 - 1) (by rw [show j2 - 1+1=j2 by omega];exact v) sa sb hxb (by omega) (by omega) e2
   dsimp only [j5,j3,z2,z1]
   by_cases e4:j2 - 1=1
   ·rw [if_pos (by simpa using e4)]
    exact wpS_pure ⟨hS3,.inl ⟨_,_,rfl,pO v' sa hb e4 h0⟩⟩
   rw [if_neg (by simpa using e4)]
   obtain ⟨xa,hxa,mxa⟩:=ga (i4 - 1) (by omega)
   refine wpS_bind (bD hxa (wpS_bind (fO (base:=0) (n:=j2 - 1) (hint:=j2 - 1 - 1) C (hS3.kind.trans hk) mxa (kJ (i:=0) mb sb (by omega)) (by omega) fun m m1 m2 m3=>?_)))
   dsimp only
   by_cases e5:j2 - 1 - m > 0
   ·rw [if_pos e5]
    have v2:=aJd (j:=m) v' sa sb (by omega) (by omega) e1 (by omega) fun q hq hq2=>by rw [cH hxa];have:=uC (m3 q hq hq2);rwa [Nat.zero_add] at this
    by_cases e6:m=1
    ·rw [if_pos (by simpa using e6)]
     exact wpS_pure ⟨hS3,.inl ⟨_,_,rfl,pO v2 sa hb e6 h0⟩⟩
    rw [if_neg (by simpa using e6)]
    by_cases e8:m=0
    ·rw [if_pos (by simpa using e8)]
     exact wpS_pure ⟨hS3,.inl ⟨_,_,rfl,aH3 v2 sa e8⟩⟩
    rw [if_neg (by simpa using e8)]
    refine wpS_bind (bD hxa ?_)
    have v3:=pR (i:=i4 - 1) (by rw [show i4 - 1+1=i4 by omega];exact v2) sa sb hxa (by omega) (by omega) (by have:=aBa (m2 (m - 1) (by omega));rwa [Nat.zero_add] at this)
    by_cases e7:i4 - 1=0
    ·rw [if_pos (by simpa using e7)]
     exact wpS_pure ⟨hS3,.inl ⟨_,_,rfl,nA v3 sb e7⟩⟩
    rw [if_neg (by simpa using e7)]
    split
    ·exact wpS_pure ⟨hS3,.inr ⟨_,_,_,_,_,_,rfl,v3,by omega,by omega,by omega,by omega,by omega⟩⟩
    ·exact wpS_pure ⟨hS3,_,_,_,_,_,_,rfl,v3,by omega,by omega,by omega,by omega,by omega⟩
   ·rw [if_neg e5]
    have e6:m=j2 - 1:=by omega
    subst e6
    refine wpS_bind (bD hxa ?_)
    have v3:=pR (i:=i4 - 1) (by rw [show i4 - 1+1=i4 by omega];exact v') sa sb hxa (by omega) (by omega) (by have:=aBa (m2 (j2 - 1 - 1) (by omega));rwa [Nat.zero_add] at this)
    by_cases e7:i4 - 1=0
    ·rw [if_pos (by simpa using e7)]
     exact wpS_pure ⟨hS3,.inl ⟨_,_,rfl,nA v3 sb e7⟩⟩
    rw [if_neg (by simpa using e7)]
    split
    ·exact wpS_pure ⟨hS3,.inr ⟨_,_,_,_,_,_,rfl,v3,by omega,by omega,by omega,by omega,by omega⟩⟩
    ·exact wpS_pure ⟨hS3,_,_,_,_,_,_,rfl,v3,by omega,by omega,by omega,by omega,by omega⟩
  clear_value jp2
  dsimp only [kk,i6,o6,i3,j3,o1,z1,z2,z3]
  by_cases e5:i2 - k > 0
  ·rw [if_pos e5]
   have v2:=aIl (i:=k) v sa sb (by omega) (by omega) (by omega) w4 fun q hq hq2=>by rw [cH hxb];have:=uD (k3 q hq hq2);rwa [Nat.zero_add] at this
   by_cases e6:k=0
   ·rw [if_pos (by simpa using e6)]
    exact wpS_pure ⟨hS3,.inl ⟨_,_,rfl,nA v2 sb e6⟩⟩
   rw [if_neg (by simpa using e6)]
   exact hjp2 _ _ v2 (by omega) (by have:=aBf (k2 (k - 1) (by omega));rwa [Nat.zero_add] at this) (by omega)
  ·rw [if_neg e5]
   have e6:k=i2:=by omega
   subst e6
   exact hjp2 _ _ v (by omega) (by have:=aBf (k2 (k - 1) (by omega));rwa [Nat.zero_add] at this) (by omega)
 clear_value jp
 split
 ·exact hjp _
 ·exact hjp _
end
end VT
end
section
namespace VT
section
variable {α:Type}
theorem aG9 (sa:Nat):∀(l:List α) (k:Nat) (xs:Array α) (m:Nat),sa+k+l.length<=xs.size ->
  ((l.zipIdx k).foldl (fun a (x:α×Nat)=>a.setIfInBounds (sa+x.2) x.1) xs)[m]?=if sa+k<=m/\m<sa+k+l.length then l[m - (sa+k)]? else xs[m]?
 | [],k,xs,m,_=>by
  rw [if_neg (by simp)];rfl
 | p::l,k,xs,m,h=>by
  rw [List.length_cons] at h
  rw [List.zipIdx_cons,List.foldl_cons,aG9 sa l (k+1) _ m (by rw [Array.size_setIfInBounds];omega)]
  rw [List.length_cons]
  by_cases h1:m=sa+k
  ·subst h1
   rw [if_neg (by omega),if_pos (by omega)]
   rw [Array.getElem?_setIfInBounds,if_pos rfl,if_pos (show sa+k<xs.size by omega)]
   simp
  ·by_cases h2:sa+(k+1)<=m/\m<sa+(k+1)+l.length
   ·rw [if_pos h2,if_pos (by omega)]
    rw [show m - (sa+k)=(m - (sa+(k+1)))+1 by omega]
    simp
   ·rw [if_neg h2,if_neg (by omega)]
    rw [Array.getElem?_setIfInBounds]
    rw [if_neg (by show ¬ sa+k=m;omega)]
theorem aHx (L1 M M' L2:List α) (xs:Array α) (h:xs.toList=L1++M++L2) (hl:M'.length=M.length) :
  (M'.zipIdx.foldl (fun a (x:α×Nat)=>a.setIfInBounds (L1.length+x.2) x.1) xs).toList=L1++M'++L2:=by
 have hz:xs.size=L1.length+M.length+L2.length:=by rw [<- Array.length_toList,h];simp [Nat.add_assoc]
 apply List.ext_getElem?
 intro m
 rw [Array.getElem?_toList,aG9 L1.length M' 0 xs m (by omega),<- Array.getElem?_toList,h]
 rw [Nat.add_zero]
 by_cases h1:m<L1.length
 ·rw [if_neg (by omega),List.append_assoc,List.append_assoc,List.getElem?_append_left h1,List.getElem?_append_left h1]
 ·by_cases h2:m<L1.length+M'.length
  ·rw [if_pos (by omega),List.append_assoc,List.getElem?_append_right (by omega),List.getElem?_append_left (by omega)]
  ·rw [if_neg (by omega),List.getElem?_append_right (by simp;omega),List.getElem?_append_right (by simp;omega)]
   simp [hl]
end
end VT
end
section
namespace VT
section
variable {α:Type} {ρ:α->Int}
abbrev Pn:=Nat×Nat×Nat
def Pd (ρ:α->Int):Nat->List (List α)->List Pn->Prop
 | _,[],[]=>True
 | s,g::gs,p::ps=>p.1=s/\p.2.1=g.length/\g ≠ []/\Srt ρ g/\Pd ρ (s+g.length) gs ps
 | _,[],_::_=>False
 | _,_::_,[]=>False
theorem Pd.len:∀ {s:Nat} {gs:List (List α)} {ps:List Pn},Pd ρ s gs ps->gs.length=ps.length
 | _,[],[],_=>rfl
 | _,_::_,_::_,h=>by rw [List.length_cons,List.length_cons,Pd.len h.2.2.2.2]
 | _,[],_::_,h=>h.elim
 | _,_::_,[],h=>h.elim
theorem Pd.count:∀ {s:Nat} {gs:List (List α)} {ps:List Pn},Pd ρ s gs ps->gs.length<=gs.flatten.length
 | _,[],[],_=>by simp
 | _,g::gs,_::_,h=>by
  have:=Pd.count h.2.2.2.2
  have h2:=List.length_pos_iff.mpr h.2.2.1
  rw [List.flatten_cons,List.length_append,List.length_cons]
  omega
 | _,[],_::_,h=>h.elim
 | _,_::_,[],h=>h.elim
theorem Pd.same:∀ {s:Nat} {gs:List (List α)} {ps qs:List Pn},Pd ρ s gs ps->ps.map (fun p=>(p.1,p.2.1))=qs.map (fun p=>(p.1,p.2.1))->Pd ρ s gs qs
 | _,[],[],[],_,_=>trivial
 | _,[],[],_::_,_,e=>by simp at e
 | _,_::_,_::_,[],_,e=>by simp at e
 | _,_::_,p::ps,q::qs,h,e=>by
  rw [List.map_cons,List.map_cons] at e
  obtain ⟨e1,e2⟩:=List.cons.inj e
  have e3:p.1=q.1:=(Prod.mk.inj e1).1
  have e4:p.2.1=q.2.1:=(Prod.mk.inj e1).2
  exact ⟨e3.symm.trans h.1,e4.symm.trans h.2.1,h.2.2.1,h.2.2.2.1,Pd.same h.2.2.2.2 e2⟩
 | _,[],_::_,_,h,_=>h.elim
 | _,_::_,[],_,h,_=>h.elim
theorem Pd.snoc {g:List α} {w:Nat} (hg:g ≠ []) (hs:Srt ρ g):∀ {s:Nat} {gs:List (List α)} {ps:List Pn},Pd ρ s gs ps->Pd ρ s (gs ++ [g]) (ps ++ [(s+gs.flatten.length,g.length,w)])
 | s,[],[],_=>⟨by simp,rfl,hg,hs,trivial⟩
 | s,x::gs,_::_,h=>by
  have:=Pd.snoc (w:=w) hg hs h.2.2.2.2
  refine ⟨h.1,h.2.1,h.2.2.1,h.2.2.2.1,?_⟩
  rw [List.flatten_cons,List.length_append,<- Nat.add_assoc]
  exact this
 | _,[],_::_,h=>h.elim
 | _,_::_,[],h=>h.elim
theorem Pd.split:∀ {i s:Nat} {gs:List (List α)} {ps:List Pn},Pd ρ s gs ps->i+1<ps.length ->
  ∃G1 X Y G2 P1 p q P2,gs=G1++X::Y::G2/\ps=P1++p::q::P2/\P1.length=i/\p.1=s+G1.flatten.length/\p.2.1=X.length/\q.1=s+G1.flatten.length+X.length/\q.2.1=Y.length /\
   Srt ρ X/\Srt ρ Y/\X ≠ []/\Y ≠ []/\∀C w,C.length=X.length+Y.length->Srt ρ C->Pd ρ s (G1++C::G2) (P1++(p.1,p.2.1+q.2.1,w)::P2)
 | 0,s,x::y::gs,p::q::ps,h,_=>by
  obtain ⟨h1,h2,h3,h4,h5,h6,h7,h8,h9⟩:=h
  refine ⟨[],x,y,gs,[],p,q,ps,rfl,rfl,rfl,by simpa using h1,h2,by simpa using h5,h6,h4,h8,h3,h7,fun C w hC sC=>?_⟩
  refine ⟨h1,?_,?_,sC,?_⟩
  ·show p.2.1+q.2.1=C.length
   rw [hC,h2,h6]
  ·intro e
   rw [e] at hC
   have:=List.length_pos_iff.mpr h3
   simp at hC
   omega
  ·rw [hC,<- Nat.add_assoc]
   exact h9
 | i+1,s,x::gs,p::ps,h,hi=>by
  obtain ⟨h1,h2,h3,h4,h5⟩:=h
  obtain ⟨G1,X,Y,G2,P1,p',q',P2,e1,e2,e3,e4,e5,e6,e7,a1,a2,a3,a4,a5⟩:=Pd.split (i:=i) h5 (by rw [List.length_cons] at hi;omega)
  refine ⟨x::G1,X,Y,G2,p::P1,p',q',P2,by rw [e1];rfl,by rw [e2];rfl,by rw [List.length_cons,e3],?_,e5,?_,e7,a1,a2,a3,a4,fun C w hC sC=>⟨h1,h2,h3,h4,a5 C w hC sC⟩⟩
  ·rw [e4,List.flatten_cons,List.length_append,Nat.add_assoc]
  ·rw [e6,List.flatten_cons,List.length_append,Nat.add_assoc s,Nat.add_assoc]
 | 0,_,[_],[_],_,hi=>by simp at hi
 | 0,_,_,[],_,hi=>by simp at hi
 | _+1,_,_,[],_,hi=>by simp at hi
 | _,_,[],_::_,h,_=>h.elim
 | _,_,_::_::_,[_],h,_=>h.2.2.2.2.elim
 | _,_,[_],_::_::_,h,_=>h.2.2.2.2.elim
theorem aFn {P1 P2:List Pn} {p q r:Pn} {xs:Array Pn} {i:Nat} (h:xs.toList=P1++p::q::P2) (hi:P1.length=i):((xs.setIfInBounds i r).eraseIdxIfInBounds (i+1)).toList=P1++r::P2:=by
 have e1:(xs.setIfInBounds i r).toList=P1++r::q::P2:=by
  rw [Array.toList_setIfInBounds,h,<- hi,List.set_append_right _ _ (Nat.le_refl _),Nat.sub_self]
  rfl
 have e2:∀(ys:Array Pn) (k:Nat),(ys.eraseIdxIfInBounds k).toList=ys.toList.eraseIdx k:=by
  intro ys k
  simp
 rw [e2,e1,<- hi]
 rw [List.eraseIdx_append_of_length_le (by omega)]
 simp
theorem aFq {xs:Array Pn} {i:Nat} {f:Pn->Pn} (hf:∀p,((f p).1,(f p).2.1)=(p.1,p.2.1)):xs.toList.map (fun p=>(p.1,p.2.1))=(xs.modify i f).toList.map (fun p=>(p.1,p.2.1)):=by
 apply List.ext_getElem?
 intro k
 rw [List.getElem?_map,List.getElem?_map,Array.getElem?_toList,Array.getElem?_toList,Array.getElem?_modify]
 by_cases h:i=k
 ·rw [if_pos h]
  cases xs[k]? with
  | none=>rfl
  | some p=>exact congrArg some (hf p).symm
 ·rw [if_neg h]
end
end VT
end
section
namespace VT
open PySem PyProof.Rows
section
variable {ρ:Keyed->Int} {arr:Array Keyed} {L L1 X Y L2 M:List Keyed} {k m:Nat}
theorem gP (h:arr.toList=L++X++L2) (hk:k<X.length):arr[L.length+k]?=some X[k]:=by
 rw [<- Array.getElem?_toList,h,List.append_assoc,List.getElem?_append_right (by omega),show L.length+k - L.length=k by omega,List.getElem?_append_left hk,List.getElem?_eq_getElem hk]
theorem aOy (h:arr.toList=L++X++L2) (hk:k<=X.length):(arr.extract (L.length+k) (L.length+X.length)).toList=X.drop k:=by
 rw [ex3,h,List.append_assoc,<- List.drop_drop,List.drop_left,List.drop_append_of_le_length hk,show L.length+X.length - (L.length+k)=(X.drop k).length by simp;omega,List.take_left]
theorem aJq (h:arr.toList=L++X++L2) (hk:k<=X.length):(arr.extract L.length (L.length+k)).toList=X.take k:=by
 rw [ex1,h,List.append_assoc,List.drop_left,List.take_append_of_le_length hk]
theorem aA2 {a₀:List Keyed} (h:arr.toList=L++X++L2) (sX:Srt ρ X) (mX:∀x∈X,x∈a₀):Gal ρ a₀ arr L.length X.length:=by
 refine ⟨fun i hi=>⟨_,gP h hi,mX _ (List.getElem_mem _)⟩,fun i j hij hj=>?_⟩
 rw [cH (gP h hj),cH (gP h (show i<X.length by omega))]
 by_cases e:i=j
 ·subst e;exact Int.le_refl _
 ·exact List.pairwise_iff_getElem.mp sX i j (by omega) hj (by omega)
theorem glue (sX:Srt ρ X) (sY:Srt ρ Y) (a1:∀x∈X.take k,∀y∈Y,ρ x<=ρ y) (a2:∀y∈Y.drop m,∀x∈X,ρ x<=ρ y) (pM:M.Perm (X.drop k++Y.take m)) (sM:Srt ρ M):(X.take k++M++Y.drop m).Perm (X++Y)/\Srt ρ (X.take k++M++Y.drop m):=by
 have sX':=sX
 have sY':=sY
 rw [<- List.take_append_drop k X] at sX'
 rw [<- List.take_append_drop m Y] at sY'
 obtain ⟨x1,x2,x3⟩:=List.pairwise_append.mp sX'
 obtain ⟨y1,y2,y3⟩:=List.pairwise_append.mp sY'
 refine ⟨?_,List.pairwise_append.mpr ⟨List.pairwise_append.mpr ⟨x1,sM,fun x hx y hy=>?_⟩,y2,fun x hx y hy=>?_⟩⟩
 ·refine ((List.Perm.append_left _ pM).append_right _).trans ?_
  rw [<- List.append_assoc,List.take_append_drop,List.append_assoc,List.take_append_drop]
 ·rcases List.mem_append.mp (pM.mem_iff.mp hy) with hy | hy
  ·exact x3 x hx y hy
  ·exact a1 x hx y (List.mem_of_mem_take hy)
 ·rcases List.mem_append.mp hx with hx | hx
  ·exact a1 x hx y (List.mem_of_mem_drop hy)
  ·rcases List.mem_append.mp (pM.mem_iff.mp hx) with hx | hx
   ·exact a2 y hy x (List.mem_of_mem_drop hx)
   ·exact y3 x hx y hy
theorem aKx (sX:Srt ρ X) (sY:Srt ρ Y) (a1:∀x∈X,∀y∈Y,ρ x<=ρ y):Srt ρ (X++Y):=List.pairwise_append.mpr ⟨sX,sY,a1⟩
end
section
variable {prog:Program} {w:World} {A:Around} {E:Y9} {s:Shared} {κ:SortKind} {ρ:Keyed->Int} {a₀:List Keyed} {st:SortSt}
theorem aJ7 {M:Model} {σ:Type} {v u:σ} {Q:PUnit->σ->Prop} (h:Q ⟨⟩ v):wpS M A E s (set v:StateT σ Sem PUnit) Q u:=by
 unfold wpS;rw [StateT.run_set];exact wpAny_pure ⟨rfl,h⟩
theorem aF8 {M:Model} {σ:Type} {v u:σ} {Q:PUnit->σ->Prop} (h:∀v',v'=v->Q ⟨⟩ v'):wpS M A E s (set v:StateT σ Sem PUnit) Q u:=aJ7 (h v rfl)
theorem xG (C:Cmp prog w A s κ ρ a₀) {i:Nat} {L1 X Y L2:List Keyed} (hk:kindOf st=κ) (hf:failedOf st=none) (harr:(arrOf st).toList=L1++X++Y++L2) (mX:∀x∈X,x∈a₀) (mY:∀x∈Y,x∈a₀)
  (sX:Srt ρ X) (sY:Srt ρ Y) (nX:0<X.length) (nY:0<Y.length) {P1 P2:List Pn} {p q:Pn} (hp:(pendingOf st).toList=P1++p::q::P2) (hi:P1.length=i) (p1:p.1=L1.length) (p2:p.2.1=X.length) (q1:q.1=L1.length+X.length) (q2:q.2.1=Y.length)
  {Q:Bool->SortSt->Prop} (h:∀st' Z w,kindOf st'=κ->failedOf st'=none->(pendingOf st').toList=P1++(p.1,p.2.1+q.2.1,w)::P2->(arrOf st').toList=L1++Z++L2->Z.Perm (X++Y)->Srt ρ Z->Q true st'):wpS (model prog w) A E s (mergeAt' i) Q st:=by
 obtain ⟨x0,n0,w0⟩:=p
 obtain ⟨x1,n1,w1⟩:=q
 dsimp only at p1 p2 q1 q2 h
 subst p1 p2 q1 q2
 have hp':(pendingOf st).toList=P1++([(L1.length,X.length,w0)]++((L1.length+X.length,Y.length,w1)::P2)):=hp
 have g1:(pendingOf st)[i]?=some (L1.length,X.length,w0):=by
  rw [<- Array.getElem?_toList,hp,<- hi,List.getElem?_append_right (Nat.le_refl _),Nat.sub_self];rfl
 have g2:(pendingOf st)[i+1]?=some (L1.length+X.length,Y.length,w1):=by
  rw [<- Array.getElem?_toList,hp,<- hi,List.getElem?_append_right (by omega),show P1.length+1 - P1.length=1 by omega];rfl
 have hY:(arrOf st).toList=(L1++X)++Y++L2:=harr
 have hX:(arrOf st).toList=L1++X++(Y++L2):=by rw [harr,List.append_assoc]
 have lX:(L1++X).length=L1.length+X.length:=List.length_append
 have gX:=aA2 hX sX mX
 have gY:=aA2 hY sY mY
 rw [lX] at gY
 have e0:(arrOf st)[L1.length+X.length]?=some Y[0]:=by have:=gP hY nY;rw [lX] at this;exact this
 have rX:∀m (hm:m<X.length),Rk ρ (arrOf st) (L1.length+m)=ρ X[m]:=fun m hm=>cH (gP hX hm)
 have rY:∀m (hm:m<Y.length),Rk ρ (arrOf st) (L1.length+X.length+m)=ρ Y[m]:=fun m hm=>by have:=cH (ρ:=ρ) (gP hY hm);rw [lX] at this;exact this
 refine wpS_bind (wpS_get ?_)
 dsimp (config:={zeta:=false}) only
 rw [g1,g2]
 dsimp (config:={zeta:=false}) only
 refine wpS_bind (aF8 fun st1 hst=>?_)
 have k1:kindOf st1=κ:=by rw [hst];exact hk
 have f1:failedOf st1=none:=by rw [hst];exact hf
 have a1:arrOf st1=arrOf st:=by rw [hst]
 have p1:(pendingOf st1).toList=P1++(L1.length,X.length+Y.length,w0)::P2:=by rw [hst];exact aFn hp hi
 refine wpS_bind (bD e0 (wpS_bind (fO C k1 (mY _ (List.getElem_mem _)) gX nX fun k k1' k2 k3=>?_)))
 have b1:∀x∈X.take k,∀y∈Y,ρ x<=ρ y:=by
  intro x hx y hy
  obtain ⟨j,hj,rfl⟩:=List.getElem_of_mem hx
  rw [List.length_take] at hj
  have t1:=aBf (k2 j (by omega))
  rw [rX j (by omega)] at t1
  rw [List.getElem_take]
  refine Int.le_trans t1 (nU sY nY y (by simpa using hy))
 dsimp (config:={zeta:=false}) only
 by_cases c1:X.length - k=0
 ·rw [if_pos (by simpa using c1)]
  refine wpS_pure (h st1 (X++Y) w0 k1 f1 p1 (by rw [a1,harr];simp only [List.append_assoc]) (List.Perm.refl _) (aKx sX sY fun x hx y hy=>b1 x ?_ y hy))
  rw [List.take_of_length_le (by omega)]
  exact hx
 rw [if_neg (by simpa using c1)]
 have hl:X.length - 1<X.length:=by omega
 have el:(arrOf st)[L1.length+k+(X.length - k) - 1]?=some X[X.length - 1]:=by
  rw [show L1.length+k+(X.length - k) - 1=L1.length+(X.length - 1) by omega]
  exact gP hX hl
 have hlast:∀x∈X,ρ x<=ρ X[X.length - 1]:=by
  intro x hx
  obtain ⟨j,hj,rfl⟩:=List.getElem_of_mem hx
  by_cases e:j=X.length - 1
  ·subst e;exact Int.le_refl _
  ·exact List.pairwise_iff_getElem.mp sX j _ hj hl (by omega)
 refine wpS_bind (bD el (wpS_bind (fO C k1 (mX _ (List.getElem_mem _)) gY (by omega) fun m m1 m2 m3=>?_)))
 have b2:∀y∈Y.drop m,∀x∈X,ρ x<=ρ y:=by
  intro y hy x hx
  obtain ⟨j,hj,rfl⟩:=List.getElem_of_mem hy
  rw [List.length_drop] at hj
  have t1:=uC (m3 (m+j) (by omega) (by omega))
  rw [rY (m+j) (by omega)] at t1
  rw [List.getElem_drop]
  exact Int.le_trans (hlast x hx) t1
 dsimp (config:={zeta:=false}) only
 by_cases c2:m=0
 ·rw [if_pos (by simpa using c2)]
  subst c2
  exact wpS_pure (h st1 (X++Y) w0 k1 f1 p1 (by rw [a1,harr];simp only [List.append_assoc]) (List.Perm.refl _) (aKx sX sY fun x hx y hy=>b2 y (by simpa using hy) x hx))
 rw [if_neg (by simpa using c2)]
 extract_lets x y jp
 have ex:x.toList=X.drop k:=aOy hX (by omega)
 have ey:y.toList=Y.take m:=by have:=aJq hY m1;rw [lX] at this;exact this
 have zx:x.size=X.length - k:=by rw [<- Array.length_toList,ex,List.length_drop]
 have zy:y.size=m:=by rw [<- Array.length_toList,ey,List.length_take];omega
 have hjp:∀out st2,Same st1 st2->Res ρ x y out->wpS (model prog w) A E s (jp out) Q st2:=by
  rintro out st2 hS ⟨r1,r2⟩
  rw [ex,ey] at r1
  refine wpS_bind (wpS_modify (wpS_bind (wpS_get (wpS_pure ?_))))
  obtain ⟨z1,z2⟩:=glue sX sY b1 b2 r1 r2
  have hr:=r1.length_eq
  have hxy:Y=Y.take m++Y.drop m:=(List.take_append_drop m Y).symm
  have hxx:X=X.take k++X.drop k:=(List.take_append_drop k X).symm
  have e9:(arrOf st2).toList=(L1++X.take k)++(X.drop k++Y.take m)++(Y.drop m++L2):=by
   rw [hS.arr,a1,harr]
   conv=>lhs;rw [hxx,hxy]
   simp only [List.append_assoc]
  have wb:=aHx (L1++X.take k) (X.drop k++Y.take m) out.toList (Y.drop m++L2) (arrOf st2) e9 hr
  have lk:(L1++X.take k).length=L1.length+k:=by rw [List.length_append,List.length_take];omega
  rw [lk] at wb
  have e8:(failedOf st2).isNone=true:=by rw [hS.failed,f1];rfl
  show Q ((failedOf st2).isNone) _
  rw [e8]
  refine h _ _ w0 (hS.kind.trans k1) (hS.failed.trans f1) ?_ ?_ z1 z2
  ·show (pendingOf st2).toList=_
   rw [hS.pend];exact p1
  ·refine Eq.trans wb ?_
   simp only [List.append_assoc]
 clear_value jp
 have mx:∀z∈x.toList,z∈a₀:=fun z hz=>mX z (List.mem_of_mem_drop (by rw [<- ex];exact hz))
 have my:∀z∈y.toList,z∈a₀:=fun z hz=>mY z (List.mem_of_mem_take (by rw [<- ey];exact hz))
 have sx:Srt ρ x.toList:=by rw [ex];exact sX.drop
 have sy:Srt ρ y.toList:=by rw [ey];exact sY.take
 have y0:Rk ρ y 0=ρ Y[0]:=by
  refine cH ?_
  rw [<- Array.getElem?_toList,ey,List.getElem?_take,if_pos (by omega),List.getElem?_eq_getElem nY]
 have x0:∀z∈x.toList,ρ Y[0]<=ρ z:=by
  intro z hz
  rw [ex] at hz
  obtain ⟨j,hj,rfl⟩:=List.getElem_of_mem hz
  rw [List.length_drop] at hj
  have t1:=uD (k3 (k+j) (by omega) (by omega))
  rw [rX (k+j) (by omega)] at t1
  rw [List.getElem_drop]
  exact t1
 have xl:Rk ρ x (x.size - 1)=ρ X[X.length - 1]:=by
  refine cH ?_
  rw [<- Array.getElem?_toList,ex,List.getElem?_drop,zx,show k+(X.length - k - 1)=X.length - 1 by omega,List.getElem?_eq_getElem hl]
 have yl:∀z∈y.toList,ρ z<=ρ X[X.length - 1]:=by
  intro z hz
  rw [ey] at hz
  obtain ⟨j,hj,rfl⟩:=List.getElem_of_mem hz
  rw [List.length_take] at hj
  have t1:=aBa (m2 j (by omega))
  rw [rY j (by omega)] at t1
  rw [List.getElem_take]
  exact t1
 have memr:∀(z:Array Keyed) (j:Nat) (hj:j<z.size),∃u∈z.toList,Rk ρ z j=ρ u:=fun z j hj=>⟨z.toList[j]'(by simpa using hj),List.getElem_mem _,kE hj⟩
 split
 ·refine wpS_bind (wF C k1 mx my sx sy (by omega) (by omega) ?_ ?_ hjp)
  ·obtain ⟨u,hu,e⟩:=memr x 0 (by omega)
   rw [e,y0]
   exact x0 u hu
  ·rw [xl];exact yl
 ·refine wpS_bind (yM C k1 mx my sx sy (by omega) (by omega) ?_ ?_ hjp)
  ·rw [y0];exact x0
  ·obtain ⟨u,hu,e⟩:=memr y (y.size - 1) (by omega)
   rw [e,xl]
   exact yl u hu
end
end VT
end
section
namespace VT
open PySem PyProof.Rows
structure CB (lo:Nat) (st st':SortSt):Prop where
 kind:kindOf st'=kindOf st
 pend:pendingOf st'=pendingOf st
 failed:failedOf st'=failedOf st
 perm:(arrOf st').Perm (arrOf st)
 keep:∀k,k<lo->(arrOf st')[k]?=(arrOf st)[k]?
theorem CB.refl (lo:Nat) (st:SortSt):CB lo st st:=⟨rfl,rfl,rfl,Array.Perm.refl _,fun _ _=>rfl⟩
theorem CB.size {lo:Nat} {st st':SortSt} (c:CB lo st st'):(arrOf st').size=(arrOf st).size:=c.perm.size_eq
section
variable {prog:Program} {w:World} {A:Around} {E:Y9} {s:Shared} {κ:SortKind} {ρ:Keyed->Int} {a₀:List Keyed} {st:SortSt}
theorem lB (C:Cmp prog w A s κ ρ a₀) (hk:kindOf st=κ) (mem:∀x∈(arrOf st).toList,x∈a₀) {i j:Nat} (hi:i<(arrOf st).size) (hj:j<(arrOf st).size) {Q:Option Bool->SortSt->Prop} (h:Q (some (decide (Rk ρ (arrOf st) i<Rk ρ (arrOf st) j))) st):wpS (model prog w) A E s (ltAt' i j) Q st:=by
 rw [ltAt'_eq]
 refine wpS_bind (wpS_get ?_)
 have g1:(arrOf st)[i]?=some (arrOf st)[i]:=Array.getElem?_eq_getElem hi
 have g2:(arrOf st)[j]?=some (arrOf st)[j]:=Array.getElem?_eq_getElem hj
 rw [cH g1,cH g2] at h
 exact wpS_bind (bD g1 (wpS_bind (bD g2 (mW C hk (mem _ (by simp)) (mem _ (by simp)) h))))
def Up (ρ:Keyed->Int) (xs:Array Keyed) (lo n:Nat):Prop:=∀i j,i<=j->j<n->Rk ρ xs (lo+i)<=Rk ρ xs (lo+j)
def Dn (ρ:Keyed->Int) (xs:Array Keyed) (lo n:Nat):Prop:=∀i j,i<=j->j<n->Rk ρ xs (lo+j)<=Rk ρ xs (lo+i)
theorem Up.one {xs:Array Keyed} {lo:Nat}:Up ρ xs lo 1:=fun i j a b=>by
 have e:i=j:=by omega
 subst e;exact Int.le_refl _
theorem Up.next {xs:Array Keyed} {lo n:Nat} (u:Up ρ xs lo n) (hn:1<=n) (h:¬ Rk ρ xs (lo+n)<Rk ρ xs (lo+n - 1)):Up ρ xs lo (n+1):=fun i j a b=>by
 by_cases e:j<n
 ·exact u i j a e
 ·have e2:j=n:=by omega
  subst e2
  by_cases e3:i=j
  ·subst e3;exact Int.le_refl _
  ·have t:=u i (j - 1) (by omega) (by omega)
   rw [show lo+(j - 1)=lo+j - 1 by omega] at t
   omega
theorem Dn.next {xs:Array Keyed} {lo n:Nat} (u:Dn ρ xs lo n) (hn:1<=n) (h:Rk ρ xs (lo+n)<=Rk ρ xs (lo+n - 1)):Dn ρ xs lo (n+1):=fun i j a b=>by
 by_cases e:j<n
 ·exact u i j a e
 ·have e2:j=n:=by omega
  subst e2
  by_cases e3:i=j
  ·subst e3;exact Int.le_refl _
  ·have t:=u i (j - 1) (by omega) (by omega)
   rw [show lo+(j - 1)=lo+j - 1 by omega] at t
   omega
theorem nL {xs ys:Array Keyed} {i j:Nat} (h:xs[i]?=ys[j]?):Rk ρ xs i=Rk ρ ys j:=by unfold Rk;rw [h]
theorem aAg {xs:Array Keyed} {i j:Nat} (hj:j<=xs.size) (k:Nat):Rk ρ (mirror xs i j ((j - i) / 2)) k=if i<=k/\k<j then Rk ρ xs (i+j - 1 - k) else Rk ρ xs k:=by
 have e:=getElem?_mirror_all (i:=i) hj k
 split
 ·next c=>rw [if_pos c] at e;exact nL e
 ·next c=>rw [if_neg c] at e;exact nL e
theorem CB.mir {lo i j:Nat} {st st':SortSt} (c:CB lo st st') (hi:lo<=i) (hj:j<=(arrOf st').size):CB lo st (setArr st' (mirror (arrOf st') i j ((j - i) / 2))):=by
 refine ⟨c.kind,c.pend,c.failed,(mirror_perm _ _ _ _).trans c.perm,fun k hk=>?_⟩
 refine Eq.trans ?_ (c.keep k hk)
 have e:=getElem?_mirror_all (i:=i) hj k
 rw [if_neg (by omega)] at e
 exact e
theorem CB.mem {lo:Nat} {st st':SortSt} (c:CB lo st st') (mem:∀x∈(arrOf st).toList,x∈a₀):∀x∈(arrOf st').toList,x∈a₀:=fun x hx=>mem x ((Array.perm_iff_toList_perm.mp c.perm).mem_iff.mp hx)
theorem pW {i j:Nat} {Q:Unit->SortSt->Prop} (h:Q () (setArr st (mirror (arrOf st) i j ((j - i) / 2)))):wpS (model prog w) A E s (reverseSlice' i j) Q st:=by
 rw [reverseSlice'_eq];exact wpS_modify h
theorem lI {xs:Array Keyed} {i j:Nat} (hj:j<=xs.size) (heq:∀k,i<=k->k<j->Rk ρ xs k=Rk ρ xs (j - 1)) (k:Nat):Rk ρ (mirror xs i j ((j - i) / 2)) k=Rk ρ xs k:=by
 rw [aAg hj]
 split
 ·rw [heq _ (by omega) (by omega),heq k (by omega) (by omega)]
 ·rfl
theorem aCo (C:Cmp prog w A s κ ρ a₀) {lo nrem:Nat} (hk:kindOf st=κ) (mem:∀x∈(arrOf st).toList,x∈a₀) (hn:lo+nrem<=(arrOf st).size) (h1:1<=nrem) {Q:Option Nat->SortSt->Prop}
  (h:∀m st',CB lo st st'->1<=m->m<=nrem->Up ρ (arrOf st') lo m->Q (some m) st'):wpS (model prog w) A E s (countRun' lo nrem) Q st:=by
 refine wpS_bind (wpS_mono (wpS_forRange (I:=fun x c st'=>st'=st/\c=(none,x)/\Up ρ (arrOf st) lo x)
  (Q:=fun c st'=>st'=st/\∃n,c=(none,n)/\1<=n/\n<=nrem/\Up ρ (arrOf st) lo n/\(n=nrem\/Rk ρ (arrOf st) (lo+n)<Rk ρ (arrOf st) (lo+n - 1))) ?_ ?_ ⟨rfl,rfl,Up.one⟩) ?_)
 ·rintro x c st' hx1 hx2 ⟨rfl,rfl,u⟩
  dsimp only
  refine wpS_bind (lB C hk mem (by omega) (by omega) ?_)
  by_cases hl:Rk ρ (arrOf st') (lo+x)<Rk ρ (arrOf st') (lo+x - 1)
  ·simp only [hl,decide_true,if_true]
   exact wpS_pure ⟨rfl,x,rfl,hx1,by omega,u,.inr hl⟩
  ·simp only [hl,decide_false,Bool.false_eq_true,if_false]
   exact wpS_pure ⟨rfl,rfl,u.next hx1 hl⟩
 ·rintro c st' ⟨rfl,rfl,u⟩
  rw [show max 1 nrem=nrem by omega] at u ⊢
  exact ⟨rfl,nrem,rfl,h1,Nat.le_refl _,u,.inl rfl⟩
 rintro c st' ⟨rfl,n,rfl,n1,n2,n3,n4⟩
 dsimp (config:={zeta:=false}) only
 refine (show wpS (model prog w) A E s (ite _ _ _) Q st' from ?_)
 by_cases c1:n=nrem
 ·rw [if_pos (by simpa using c1)]
  exact wpS_pure (h n st' (CB.refl _ _) n1 n2 n3)
 rw [if_neg (by simpa using c1)]
 have n5:=n4.resolve_left c1
 extract_lets m6 q6 jp
 have hjp:∀st2,CB lo st' st2->Dn ρ (arrOf st2) lo (n+1)->wpS (model prog w) A E s (jp ()) Q st2:=by
  intro st2 hc hd
  refine wpS_bind (wpS_lift (wpAny_rule ⟨rfl,?_⟩))
  refine wpS_bind (wpS_mono (wpS_forRange (a:=n+1) (b:=nrem) (I:=fun x c st''=>CB lo st' st''/\∃neq,c=(none,x,neq)/\Dn ρ (arrOf st'') lo x/\neq+1<=x/\∀i,lo+x - (neq+1)<=i->i<lo+x->Rk ρ (arrOf st'') i=Rk ρ (arrOf st'') (lo+x - 1))
   (Q:=fun c st''=>CB lo st' st''/\∃x neq,c=(none,x,neq)/\1<=x/\x<=nrem/\Dn ρ (arrOf st'') lo x/\neq+1<=x/\∀i,lo+x - (neq+1)<=i->i<lo+x->Rk ρ (arrOf st'') i=Rk ρ (arrOf st'') (lo+x - 1)) ?_ ?_ ⟨hc,0,rfl,hd,by omega,fun i i1 i2=>by congr 1;omega⟩) ?_)
  ·rintro x c st3 hx1 hx2 ⟨hc3,neq,rfl,hd3,q1,q2⟩
   have z3:=hc3.size
   refine wpS_bind (lB C (hc3.kind.trans hk) (hc3.mem mem) (show lo+x<_ by omega) (show lo+x - 1<_ by omega) ?_)
   dsimp only
   by_cases hl:Rk ρ (arrOf st3) (lo+x)<Rk ρ (arrOf st3) (lo+x - 1)
   ·simp only [hl,decide_true,if_true]
    have hd4:Dn ρ (arrOf st3) lo (x+1):=hd3.next (by omega) (by omega)
    by_cases hq:neq > 0
    ·rw [if_pos hq]
     refine wpS_bind (pW (wpS_pure ⟨hc3.mir (by omega) (by omega),0,rfl,fun i j a b=>?_,by omega,fun i i1 i2=>by congr 1;omega⟩))
     show Rk ρ (mirror (arrOf st3) _ _ _) _<=Rk ρ (mirror (arrOf st3) _ _ _) _
     rw [lI (by omega) q2,lI (by omega) q2]
     exact hd4 i j a b
    ·rw [if_neg hq]
     exact wpS_pure ⟨hc3,0,rfl,hd4,by omega,fun i i1 i2=>by congr 1;omega⟩
   ·simp only [hl,decide_false,Bool.false_eq_true,if_false]
    refine wpS_bind (lB C (hc3.kind.trans hk) (hc3.mem mem) (show lo+x - 1<_ by omega) (show lo+x<_ by omega) ?_)
    by_cases hg:Rk ρ (arrOf st3) (lo+x - 1)<Rk ρ (arrOf st3) (lo+x)
    ·simp only [hg,decide_true,if_true]
     exact wpS_pure ⟨hc3,x,neq,rfl,by omega,by omega,hd3,q1,q2⟩
    ·simp only [hg,decide_false,Bool.false_eq_true,if_false]
     refine wpS_pure ⟨hc3,neq+1,rfl,hd3.next (by omega) (by omega),by omega,fun i i1 i2=>?_⟩
     rw [show lo+(x+1) - 1=lo+x by omega]
     by_cases e:i=lo+x
     ·rw [e]
     ·rw [q2 i (by omega) (by omega)];omega
  ·rintro c st3 ⟨hc3,neq,rfl,hd3,q1,q2⟩
   rw [show max (n+1) nrem=nrem by omega] at *
   exact ⟨hc3,nrem,neq,rfl,h1,Nat.le_refl _,hd3,q1,q2⟩
  rintro c st3 ⟨hc3,x,neq,rfl,x1,x2,hd3,q1,q2⟩
  have z3:=hc3.size
  dsimp (config:={zeta:=false}) only
  extract_lets r7 s7 n7 q7 jp7
  have fin:∀st4,CB lo st' st4->Dn ρ (arrOf st4) lo x->∀u:Unit,wpS (model prog w) A E s (jp7 u) Q st4:=by
   intro st4 hc4 hd4 u
   have z4:=hc4.size
   refine wpS_bind (pW ?_)
   have hc5:=hc4.mir (i:=lo) (j:=lo+x) (Nat.le_refl _) (by omega)
   have hu5:Up ρ (arrOf (setArr st4 (mirror (arrOf st4) lo (lo+x) ((lo+x - lo) / 2)))) lo x:=by
    intro i j a b
    show Rk ρ (mirror (arrOf st4) _ _ _) _<=Rk ρ (mirror (arrOf st4) _ _ _) _
    rw [aAg (by omega),aAg (by omega),if_pos (by omega),if_pos (by omega),show lo+(lo+x) - 1 - (lo+i)=lo+(x - 1 - i) by omega,show lo+(lo+x) - 1 - (lo+j)=lo+(x - 1 - j) by omega]
    exact hd4 _ _ (by omega) (by omega)
   generalize setArr st4 (mirror (arrOf st4) lo (lo+x) ((lo+x - lo) / 2))=st5 at *
   have z5:=hc5.size
   refine wpS_bind (wpS_mono (wpS_forRange (a:=x) (b:=nrem) (I:=fun y c st'=>st'=st5/\c=(none,y)/\Up ρ (arrOf st5) lo y)
    (Q:=fun c st'=>st'=st5/\∃y,c=(none,y)/\1<=y/\y<=nrem/\Up ρ (arrOf st5) lo y) ?_ ?_ ⟨rfl,rfl,hu5⟩) ?_)
   ·rintro y c st6 hx1 hx2 ⟨rfl,rfl,u⟩
    dsimp only
    refine wpS_bind (lB C (hc5.kind.trans hk) (hc5.mem mem) (by omega) (by omega) ?_)
    by_cases hl:Rk ρ (arrOf st6) (lo+y)<Rk ρ (arrOf st6) (lo+y - 1)
    ·simp only [hl,decide_true,if_true]
     exact wpS_pure ⟨rfl,y,rfl,by omega,by omega,u⟩
    ·simp only [hl,decide_false,Bool.false_eq_true,if_false]
     exact wpS_pure ⟨rfl,rfl,u.next (by omega) hl⟩
   ·rintro c st6 ⟨rfl,rfl,u⟩
    rw [show max x nrem=nrem by omega] at u ⊢
    exact ⟨rfl,nrem,rfl,h1,Nat.le_refl _,u⟩
   ·rintro c st6 ⟨rfl,y,rfl,y1,y2,u⟩
    exact wpS_pure (h y st6 hc5 y1 y2 u)
  clear_value jp7
  refine (show wpS (model prog w) A E s (ite _ _ _) Q st3 from ?_)
  by_cases hq:neq > 0
  ·rw [if_pos hq]
   refine wpS_bind (pW (i:=lo+x - (neq+1)) (j:=lo+x) (fin _ (hc3.mir (by omega) (by omega)) (fun i j a b=>?_) ()))
   show Rk ρ (mirror (arrOf st3) _ _ _) _<=Rk ρ (mirror (arrOf st3) _ _ _) _
   rw [lI (by omega) q2,lI (by omega) q2]
   exact hd3 i j a b
  ·rw [if_neg hq]
   exact fin _ hc3 hd3 ()
 clear_value jp
 by_cases c2:n > 1
 ·rw [if_pos c2]
  refine wpS_bind (lB C hk mem (by omega) (by omega) ?_)
  dsimp only
  by_cases hr:Rk ρ (arrOf st') lo<Rk ρ (arrOf st') (lo+n - 1)
  ·simp only [hr,decide_true,if_true]
   exact wpS_pure (h n st' (CB.refl _ _) n1 n2 n3)
  ·simp only [hr,decide_false,Bool.false_eq_true,if_false]
   have hall:∀k,lo<=k->k<lo+n->Rk ρ (arrOf st') k=Rk ρ (arrOf st') (lo+n - 1):=by
    intro k k1 k2
    have t1:=n3 0 (k - lo) (by omega) (by omega)
    have t2:=n3 (k - lo) (n - 1) (by omega) (by omega)
    rw [show lo+0=lo by omega,show lo+(k - lo)=k by omega] at t1
    rw [show lo+(n - 1)=lo+n - 1 by omega,show lo+(k - lo)=k by omega] at t2
    omega
   refine wpS_bind (pW (hjp _ ((CB.refl _ _).mir (Nat.le_refl _) (by omega)) fun i j a b=>?_))
   show Rk ρ (mirror (arrOf st') _ _ _) _<=Rk ρ (mirror (arrOf st') _ _ _) _
   rw [lI (by omega) hall,lI (by omega) hall]
   by_cases e1:j<n
   ·rw [hall (lo+i) (by omega) (by omega),hall (lo+j) (by omega) (by omega)];exact Int.le_refl _
   ·have e2:j=n:=by omega
    subst e2
    by_cases e3:i=j
    ·subst e3;exact Int.le_refl _
    ·rw [hall (lo+i) (by omega) (by omega)];omega
 ·rw [if_neg c2]
  have e1:n=1:=by omega
  subst e1
  refine hjp _ (CB.refl _ _) fun i j a b=>?_
  by_cases e3:i=j
  ·subst e3;exact Int.le_refl _
  ·have i0:i=0:=by omega
   have j1:j=1:=by omega
   subst i0;subst j1
   rw [show lo+1 - 1=lo+0 by omega] at n5
   omega
end
end VT
end
section
namespace VT
open PySem PyProof.Rows
section
variable {prog:Program} {w:World} {A:Around} {E:Y9} {s:Shared} {κ:SortKind} {ρ:Keyed->Int} {a₀:List Keyed} {st:SortSt}
theorem aE2 {xs:Array Keyed} {src d:Nat} (hs:src<xs.size) (hd:d<=src) (k:Nat):Rk ρ (bubble xs src d) k=if k=src - d then Rk ρ xs src else if src - d<k/\k<=src then Rk ρ xs (k - 1) else Rk ρ xs k:=by
 have e:=getElem?_bubble hs d hd k
 by_cases c1:k=src - d
 ·rw [if_pos c1] at e ⊢;exact nL e
 ·rw [if_neg c1] at e ⊢
  by_cases c2:src - d<k/\k<=src
  ·rw [if_pos c2] at e ⊢;exact nL e
  ·rw [if_neg c2] at e ⊢;exact nL e
theorem CB.bub {lo src d:Nat} {st st':SortSt} (c:CB lo st st') (hs:src<(arrOf st').size) (hd:d<=src) (h:lo<=src - d):CB lo st (setArr st' (bubble (arrOf st') src d)):=by
 refine ⟨c.kind,c.pend,c.failed,(bubble_perm _ _ _).trans c.perm,fun k hk=>?_⟩
 refine Eq.trans ?_ (c.keep k hk)
 have e:=getElem?_bubble hs d hd k
 rw [if_neg (by omega),if_neg (by omega)] at e
 exact e
theorem aIe (C:Cmp prog w A s κ ρ a₀) {lo n ok:Nat} {st₀:SortSt} (hc:CB lo st₀ st) (hk:kindOf st₀=κ) (mem:∀x∈(arrOf st₀).toList,x∈a₀) (hn:lo+n<=(arrOf st₀).size) (hok:ok<=n) (hu:Up ρ (arrOf st) lo ok) {Q:Bool->SortSt->Prop}
  (h:∀st',CB lo st₀ st'->Up ρ (arrOf st') lo n->Q true st'):wpS (model prog w) A E s (binarySort' lo n ok) Q st:=by
 refine wpS_bind (wpS_mono (wpS_forRange (I:=fun k c st'=>c=(none,())/\CB lo st₀ st'/\Up ρ (arrOf st') lo (min k n))
  (Q:=fun c st'=>c=(none,())/\CB lo st₀ st'/\Up ρ (arrOf st') lo n) ?_ ?_ ⟨rfl,hc,?_⟩) ?_)
 ·rintro k c st1 k1 k2 ⟨rfl,hc1,hu1⟩
  rw [show min k n=k by omega] at hu1
  have z1:=hc1.size
  refine wpS_bind (wpS_mono (wpS_forRange (a:=0) (b:=k) (I:=fun x c st'=>st'=st1/\∃l r,c=(none,l,r)/\l<=r/\r<=k/\r - l<=k - x/\(∀i,i<l->Rk ρ (arrOf st1) (lo+i)<=Rk ρ (arrOf st1) (lo+k))/\(∀i,r<=i->i<k->Rk ρ (arrOf st1) (lo+k)<Rk ρ (arrOf st1) (lo+i)))
   (Q:=fun c st'=>st'=st1/\∃l,c=(none,l,l)/\l<=k/\(∀i,i<l->Rk ρ (arrOf st1) (lo+i)<=Rk ρ (arrOf st1) (lo+k))/\(∀i,l<=i->i<k->Rk ρ (arrOf st1) (lo+k)<Rk ρ (arrOf st1) (lo+i))) ?_ ?_ ⟨rfl,0,k,rfl,by omega,by omega,by omega,fun i hi=>by omega,fun i i1 i2=>by omega⟩) ?_)
  ·rintro x c st' _ hx ⟨rfl,l,r,rfl,b1,b2,b3,b4,b5⟩
   dsimp only
   by_cases hg:l >= r
   ·rw [if_pos hg]
    have e:l=r:=by omega
    subst e
    exact wpS_pure ⟨rfl,l,rfl,b2,b4,b5⟩
   ·rw [if_neg hg]
    refine wpS_bind (lB C (hc1.kind.trans hk) (hc1.mem mem) (by omega) (by omega) ?_)
    by_cases hl:Rk ρ (arrOf st') (lo+k)<Rk ρ (arrOf st') (lo+(l+r) / 2)
    ·simp only [hl,decide_true,if_true]
     exact wpS_pure ⟨rfl,l,(l+r) / 2,rfl,by omega,by omega,by omega,b4,fun i i1 i2=>Int.lt_of_lt_of_le hl (hu1 _ _ i1 i2)⟩
    ·simp only [hl,decide_false,Bool.false_eq_true,if_false]
     refine wpS_pure ⟨rfl,(l+r) / 2+1,r,rfl,by omega,by omega,by omega,fun i i1=>?_,b5⟩
     have t:=hu1 i ((l+r) / 2) (by omega) (by omega)
     omega
  ·rintro c st' ⟨rfl,l,r,rfl,b1,b2,b3,b4,b5⟩
   have e:l=r:=by omega
   subst e
   exact ⟨rfl,l,rfl,b2,b4,b5⟩
  ·rintro c st' ⟨rfl,l,rfl,b2,b4,b5⟩
   have hsz:lo+k<(arrOf st').size:=by omega
   refine wpS_bind (wpS_modify (wpS_pure ⟨rfl,hc1.bub (src:=lo+k) (d:=lo+k - (lo+l)) hsz (by omega) (by omega),?_⟩))
   rw [show min (k+1) n=k+1 by omega]
   intro i j a b
   show Rk ρ (bubble (arrOf st') (lo+k) (lo+k - (lo+l))) _<=Rk ρ (bubble (arrOf st') (lo+k) (lo+k - (lo+l))) _
   rw [aE2 hsz (by omega),aE2 hsz (by omega),show lo+k - (lo+k - (lo+l))=lo+l by omega]
   repeat' split
   all_goals first
    | (exfalso;omega)
    | exact Int.le_refl _
    | exact b4 _ (by omega)
    | (next e1 e2 e3=>have t:=b5 (j - 1) (by omega) (by omega);rw [show lo+(j - 1)=lo+j - 1 by omega] at t;omega)
    | (next e1 e2 e3=>have t:=b5 j (by omega) (by omega);omega)
    | (have t:=hu1 (i - 1) (j - 1) (by omega) (by omega);rw [show lo+(j - 1)=lo+j - 1 by omega,show lo+(i - 1)=lo+i - 1 by omega] at t;exact t)
    | (have t:=hu1 i (j - 1) (by omega) (by omega);rw [show lo+(j - 1)=lo+j - 1 by omega] at t;exact t)
    | (have t:=hu1 i j (by omega) (by omega);exact t)
    | skip
 ·rintro c st1 ⟨rfl,hc1,hu1⟩
  rw [show min (max (max ok 1) n) n=n by omega] at hu1
  exact ⟨rfl,hc1,hu1⟩
 ·intro i j a b
  by_cases e:ok=0
  ·have e2:i=j:=by omega
   subst e2;exact Int.le_refl _
  ·exact hu i j a (by omega)
 ·rintro c st1 ⟨rfl,hc1,hu1⟩
  exact wpS_pure (h st1 hc1 hu1)
end
end VT
end
section
namespace VT
open PySem PyProof.Rows
section
variable {prog:Program} {w:World} {A:Around} {E:Y9} {s:Shared} {κ:SortKind} {ρ:Keyed->Int} {a₀:List Keyed} {st:SortSt}
theorem CB.rest {lo:Nat} {st st':SortSt} (c:CB lo st st') {P R:List Keyed} (h:(arrOf st).toList=P++R) (hl:P.length=lo):∃R',(arrOf st').toList=P++R'/\R'.Perm R:=by
 have e:(arrOf st').toList.take lo=P:=by
  apply List.ext_getElem?
  intro k
  rw [List.getElem?_take]
  by_cases hk:k<lo
  ·rw [if_pos hk,Array.getElem?_toList,c.keep k hk,<- Array.getElem?_toList,h,List.getElem?_append_left (by omega)]
  ·rw [if_neg hk,List.getElem?_eq_none (by omega)]
 have e2:(arrOf st').toList=P++(arrOf st').toList.drop lo:=by
  conv=>lhs;rw [<- List.take_append_drop lo (arrOf st').toList,e]
 refine ⟨_,e2,?_⟩
 have p:=Array.perm_iff_toList_perm.mp c.perm
 rw [h,e2] at p
 exact (List.perm_append_left_iff P).mp p
theorem aMs {arr:Array Keyed} {P R:List Keyed} {n:Nat} (h:arr.toList=P++R) (hn:n<=R.length) (u:Up ρ arr P.length n):Srt ρ (R.take n):=by
 have h':arr.toList=P++R ++ []:=by rw [h,List.append_nil]
 refine List.pairwise_iff_getElem.mpr fun i j hi hj hij=>?_
 rw [List.length_take] at hi hj
 rw [List.getElem_take,List.getElem_take]
 have t:=u i j (by omega) (by omega)
 rw [cH (gP h' (show i<R.length by omega)),cH (gP h' (show j<R.length by omega))] at t
 exact t
structure RI (κ:SortKind) (ρ:Keyed->Int) (L:List Keyed) (gs:List (List Keyed)) (rest:List Keyed) (st:SortSt):Prop where
 kind:kindOf st=κ
 failed:failedOf st=none
 arr:(arrOf st).toList=gs.flatten++rest
 pd:Pd ρ 0 gs (pendingOf st).toList
 perm:(gs.flatten++rest).Perm L
theorem RI.merge (C:Cmp prog w A s κ ρ a₀) {L:List Keyed} {gs:List (List Keyed)} {rest:List Keyed} (r:RI κ ρ L gs rest st) (mem:∀x∈L,x∈a₀) {i:Nat} (hi:i+1<(pendingOf st).size) {Q:Bool->SortSt->Prop}
  (h:∀st' gs',RI κ ρ L gs' rest st'->gs'.flatten.length=gs.flatten.length->(pendingOf st').size+1=(pendingOf st).size->Q true st'):wpS (model prog w) A E s (mergeAt' i) Q st:=by
 obtain ⟨G1,X,Y,G2,P1,p,q,P2,e1,e2,e3,e4,e5,e6,e7,a1,a2,a3,a4,a5⟩:=r.pd.split (i:=i) (by simpa using hi)
 rw [Nat.zero_add] at e4 e6
 have ef:gs.flatten=G1.flatten++X++Y++G2.flatten:=by rw [e1];simp
 have hm:∀x∈gs.flatten,x∈a₀:=fun x hx=>mem x (r.perm.mem_iff.mp (List.mem_append_left _ hx))
 refine xG (L1:=G1.flatten) (X:=X) (Y:=Y) (L2:=G2.flatten++rest) C r.kind r.failed (by rw [r.arr,ef];simp only [List.append_assoc]) (fun x hx=>hm x (by rw [ef];simp [hx])) (fun x hx=>hm x (by rw [ef];simp [hx])) a1 a2 (List.length_pos_iff.mpr a3) (List.length_pos_iff.mpr a4) e2 e3 e4 e5 e6 e7
  fun st' Z w k1 f1 p1 arr1 z1 z2=>h st' (G1++Z::G2) ⟨k1,f1,?_,?_,?_⟩ ?_ ?_
 ·rw [arr1];simp
 ·rw [p1];exact a5 Z w (by rw [z1.length_eq,List.length_append]) z2
 ·refine List.Perm.trans ?_ r.perm
  rw [ef]
  simp only [List.flatten_append,List.flatten_cons,List.append_assoc]
  refine List.Perm.append_left _ ?_
  have:=z1.append_right (G2.flatten++rest)
  simpa only [List.append_assoc] using this
 ·rw [ef]
  have:=z1.length_eq
  simp only [List.flatten_append,List.flatten_cons,List.length_append] at this ⊢
  omega
 ·rw [<- Array.length_toList,p1,<- Array.length_toList,e2]
  simp
  omega
def aG0 (κ:SortKind) (ρ:Keyed->Int) (L:List Keyed) (x:Nat):ForInStep (Option Unit×Nat)->SortSt->Prop
 | .done c,st'=>∃gs lo,c=(none,lo)/\RI κ ρ L gs [] st'
 | .yield c,st'=>∃gs rest,c=(none,gs.flatten.length)/\RI κ ρ L gs rest st'/\x+1<=gs.flatten.length
theorem aGq (C:Cmp prog w A s κ ρ a₀) (hk:kindOf st=κ) (hf:failedOf st=none) (hp:pendingOf st = #[]) (mem:∀x∈(arrOf st).toList,x∈a₀) {Q:Unit->SortSt->Prop}
  (h:∀st',failedOf st'=none->(arrOf st').toList.Perm (arrOf st).toList->Srt ρ (arrOf st').toList->Q () st'):wpS (model prog w) A E s sortRuns' Q st:=by
 refine wpS_bind (wpS_get ?_)
 have hL:(arrOf st).toList.length=(arrOf st).size:=Array.length_toList
 generalize hsz:(arrOf st).size=size at *
 refine wpS_bind (wpS_mono (wpS_forRange (a:=0) (b:=size) (I:=fun x c st'=>∃gs rest,c=(none,gs.flatten.length)/\RI κ ρ (arrOf st).toList gs rest st'/\x<=gs.flatten.length)
  (Q:=fun c st'=>∃gs lo,c=(none,lo)/\RI κ ρ (arrOf st).toList gs [] st') ?_ ?_ ⟨[],(arrOf st).toList,rfl,⟨hk,hf,by simp,by rw [hp];trivial,by simp⟩,Nat.zero_le _⟩) ?_)
 ·rintro x c st1 _ hx ⟨gs,rest,rfl,r,hxl⟩
  have hlen:=r.perm.length_eq
  rw [List.length_append,hL] at hlen
  refine wpS_mono (Q:=aG0 κ ρ (arrOf st).toList x) ?_ (fun r st' hr=>by cases r<;>exact hr)
  refine (show wpS (model prog w) A E s (ite _ _ _) _ st1 from ?_)
  by_cases c1:gs.flatten.length >= size
  ·rw [if_pos c1]
   have e:rest=[]:=List.length_eq_zero_iff.mp (by omega)
   subst e
   exact wpS_pure ⟨gs,_,rfl,r⟩
  rw [if_neg c1]
  have hz1:(arrOf st1).size=size:=by rw [<- Array.length_toList,r.arr,List.length_append];exact hlen
  have mem1:∀x∈(arrOf st1).toList,x∈a₀:=fun y hy=>mem y (r.perm.mem_iff.mp (by rw [<- r.arr];exact hy))
  refine wpS_bind (aCo C (lo:=gs.flatten.length) (nrem:=size - gs.flatten.length) r.kind mem1 (by omega) (by omega) fun m st2 cb2 m1 m2 u2=>?_)
  dsimp (config:={zeta:=false}) only
  extract_lets n0 jp fr
  have hjp:∀n st3,CB gs.flatten.length st1 st3->1<=n->n<=size - gs.flatten.length->Up ρ (arrOf st3) gs.flatten.length n->wpS (model prog w) A E s (jp () n) (aG0 κ ρ (arrOf st).toList x) st3:=by
   intro n st3 cb3 n1 n2 u3
   obtain ⟨R',e1,e2⟩:=cb3.rest r.arr rfl
   have hl2:=e2.length_eq
   have sR:Srt ρ (R'.take n):=aMs e1 (by omega) u3
   have r3:RI κ ρ (arrOf st).toList gs R' st3:=⟨cb3.kind.trans r.kind,cb3.failed.trans r.failed,e1,by rw [cb3.pend];exact r.pd,(List.Perm.append_left _ e2).trans r.perm⟩
   refine wpS_bind (wpS_get ?_)
   extract_lets lo5 jp2
   have hjp2:∀st4 gs4,RI κ ρ (arrOf st).toList gs4 R' st4->gs4.flatten.length=gs.flatten.length->wpS (model prog w) A E s (jp2 ()) (aG0 κ ρ (arrOf st).toList x) st4:=by
    intro st4 gs4 r4 l4
    have e7:(gs4 ++ [R'.take n]).flatten=gs4.flatten++R'.take n:=by simp
    have e9:(gs4 ++ [R'.take n]).flatten++R'.drop n=gs4.flatten++R':=by rw [e7,List.append_assoc,List.take_append_drop]
    have e8:(gs4 ++ [R'.take n]).flatten.length=gs.flatten.length+n:=by rw [e7,List.length_append,List.length_take,l4];omega
    have ht:(R'.take n).length=n:=by rw [List.length_take];omega
    refine wpS_bind (wpS_modify (wpS_pure ⟨gs4 ++ [R'.take n],R'.drop n,?_,⟨r4.kind,r4.failed,?_,?_,?_⟩,?_⟩))
    ·rw [e8]
    ·show (arrOf st4).toList=_
     rw [e9];exact r4.arr
    ·show Pd ρ 0 _ ((pendingOf st4).push (gs.flatten.length,n,0)).toList
     have:=r4.pd.snoc (g:=R'.take n) (w:=0) (by intro e;rw [e] at ht;simp at ht;omega) sR
     rw [Nat.zero_add,l4,ht] at this
     rw [Array.toList_push]
     exact this
    ·rw [e9];exact r4.perm
    ·omega
   clear_value jp2
   cases hb:(pendingOf st3).back? with
   | none=>exact hjp2 st3 gs r3 rfl
   | some v =>
    obtain ⟨s1,n1',w1⟩:=v
    dsimp (config:={zeta:=false}) only
    refine wpS_bind (wpS_mono (wpS_forRange (a:=0) (b:=size) (I:=fun _ c st'=>c=(none,())/\∃gs',RI κ ρ (arrOf st).toList gs' R' st'/\gs'.flatten.length=gs.flatten.length)
     (Q:=fun c st'=>c=(none,())/\∃gs',RI κ ρ (arrOf st).toList gs' R' st'/\gs'.flatten.length=gs.flatten.length) ?_ (fun c st' hc=>hc) ⟨rfl,gs,r3,rfl⟩) ?_)
    ·rintro y c st5 _ _ ⟨rfl,gs5,r5,l5⟩
     refine wpS_bind (wpS_get ?_)
     dsimp only
     by_cases c5:(pendingOf st5).size > 1
     ·rw [if_pos c5,Array.getElem?_eq_getElem (show (pendingOf st5).size - 2<(pendingOf st5).size by omega)]
      dsimp only
      split
      ·exact wpS_pure ⟨rfl,gs5,r5,l5⟩
      ·refine wpS_bind (r5.merge C mem (i:=(pendingOf st5).size - 2) (by omega) fun st6 gs6 r6 l6 _=>?_)
       simp only [Bool.not_true,Bool.false_eq_true,if_false]
       exact wpS_pure ⟨rfl,gs6,r6,l6.trans l5⟩
     ·rw [if_neg c5]
      exact wpS_pure ⟨rfl,gs5,r5,l5⟩
    ·rintro c st5 ⟨rfl,gs5,r5,l5⟩
     refine wpS_bind (wpS_modify (hjp2 _ gs5 ⟨r5.kind,r5.failed,r5.arr,?_,r5.perm⟩ l5))
     refine r5.pd.same (aFq fun p=>rfl)
  clear_value jp
  split
  ·next c6 =>
   have c6:m<minRun' size size 0:=c6
   refine wpS_bind (wpS_lift (wpAny_rule ⟨rfl,?_⟩))
   refine wpS_bind (aIe C cb2 r.kind mem1 (n:=min (size - gs.flatten.length) (minRun' size size 0)) (by omega) (by omega) u2 fun st3 cb3 u3=>?_)
   simp only [Bool.not_true,Bool.false_eq_true,if_false]
   exact hjp _ st3 cb3 (by show 1<=min _ _;omega) (by show min _ _<=_;omega) u3
  ·exact hjp m st2 cb2 m1 m2 u2
 ·rintro c st1 ⟨gs,rest,rfl,r,hxl⟩
  have hlen:=r.perm.length_eq
  rw [List.length_append,hL] at hlen
  have e:rest=[]:=List.length_eq_zero_iff.mp (by omega)
  subst e
  exact ⟨gs,_,rfl,r⟩
 ·rintro c st1 ⟨gs,lo,rfl,r⟩
  dsimp (config:={zeta:=false}) only
  have hlen:=r.perm.length_eq
  rw [List.append_nil,hL] at hlen
  refine wpS_bind (wpS_mono (wpS_forRange (a:=0) (b:=size) (I:=fun x c st'=>c=(none,())/\∃gs',RI κ ρ (arrOf st).toList gs' [] st'/\((pendingOf st').size<=1\/(pendingOf st').size+x<=size))
   (Q:=fun c st'=>c=(none,())/\∃gs',RI κ ρ (arrOf st).toList gs' [] st'/\(pendingOf st').size<=1) ?_ ?_ ⟨rfl,gs,r,.inr ?_⟩) ?_)
  ·rintro x c st2 _ hx ⟨rfl,gs2,r2,hs2⟩
   refine wpS_bind (wpS_get ?_)
   refine (show wpS (model prog w) A E s (ite _ _ _) _ st2 from ?_)
   by_cases c2:(pendingOf st2).size<=1
   ·rw [if_pos c2]
    exact wpS_pure ⟨rfl,gs2,r2,c2⟩
   ·rw [if_neg c2]
    extract_lets i1 bf i2
    have hi:i2+1<(pendingOf st2).size:=by
     have h1:i1=(pendingOf st2).size - 2:=rfl
     have h2:i2=i1\/i2=i1 - 1:=by
      show (if _ then i1 - 1 else i1)=i1\/(if _ then i1 - 1 else i1)=i1 - 1
      split
      ·exact .inr rfl
      ·exact .inl rfl
     omega
    clear_value i2
    refine wpS_bind (r2.merge C mem hi fun st6 gs6 r6 l6 z6=>?_)
    simp only [Bool.not_true,Bool.false_eq_true,if_false]
    exact wpS_pure ⟨rfl,gs6,r6,.inr (by omega)⟩
  ·rintro c st2 ⟨rfl,gs2,r2,hs2⟩
   exact ⟨rfl,gs2,r2,by omega⟩
  ·have t1:=r.pd.count
   have t2:gs.length=(pendingOf st1).size:=r.pd.len.trans Array.length_toList
   show (pendingOf st1).size+0<=size
   omega
  ·rintro c st2 ⟨rfl,gs2,r2,hs2⟩
   have t2:gs2.length=(pendingOf st2).size:=r2.pd.len.trans Array.length_toList
   have arr2:=r2.arr
   have perm2:=r2.perm
   rw [List.append_nil] at arr2 perm2
   refine wpS_pure (h st2 r2.failed (by rw [arr2];exact perm2) ?_)
   rw [arr2]
   match gs2,t2,r2.pd with
   | [],_,_=>exact List.Pairwise.nil
   | [g],_,pd =>
    simp only [List.flatten_cons,List.flatten_nil,List.append_nil]
    generalize (pendingOf st2).toList=ps at pd
    match ps,pd with
    | [],pd=>exact pd.elim
    | _::_,pd=>exact pd.2.2.2.1
   | _::_::_,t2,_=>simp at t2;omega
end
end VT
end
section
namespace VT
open PySem PySem.W PyProof.Rows ST
theorem aF0 {α β:Type} {f:α->β} {l1 l2:List β} (h:l1.Perm l2):∀l:List α,l2=l.map f->∃l':List α,l'.Perm l/\l1=l'.map f:=by
 induction h with
 | nil=>intro l e;exact ⟨l,.refl _,e⟩
 | cons x _ ih =>
  intro l e
  match l,e with
  | y::l,e =>
   obtain ⟨e1,e2⟩:=List.cons.inj e
   obtain ⟨l',p,e3⟩:=ih l e2
   exact ⟨y::l',p.cons y,by rw [List.map_cons,e3,e1]⟩
 | swap x y _ =>
  intro l e
  match l,e with
  | a::b::l,e =>
   obtain ⟨e1,e2⟩:=List.cons.inj e
   obtain ⟨e3,e4⟩:=List.cons.inj e2
   exact ⟨b::a::l,List.Perm.swap _ _ _,by rw [List.map_cons,List.map_cons,e1,e3,e4]⟩
 | trans _ _ ih1 ih2 =>
  intro l e
  obtain ⟨l2,p2,e2⟩:=ih2 l e
  obtain ⟨l1,p1,e1⟩:=ih1 l2 e2
  exact ⟨l1,p1.trans p2,e1⟩
theorem aAv {α:Type} {p q:α->Bool}:∀ {l:List α},(∀x∈l,p x=true->q x=true)->l.countP p<=l.countP q
 | [],_=>Nat.le_refl _
 | x::l,h=>by
  have ih:=aAv (l:=l) fun y hy=>h y (List.mem_cons_of_mem _ hy)
  rw [List.countP_cons,List.countP_cons]
  by_cases hp:p x=true
  ·rw [if_pos hp,if_pos (h x List.mem_cons_self hp)];omega
  ·rw [if_neg hp];omega
theorem aEz {α:Type} {p q:α->Bool}:∀ {l:List α},(∀x∈l,p x=true->q x=true)->(∃x∈l,q x=true/\p x=false)->l.countP p<l.countP q
 | [],_,⟨x,hx,_⟩=>by cases hx
 | x::l,h,⟨y,hy,h1,h2⟩=>by
  rw [List.countP_cons,List.countP_cons]
  rcases List.mem_cons.mp hy with rfl | hy
  ·have ih:=aAv (l:=l) fun y hy=>h y (List.mem_cons_of_mem _ hy)
   rw [if_pos h1,if_neg (by rw [h2];simp)];omega
  ·have ih:=aEz (l:=l) (fun y hy=>h y (List.mem_cons_of_mem _ hy)) ⟨y,hy,h1,h2⟩
   by_cases hp:p x=true
   ·rw [if_pos hp,if_pos (h x List.mem_cons_self hp)];omega
   ·rw [if_neg hp];omega
section
variable (kas:Y7)
def cnt (k:Y0):Int:=((kas.countP fun q=>ltL q.1 k:Nat):Int)
def aMq (v:Value):Y0:=match v with
 | .ref a=>(((kas.find? fun q=>q.2 == a)).map (·.1)).getD []
 | _=>[]
def rank (p:Keyed):Int:=cnt kas (aMq kas p.1)
variable {kas}
theorem aBx {x y:Y0×Addr} (hx:x∈kas) (hy:y∈kas):decide (cnt kas x.1<cnt kas y.1)=ltL x.1 y.1:=by
 unfold cnt
 cases h:ltL x.1 y.1 with
 | true =>
  have:=aEz (l:=kas) (p:=fun q=>ltL q.1 x.1) (q:=fun q=>ltL q.1 y.1) (fun z _ hz=>ltL_tr _ _ _ hz h) ⟨x,hx,h,ltL_irr _⟩
  exact decide_eq_true (by omega)
 | false =>
  have:kas.countP (fun q=>ltL q.1 y.1)<=kas.countP (fun q=>ltL q.1 x.1):=by
   by_cases e:x.1=y.1
   ·rw [e];exact Nat.le_refl _
   ·rcases ltL_tot _ _ e with z | z
    ·rw [z] at h;cases h
    ·exact aAv fun u _ hu=>ltL_tr _ _ _ hu z
  exact decide_eq_false (by omega)
variable {prog:Program} {w:World} {A:Around} {E:Y9} {s:Shared}
theorem tJ:∀ {x y:Y0} {vs:Y1},ItemsAre (intKind prog w) x vs->ItemsAre (intKind prog w) y vs->x=y
 | _,_,_,.nil,.nil=>rfl
 | _,_,_,.cons h1 t1,.cons h2 t2=>by
  obtain ⟨t,rfl⟩:=Value.isInt_shape h1
  have h2:Value.isInt _ (Value.int _ t)=true:=h2
  obtain ⟨u,e⟩:=Value.isInt_shape h2
  injection e with e1 e2
  rw [tJ t1 t2,e1]
theorem aJ1 {h:Heap} {x y:Y0} {a:Addr} (h1:IsTupleKey (intKind prog w) h x a) (h2:IsTupleKey (intKind prog w) h y a):x=y:=by
 obtain ⟨o,it,n,e1,_,e2,e3⟩:=h1
 obtain ⟨o',it',n',f1,_,f2,f3⟩:=h2
 rw [e1] at f1
 cases f1
 rw [e2] at f2
 cases f2
 exact tJ e3 f3
theorem pU {h:Heap} (hk:∀p∈kas,IsTupleKey (intKind prog w) h p.1 p.2) {p:Y0×Addr} (hp:p∈kas):aMq kas (.ref p.2)=p.1:=by
 unfold aMq
 dsimp only
 cases e:kas.find? fun q=>q.2 == p.2 with
 | none =>
  have:=List.find?_eq_none.mp e p hp
  simp at this
 | some q =>
  have h1:=List.mem_of_find?_eq_some e
  have h2:=List.find?_some e
  have h2:q.2=p.2:=by simpa using h2
  show q.1=p.1
  have t:=hk q h1
  rw [h2] at t
  exact aJ1 t (hk p hp)
theorem list_sort_A {a:Addr} {n:Nat} {P:PySem.Fin->Shared->Prop} (ho:s.heap.get? a=some (seqObj "list" (refs kas).toArray n)) (hk:∀p∈kas,IsTupleKey (intKind prog w) s.heap p.1 p.2) (hne:∀p∈kas,p.1 ≠ []) (hbig:kas.length<=1000000)
  (h:∀kas':Y7,kas'.Perm kas->kas'.Pairwise (fun x y=>ltL y.1 x.1=false)->P (.done (.ret .none)) { s with heap:=sortedHeap s.heap a (refs kas) (refs kas').toArray }) :
  wpAny (model prog w) A (Builtin.«list.sort» ⟨[.ref a],[]⟩) P E s:=by
 rw [list_sort_plain]
 have ha:a<s.heap.objs.size:=Heap.lt_size ho
 have hl:(refs kas).length=kas.length:=by simp [refs]
 refine wpAny_bind (listItems_at ho rfl ?_)
 refine wpAny_bind (listUpdate_at ho rfl ?_ (by rw [List.size_toArray,sizeLine_eq,hl];omega) (Nat.zero_le _))
 obtain ⟨e1,ho1⟩:∃e1,(s.heap.update a (Obj.mapSeq fun _=>#[])).get? a=some (seqObj "list" #[] e1):=⟨_,get?_update_seq ho (fun _=>#[])⟩
 refine wpAny_bind (seqEpoch_at ho1 rfl ?_)
 refine wpAny_bind (wpAny_newTuple ?_ (by show (refs kas).length<=_;rw [sizeLine_eq,hl];omega))
 refine wpAny_bind (wpAny_newList ?_ (Nat.zero_le _))
 refine wpAny_holding ?_
 have ho6:(((s.heap.update a (Obj.mapSeq fun _=>#[])).push (seqObj "tuple" (refs kas).toArray 0)).push (seqObj "list" #[] 0)).get? a=some (seqObj "list" #[] e1) :=
  Heap.get?_push_of_some _ (Heap.get?_push_of_some _ ho1)
 have hk6:∀p∈kas,IsTupleKey (intKind prog w) (((s.heap.update a (Obj.mapSeq fun _=>#[])).push (seqObj "tuple" (refs kas).toArray 0)).push (seqObj "list" #[] 0)) p.1 p.2:=fun p hp=>by
  obtain ⟨o,items,m,h1,h2,h3,h4⟩:=hk p hp
  have hpa:p.2 ≠ a:=fun z=>by
   rw [z] at h1
   rw [ho] at h1
   cases h1
   exact absurd (show Value.type "list" = Value.type "tuple" from h2) (by decide)
  refine ⟨o,items,m,Heap.get?_push_of_some _ (Heap.get?_push_of_some _ ?_),h2,h3,h4⟩
  rw [Heap.get?_update_other _ _ (Ne.symm hpa)];exact h1
 show wpAny (model prog w) A _ P E { s with heap:=((s.heap.update a (Obj.mapSeq fun _=>#[])).push (seqObj "tuple" (refs kas).toArray 0)).push (seqObj "list" #[] 0) }
 dsimp only
 by_cases h2:(refs kas).toArray.size<2
 ·rw [if_pos h2,if_pos h2]
  refine wpAny_bind (wpAny_pure ?_)
  rw [StateT.run_pure]
  refine wpAny_bind (wpAny_pure ?_)
  dsimp only
  refine wpAny_bind (seqEpoch_at ho6 rfl ?_)
  have e0:((arrOf (SortSt.mk' general' ((refs kas).toArray.zip (refs kas).toArray) #[] 7 none)).map (·.2))=(refs kas).toArray:=by
   show ((refs kas).toArray.zip (refs kas).toArray).map (·.2)=_
   apply Array.toList_inj.mp
   simp
   exact List.map_snd_zip (Nat.le_refl _)
  refine wpAny_bind (listUpdate_at ho6 rfl ?_ (Nat.zero_le _) (hsz2:=by rw [e0,List.size_toArray,sizeLine_eq,hl];omega))
  rw [e0]
  simp only [bne_self_eq_false,Bool.false_eq_true,if_false]
  refine wpAny_pure (h kas (.refl _) ?_)
  rw [List.size_toArray,hl] at h2
  match kas,h2 with
  | [],_=>exact .nil
  | [x],_=>exact List.pairwise_singleton _ _
  | _::_::_,h2=>simp at h2;omega
 ·rw [if_neg h2,if_neg h2]
  rw [List.size_toArray,hl] at h2
  obtain ⟨fs,t1,t2,t3⟩:=lW hk6 hne
  refine wpAny_bind (kat_kind (T:=.type "int") t1 (by omega) (fun v hv=>?_) (by decide) ?_)
  ·obtain ⟨x,t,rfl⟩:=t3 v hv
   exact Looks.of_pure rfl
  ·have ez:((refs kas).toArray.zip (refs kas).toArray).toList=kas.map fun p=>((Value.ref p.2,Value.ref p.2):Keyed):=by
    rw [Array.toList_zip]
    show (refs kas).zip (refs kas)=_
    unfold refs
    rw [List.zip_map']
   have C:Cmp prog w A { s with heap:=((s.heap.update a (Obj.mapSeq fun _=>#[])).push (seqObj "tuple" (refs kas).toArray 0)).push (seqObj "list" #[] 0) } (tuples' (Value.type "int" != Value.type "tuple")) (rank kas) (kas.map fun p=>((Value.ref p.2,Value.ref p.2):Keyed)):=by
    intro x hx y hy Q hq
    obtain ⟨p,hp,rfl⟩:=List.mem_map.mp hx
    obtain ⟨q,hq',rfl⟩:=List.mem_map.mp hy
    refine aK3 (hk6 p hp) (hk6 q hq') ?_
    have e1:rank kas (Value.ref p.2,Value.ref p.2)=cnt kas p.1:=by unfold rank;rw [pU hk hp]
    have e2:rank kas (Value.ref q.2,Value.ref q.2)=cnt kas q.1:=by unfold rank;rw [pU hk hq']
    rw [e1,e2,aBx hp hq'] at hq
    exact hq
   have run:=aGq (E:=E) (st:=SortSt.mk' (tuples' (Value.type "int" != Value.type "tuple")) ((refs kas).toArray.zip (refs kas).toArray) #[] 7 none) (Q:=fun _ st'=>failedOf st'=none/\∃kas':Y7,kas'.Perm kas/\(arrOf st').toList=kas'.map (fun p=>((Value.ref p.2,Value.ref p.2):Keyed))/\kas'.Pairwise (fun x y=>ltL y.1 x.1=false)) C rfl rfl rfl (fun x hx=>by rw [<- ez];exact hx) fun st' f1 p1 s1=>by
    have p1:(arrOf st').toList.Perm ((refs kas).toArray.zip (refs kas).toArray).toList:=p1
    rw [ez] at p1
    obtain ⟨kas',p2,e2⟩:=aF0 p1 kas rfl
    refine ⟨f1,kas',p2,e2,?_⟩
    rw [e2] at s1
    have s2:=List.pairwise_map.mp s1
    refine s2.imp_of_mem fun {x y} hx hy hxy=>?_
    have hx:=p2.mem_iff.mp hx
    have hy:=p2.mem_iff.mp hy
    have e1:rank kas (Value.ref x.2,Value.ref x.2)=cnt kas x.1:=by unfold rank;rw [pU hk hx]
    have e2:rank kas (Value.ref y.2,Value.ref y.2)=cnt kas y.1:=by unfold rank;rw [pU hk hy]
    rw [e1,e2] at hxy
    rw [<- aBx hy hx]
    exact decide_eq_false (by omega)
   refine wpAny_bind (wpAny_mono run ?_ fun _ _ e=>e)
   rintro ⟨⟨⟩,st'⟩ s' ⟨rfl,hf,kas',p2,e2,u2⟩
   dsimp only
   have hout:(arrOf st').map (·.2)=(refs kas').toArray:=by
    apply Array.toList_inj.mp
    rw [Array.toList_map,e2,List.map_map]
    rfl
   have hsz:(refs kas').length=kas.length:=by simp [refs,p2.length_eq]
   refine wpAny_bind (seqEpoch_at ho6 rfl ?_)
   refine wpAny_bind (listUpdate_at ho6 rfl ?_ (Nat.zero_le _) (hsz2:=by rw [hout,List.size_toArray,hsz,sizeLine_eq];omega))
   rw [hf,hout]
   simp only [bne_self_eq_false,Bool.false_eq_true,if_false]
   exact wpAny_pure (h kas' p2 u2)
end
end VT
end
section
namespace SV
open PySem PySem.W PyProof.Rows ST
section
variable {prog:Program} {w:World} {A:Around} {E:Y9} {s:Shared}
theorem sorted_set {S:Addr} {kas:Y7} {Q:Y9} (hh:A.handled=none) (hS:cT prog w s.heap S kas) (hne:∀p∈kas,p.1 ≠ [])
  (h:∀(kas':Y7) (D:Addr) (e:Nat) (h':Heap) (tk:Nat),kas'.Perm kas->kas'.Pairwise (fun x y=>ltL x.1 y.1=true)->h'.get? D=some (seqObj "list" (refs kas').toArray e)->s.heap.objs.size<=D->s.toks<=tk->(∀b o,s.heap.get? b=some o->h'.get? b=some o) ->
   Q (.ref D) { s with heap:=h',toks:=tk }):wpAny (model prog w) A (call (.builtin "sorted") [.ref S]) Q E s:=by
 have hlen:=hS.len
 refine Calls.call_function_entry kind_sorted plain_sorted entry_sorted (args_sorted1 _) ?_
 unfold Builtin.«sorted»
 refine wpAny_bind (m:=checkCount "sorted" 1 1 _) (wpAny_pure ?_)
 refine wpAny_bind (kS (by simpa using hh) hS fun kas1 s1 pk hm hsz=>?_)
 have hk1:∀p∈kas1,IsTupleKey (intKind prog w) s1.heap p.1 p.2:=fun p hp=>cU (hS.keys p (pk.subset hp)) fun o e=>hm.heap _ o (by simp) e
 have hl1:kas1.length=kas.length:=pk.length_eq
 refine wpAny_bind (wpAny_newList ?_ (by show (refs kas1).length<=_;rw [sizeLine_eq];simp [refs];omega))
 have hoL:(s1.heap.push (seqObj "list" (refs kas1).toArray 0)).get? s1.heap.objs.size=some (seqObj "list" (refs kas1).toArray 0):=Heap.get?_push_size _ rfl
 refine wpAny_bind (wpAny_holding (wpAny_call_entry slot_list_sort ⟨_,hoL,rfl⟩ entry_list_sort ?body (args_list_sort _)))
 case body =>
  refine VT.list_sort_A (s:={ s1 with heap:=s1.heap.push (seqObj "list" (refs kas1).toArray 0) }) hoL (fun p hp=>cU (hk1 p hp) fun o e=>Heap.get?_push_of_some _ e) (fun p hp=>hne p (pk.subset hp)) (by omega) fun kas2 pk2 up2'=>?_
  have nd2:(kas2.map (·.1)).Nodup:=((pk2.trans pk).map (·.1)).nodup_iff.mpr hS.nd
  have up2:kas2.Pairwise (fun x y=>ltL x.1 y.1=true):=by
   refine (up2'.and (List.pairwise_map.mp nd2)).imp fun {x y} hxy=>?_
   rcases ltL_tot x.1 y.1 hxy.2 with q | q
   ·exact q
   ·rw [hxy.1] at q;cases q
  refine ⟨_,rfl,wpAny_pure ⟨_,rfl,?_⟩⟩
  obtain ⟨h1,g1,d1,t1,o1⟩:=s1
  have eg:g1=s.gens:=hm.gens
  have ed:d1=s.drawn:=hm.drawn
  have eo:o1=s.os:=hm.os
  subst eg;subst ed;subst eo
  have hlt:h1.objs.size<(h1.push (seqObj "list" (refs kas1).toArray 0)).objs.size:=by rw [size_push'];exact Nat.lt_succ_self _
  obtain ⟨e2,he2⟩:∃e2,(sortedHeap (h1.push (seqObj "list" (refs kas1).toArray 0)) h1.objs.size (refs kas1) (refs kas2).toArray).get? h1.objs.size=some (seqObj "list" (refs kas2).toArray e2):=by
   unfold sortedHeap
   obtain ⟨e1,ho1⟩:∃e1,((h1.push (seqObj "list" (refs kas1).toArray 0)).update h1.objs.size (Obj.mapSeq fun _=>#[])).get? h1.objs.size=some (seqObj "list" #[] e1):=⟨_,get?_update_seq hoL (fun _=>#[])⟩
   exact ⟨_,get?_update_seq (Heap.get?_push_of_some _ (Heap.get?_push_of_some _ ho1)) fun _=>(refs kas2).toArray⟩
  refine h kas2 h1.objs.size e2 _ t1 (pk2.trans pk) up2 he2 hsz hm.toks fun b o e=>?_
  have e':h1.get? b=some o:=hm.heap b o (by simp) e
  have hne':h1.objs.size ≠ b:=Ne.symm (Nat.ne_of_lt (Heap.lt_size e'))
  unfold sortedHeap
  rw [Heap.get?_update_other _ _ hne']
  refine Heap.get?_push_of_some _ (Heap.get?_push_of_some _ ?_)
  rw [Heap.get?_update_other _ _ hne']
  exact Heap.get?_push_of_some _ e'
end
end SV
end
section
namespace VL
open PySem PySem.Spec PyProof.Rows L2
def aGx:List (D×Bool)->R (D×Bool)
 | [(.lst _ ds,_)]=>(match gJ ds with
  | some ks=>if decide (ks.length<=1000) && ks.all (fun k=>!k.isEmpty) then .ok (.lst true ((dW ks).map TI),true) else .bad
  | none=>.bad)
 | _=>.bad
section
variable {X:Cx} {W:XW} {e:Expr} {pos:Pos}
def aQl (K:FG):List V->Hp->VK->Prop:=fun vs H Q=>∃l rs,vs=[.ref l]/\SqL K H l (mT rs)/\(∀p∈rs,SqT K H p.2 (p.1.map V.int))/\rs.length<=1000/\(∀p∈rs,p.1 ≠ []) /\
 ∀p rs',H p=none->rs'.map (·.1)=dW (rs.map (·.1))->(∀q∈rs',q∈rs)->Q (.ref p) (upd H p (.lst (mT rs')))
theorem vW {k:Nat} {t:TA} {p p2 pos2:Pos} (hr:Room k X.A) (hc:X.calm=true) (hm1:X.mg "sorted" = none) (hm2:X.mg "set" = none) (ha:PA X [e] t) (hg1:Gl X "sorted" :=by rfl) (hg2:Gl X "set" :=by rfl)
  (hs1:starEach [.Call (.Name "set" p2) [e] [] pos2] X.env=(false,eval (.Call (.Name "set" p2) [e] [] pos2) X.env)::starEach [] X.env:=by rfl)
  (hs2:starEach [e] X.env=(false,eval e X.env)::starEach [] X.env:=by rfl) (hpl1:(backTo pos (starEach [] X.env)).any (·.1)=false:=by rfl) (hpl2:(backTo pos2 (starEach [] X.env)).any (·.1)=false:=by rfl)
  (hb0:backTo pos (starEach [] X.env)=[]:=by rfl)
  (hv1:bootBuiltins "sorted" = some (.builtin "sorted"):=by decide +kernel) (hv2:bootBuiltins "set" = some (.type "set"):=by decide +kernel) :
  PE X (.Call (.Name "sorted" p) [.Call (.Name "set" p2) [e] [] pos2] [] pos) (tCB (aQl X.K) t):=by
 intro pins s σ H Q I h
 refine wpAny_Call_Name_kw (iR I hg1 hm1 hv1 ?_ (by decide) (by decide))
 refine PyProof.Rows.callWith_builtin1 ?_ hs1 hpl1
 rw [hs1]
 show wpAny _ _ (spliced ((false,eval (.Call (.Name "set" p2) [e] [] pos2) X.env)::backTo pos (starEach [] X.env))) _ _ s
 refine Calls.spliced_cons ?_
 refine wpAny_Call_Name_kw (iR I hg2 hm2 hv2 ?_ (by decide) (by decide))
 refine PyProof.Rows.callWith_type1 (thn (ha pos2 pins s σ H _ I h) fun us s1 ⟨vs,H1,I1,r1,q1⟩=>?_) hs2 hpl2
 obtain ⟨l,rs,rfl,hl,ht,hlen,hne,q⟩:=q1
 obtain ⟨u,rfl,ru⟩:=vals1 r1
 cases ru
 obtain ⟨its,rv,pl,hz⟩:=I1.list hl
 have eits:=oQ rv
 subst eits
 have hkey:∀p∈rs,IsTupleKey (intKind X.prog X.w) s1.heap p.1 p.2:=fun p hp=>by
  obtain ⟨its,r,⟨o,ho,hc,n,hd⟩,_⟩:=I1.tuple (ht p hp)
  exact ⟨o,_,n,ho,hc,hd,rH (by simpa using r)⟩
 have hsz:(ST.refs rs).toArray.size=rs.length:=by simp [ST.refs]
 refine SV.call_setT (key:=fun i=>((rs[i]?).getD ([],0)).1) (adr:=fun i=>((rs[i]?).getD ([],0)).2) (I1.ok.hd hc) (fun B hB=>by have:=hr.un;omega) pl.isList (fun i v e=>?_) (fun i hi=>?_) (by rw [hsz];exact hlen) fun h' tk kas hS hD keep=>?_
 ·simp [ST.refs] at e
  obtain ⟨a,b,e1,e2⟩:=e
  rw [e1,<- e2];rfl
 ·rw [hsz] at hi
  rw [List.getElem?_eq_getElem hi]
  exact hkey _ (List.getElem_mem hi)
 ·rw [hsz] at hD
  rw [hb0]
  refine Calls.spliced_nil ?_
  have hin:∀p∈kas,p∈rs:=fun p hp=>by
   obtain ⟨i,hi,e⟩:=hD.2.1 p hp
   dsimp only at e
   rw [List.getElem?_eq_getElem hi] at e
   rw [e];exact List.getElem_mem hi
  refine SV.sorted_set (s:={ s1 with heap:=h',toks:=tk }) (I1.ok.hd hc) hS (fun p hp=>hne p (hin p hp)) fun kas' D ep h2 tk2 hp hu hD2 hsz2 _ keep2=>?_
  obtain ⟨oS,_,_,_,hoS,_⟩:=hS
  have hlt:s1.heap.objs.size<=D:=Nat.le_trans (Nat.le_of_lt (Heap.lt_size hoS)) hsz2
  have k2:∀b u,s1.heap.get? b=some u->h2.get? b=some u:=fun b u e=>keep2 b u (keep b u (Heap.lt_size e) e)
  refine ⟨.ref D,upd H1 D (.lst (mT kas')),I1.laid (t':=tk2) (o:=.lst (mT kas')) k2 hlt ?_,rfl,q D kas' (I1.hok.fresh hlt) ?_ fun p hp'=>hin p (hp.mem_iff.mp hp')⟩
  ·refine ⟨?_,ST.refs kas',ep,oX,hD2⟩
   have e1:=hp.length_eq
   have e2:=hD.2.2
   refine gT ?_
   simp [mT];omega
  ·refine vD ?_ (jC _) fun z=>?_
   ·exact List.pairwise_map.mpr hu
   ·rw [jD,(hp.map (·.1)).mem_iff,hD.1 z]
    constructor
    ·rintro ⟨i,hi,e⟩
     dsimp only at e
     rw [List.getElem?_eq_getElem hi] at e
     rw [<- e];exact List.mem_map_of_mem (List.getElem_mem hi)
    ·intro hz'
     obtain ⟨p,hp',e⟩:=List.mem_map.mp hz'
     obtain ⟨i,hi,e'⟩:=List.getElem_of_mem hp'
     exact ⟨i,hi,by dsimp only;rw [List.getElem?_eq_getElem hi];show rs[i].1=z;rw [e',e]⟩
theorem aJm {K:FG}:OpA K aGx (aQl K):=by
 intro F0 H0 F H xs vs fa Q gr a n k h
 match xs,h,a with
 | [(.lst o ds,b)],h,a =>
  unfold Args at a
  obtain ⟨v,r,fp,f2,e,o1,n1,t,w⟩:=a
  unfold Args at t
  obtain ⟨p,ys,fq,e1,q1,r1,_⟩:=Own.lst gr.inn o1
  have h:(match gJ ds with | some ks=>(if (decide (ks.length<=1000) && ks.all (fun k=>!k.isEmpty))=true then R.ok (D.lst true ((dW ks).map TI),true) else .bad) | none=>.bad).holds (EPost K F0 H0 Q):=h
  cases qt:gJ ds with
  | none=>rw [qt] at h;exact h.elim
  | some ks =>
   rw [qt] at h
   dsimp only at h
   by_cases hc:(decide (ks.length<=1000) && ks.all (fun k=>!k.isEmpty))=true
   ·rw [if_pos hc] at h
    rw [Bool.and_eq_true,decide_eq_true_iff] at hc
    obtain ⟨rs,h1,h2,h3⟩:=oN gr.inn ds qt r1
    subst h1
    rw [List.length_map] at hc
    refine ⟨p,rs,by rw [e,t.1,e1],h2 ▸ q1,fun p hp=>?_,hc.1,fun p hp z=>?_,fun q rs' hq e1 e2=>?_⟩
    ·have:=h3 p hp
     unfold TI Own at this
     obtain ⟨_,a,xs,ea,sq,ow⟩:=this
     cases ea
     have ow':=eN (p.1.map D.int) (ns:=p.1) (rS p.1) ow
     rw [<- ow']
     exact Same.sO gr.inn sq
    ·have:=List.all_eq_true.mp hc.2 p.1 (List.mem_map_of_mem hp)
     rw [z] at this;cases this
    ·rw [<- e1] at h
     exact EPost.yS gr h hq (uG rs' fun p hp=>h3 p (e2 p hp))
   ·rw [if_neg hc] at h;exact h.elim
 | [],h,a=>exact h.elim
 | [(.non,_)],h,a=>exact h.elim
 | [(.bl _,_)],h,a=>exact h.elim
 | [(.int _,_)],h,a=>exact h.elim
 | [(.str _,_)],h,a=>exact h.elim
 | [(.tup _,_)],h,a=>exact h.elim
 | [(.ext _ _,_)],h,a=>exact h.elim
 | (x,bx)::y::ys,h,a=>cases x<;>exact h.elim
theorem xT {k:Nat} {f:aL} {p p2 pos2:Pos} (hr:Room k X.A) (hc:X.calm=true) (hm1:X.mg "sorted" = none) (hm2:X.mg "set" = none) (ha:SE X e f) (hg1:Gl X "sorted" :=by rfl) (hg2:Gl X "set" :=by rfl)
  (hs1:starEach [.Call (.Name "set" p2) [e] [] pos2] X.env=(false,eval (.Call (.Name "set" p2) [e] [] pos2) X.env)::starEach [] X.env:=by rfl)
  (hs2:starEach [e] X.env=(false,eval e X.env)::starEach [] X.env:=by rfl) (hpl1:(backTo pos (starEach [] X.env)).any (·.1)=false:=by rfl) (hpl2:(backTo pos2 (starEach [] X.env)).any (·.1)=false:=by rfl)
  (hb0:backTo pos (starEach [] X.env)=[]:=by rfl)
  (hv1:bootBuiltins "sorted" = some (.builtin "sorted"):=by decide +kernel) (hv2:bootBuiltins "set" = some (.type "set"):=by decide +kernel) :
  SE X (.Call (.Name "sorted" p) [.Call (.Name "set" p2) [e] [] pos2] [] pos) (vCB aGx (aC f aK)) :=
 L2.PE.imp (vW hr hc hm1 hm2 (aB ha aH hs2) hg1 hg2 hs1 hs2 hpl1 hpl2 hb0 hv1 hv2) fun _ _ _ h=>aBv aJm h
end
end VL
end
section
namespace VL
open PySem PySem.Spec PyProof.Rows L2
section
variable {prog:Program} {w:World} {A:Around} {E:Y9} {s:Shared}
theorem aC0 (a b c d:Value):argsOk "min" ⟨[a,b,c,d],[]⟩:=by unfold argsOk;kernel_rfl
def sF (a b c d:Int):Int:=min (min a b) (min c d)
theorem aFs {a b c d:Int} {t u v x:Tok} {Q:Y9} (hh:A.handled=none)
  (h:∀y h' tk,(∀c o,s.heap.get? c=some o->h'.get? c=some o)->Q (.int (sF a b c d) y) { s with heap:=h',toks:=tk }) :
  wpAny (model prog w) A (call (.builtin "min") [.int a t,.int b u,.int c v,.int d x]) Q E s:=by
 have hname:(toString "min" ++ toString ".loop" : String) = "min.loop" :=by decide
 refine call_function_tree F.kind_min F.plain_min F.entry_min (aC0 _ _ _ _) ?_
 refine wpAny_bind (wpAny_of_eq (show Builtin.Builtins.bindParams "min" ["key", "default"] 0 ⟨[],[]⟩=pure [none,none] from rfl) ?_)
 refine wpAny_bind (wpAny_newObj_type ?_)
 have hT:(s.heap.push { cls:=.type "tuple",data:=.seq #[.int a t,.int b u,.int c v,.int d x] }).IsTuple s.heap.objs.size (intItems #[(a,t),(b,u),(c,v),(d,x)]):=⟨_,Heap.get?_push_size _ rfl,rfl,0,by simp [intItems]⟩
 have hsz:(s.heap.push { cls:=.type "tuple",data:=.seq #[.int a t,.int b u,.int c v,.int d x] }).objs.size=s.heap.objs.size+1:=Heap.size_push ..
 refine wpAny_bind (wpAny_pyIter_tuple hT ?_)
 refine wpAny_bind (wpAny_newObj_type ?_)
 rw [hname]
 refine wpAny_pure ⟨plainId_quiet F.plain_min_loop _,codeAny_min_loop_first (Walks.tuple (A:=A.in1) (by simpa using hh) _ s.heap.objs.size (by show s.heap.objs.size ≠ (s.heap.push _).objs.size;rw [hsz];exact Nat.ne_of_lt (Nat.lt_succ_self _)) (intItems #[(a,t),(b,u),(c,v),(d,x)]))
  (fun i j=>decide (numAt #[(a,t),(b,u),(c,v),(d,x)] i<numAt #[(a,t),(b,u),(c,v),(d,x)] j)) (CmpOf.ints_lt (numAt #[(a,t),(b,u),(c,v),(d,x)]) (fun _ _=>intItems_at)) _ ?hSf (by simp [intItems]) ?st (Heap.get?_push_size _ rfl) fun v' h' tk hP hk=>?_⟩
 case hSf =>
  intro hm
  have e1:((s.heap.push { cls:=.type "tuple",data:=.seq #[.int a t,.int b u,.int c v,.int d x] }).push { cls:=.type "tuple_iterator",data:=.fields #[.ref s.heap.objs.size,.int 0 0] }).objs.size=s.heap.objs.size+1+1:=by rw [Heap.size_push,hsz]
  have hm:((s.heap.push { cls:=.type "tuple",data:=.seq #[.int a t,.int b u,.int c v,.int d x] }).push { cls:=.type "tuple_iterator",data:=.fields #[.ref s.heap.objs.size,.int 0 0] }).objs.size∈[(s.heap.push { cls:=.type "tuple",data:=.seq #[.int a t,.int b u,.int c v,.int d x] }).objs.size,s.heap.objs.size]:=hm
  rw [e1,hsz] at hm
  simp at hm
  omega
 case st=>exact ⟨⟨_,Heap.get?_push_of_some _ (Heap.get?_push_size _ rfl),rfl,rfl⟩,(hT.push _).push _⟩
 have hold:∀c o,s.heap.get? c=some o->h'.get? c=some o:=fun c0 o e=>by
  have l1:=Heap.lt_size e
  refine hk c0 o (fun hm=>?_) (Nat.ne_of_lt ?_) (Heap.get?_push_of_some _ (Heap.get?_push_of_some _ (Heap.get?_push_of_some _ e)))
  ·have hm:c0=(s.heap.push { cls:=.type "tuple",data:=.seq #[.int a t,.int b u,.int c v,.int d x] }).objs.size:=by simpa using hm
   rw [hsz] at hm
   rw [hm] at l1
   exact Nat.not_lt.mpr (Nat.le_succ _) l1
  ·show c0<((s.heap.push _).push _).objs.size
   rw [Heap.size_push,hsz]
   exact Nat.lt_succ_of_lt (Nat.lt_succ_of_lt l1)
 have hP':(intItems #[(a,t),(b,u),(c,v),(d,x)])[argBest (fun i j=>decide (numAt #[(a,t),(b,u),(c,v),(d,x)] i<numAt #[(a,t),(b,u),(c,v),(d,x)] j)) 3]?=some v':=by
  have hsz2:(intItems #[(a,t),(b,u),(c,v),(d,x)]).size - 1=3:=by simp [intItems]
  rw [<- hsz2];exact hP
 have n0:numAt #[(a,t),(b,u),(c,v),(d,x)] 0=a:=rfl
 have n1:numAt #[(a,t),(b,u),(c,v),(d,x)] 1=b:=rfl
 have n2:numAt #[(a,t),(b,u),(c,v),(d,x)] 2=c:=rfl
 have n3:numAt #[(a,t),(b,u),(c,v),(d,x)] 3=d:=rfl
 have key:numAt #[(a,t),(b,u),(c,v),(d,x)] (argBest (fun i j=>decide (numAt #[(a,t),(b,u),(c,v),(d,x)] i<numAt #[(a,t),(b,u),(c,v),(d,x)] j)) 3)=sF a b c d:=by
  unfold sF
  simp only [argBest]
  by_cases h1:b<a
  ·simp only [n0,n1,h1,decide_true,if_true]
   by_cases h2:c<b
   ·simp only [n1,n2,h2,decide_true,if_true]
    by_cases h3:d<c
    ·simp only [n2,n3,h3,decide_true,if_true];omega
    ·simp only [n2,n3,h3,decide_false,Bool.false_eq_true,if_false];omega
   ·simp only [n1,n2,h2,decide_false,Bool.false_eq_true,if_false]
    by_cases h3:d<b
    ·simp only [n1,n3,h3,decide_true,if_true];omega
    ·simp only [n1,n3,h3,decide_false,Bool.false_eq_true,if_false];omega
  ·simp only [n0,n1,h1,decide_false,Bool.false_eq_true,if_false]
   by_cases h2:c<a
   ·simp only [n0,n2,h2,decide_true,if_true]
    by_cases h3:d<c
    ·simp only [n2,n3,h3,decide_true,if_true];omega
    ·simp only [n2,n3,h3,decide_false,Bool.false_eq_true,if_false];omega
   ·simp only [n0,n2,h2,decide_false,Bool.false_eq_true,if_false]
    by_cases h3:d<a
    ·simp only [n0,n3,h3,decide_true,if_true];omega
    ·simp only [n0,n3,h3,decide_false,Bool.false_eq_true,if_false];omega
 obtain ⟨y,ey⟩:=intItems_at hP'
 rw [key] at ey
 subst ey
 exact h y h' tk hold
end
section
variable {X:Cx} {W:XW} {e a b c d:Expr} {pos:Pos}
theorem aCu (hc:X.calm=true):jI X (.builtin "min") (fun xs H Q=>∃i j k l,xs=[.int i,.int j,.int k,.int l]/\Q (.int (sF i j k l)) H):=by
 intro pins s σ H xs us Q I r h
 obtain ⟨i,j,k,l,rfl,q⟩:=h
 have step:∀ {i:Int} {xs:List V} {us:Y1},Vals (.int i::xs) us->∃t r,us=Value.int i t::r/\Vals xs r:=fun h=>by
  cases h with
  | cons x y=>obtain ⟨t,rfl⟩:=x;exact ⟨t,_,rfl,y⟩
 obtain ⟨t1,r1,rfl,ra⟩:=step r
 obtain ⟨t2,r2,rfl,rb⟩:=step ra
 obtain ⟨u3,u4,rfl,⟨t3,rfl⟩,⟨t4,rfl⟩⟩:=vals2 rb
 exact aFs (I.ok.hd hc) fun y h' tk kp=>⟨.int (sF i j k l),H,I.kept kp,⟨y,rfl⟩,q⟩
def yJ:List (D×Bool)->R (D×Bool)
 | [(.int i,_),(.int j,_),(.int k,_),(.int l,_)]=>.ok (.int (sF i j k l),true) | _=>.bad
theorem aFt {K:FG}:OpA K yJ (fun xs H Q=>∃i j k l,xs=[.int i,.int j,.int k,.int l]/\Q (.int (sF i j k l)) H):=by
 intro F0 H0 F H xs vs fa Q gr a n k h
 unfold yJ at h
 split at h
 ·rename_i i _ j _ k _ l _
  unfold Args at a
  obtain ⟨v1,r1,fp1,f1,e1,o1,m1,a,w1⟩:=a
  unfold Args at a
  obtain ⟨v2,r2,fp2,f2,e2,o2,m2,a,w2⟩:=a
  unfold Args at a
  obtain ⟨v3,r3,fp3,f3,e3,o3,m3,a,w3⟩:=a
  unfold Args at a
  obtain ⟨v4,r4,fp4,f4,e4,o4,m4,a,w4⟩:=a
  unfold Args at a
  unfold Own at o1 o2 o3 o4
  exact ⟨i,j,k,l,by rw [e1,e2,e3,e4,a.1,o1.1,o2.1,o3.1,o4.1],EPost.dE gr h rfl⟩
 ·exact h.elim
theorem aKc {f g h k:aL} {p:Pos} (hc:X.calm=true) (hm:X.mg "min" = none) (ha:SE X a f) (hb:SE X b g) (hc':SE X c h) (hd:SE X d k) (hg:Gl X "min" :=by rfl) (hs:starEach [a,b,c,d] X.env=(false,eval a X.env)::starEach [b,c,d] X.env:=by rfl) (hs2:starEach [b,c,d] X.env=(false,eval b X.env)::starEach [c,d] X.env:=by rfl) (hs3:starEach [c,d] X.env=(false,eval c X.env)::starEach [d] X.env:=by rfl) (hs4:starEach [d] X.env=(false,eval d X.env)::starEach [] X.env:=by rfl) (hv:bootBuiltins "min" = some (.builtin "min"):=by decide +kernel)
  (hpl:(backTo pos (starEach [b,c,d] X.env)).any (·.1)=false:=by rfl):SE X (.Call (.Name "min" p) [a,b,c,d] [] pos) (vCB yJ (aC f (aC g (aC h (aC k aK))))) :=
 xN (aCu hc) aFt hm hv (aB ha (aB hb (aB hc' (aB hd aH hs4) hs3) hs2) hs) hg (by decide) (by decide) hs hpl
end
end VL
end
section
namespace VL
open PySem PySem.Spec PyProof.Rows L2
section
variable {X:Cx} {W:XW} {e st:Expr} {pos p2:Pos}
def aKu (K:FG):R2:=fun x y H Q=>∃a xs,x=.ref a/\y=.int (-1)/\SqL K H a xs/\∀p,H p=none->Q (.ref p) (upd H p (.lst xs.reverse))
theorem yN:∀ {xs:List V} {us:Y1},Vals xs us->Vals xs.reverse us.reverse
 | _,_,.nil=>.nil
 | _,_,.cons h t=>by
  rw [List.reverse_cons,List.reverse_cons]
  exact (yN t).append (.cons h .nil)
theorem aIf {te ts:TE} (he:PE X e te) (hs:PE X st ts):PE X (.Subscript e (.Slice none none (some st) p2) pos) (tOp (aKu X.K) te ts):=by
 intro pins s σ H Q I h
 refine Subscript_ (thn (he pins s σ H _ I h) fun v s1 ⟨x,H1,I1,r1,q1⟩=>?_)
 refine wpAny_Slice ?_
 rw [evalPart_none]
 refine wpAny_pure (wpAny_pure ?_)
 rw [evalPart_some]
 refine thn (hs pins s1 σ H1 _ I1 q1) fun vs s3 ⟨y,H3,I3,ry,q3⟩=>?_
 obtain ⟨a,xs,rfl,rfl,hl,q⟩:=q3
 cases r1
 obtain ⟨t,rfl⟩:=ry
 have I4:Inv X pins σ H3 { s3 with heap:=s3.heap.push { cls:=.type "slice",data:=.fields #[.none,.none,.int (-1) t] } }:=I3.kept (t':=s3.toks) fun b ob q=>Heap.get?_push_of_some _ q
 obtain ⟨its,rv,pl,hz⟩:=I4.list hl
 show wpAny (model X.prog X.w) X.A (subscriptTail e (.Slice none none (some st) p2) (.ref a) (.ref s3.heap.objs.size)) (EP X pins σ Q) X.xe { s3 with heap:=s3.heap.push { cls:=.type "slice",data:=.fields #[.none,.none,.int (-1) t] } }
 refine tail_any (ops:=[.ref a,.ref s3.heap.objs.size]) pl.isList.typeIs slot_list_getitem.lookup ?_ (by with_unfolding_all rfl)
 refine wpAny_getItem_list_slice pl.isList (Heap.IsSliceOf.new ..) .none .none (.int (-1) t) (by decide) ?_ (by rw [List.size_toArray,<- rv.length];exact hz)
 rw [PySem.W.krv_pick]
 refine ⟨.ref _,upd H3 _ (.lst xs.reverse),I4.laid (t':=s3.toks) (o:=.lst xs.reverse) (fun b u q=>Heap.get?_push_of_some _ q) (Nat.le_refl _) ?_,rfl,q _ (I4.hok.fresh (Nat.le_refl _))⟩
 have hlen:=rv.length
 refine ⟨?_,its.reverse,0,yN rv,Heap.get?_push_size _ rfl⟩
 rw [List.length_reverse];exact hz
def yH:D×Bool->D×Bool->R (D×Bool):=fun x y=>match x.1,y.1 with
 | .lst _ ds,.int i=>if i = -1/\D.aZ ds=true then .ok (.lst true ds.reverse,true) else .bad
 | _,_=>.bad
theorem aEj {K:FG}:Op2 K yH (aKu K):=by
 intro F0 H0 F H x y v u fx fy Q gr o1 n1 k1 o2 n2 k2 h
 unfold yH at h
 split at h
 ·rename_i o ds i e1 e2
  by_cases hc:i = -1/\D.aZ ds=true
  ·rw [if_pos hc] at h
   rw [e1] at o1;rw [e2] at o2
   obtain ⟨p,ys,fq,e3,q1,r1,_⟩:=Own.lst gr.inn o1
   have efq:=aF.dA ds hc.2 r1
   subst efq
   unfold Own at o2
   exact ⟨p,ys,e3,by rw [o2.1,hc.1],q1,fun q hq=>EPost.yS gr h hq (aEt r1)⟩
  ·rw [if_neg hc] at h;exact h.elim
 ·exact h.elim
theorem aJ0 {f g:aL} (ha:SE X e f) (hs:SE X st g):SE X (.Subscript e (.Slice none none (some st) p2) pos) (v2 yH f g):=(aIf ha hs).imp fun _ _ _ h=>wJ aEj h
end
end VL
end
section
namespace VT
open PySem PySem.W PyProof.Rows ST
section
variable {prog:Program} {w:World} {A:Around} {E:Y9} {s:Shared}
end
end VT
end
section
namespace VL
open PySem PySem.Spec PyProof.Rows L2
section
variable {X:Cx} {W:XW} {e:Expr} {pos:Pos}
end
section
variable {K:FG} {W:XW} {F H:Hp} {σ:L2.St} {ρ:Env}
end
section
variable {X:Cx} {W:XW} {a b e:Expr} {pos:Pos}
end
end VL
end
section
namespace VL
open PySem PySem.Spec PyProof.Rows L2 PySem.SeqAt
section
variable {X:Cx} {o e:Expr} {ap cp:Pos}
end
end VL
end
section
namespace VL.K01
open VL PySem PY K10
def b_cost_of:aQ:=(aS (kR (gC jN (aC (aD 0) (aC (aD 1) aK)))) (dJ (xOf (vCB aIs (aC (cG (kA (aD 1)) 1 [0] (bH 0) cJ (v2 kIx (v2 kIx (v2 kIx (aD 1) (vC (.int 2))) (aD 0)) (vC (.int 3)))) aK)))))
def f_cost_of:Fn:=fnOf 2 b_cost_of
def b_q_good:aQ:=(aS (gO [1,2,3] (xOf (aD 0))) (aS (sIf (iS (eS (aU (jO (fun i j=>decide (i<=j)) (fun i j=>decide (i<=j)) (vC (.int 1)) (aD 1) (vC (.int 200))))) (iS (eS (aU (jO (fun i j=>decide (i<=j)) (fun i j=>decide (i<=j)) (vC (.int 1)) (aD 2) (vC (.int 8))))) (aU (v2 kGt (vCB fG (aC (aD 3) aK)) (vC (.int 600)))))) (dJ (xOf (vC (.bl false)))) bN) (aS (jQ (kA (aD 3)) (fZ [4,5,6,7]) (sIf (iS (aU (v2 kLt (vCB yJ (aC (aD 4) (aC (aD 5) (aC (aD 6) (aC (aD 7) aK))))) (vC (.int 0)))) (iS (aU (v2 kGe (vCB (k2i fun i j=>if j > i then j else i) (aC (aD 4) (aC (aD 6) aK))) (aD 1))) (iS (aU (v2 kGe (aD 5) (aD 2))) (aU (v2 kGt (aD 7) (vC (.int 1000))))))) (dJ (xOf (vC (.bl false)))) bN)) (dJ (xOf (v2 (kEq false) (aD 3) (vCB aGx (aC (aD 3) aK))))))))
def f_q_good:Fn:=fnOf 8 b_q_good
def b_q_spoilt:aQ:=(aS (gO [2,3,4] (xOf (aD 0))) (aS (bC 5 (xOf (v2 eY (aD 1) (vC (.int 8))))) (aS (bC 6 (xOf (v2 gK (aD 1) (vC (.int 8))))) (aS (sIf (nV (aU (v2 kLt (aD 5) (vC (.int 3)))) (jE (aD 4))) (aS (bC 7 (xOf (v2 eY (aD 6) (vCB fG (aC (aD 4) aK))))) (aS (bC 8 (xOf (vCB kM (aC (v2 kIx (aD 4) (aD 7)) aK)))) (aS (bC 9 (xOf (v2 eY (v2 gK (aD 6) (vC (.int 64))) (vC (.int 4))))) (aS (gA 8 (aD 9) (v2 kIx (dR (aC (v1 (kU fun i=>.int (-i)) (vC (.int 1))) (aC (v2 kIx (dR (aC (aD 2) (aC (aD 3) (aC (aD 2) (aC (vC (.int 1001)) aK))))) (aD 9)) (aC (v2 kIx (dR (aC (v2 aAa (aD 2) (vC (.int 1))) (aC (v2 aAa (aD 3) (vC (.int 1))) (aC (vC (.int 0)) (aC (vC (.int 1000)) aK))))) (aD 9)) aK)))) (aD 5))) (dJ (xOf (nR (aC (aD 2) (aC (aD 3) (aC (v2 bT (v2 bT (vSl (aD 4) lR (tD (aD 7))) (dR (aC (vCB uF (aC (aD 8) aK)) aK))) (vSl (aD 4) (tD (v2 bT (aD 7) (vC (.int 1)))) lR)) aK)))))))))) bN) (aS (sIf (aU (v2 (kEq false) (aD 5) (vC (.int 3)))) (dJ (xOf (nR (aC (aD 2) (aC (aD 3) (aC (v2 yH (aD 4) (v1 (kU fun i=>.int (-i)) (vC (.int 1)))) aK)))))) bN) (aS (sIf (aU (v2 (kEq false) (aD 5) (vC (.int 4)))) (dJ (xOf (nR (aC (aD 2) (aC (aD 3) (aC (v2 bT (aD 4) (vSl (aD 4) (tD (v1 (kU fun i=>.int (-i)) (vC (.int 1)))) lR)) aK)))))) bN) (aS (sIf (aU (v2 (kEq false) (aD 5) (vC (.int 5)))) (dJ (xOf (nR (aC (v2 kIx (dR (aC (vC (.int 0)) (aC (vC (.int 200)) (aC (vC (.int 201)) (aC (v1 (kU fun i=>.int (-i)) (vC (.int 1))) aK))))) (v2 eY (aD 6) (vC (.int 4)))) (aC (v2 kIx (dR (aC (vC (.int 0)) (aC (vC (.int 8)) (aC (vC (.int 9)) (aC (vC (.int 1)) aK))))) (v2 eY (v2 gK (aD 6) (vC (.int 4))) (vC (.int 4)))) (aC (dR aK) aK)))))) bN) (aS (sIf (aU (v2 (kEq false) (aD 5) (vC (.int 6)))) (aS (bC 10 (xOf (v2 bT (vC (.int 600)) (v2 eY (aD 6) (vC (.int 2)))))) (dJ (xOf (nR (aC (vC (.int 200)) (aC (vC (.int 8)) (aC (cG (iR1 (aC (aD 10) aK)) 1 [] (bH 0) cJ (nR (aC (v2 gK (aD 0) (vC (.int 8))) (aC (v2 eY (aD 0) (vC (.int 8))) (aC (vC (.int 0)) (aC (vC (.int 0)) aK)))))) aK))))))) bN) (lT 0)))))))))
def f_q_spoilt:Fn:=fnOf 11 b_q_spoilt
def b_q_told:aQ:=(aS (bC 3 (xOf (vC .non))) (aS (bC 4 (xOf (vC .non))) (aS (zR 5 knF (sIf (aU (v2 (kEq false) (aD 0) (vC (.int 0)))) (bC 4 (gC bE (aC (aD 1) aK))) (sIf (aU (v2 (kEq false) (aD 0) (vC (.int 1)))) (bC 4 (gC jN (aC (aD 1) (aC (aD 2) aK)))) (bC 4 (xIf (aU (v2 (kEq false) (aD 0) (vC (.int 2)))) (gC f_cost_of (aC (aD 1) (aC (aD 2) aK))) (gC fL (aC (aD 1) aK)))))) (bC 3 (xOf (aD 5)))) (pG [4] (dJ (xOf (vIf (aU (v2 (nT false) (aD 3) (vC .non))) (aD 4) (bG fY (aC (aD 3) aK)))))))))
def f_q_told:Fn:=fnOf 6 b_q_told
def b_law:aQ:=(aS (bC 1 (xOf (bG iI (aC (aD 0) (aC (vC (.int 0)) (aC (vC (.int 7)) aK)))))) (aS (bC 2 (xOf (bG f_q_spoilt (aC (aD 1) (aC (bG bX (aC (aD 0) (aC (vC (.int 30)) aK))) aK))))) (aS (bC 3 (xOf (nR (aC (v2 kIx (aD 2) (vC (.int 0))) (aC (v2 kIx (aD 2) (vC (.int 1))) (aC (vCB kM (aC (v2 kIx (aD 2) (vC (.int 2))) aK)) aK)))))) (aS (sIf (eS (jE (bG f_q_good (aC (aD 2) aK)))) (sIf (aU (v2 (kEq true) (cG (iR1 (aC (vC (.int 4)) aK)) 1 [3] (bH 0) cJ (bG f_q_told (aC (aD 0) (aC (aD 1) (aC (dR (aC (v1 (kU fun i=>.int (-i)) (vC (.int 1))) aK)) aK))))) (v2 jR (dR (aC (vC (.str "machine")) aK)) (vC (.int 4))))) (dJ (xOf (vC (.bl false)))) bN) (sIf (iS (aU (v2 (nT true) (bG f_q_told (aC (vC (.int 0)) (aC (aD 3) (aC (dR aK) aK)))) (vC .non))) (aU (v2 (kEq true) (v2 kIx (aD 3) (vC (.int 2))) (v2 kIx (aD 2) (vC (.int 2)))))) (dJ (xOf (vC (.bl false)))) bN)) (aS (bC 4 (xOf (bG nG (aC (aD 0) (aC (vC (.int 40)) (aC (aD 1) (aC (vC (.int 8)) aK))))))) (aS (bC 5 (xOf (bG bX (aC (aD 0) (aC (vC (.int 50)) aK))))) (aS (bC 6 (xOf (v2 eY (v2 gK (aD 5) (vC (.int 8))) (v2 bT (vCB fG (aC (aD 4) aK)) (vC (.int 1)))))) (aS (sIf (aU (v2 (kEq false) (v2 eY (aD 5) (vC (.int 3))) (vC (.int 0)))) (bC 4 (xOf (v2 bT (v2 bT (vSl (aD 4) lR (tD (aD 6))) (dR (aC (v2 kIx (dR (aC (v1 (kU fun i=>.int (-i)) (vC (.int 1))) (aC (vCB fG (aC (v2 kIx (aD 1) (vC (.int 2))) aK)) (aC (vC (.int 0)) (aC (vC (.int 1)) aK))))) (v2 eY (v2 gK (aD 5) (vC (.int 64))) (vC (.int 4)))) aK))) (vSl (aD 4) (tD (aD 6)) lR)))) bN) (aS (bC 7 (xOf (dR (aC (vC (.int 0)) aK)))) (aS (bC 8 (xOf (vC (.int 0)))) (aS (pG [4] (jQ (kA (aD 4)) (bH 9) (sIf (iS (aU (v2 (kEq false) (aD 7) (vC (.str "row")))) (iS (eS (aU (jO (fun i j=>decide (i<=j)) (fun i j=>decide (i<j)) (vC (.int 0)) (aD 9) (vCB fG (aC (v2 kIx (aD 1) (vC (.int 2))) aK))))) (aU (v2 (kEq true) (v2 kIx (v2 kIx (v2 kIx (aD 1) (vC (.int 2))) (aD 9)) (vC (.int 0))) (v2 kIx (aD 7) (v1 (kU fun i=>.int (-i)) (vC (.int 1)))))))) (bC 7 (xOf (vC (.str "row")))) (aS (dH 7 (v2 kIx (v2 kIx (v2 kIx (aD 1) (vC (.int 2))) (aD 9)) (vC (.int 2)))) (bC 8 (xOf (v2 bT (aD 8) (v2 kIx (v2 kIx (v2 kIx (aD 1) (vC (.int 2))) (aD 9)) (vC (.int 3)))))))))) (aS (pG [7] (sIf (iS (aU (v2 (kEq true) (bG f_q_told (aC (vC (.int 1)) (aC (aD 1) (aC (vCB kM (aC (aD 4) aK)) aK)))) (aD 7))) (aU (v2 (kEq true) (bG f_q_told (aC (vC (.int 2)) (aC (aD 1) (aC (aD 4) aK)))) (vIf (aU (v2 (kEq false) (aD 7) (vC (.str "row")))) (vC (.str "row")) (aD 8))))) (dJ (xOf (vC (.bl false)))) bN)) (aS (bC 10 (xOf (bG iO (aC (aD 1) aK)))) (aS (bC 11 (gC fL (aC (aD 1) aK))) (pG [10,11] (dJ (xOf (yF (v2 (kEq false) (aD 11) (cG (iR1 (aC (v2 kIx (aD 1) (vC (.int 0))) aK)) 1 [10] (bH 0) cJ (v2 (kIn false) (aD 0) (aD 1)))) (vCB aDq (aC (cG (kA (aD 11)) 1 [] (bH 0) cJ (v1 (jZ "bool") (aD 0))) aK))))))))))))))))))))
def f_law:Fn:=fnOf 12 b_law
end VL.K01
end
section
namespace VL
open PySem PySem.Spec PyProof.Rows L2
theorem iA {X:Cx} {pos:Pos} {x:Str} {i:Int} (hm:∃t,X.mg x=some (.int i t)) (hg:Gl X x:=by rfl) (hd:(x == ("__debug__" : Str))=false:=by decide):SE X (.Name x pos) (vC (.int i)):=by
 obtain ⟨t,hm⟩:=hm
 exact aKb hm hg hd
theorem al1 {f0:aL}:uV 1 (aC f0 aK):=kZ aF3
theorem al2 {f0 f1:aL}:uV 2 (aC f0 (aC f1 aK)):=kZ al1
theorem al3 {f0 f1 f2:aL}:uV 3 (aC f0 (aC f1 (aC f2 aK))):=kZ al2
theorem al4 {f0 f1 f2 f3:aL}:uV 4 (aC f0 (aC f1 (aC f2 (aC f3 aK)))):=kZ al3
namespace K01
open PY K10
structure XT (K:FG) (mg:Y6) (P M R C D F:Addr):Prop where
 cP:dZ K "PurseError" P
 mP:mg "PurseError" = some (.ref P)
 mM:mg "BadMachine" = some (.ref M)
 mR:mg "BadRow" = some (.ref R)
 mC:mg "BadPrices" = some (.ref C)
 mD:mg "BadModel" = some (.ref D)
 mF:mg "BadForm" = some (.ref F)
 cM:dZ K "BadMachine" M
 xM:PySem.W.excIn K M bmV "ValueError.__new__" = true
 eM:PySem.W.exmOne K (.ref M) (.ref P)=some true
 xxM:ExcF K M
 kMM:PySem.W.kitOne K (.ref M) (.ref M)=some true
 kMR:PySem.W.kitOne K (.ref M) (.ref R)=some false
 kMC:PySem.W.kitOne K (.ref M) (.ref C)=some false
 kMD:PySem.W.kitOne K (.ref M) (.ref D)=some false
 kMF:PySem.W.kitOne K (.ref M) (.ref F)=some false
 kMV:PySem.W.kitOne K (.ref M) (.type "ValueError")=some true
 cR:dZ K "BadRow" R
 xR:PySem.W.excIn K R bmV "ValueError.__new__" = true
 eR:PySem.W.exmOne K (.ref R) (.ref P)=some true
 xxR:ExcF K R
 kRM:PySem.W.kitOne K (.ref R) (.ref M)=some false
 kRR:PySem.W.kitOne K (.ref R) (.ref R)=some true
 kRC:PySem.W.kitOne K (.ref R) (.ref C)=some false
 kRD:PySem.W.kitOne K (.ref R) (.ref D)=some false
 kRF:PySem.W.kitOne K (.ref R) (.ref F)=some false
 kRV:PySem.W.kitOne K (.ref R) (.type "ValueError")=some true
 cC:dZ K "BadPrices" C
 xC:PySem.W.excIn K C bmV "ValueError.__new__" = true
 eC:PySem.W.exmOne K (.ref C) (.ref P)=some true
 xxC:ExcF K C
 kCM:PySem.W.kitOne K (.ref C) (.ref M)=some false
 kCR:PySem.W.kitOne K (.ref C) (.ref R)=some false
 kCC:PySem.W.kitOne K (.ref C) (.ref C)=some true
 kCD:PySem.W.kitOne K (.ref C) (.ref D)=some false
 kCF:PySem.W.kitOne K (.ref C) (.ref F)=some false
 kCV:PySem.W.kitOne K (.ref C) (.type "ValueError")=some true
section
variable {K:FG} {mg:Y6} {P M R C D F:Addr} (x:XT K mg P M R C D F)
include x
theorem XT.one:∀c C',knF c=true->dZ K c C'->(c = "BadMachine" /\C'=M)\/(c = "BadRow" /\C'=R)\/(c = "BadPrices" /\C'=C):=fun c C' h1 h2=>by
 unfold knF at h1
 simp only [Bool.or_eq_true,beq_iff_eq] at h1
 rcases h1 with (h1 | h1) | h1<;>subst h1
 ·have:=h2.symm.trans x.cM;cases this;exact .inl ⟨rfl,rfl⟩
 ·have:=h2.symm.trans x.cR;cases this;exact .inr (.inl ⟨rfl,rfl⟩)
 ·have:=h2.symm.trans x.cC;cases this;exact .inr (.inr ⟨rfl,rfl⟩)
theorem XT.ct:∀c C',knF c=true->dZ K c C'->PySem.W.exmOne K (.ref C') (.ref P)=some true:=fun c C' h1 h2=>by
 rcases x.one c C' h1 h2 with ⟨rfl,rfl⟩ | ⟨rfl,rfl⟩ | ⟨rfl,rfl⟩
 ·exact x.eM
 ·exact x.eR
 ·exact x.eC
theorem XT.fM:∀c C',knF c=true->dZ K c C'->ExcF K C'/\PySem.W.kitOne K (.ref C') (.ref M)=some (eqF "BadMachine" c):=fun c C' h1 h2=>by
 rcases x.one c C' h1 h2 with ⟨rfl,rfl⟩ | ⟨rfl,rfl⟩ | ⟨rfl,rfl⟩
 ·exact ⟨x.xxM,x.kMM⟩
 ·exact ⟨x.xxR,x.kRM⟩
 ·exact ⟨x.xxC,x.kCM⟩
theorem XT.fR:∀c C',knF c=true->dZ K c C'->ExcF K C'/\PySem.W.kitOne K (.ref C') (.ref R)=some (eqF "BadRow" c):=fun c C' h1 h2=>by
 rcases x.one c C' h1 h2 with ⟨rfl,rfl⟩ | ⟨rfl,rfl⟩ | ⟨rfl,rfl⟩
 ·exact ⟨x.xxM,x.kMR⟩
 ·exact ⟨x.xxR,x.kRR⟩
 ·exact ⟨x.xxC,x.kCR⟩
theorem XT.fC:∀c C',knF c=true->dZ K c C'->ExcF K C'/\PySem.W.kitOne K (.ref C') (.ref C)=some (eqF "BadPrices" c):=fun c C' h1 h2=>by
 rcases x.one c C' h1 h2 with ⟨rfl,rfl⟩ | ⟨rfl,rfl⟩ | ⟨rfl,rfl⟩
 ·exact ⟨x.xxM,x.kMC⟩
 ·exact ⟨x.xxR,x.kRC⟩
 ·exact ⟨x.xxC,x.kCC⟩
theorem XT.fD:∀c C',knF c=true->dZ K c C'->ExcF K C'/\PySem.W.kitOne K (.ref C') (.ref D)=some (eqF "BadModel" c):=fun c C' h1 h2=>by
 rcases x.one c C' h1 h2 with ⟨rfl,rfl⟩ | ⟨rfl,rfl⟩ | ⟨rfl,rfl⟩
 ·exact ⟨x.xxM,x.kMD⟩
 ·exact ⟨x.xxR,x.kRD⟩
 ·exact ⟨x.xxC,x.kCD⟩
theorem XT.fF:∀c C',knF c=true->dZ K c C'->ExcF K C'/\PySem.W.kitOne K (.ref C') (.ref F)=some (eqF "BadForm" c):=fun c C' h1 h2=>by
 rcases x.one c C' h1 h2 with ⟨rfl,rfl⟩ | ⟨rfl,rfl⟩ | ⟨rfl,rfl⟩
 ·exact ⟨x.xxM,x.kMF⟩
 ·exact ⟨x.xxR,x.kRF⟩
 ·exact ⟨x.xxC,x.kCF⟩
theorem XT.fV:∀c C',knF c=true->dZ K c C'->ExcF K C'/\PySem.W.kitOne K (.ref C') (.type "ValueError")=some (ttF c):=fun c C' h1 h2=>by
 rcases x.one c C' h1 h2 with ⟨rfl,rfl⟩ | ⟨rfl,rfl⟩ | ⟨rfl,rfl⟩
 ·exact ⟨x.xxM,x.kMV⟩
 ·exact ⟨x.xxR,x.kRV⟩
 ·exact ⟨x.xxC,x.kCV⟩
end
def top (i:Nat):Stmt:=PySem.Challenge.pw_pursehall_k01_machines.main.body.getD i (.Pass ⟨0,0,0,0⟩)
structure Txt (K:FG) (mg:Y6):Prop where
 n_ValueError:mg "ValueError" = none
 n_all:mg "all" = none
 n_bool:mg "bool" = none
 n_enumerate:mg "enumerate" = none
 n_int:mg "int" = none
 n_isinstance:mg "isinstance" = none
 n_len:mg "len" = none
 n_list:mg "list" = none
 n_max:mg "max" = none
 n_min:mg "min" = none
 n_range:mg "range" = none
 n_set:mg "set" = none
 n_sorted:mg "sorted" = none
 n_sum:mg "sum" = none
 n_tuple:mg "tuple" = none
 i_MOST_PLACES:∃t,mg "MOST_PLACES" = some (.int 200 t)
 i_MOST_KINDS:∃t,mg "MOST_KINDS" = some (.int 8 t)
 i_MOST_DEEDS:∃t,mg "MOST_DEEDS" = some (.int 600 t)
 i_MOST_COST:∃t,mg "MOST_COST" = some (.int 1000 t)
 d_is_whole:FnAt K "is_whole" (top 8)
 d_is_between:FnAt K "is_between" (top 9)
 d_is_deed:FnAt K "is_deed" (top 15)
 d_look_deeds:FnAt K "look_deeds" (top 16)
 d_look_machine:FnAt K "look_machine" (top 17)
 d_gone:FnAt K "gone" (top 18)
 d_cost_of:FnAt K "cost_of" (top 19)
 d_deeds_from:FnAt K "deeds_from" (top 20)
 d_came_by:FnAt K "came_by" (top 21)
 d_reached:FnAt K "reached" (top 22)
 d_q_cell:FnAt K "_law_cell" (top 24)
 d_q_mix:FnAt K "_law_mix" (top 25)
 d_q_machine:FnAt K "_law_machine" (top 26)
 d_q_row:FnAt K "_law_row" (top 27)
 d_q_reached:FnAt K "_law_reached" (top 28)
 d_q_refusal:FnAt K "_law_refusal" (top 29)
 d_q_good:FnAt K "_law_good" (top 30)
 d_q_spoilt:FnAt K "_law_spoilt" (top 31)
 d_q_told:FnAt K "_law_told" (top 32)
 d_law:FnAt K "law" (top 33)
 xc:∃P M R C D F,XT K mg P M R C D F
abbrev KnT (P:Program) (w:World) (K:FG) (mg:Y6) (base:Heap) (l:Nat) (n:Str) (k:Nat) (f:Fn):Prop:=Txt K mg->K.In base->base.Ns mainGlobals mg->Kn P w K mg base l n k f
section
variable {P:Program} {w:World} {K:FG} {mg:Y6} {base:Heap}
def aAk:List Str:=["thing"]
theorem yP:FnScope aAk ["thing"] (aO (top 8)):=⟨rfl,rfl,rfl,by decide +kernel,rfl,by decide +kernel,by decide +kernel⟩
theorem wU:KnT P w K mg base 1 "is_whole" 1 lZ:=fun T kb nb =>
 fE T.d_is_whole kb nb yP rfl rfl (by decide) (fun _ _ _ _ _ _ us hl=>match us,hl with | [_],_=>rfl) fun f cdv A outer s H E hr =>
  (aM (bQ (aR (uT (mO (T' := "int") (by decide) (aA 0) T.n_isinstance T.n_int (by decide +kernel)) (rC (aNa (mO (T' := "bool") (by decide) (aA 0) T.n_isinstance T.n_bool (by decide +kernel))))))))
def vB:List Str:=["thing", "least", "most"]
theorem sP:FnScope vB ["thing", "least", "most"] (aO (top 9)):=⟨rfl,rfl,rfl,by decide +kernel,rfl,by decide +kernel,by decide +kernel⟩
theorem cQ:KnT P w K mg base 2 "is_between" 3 bL:=fun T kb nb =>
 fE T.d_is_between kb nb sP rfl rfl (by decide) (fun _ _ _ _ _ _ us hl=>match us,hl with | [_,_,_],_=>rfl) fun f cdv A outer s H E hr =>
  (aM (bQ (aR (uT (bF (wU T kb nb) (hr.mono (by decide)) (aB (aA 0) aH) al1) (rC (aFa rV rV (aA 1) (aA 0) (aA 2)))))))
def aCy:List Str:=["machine", "deed", "last_place"]
theorem qI:FnScope aCy ["machine", "deed"] (aO (top 15)):=⟨rfl,rfl,rfl,by decide +kernel,rfl,by decide +kernel,by decide +kernel⟩
theorem aAr:KnT P w K mg base 3 "is_deed" 2 lK:=fun T kb nb =>
 fE T.d_is_deed kb nb qI rfl rfl (by decide) (fun _ _ _ _ _ _ us hl=>match us,hl with | [_,_],_=>rfl) fun f cdv A outer s H E hr =>
  (aG (cD (oK (iM (eL (eP (mO (T' := "tuple") (by decide) (aA 1) T.n_isinstance T.n_tuple (by decide +kernel)))) (iV (lV hr (eE T.n_len (aA 1)) aE)))) (aM (bQ (aR nQ))) bO) (aG (aX 2 qI.nd (aR (oM (aV (aA 0) aE) aE))) (aG (cD (oK (iM (eL (eP (bF (cQ T kb nb) (hr.mono (by decide)) (aB (aV (aA 1) aE) (aB aE (aB (aA 2) aH))) al3))) (iV (eL (eP (bF (cQ T kb nb) (hr.mono (by decide)) (aB (aV (aA 1) aE) (aB aE (aB (aA 2) aH))) al3)))))) (aM (bQ (aR nQ))) bO) (aM (bQ (aR (uT (bF (cQ T kb nb) (hr.mono (by decide)) (aB (aV (aA 1) aE) (aB aE (aB (oM (aV (aA 0) aE) aE) aH))) al3) (rC (bF (cQ T kb nb) (hr.mono (by decide)) (aB (aV (aA 1) aE) (aB aE (aB (iA T.i_MOST_COST) aH))) al3)))))))))
def uP:List Str:=["machine", "deeds", "number", "deed"]
theorem eA:FnScope uP ["machine"] (aO (top 16)):=⟨rfl,rfl,rfl,by decide +kernel,rfl,by decide +kernel,by decide +kernel⟩
theorem sV (T:Txt K mg) (kb:K.In base) (nb:base.Ns mainGlobals mg):Kn P w K mg base 4 "look_deeds" 1 dU:=by
 obtain ⟨_,_,_,_,_,_,XX⟩:=T.xc
 exact fE T.d_look_deeds kb nb eA rfl rfl (by decide) (fun _ _ _ _ _ _ us hl=>match us,hl with | [_],_=>rfl) fun f cdv A outer s H E hr =>
   (aG (aX 1 eA.nd (aR (aV (aA 0) aE))) (aG (cD (oK (iM (eL (eP (mO (T' := "list") (by decide) (aA 1) T.n_isinstance T.n_list (by decide +kernel)))) (iV (aFr (eE T.n_len (aA 1)) (iA T.i_MOST_DEEDS))))) (aM (fI jU rfl XX.cM XX.xM XX.mM (lM (bP eD (bP (lC (iA T.i_MOST_DEEDS)) (bP eD lA)))))) bO) (aG (iT fW.own rfl (uS T.n_enumerate (aA 1)) (oW rfl (eU (dQ 2 eA.nd) (eU (dQ 3 eA.nd) rL)) rfl rfl) (nE rfl) (aM (cD (eL (eP (bF (aAr T kb nb) (hr.mono (by decide)) (aB (aA 0) (aB (aA 3) aH)) al2))) (aM (fI jU rfl XX.cM XX.xM XX.mM (lM (bP eD (bP (lC (aA 2)) (bP eD lA)))))) bO))) (aM (iT fW.own rfl (aC3 T.n_range (aB aE (aB (eE T.n_len (aA 1)) aH))) (dQ 2 eA.nd) cL (aM (cD (aN4 hr (aV (aA 1) (aA 2)) (aV (aA 1) (oM (aA 2) aE))) (aM (fI jU rfl XX.cM XX.xM XX.mM (lM (bP eD (bP (lC (aA 2)) (bP eD lA)))))) bO)))))))
def qH:List Str:=["machine"]
theorem pK:FnScope qH ["machine"] (aO (top 17)):=⟨rfl,rfl,rfl,by decide +kernel,rfl,by decide +kernel,by decide +kernel⟩
theorem gH (T:Txt K mg) (kb:K.In base) (nb:base.Ns mainGlobals mg):Kn P w K mg base 5 "look_machine" 1 bE:=by
 obtain ⟨_,_,_,_,_,_,XX⟩:=T.xc
 exact fE T.d_look_machine kb nb pK rfl rfl (by decide) (fun _ _ _ _ _ _ us hl=>match us,hl with | [_],_=>rfl) fun f cdv A outer s H E hr =>
   (aG (cD (oK (iM (eL (eP (mO (T' := "tuple") (by decide) (aA 0) T.n_isinstance T.n_tuple (by decide +kernel)))) (iV (lV hr (eE T.n_len (aA 0)) aE)))) (aM (fI jU rfl XX.cM XX.xM XX.mM eD)) bO) (aG (cD (eL (eP (bF (cQ T kb nb) (hr.mono (by decide)) (aB (aV (aA 0) aE) (aB aE (aB (iA T.i_MOST_PLACES) aH))) al3))) (aM (fI jU rfl XX.cM XX.xM XX.mM (lM (bP eD (bP (lC (iA T.i_MOST_PLACES)) (bP eD lA)))))) bO) (aG (cD (eL (eP (bF (cQ T kb nb) (hr.mono (by decide)) (aB (aV (aA 0) aE) (aB aE (aB (iA T.i_MOST_KINDS) aH))) al3))) (aM (fI jU rfl XX.cM XX.xM XX.mM (lM (bP eD (bP (lC (iA T.i_MOST_KINDS)) (bP eD lA)))))) bO) (aM (pP (gM fW (sV T kb nb) (hr.mono (by decide)) (aB (aA 0) aH) al1))))))
def aL0:List Str:=["machine", "row", "deeds", "places", "number"]
theorem pT:FnScope aL0 ["machine", "row"] (aO (top 18)):=⟨rfl,rfl,rfl,by decide +kernel,rfl,by decide +kernel,by decide +kernel⟩
theorem aBj (T:Txt K mg) (kb:K.In base) (nb:base.Ns mainGlobals mg):Kn P w K mg base 6 "gone" 2 jN:=by
 obtain ⟨_,_,_,_,_,_,XX⟩:=T.xc
 exact fE T.d_gone kb nb pT rfl rfl (by decide) (fun _ _ _ _ _ _ us hl=>match us,hl with | [_,_],_=>rfl) fun f cdv A outer s H E hr =>
   (aG (pP (gM fW (gH T kb nb) (hr.mono (by decide)) (aB (aA 0) aH) al1)) (aG (cD (eL (eP (mO (T' := "list") (by decide) (aA 1) T.n_isinstance T.n_list (by decide +kernel)))) (aM (fI jU rfl XX.cR XX.xR XX.mR eD)) bO) (aG (aX 2 pT.nd (aR (aV (aA 0) aE))) (aG (aX 3 pT.nd (aR (cF (aB aE aH)))) (aG (iT fW.own rfl (lY (aA 1)) (dQ 4 pT.nd) cL (aG (cD (eL (eP (bF (cQ T kb nb) (hr.mono (by decide)) (aB (aA 4) (aB aE (aB (oM (eE T.n_len (aA 2)) aE) aH))) al3))) (aM (fI jU rfl XX.cR XX.xR XX.mR eD)) bO) (aG (cD (lV hr (aV (aV (aA 2) (aA 4)) aE) (aV (aA 3) (jM aE))) (aM (fI jU rfl XX.cR XX.xR XX.mR (lM (bP eD (bP (lC (aA 4)) (bP eD lA)))))) bO) (aM (gW 3 (aV (aV (aA 2) (aA 4)) aE)))))) (aM (lH 3)))))))
def tT:List Str:=["machine", "row"]
theorem zO:FnScope tT ["machine", "row"] (aO (top 19)):=⟨rfl,rfl,rfl,by decide +kernel,rfl,by decide +kernel,by decide +kernel⟩
theorem aAm:KnT P w K mg base 7 "cost_of" 2 f_cost_of:=fun T kb nb =>
 fE T.d_cost_of kb nb zO rfl rfl (by decide) (fun _ _ _ _ _ _ us hl=>match us,hl with | [_,_],_=>rfl) fun f cdv A outer s H E hr =>
  (aG (pP (gM fW (aBj T kb nb) (hr.mono (by decide)) (aB (aA 0) (aB (aA 1) aH)) al2)) (aM (bQ (aR (aMf rfl T.n_sum (jB (aO (top 19)) tT ["number", "machine"] 1 [0] rfl rfl rfl (lY (aA 1)) cL (by decide +kernel) fun _ _ _ _=>⟨(dQ 0 (show List.Nodup (["number", "machine"]:List Str) from (by decide +kernel))),yK,(aV (aV (aV (aA 1) aE) (aA 0)) aE)⟩))))))
def nN:List Str:=["machine", "numbers", "number", "deed"]
theorem fU:FnScope nN ["machine"] (aO (top 20)):=⟨rfl,rfl,rfl,by decide +kernel,rfl,by decide +kernel,by decide +kernel⟩
theorem tB:KnT P w K mg base 1 "deeds_from" 1 jV:=fun T kb nb =>
 fE T.d_deeds_from kb nb fU rfl rfl (by decide) (fun _ _ _ _ _ _ us hl=>match us,hl with | [_],_=>rfl) fun f cdv A outer s H E hr =>
  (aG (kT 1 fU.nd (aO (top 20)) nN ["place"] 1 [] rfl rfl rfl (eX T.n_range (aB (aV (aA 0) aE) aH)) cL (by decide +kernel) fun _ _ _ _=>⟨(dQ 0 (show List.Nodup (["place"]:List Str) from (by decide +kernel))),yK,(cF aH)⟩) (aG (iT fW.own rfl (uS T.n_enumerate (aV (aA 0) aE)) (oW rfl (eU (dQ 2 fU.nd) (eU (dQ 3 fU.nd) rL)) rfl rfl) (nE rfl) (aM (wM 1 (aV (aA 3) aE) (aA 2)))) (aM (lH 1))))
def uA:List Str:=["machine", "onward", "came", "places", "at", "number", "place"]
theorem dN:FnScope uA ["machine"] (aO (top 21)):=⟨rfl,rfl,rfl,by decide +kernel,rfl,by decide +kernel,by decide +kernel⟩
theorem aAc:KnT P w K mg base 2 "came_by" 1 lF:=fun T kb nb =>
 fE T.d_came_by kb nb dN rfl rfl (by decide) (fun _ _ _ _ _ _ us hl=>match us,hl with | [_],_=>rfl) fun f cdv A outer s H E hr =>
  (aG (aX 1 dN.nd (aR (bF (tB T kb nb) (hr.mono (by decide)) (aB (aA 0) aH) al1))) (aG (kT 2 dN.nd (aO (top 21)) uA ["place"] 1 [] rfl rfl rfl (eX T.n_range (aB (aV (aA 0) aE) aH)) cL (by decide +kernel) fun _ _ _ _=>⟨(dQ 0 (show List.Nodup (["place"]:List Str) from (by decide +kernel))),yK,kP⟩) (aG (aX 3 dN.nd (aR (cF (aB aE aH)))) (aG (aX 4 dN.nd (aR aE)) (aG (oI [1] (wY fuel fW.own (aCa (aA 4) (eE T.n_len (aA 3))) (aG (iT fW.own rfl (lY (aV (aA 1) (aV (aA 3) (aA 4)))) (dQ 5 dN.nd) cL (aG (aX 6 dN.nd (aR (aV (aV (aV (aA 0) aE) (aA 5)) aE))) (aM (cD (oK (zZ (lV hr (aA 6) aE) (vI (zL (aV (aA 2) (aA 6)) kP)))) (aG (rM 2 (aA 6) (aA 5)) (aM (gW 3 (aA 6)))) bO)))) (aM (aMy 4 dN.nd aOb aE))))) (aM (lH 2)))))))
def tN:List Str:=["machine"]
theorem aAw:FnScope tN ["machine"] (aO (top 22)):=⟨rfl,rfl,rfl,by decide +kernel,rfl,by decide +kernel,by decide +kernel⟩
theorem rA:KnT P w K mg base 6 "reached" 1 fL:=fun T kb nb =>
 fE T.d_reached kb nb aAw rfl rfl (by decide) (fun _ _ _ _ _ _ us hl=>match us,hl with | [_],_=>rfl) fun f cdv A outer s H E hr =>
  (aG (pP (gM fW (gH T kb nb) (hr.mono (by decide)) (aB (aA 0) aH) al1)) (aM (bQ (aR (jB (aO (top 22)) tN ["place", "number"] 2 [] rfl rfl rfl (uS T.n_enumerate (bF (aAc T kb nb) (hr.mono (by decide)) (aB (aA 0) aH) al1)) (nE rfl) (by decide +kernel) fun _ _ _ _=>⟨(oW rfl (eU (dQ 0 (show List.Nodup (["place", "number"]:List Str) from (by decide +kernel))) (eU (dQ 1 (show List.Nodup (["place", "number"]:List Str) from (by decide +kernel))) rL)) rfl rfl),yK,(aRy (aFw hr (aA 0) aE) (rC (aHp (aA 1) kP)))⟩)))))
def aEn:List Str:=["_law_script", "_law_k"]
theorem aCt:FnScope aEn ["_law_script", "_law_k"] (aO (top 24)):=⟨rfl,rfl,rfl,by decide +kernel,rfl,by decide +kernel,by decide +kernel⟩
theorem aCq:KnT P w K mg base 1 "_law_cell" 2 rZ:=fun T kb nb =>
 fE T.d_q_cell kb nb aCt rfl rfl (by decide) (fun _ _ _ _ _ _ us hl=>match us,hl with | [_,_],_=>rfl) fun f cdv A outer s H E hr =>
  (aG (cD (eP (aA 0)) (aM (bQ (aR (aV (aA 0) (cE (aA 1) (eE T.n_len (aA 0))))))) bO) (aM (bQ (aR aE))))
def aH6:List Str:=["_law_script", "_law_k", "_law_number"]
theorem rJ:FnScope aH6 ["_law_script", "_law_k"] (aO (top 25)):=⟨rfl,rfl,rfl,by decide +kernel,rfl,by decide +kernel,by decide +kernel⟩
theorem fX:KnT P w K mg base 2 "_law_mix" 2 bX:=fun T kb nb =>
 fE T.d_q_mix kb nb rJ rfl rfl (by decide) (fun _ _ _ _ _ _ us hl=>match us,hl with | [_,_],_=>rfl) fun f cdv A outer s H E hr =>
  (aG (aX 2 rJ.nd (aR (cE (bK (bF (aCq T kb nb) (hr.mono (by decide)) (aB (aA 0) (aB (aA 1) aH)) al2) (kO aE (bK (aA 1) aE))) aE))) (aG (aX 2 rJ.nd (aR (cE (kO (aA 2) aE) aE))) (aM (bQ (aR (cE (bK (kO (fS (aA 2) aE) aE) (aA 2)) aE))))))
def xJ:List Str:=["_law_script", "_law_k", "_law_most", "_law_places", "_law_kinds", "_law_deeds", "_law_j", "_law_number", "_law_cost"]
theorem cX:FnScope xJ ["_law_script", "_law_k", "_law_most"] (aO (top 26)):=⟨rfl,rfl,rfl,by decide +kernel,rfl,by decide +kernel,by decide +kernel⟩
theorem vR:KnT P w K mg base 3 "_law_machine" 3 iI:=fun T kb nb =>
 fE T.d_q_machine kb nb cX rfl rfl (by decide) (fun _ _ _ _ _ _ us hl=>match us,hl with | [_,_,_],_=>rfl) fun f cdv A outer s H E hr =>
  (aG (aX 3 cX.nd (aR (bK aE (cE (bF (fX T kb nb) (hr.mono (by decide)) (aB (aA 0) (aB (aA 1) aH)) al2) (aA 2))))) (aG (aX 4 cX.nd (aR (bK aE (cE (bF (fX T kb nb) (hr.mono (by decide)) (aB (aA 0) (aB (bK (aA 1) aE) aH)) al2) aE)))) (aG (aX 5 cX.nd (aR (cF aH))) (aG (iT fW.own rfl (eX T.n_range (aB (cE (bF (fX T kb nb) (hr.mono (by decide)) (aB (aA 0) (aB (bK (aA 1) aE) aH)) al2) (bK (kO aE (aA 2)) aE)) aH)) (dQ 6 cX.nd) cL (aG (aX 7 cX.nd (aR (bF (fX T kb nb) (hr.mono (by decide)) (aB (aA 0) (aB (bK (bK (aA 1) aE) (aA 6)) aH)) al2))) (aG (aX 8 cX.nd (aR (aV (cF (aB aE (aB aE (aB aE (aB aE (aB aE (aB aE (aB aE (aB aE aH))))))))) (cE (fS (aA 7) aE) aE)))) (aM (gW 5 (jX (aB (cE (aA 7) (aA 3)) (aB (cE (fS (aA 7) aE) (aA 4)) (aB (cE (fS (aA 7) aE) (aA 3)) (aB (aA 8) aH)))))))))) (aM (oI [5] (bQ (aR (jX (aB (aA 3) (aB (aA 4) (aB (aAh hr rfl T.n_sorted T.n_set (aA 5)) aH))))))))))))
def aBz:List Str:=["_law_script", "_law_k", "_law_machine_here", "_law_most", "_law_found", "_law_here", "_law_j", "_law_some"]
theorem iY:FnScope aBz ["_law_script", "_law_k", "_law_machine_here", "_law_most"] (aO (top 27)):=⟨rfl,rfl,rfl,by decide +kernel,rfl,by decide +kernel,by decide +kernel⟩
theorem aGk:KnT P w K mg base 3 "_law_row" 4 nG:=fun T kb nb =>
 fE T.d_q_row kb nb iY rfl rfl (by decide) (fun _ _ _ _ _ _ us hl=>match us,hl with | [_,_,_,_],_=>rfl) fun f cdv A outer s H E hr =>
  (aG (aX 4 iY.nd (aR (cF aH))) (aG (aX 5 iY.nd (aR aE)) (aG (iT fW.own rfl (eX T.n_range (aB (cE (bF (fX T kb nb) (hr.mono (by decide)) (aB (aA 0) (aB (aA 1) aH)) al2) (bK (aA 3) aE)) aH)) (dQ 6 iY.nd) cL (aG (kT 7 iY.nd (aO (top 27)) aBz ["_law_number", "_law_here", "_law_machine_here"] 1 [5,2] rfl rfl rfl (eX T.n_range (aB (eE T.n_len (aV (aA 2) aE)) aH)) cL (by decide +kernel) fun _ _ _ _=>⟨(dQ 0 (show List.Nodup (["_law_number", "_law_here", "_law_machine_here"]:List Str) from (by decide +kernel))),(aTy (jY hr (aV (aV (aV (aA 2) aE) (aA 0)) aE) (aA 1))),(aA 0)⟩) (aM (cD (eP (aA 7)) (aG (gW 4 (aV (aA 7) (cE (bF (fX T kb nb) (hr.mono (by decide)) (aB (aA 0) (aB (bK (bK (aA 1) aE) (aA 6)) aH)) al2) (eE T.n_len (aA 7))))) (aM (aX 5 iY.nd (aR (aV (aV (aV (aA 2) aE) (aV (aA 4) (jM aE))) aE))))) bO)))) (aM (lH 4)))))
def wZ:List Str:=["_law_machine_here", "_law_found", "_law_at", "_law_one", "_law_kind", "_law_other", "_law_cost"]
theorem cK:FnScope wZ ["_law_machine_here"] (aO (top 28)):=⟨rfl,rfl,rfl,by decide +kernel,rfl,by decide +kernel,by decide +kernel⟩
theorem uY:KnT P w K mg base 1 "_law_reached" 1 iO:=fun T kb nb =>
 fE T.d_q_reached kb nb cK rfl rfl (by decide) (fun _ _ _ _ _ _ us hl=>match us,hl with | [_],_=>rfl) fun f cdv A outer s H E hr =>
  (aG (aX 1 cK.nd (aR (cF (aB aE aH)))) (aG (aX 2 cK.nd (aR aE)) (aG (wY fuel fW.own (aCa (aA 2) (eE T.n_len (aA 1))) (aG (iT fW.own rfl (lY (aV (aA 0) aE)) (oW rfl (eU (dQ 3 cK.nd) (eU (dQ 4 cK.nd) (eU (dQ 5 cK.nd) (eU (dQ 6 cK.nd) rL)))) rfl rfl) (nE rfl) (aM (cD (oK (zZ (jY hr (aA 3) (aV (aA 1) (aA 2))) (vI (aMe hr (aA 5) (aA 1))))) (aM (gW 1 (aA 5))) bO))) (aM (aX 2 cK.nd (aR (bK (aA 2) aE)))))) (aM (lH 1)))))
def xB:List Str:=["_law_kept", "_law_kinds"]
theorem jL:FnScope xB ["_law_kept"] (aO (top 29)):=⟨rfl,rfl,rfl,by decide +kernel,rfl,by decide +kernel,by decide +kernel⟩
theorem uU (T:Txt K mg) (kb:K.In base) (nb:base.Ns mainGlobals mg):Kn P w K mg base 1 "_law_refusal" 1 fY:=by
 obtain ⟨_,_,_,_,_,_,XX⟩:=T.xc
 exact fE T.d_q_refusal kb nb jL rfl rfl (by decide) (fun _ _ _ _ _ _ us hl=>match us,hl with | [_],_=>rfl) fun f cdv A outer s H E hr =>
   (aG (cD (zL (aA 0) kP) (aM (bQ (aR gG))) bO) (aG (aX 1 jL.nd (aR (cF (aB (oV (lL rfl XX.mM (show RelV (.ref _) _ from rfl)) (fun _ h=>h) XX.fM (aA 0) T.n_isinstance) (aB (oV (lL rfl XX.mR (show RelV (.ref _) _ from rfl)) (fun _ h=>h) XX.fR (aA 0) T.n_isinstance) (aB (oV (lL rfl XX.mC (show RelV (.ref _) _ from rfl)) (fun _ h=>h) XX.fC (aA 0) T.n_isinstance) aH)))))) (aG (aX 1 jL.nd (aR (bK (aA 1) (cF (aB (oV (lL rfl XX.mD (show RelV (.ref _) _ from rfl)) (fun _ h=>h) XX.fD (aA 0) T.n_isinstance) (aB (oV (lL rfl XX.mF (show RelV (.ref _) _ from rfl)) (fun _ h=>h) XX.fF (aA 0) T.n_isinstance) aH)))))) (aG (cD (oK (iM (lV hr (aGi (aA 1) nQ) aE) (iV (eL (eP (oV (aBi (v:=.ty "ValueError") rfl T.n_ValueError (by decide +kernel) rfl) (fun _ h=>h) XX.fV (aA 0) T.n_isinstance)))))) (aM (bQ (aR gG))) bO) (aM (bQ (aR (aV (cF (aB gG (aB gG (aB gG (aB gG (aB gG aH)))))) (aEh (aA 1) nQ)))))))))
def aEy:List Str:=["_law_machine_here", "_law_places", "_law_kinds", "_law_deeds", "_law_one", "_law_kind", "_law_other", "_law_cost"]
theorem eQ:FnScope aEy ["_law_machine_here"] (aO (top 30)):=⟨rfl,rfl,rfl,by decide +kernel,rfl,by decide +kernel,by decide +kernel⟩
theorem aDy:KnT P w K mg base 1 "_law_good" 1 f_q_good:=fun T kb nb =>
 fE T.d_q_good kb nb eQ rfl rfl (by decide) (fun _ _ _ _ _ _ us hl=>match us,hl with | [_],_=>rfl) fun f cdv A outer s H E hr =>
  (aG (tI rfl (aR (aA 0)) (eU (dQ 1 eQ.nd) (eU (dQ 2 eQ.nd) (eU (dQ 3 eQ.nd) rL))) rfl) (aG (cD (oK (iM (eL (rN rV rV aE (aA 1) aE)) (iM (eL (rN rV rV aE (aA 2) aE)) (iV (aFr (eE T.n_len (aA 3)) aE))))) (aM (bQ (aR nQ))) bO) (aG (iT fW.own rfl (lY (aA 3)) (oW rfl (eU (dQ 4 eQ.nd) (eU (dQ 5 eQ.nd) (eU (dQ 6 eQ.nd) (eU (dQ 7 eQ.nd) rL)))) rfl rfl) (nE rfl) (aM (cD (oK (iM (aCa (aKc rfl T.n_min (aA 4) (aA 5) (aA 6) (aA 7)) aE) (iM (aLp (aI6 rfl T.n_max (aA 4) (aA 6)) (aA 1)) (iM (aLp (aA 5) (aA 2)) (iV (aFr (aA 7) aE)))))) (aM (bQ (aR nQ))) bO))) (aM (bQ (aR (aFw hr (aA 3) (xT hr rfl T.n_sorted T.n_set (aA 3)))))))))
def sA:List Str:=["_law_machine_here", "_law_number", "_law_places", "_law_kinds", "_law_deeds", "_law_way", "_law_some", "_law_at", "_law_deed", "_law_spot", "_law_many"]
theorem cA:FnScope sA ["_law_machine_here", "_law_number"] (aO (top 31)):=⟨rfl,rfl,rfl,by decide +kernel,rfl,by decide +kernel,by decide +kernel⟩
theorem yC:KnT P w K mg base 1 "_law_spoilt" 2 f_q_spoilt:=fun T kb nb =>
 fE T.d_q_spoilt kb nb cA rfl rfl (by decide) (fun _ _ _ _ _ _ us hl=>match us,hl with | [_,_],_=>rfl) fun f cdv A outer s H E hr =>
  (aG (tI rfl (aR (aA 0)) (eU (dQ 2 cA.nd) (eU (dQ 3 cA.nd) (eU (dQ 4 cA.nd) rL))) rfl) (aG (aX 5 cA.nd (aR (cE (aA 1) aE))) (aG (aX 6 cA.nd (aR (fS (aA 1) aE))) (aG (cD (oK (zZ (aCa (aA 5) aE) (vI (eP (aA 4))))) (aG (aX 7 cA.nd (aR (cE (aA 6) (eE T.n_len (aA 4))))) (aG (aX 8 cA.nd (aR (vP T.n_list (aV (aA 4) (aA 7))))) (aG (aX 9 cA.nd (aR (cE (fS (aA 6) aE) aE))) (aG (rM 8 (aA 9) (aV (cF (aB (jM aE) (aB (aV (cF (aB (aA 2) (aB (aA 3) (aB (aA 2) (aB aE aH))))) (aA 9)) (aB (aV (cF (aB (oM (aA 2) aE) (aB (oM (aA 3) aE) (aB aE (aB aE aH))))) (aA 9)) aH)))) (aA 5))) (aM (bQ (aR (jX (aB (aA 2) (aB (aA 3) (aB (bK (bK (wQ (aA 4) oB (qW (aA 7))) (cF (aB (aEi T.n_tuple (aA 8)) aH))) (wQ (aA 4) (qW (bK (aA 7) aE)) oB)) aH))))))))))) bO) (aG (cD (jY hr (aA 5) aE) (aM (bQ (aR (jX (aB (aA 2) (aB (aA 3) (aB (aJ0 (aA 4) (jM aE)) aH))))))) bO) (aG (cD (jY hr (aA 5) aE) (aM (bQ (aR (jX (aB (aA 2) (aB (aA 3) (aB (bK (aA 4) (wQ (aA 4) (qW (jM aE)) oB)) aH))))))) bO) (aG (cD (jY hr (aA 5) aE) (aM (bQ (aR (jX (aB (aV (cF (aB aE (aB aE (aB aE (aB (jM aE) aH))))) (cE (aA 6) aE)) (aB (aV (cF (aB aE (aB aE (aB aE (aB aE aH))))) (cE (fS (aA 6) aE) aE)) (aB (cF aH) aH))))))) bO) (aG (cD (jY hr (aA 5) aE) (aG (aX 10 cA.nd (aR (bK aE (cE (aA 6) aE)))) (aM (bQ (aR (jX (aB aE (aB aE (aB (jB (aO (top 31)) sA ["_law_k"] 1 [] rfl rfl rfl (eX T.n_range (aB (aA 10) aH)) cL (by decide +kernel) fun _ _ _ _=>⟨(dQ 0 (show List.Nodup (["_law_k"]:List Str) from (by decide +kernel))),yK,(jX (aB (fS (aA 0) aE) (aB (cE (aA 0) aE) (aB aE (aB aE aH)))))⟩) aH)))))))) bO) (aM (lH 0))))))))))
def aGp:List Str:=["_law_way", "_law_machine_here", "_law_row_here", "_law_kept", "_law_found", "e"]
theorem eV:FnScope aGp ["_law_way", "_law_machine_here", "_law_row_here"] (aO (top 32)):=⟨rfl,rfl,rfl,by decide +kernel,rfl,by decide +kernel,by decide +kernel⟩
theorem lJ (T:Txt K mg) (kb:K.In base) (nb:base.Ns mainGlobals mg):Kn P w K mg base 8 "_law_told" 3 f_q_told:=by
 obtain ⟨_,_,_,_,_,_,XX⟩:=T.xc
 exact fE T.d_q_told kb nb eV rfl rfl (by decide) (fun _ _ _ _ _ _ us hl=>match us,hl with | [_,_,_],_=>rfl) fun f cdv A outer s H E hr =>
   (aG (aX 3 eV.nd (aR kP)) (aG (aX 4 eV.nd (aR kP)) (aG (aO0 eV.nd rfl rfl rfl rfl rfl XX.cP rfl XX.mP (by decide) XX.ct (fun E1 pn1 W1 L1=>(aM (cD (jY hr (aA 0) aE) (aM (aX 4 eV.nd (gM L1 (gH T kb nb) (hr.mono (by decide)) (aB (aA 1) aH) al1))) (aM (cD (jY hr (aA 0) aE) (aM (aX 4 eV.nd (gM L1 (aBj T kb nb) (hr.mono (by decide)) (aB (aA 1) (aB (aA 2) aH)) al2))) (aM (aX 4 eV.nd (aP3 (jY hr (aA 0) aE) (gM L1 (aAm T kb nb) (hr.mono (by decide)) (aB (aA 1) (aB (aA 2) aH)) al2) (gM L1 (rA T kb nb) (hr.mono (by decide)) (aB (aA 1) aH) al1))))))))) (fun e E2=>(aM (aX 3 eV.nd (aR (aA 5)))))) (aM (oI [4] (bQ (aR (aLb (zL (aA 3) kP) (aA 4) (bF (uU T kb nb) (hr.mono (by decide)) (aB (aA 3) aH) al1)))))))))
def yG:List Str:=["_law_script", "_law_machine_here", "_law_bad", "_law_handed", "_law_row_here", "_law_number", "_law_at", "_law_due", "_law_cost", "_law_one", "_law_some", "_law_found"]
theorem eF:FnScope yG ["_law_script"] (aO (top 33)):=⟨rfl,rfl,rfl,by decide +kernel,rfl,by decide +kernel,by decide +kernel⟩
theorem aMd (T:Txt K mg) (base:Heap) (kb:K.In base) (nb:base.Ns mainGlobals mg) (f:Addr) (cdv:Value) (A:Around) (outer:List PySem.Env) (s:Shared) (H:Hp) (E:XK) (hr:Room 8 (A.deeper (envOfC "law" (aO (top 33)) s.heap.objs.size f cdv))):SSs (lO (CX1 P w) P w K mg base yG "law" (aO (top 33)) f cdv A outer s H E) (wOf K E) (fB (top 33)) b_law :=
 (aG (aX 1 eF.nd (aR (bF (vR T kb nb) (hr.mono (by decide)) (aB (aA 0) (aB aE (aB aE aH))) al3))) (aG (aX 2 eF.nd (aR (bF (yC T kb nb) (hr.mono (by decide)) (aB (aA 1) (aB (bF (fX T kb nb) (hr.mono (by decide)) (aB (aA 0) (aB aE aH)) al2) aH)) al2))) (aG (aX 3 eF.nd (aR (jX (aB (aV (aA 2) aE) (aB (aV (aA 2) aE) (aB (vP T.n_list (aV (aA 2) aE)) aH)))))) (aG (cD (eL (eP (bF (aDy T kb nb) (hr.mono (by decide)) (aB (aA 2) aH) al1))) (aM (cD (lV hr (jB (aO (top 33)) yG ["_law_way", "_law_handed"] 1 [3] rfl rfl rfl (eX T.n_range (aB aE aH)) cL (by decide +kernel) fun _ _ _ _=>⟨(dQ 0 (show List.Nodup (["_law_way", "_law_handed"]:List Str) from (by decide +kernel))),yK,(bF (lJ T kb nb) (hr.mono (by decide)) (aB (aA 0) (aB (aA 1) (aB (cF (aB (jM aE) aH)) aH))) al3)⟩) (kO (cF (aB gG aH)) aE)) (aM (bQ (aR nQ))) bO)) (aM (cD (oK (iM (aJe (bF (lJ T kb nb) (hr.mono (by decide)) (aB aE (aB (aA 3) (aB (cF aH) aH))) al3) kP) (iV (lV hr (aV (aA 3) aE) (aV (aA 2) aE))))) (aM (bQ (aR nQ))) bO))) (aG (aX 4 eF.nd (aR (bF (aGk T kb nb) (hr.mono (by decide)) (aB (aA 0) (aB aE (aB (aA 1) (aB aE aH)))) al4))) (aG (aX 5 eF.nd (aR (bF (fX T kb nb) (hr.mono (by decide)) (aB (aA 0) (aB aE aH)) al2))) (aG (aX 6 eF.nd (aR (cE (fS (aA 5) aE) (bK (eE T.n_len (aA 4)) aE)))) (aG (cD (jY hr (cE (aA 5) aE) aE) (aM (aX 4 eF.nd (aR (bK (bK (wQ (aA 4) oB (qW (aA 6))) (cF (aB (aV (cF (aB (jM aE) (aB (eE T.n_len (aV (aA 1) aE)) (aB aE (aB aE aH))))) (cE (fS (aA 5) aE) aE)) aH))) (wQ (aA 4) (qW (aA 6)) oB))))) bO) (aG (aX 7 eF.nd (aR (cF (aB aE aH)))) (aG (aX 8 eF.nd (aR aE)) (aG (oI [4] (iT fW.own rfl (lY (aA 4)) (dQ 9 eF.nd) cL (aM (cD (oK (iM (jY hr (aA 7) gG) (iM (eL (rN rV aK9 aE (aA 9) (eE T.n_len (aV (aA 1) aE)))) (iV (lV hr (aV (aV (aV (aA 1) aE) (aA 9)) aE) (aV (aA 7) (jM aE))))))) (aM (aX 7 eF.nd (aR gG))) (aG (gW 7 (aV (aV (aV (aA 1) aE) (aA 9)) aE)) (aM (aX 8 eF.nd (aR (bK (aA 8) (aV (aV (aV (aA 1) aE) (aA 9)) aE)))))))))) (aG (oI [7] (cD (oK (iM (lV hr (bF (lJ T kb nb) (hr.mono (by decide)) (aB aE (aB (aA 1) (aB (vP T.n_list (aA 4)) aH))) al3) (aA 7)) (iV (lV hr (bF (lJ T kb nb) (hr.mono (by decide)) (aB aE (aB (aA 1) (aB (aA 4) aH))) al3) (aLb (jY hr (aA 7) gG) gG (aA 8)))))) (aM (bQ (aR nQ))) bO)) (aG (aX 10 eF.nd (aR (bF (uY T kb nb) (hr.mono (by decide)) (aB (aA 1) aH) al1))) (aG (aX 11 eF.nd (gM fW (rA T kb nb) (hr.mono (by decide)) (aB (aA 1) aH) al1)) (aM (oI [10,11] (bQ (aR (uT (aFw hr (aA 11) (jB (aO (top 33)) yG ["_law_place", "_law_some"] 1 [10] rfl rfl rfl (eX T.n_range (aB (aV (aA 1) aE) aH)) cL (by decide +kernel) fun _ _ _ _=>⟨(dQ 0 (show List.Nodup (["_law_place", "_law_some"]:List Str) from (by decide +kernel))),yK,(aRq hr (aA 0) (aA 1))⟩)) (rC (aOo rfl T.n_all (jB (aO (top 33)) yG ["_law_one"] 1 [] rfl rfl rfl (lY (aA 11)) cL (by decide +kernel) fun _ _ _ _=>⟨(dQ 0 (show List.Nodup (["_law_one"]:List Str) from (by decide +kernel))),yK,(mO (T' := "bool") (by decide) (aA 0) T.n_isinstance T.n_bool (by decide +kernel))⟩))))))))))))))))))))))
end
end K01
end VL
end
section
namespace VL
open PySem L2
def lQ (r:R (D×Bool)) (k:D->Bool->Out):Out:=match r with | .ok (d,b)=>k d b | _=>.bad
def onT (r:R Bool) (a b:Out):Out:=match r with | .ok true=>a | .ok false=>b | _=>.bad
def onI (r:R (List D)) (k:List D->Out):Out:=match r with | .ok ds=>k ds | _=>.bad
def aB2 (fn:Fn) (ds:List D) (k:Bool):R (D×Bool):=(fn ds).bind fun y=>if k || isScal y.1 then .ok (y.1,true) else .bad
def Ret (fn:Fn) (ds:List D) (d:D):Prop:=∃os,fn ds=.ok (d,os)
theorem aE9 {fn:Fn} {ds:List D} {k:Bool} {d:D} (h:Ret fn ds d):aB2 fn ds k=if k || isScal d then .ok (d,true) else .bad:=by
 obtain ⟨os,h⟩:=h
 unfold aB2;rw [h];rfl
theorem aP {fn:Fn} {ds:List D} {d:D} (h:Ret fn ds d):aB2 fn ds true=.ok (d,true):=by rw [aE9 h];rfl
theorem vJ {n:Nat} {body:aQ} {ds:List D} {d:D} (h:∃ρ,body (entry n ds)=.ret d ρ):Ret (fnOf n body) ds d:=by
 obtain ⟨ρ,h⟩:=h
 exact ⟨_,by unfold fnOf;rw [h]⟩
theorem aFl {n:Nat} {body:aQ} {ds:List D} (h:∃ρ,body (entry n ds)=.next ρ):Ret (fnOf n body) ds .non:=by
 obtain ⟨ρ,h⟩:=h
 exact ⟨_,by unfold fnOf;rw [h]⟩
@[simp] theorem aTd {d:D} {b:Bool} {k:D->Bool->Out}:lQ (.ok (d,b)) k=k d b:=rfl
@[simp] theorem aR1 {a b:Out}:onT (.ok true) a b=a:=rfl
@[simp] theorem aHh {a b:Out}:onT (.ok false) a b=b:=rfl
@[simp] theorem aT8 {ds:List D} {k:List D->Out}:onI (.ok ds) k=k ds:=rfl
@[simp] theorem cS {α β:Type} {a:α} {f:α->R β}:(R.ok a).bind f=f a:=rfl
@[simp] theorem aPs {α β:Type} {f:α->R β}:(R.bad:R α).bind f=.bad:=rfl
@[simp] theorem bA {ρ:Env} {g:aQ}:(Out.next ρ).andThen g=g ρ:=rfl
@[simp] theorem aLl {ρ:Env} {d:D} {g:aQ}:(Out.ret d ρ).andThen g=.ret d ρ:=rfl
@[simp] theorem cO {f g:aQ} {ρ:Env}:aS f g ρ=(f ρ).andThen g:=rfl
@[simp] theorem qZ {ρ:Env}:bN ρ=.next ρ:=rfl
@[simp] theorem aS1 {ρ:Env}:aTz ρ=.bad:=rfl
@[simp] theorem aBd {d:D} {ρ:Env}:vC d ρ=.ok (d,true):=rfl
@[simp] theorem aA9 {k:D×Bool->D×Bool->R (D×Bool)} {f g:aL} {ρ:Env}:v2 k f g ρ=(f ρ).bind fun x=>(g ρ).bind fun y=>k x y:=rfl
@[simp] theorem aVf {k:D×Bool->R (D×Bool)} {f:aL} {ρ:Env}:v1 k f ρ=(f ρ).bind k:=rfl
@[simp] theorem aS3 {ρ:Env}:aK ρ=.ok []:=rfl
@[simp] theorem aQ8 {f:aL} {g:cW} {ρ:Env}:aC f g ρ=(f ρ).bind fun x=>(g ρ).bind fun xs=>.ok (x::xs):=rfl
@[simp] theorem aUy {k:List (D×Bool)->R (D×Bool)} {g:cW} {ρ:Env}:vCB k g ρ=(g ρ).bind k:=rfl
@[simp] theorem aT4 {c:bU} {f g:aL} {ρ:Env}:vIf c f g ρ=(c ρ).bind fun b=>if b=true then f ρ else g ρ:=rfl
@[simp] theorem aSp {f g:aL} {ρ:Env}:yF f g ρ=(f ρ).bind fun x=>match x.1 with | .bl true=>g ρ | .bl false=>.ok (.bl false,true) | _=>.bad:=rfl
@[simp] theorem aS6 {b c:Bool}:aJn (.bl b,c)=.ok (.bl (!b),true):=rfl
@[simp] theorem aPa {p q:Int->Int->Bool} {f g h:aL} {ρ:Env}:jO p q f g h ρ=(f ρ).bind fun x=>(g ρ).bind fun y=>match x.1,y.1 with
 | .int i,.int j=>if p i j then (h ρ).bind fun z=>(match z.1 with | .int k=>.ok (.bl (q j k),true) | _=>.bad) else .ok (.bl false,true)
 | _,_=>.bad:=rfl
@[simp] theorem aRk {fn:Fn} {g:cW} {ρ:Env}:bG fn g ρ=(g ρ).bind fun xs=>aB2 fn (D.frzs (xs.map (·.1))) (xs.all aN):=rfl
@[simp] theorem mZ {f:aL} {ρ:Env}:aU f ρ=(f ρ).bind fun x=>match x.1 with | .bl b=>.ok b | _=>.bad:=rfl
@[simp] theorem aSm {f:aL} {ρ:Env}:jE f ρ=(f ρ).bind fun x=>if bM x.1 then .ok (dB x.1) else .bad:=rfl
@[simp] theorem aTb {f g:bU} {ρ:Env}:nV f g ρ=(f ρ).bind fun c=>if c=true then g ρ else .ok false:=rfl
@[simp] theorem aUv {f g:bU} {ρ:Env}:iS f g ρ=(f ρ).bind fun c=>if c=true then .ok true else g ρ:=rfl
@[simp] theorem aSa {f:bU} {ρ:Env}:eS f ρ=(f ρ).bind fun c=>.ok (!c):=rfl
@[simp] theorem aR0 {ρ:Env}:cJ ρ=.ok true:=rfl
@[simp] theorem aUu {f:aL} {lo hi:yQ} {ρ:Env}:vSl f lo hi ρ=(f ρ).bind fun x=>(lo ρ).bind fun l=>(hi ρ).bind fun u=>kSl x l u:=rfl
@[simp] theorem aQ3 {ρ:Env}:lR ρ=.ok none:=rfl
@[simp] theorem aSu {f:aL} {ρ:Env}:tD f ρ=(f ρ).bind fun x=>match x.1 with | .int i=>.ok (some i) | _=>.bad:=rfl
@[simp] theorem aS8 {g:cW} {ρ:Env}:dR g ρ=(g ρ).bind fun xs=>if xs.all aN && decide (xs.length<=1000000) then .ok (.lst true (xs.map (·.1)),true) else .bad:=rfl
@[simp] theorem aSn {g:cW} {ρ:Env}:nR g ρ=(g ρ).bind fun xs=>if xs.all aN && decide (xs.length<=1000000) then .ok (.tup (D.frzs (xs.map (·.1))),true) else .bad:=rfl
@[simp] theorem aSl {f:aL} {ρ:Env}:kA f ρ=(f ρ).bind aC8:=rfl
@[simp] theorem aTa {f:aL} {ρ:Env}:zW f ρ=(f ρ).bind fun x=>(uQ x).bind fun ds=>.ok (lS ds):=rfl
@[simp] theorem aUt {ds:List D} {b:Bool}:uQ (.lst false ds,b)=if aN (.lst false ds,b) then .ok (D.frzs ds) else .bad:=rfl
@[simp] theorem aUq {o:Bool} {ds:List D}:uQ (.lst o ds,true)=.ok (D.frzs ds):=rfl
@[simp] theorem aUo {o:Bool} {ds:List D}:aC8 (.lst o ds,true)=.ok (D.frzs ds):=rfl
@[simp] theorem aTj {b:Bool} {ds:List D}:aC8 (.lst false ds,b)=if aN (.lst false ds,b) then .ok (D.frzs ds) else .bad:=rfl
@[simp] theorem aUw {b:Bool} {ds:List D}:aC8 (.tup ds,b)=.ok ds:=rfl
@[irreducible] def zH (j:Int):R (List D):=if bW j then .ok (fJ 0 j.toNat) else .bad
def kR1:List (D×Bool)->R (List D)
 | [(.int j,_)]=>zH j | _=>.bad
@[simp] theorem aTw {g:cW} {ρ:Env}:iR1 g ρ=(g ρ).bind kR1:=by
 unfold iR1 kR1 zH;rfl
@[simp] theorem aUj {j:Int} {b:Bool}:kR1 [(.int j,b)]=zH j:=rfl
@[simp] theorem uO {d:D} {ρ:Env}:aD 0 (.val d::ρ)=.ok (d,false):=rfl
@[simp] theorem aU1 {d:D} {ρ:Env}:aD 0 (.pin d::ρ)=.ok (d,false):=rfl
@[simp] theorem aBo {i:Nat} {s:Slot} {ρ:Env}:aD (i+1) (s::ρ)=aD i ρ:=rfl
def np (s:Slot):Prop:=∀d,s ≠ .pin d
@[simp] theorem cN:np .un:=fun _ h=>by cases h
@[simp] theorem aY {d:D}:np (.val d):=fun _ h=>by cases h
@[simp] theorem aTl {d:D}:¬ np (.pin d):=fun h=>h d rfl
@[simp] theorem qU {s:Slot} {ρ:Env} (h:np s):free (s::ρ) 0=true:=by
 cases s<;>first | rfl | exact absurd rfl (h _)
@[simp] theorem uK {i:Nat} {s:Slot} {ρ:Env}:free (s::ρ) (i+1)=free ρ i:=by unfold free;simp
@[simp] theorem aTg {d:D} {ρ:Env}:getD (.val d::ρ) 0=some d:=rfl
@[simp] theorem aS7 {d:D} {ρ:Env}:getD (.pin d::ρ) 0=some d:=rfl
@[simp] theorem aSf {ρ:Env}:getD (.un::ρ) 0=none:=rfl
@[simp] theorem aMr {i:Nat} {s:Slot} {ρ:Env}:getD (s::ρ) (i+1)=getD ρ i:=rfl
@[simp] theorem aSo {c d:D} {ρ:Env}:putD (.val c::ρ) 0 d=.val d::ρ:=rfl
@[simp] theorem aT6 {i:Nat} {d:D} {s:Slot} {ρ:Env}:putD (s::ρ) (i+1) d=s::putD ρ i d:=by
 unfold putD
 simp only [List.getElem?_cons_succ]
 cases ρ[i]? with
 | none=>rfl
 | some t=>cases t<;>rfl
@[simp] theorem kN {i:Nat} {d:D} {ρ:Env}:bH i d ρ=if free ρ i then some (ρ.set i (.val d)) else none:=rfl
@[simp] theorem aQm {is:T0} {ds:List D} {ρ:Env}:fZ is (.tup ds) ρ=bY is ds ρ:=rfl
@[simp] theorem aN0 {ρ:Env}:bY [] [] ρ=some ρ:=rfl
@[simp] theorem aK8 {i:Nat} {is:T0} {d:D} {ds:List D} {ρ:Env}:bY (i::is) (d::ds) ρ=if d.calm then (bH i d ρ).bind (bY is ds) else none:=rfl
@[simp] theorem aBt {g:Int->Int->D} {i j:Int} {b c:Bool}:kI g (.int i,b) (.int j,c)=.ok (g i j,true):=rfl
@[simp] theorem aUa {p:Int->Int->Bool} {g:Int->Int->D} {i j:Int} {b c:Bool}:kIc p g (.int i,b) (.int j,c)=if p i j=true then .ok (g i j,true) else .bad:=rfl
@[simp] theorem aVd {g:Int->D} {i:Int} {b:Bool}:kU g (.int i,b)=.ok (g i,true):=rfl
@[simp] theorem aR2 {i j:Int} {b c:Bool}:bT (.int i,b) (.int j,c)=.ok (.int (i+j),true):=rfl
@[simp] theorem aSb {o p:Bool} {ds es:List D} {b c:Bool}:bT (.lst o ds,b) (.lst p es,c)=if D.aZ ds && D.aZ es && decide (ds.length+es.length<=1000000) then .ok (.lst true (ds++es),true) else .bad:=rfl
@[simp] theorem aPc {i j:Int} {b c:Bool}:jR (.int i,b) (.int j,c)=if (fits i && fits j)=true then .ok (.int (i * j),true) else .bad:=rfl
@[simp] theorem aVc {o b c:Bool} {ds:List D} {i:Int}:kIx (.lst o ds,b) (.int i,c)=R.of ((atI ds i).map (·,b)):=rfl
@[simp] theorem aU8 {b c:Bool} {ds:List D} {i:Int}:kIx (.tup ds,b) (.int i,c)=R.of ((atI ds i).map (·,b)):=rfl
@[simp] theorem aTf {α:Type} {a:α}:R.of (some a)=.ok a:=rfl
@[simp] theorem aTq {o b:Bool} {ds:List D}:fG [(.lst o ds,b)]=.ok (.int ds.length,true):=rfl
@[simp] theorem aUn {b:Bool} {ds:List D}:fG [(.tup ds,b)]=.ok (.int ds.length,true):=rfl
@[simp] theorem aTe {b:Bool} {ds:List D}:kM [(.tup ds,b)]=.ok (.lst true ds,true):=rfl
@[simp] theorem aRd {o b:Bool} {ds:List D}:uF [(.lst o ds,b)]=if D.aZ ds then .ok (.tup ds,true) else .bad:=rfl
@[simp] theorem aU9 {o b:Bool} {ds:List D} {lo hi:Option Int}:kSl (.lst o ds,b) lo hi=if D.aZ ds then .ok (.lst true (cutD ds lo hi),true) else .bad:=rfl
@[simp] theorem aSz {n:Bool} {d:D} {b c:Bool}:nT n (d,b) (.non,c)=.ok (.bl (if n then !fK d else fK d),true):=rfl
@[simp] theorem aTt {i:Nat} {f:aL} {ρ:Env}:bC i (xOf f) ρ=lQ (f ρ) fun d b=>if (b || d.calm) && free ρ i then .next (ρ.set i (.val d)) else .bad:=by
 unfold bC xOf lQ;cases f ρ<;>rfl
@[simp] theorem aT5 {f:aL} {ρ:Env}:dJ (xOf f) ρ=lQ (f ρ) fun d b=>if (b || d.calm) then .ret d ρ else .bad:=by
 unfold dJ xOf lQ;cases f ρ<;>rfl
@[simp] theorem aSg {f:aL} {ρ:Env}:kR (xOf f) ρ=lQ (f ρ) fun _ _=>.next ρ:=by
 unfold kR xOf lQ;cases f ρ<;>rfl
@[simp] theorem aBw {c:bU} {f g:aQ} {ρ:Env}:sIf c f g ρ=onT (c ρ) (f ρ) (g ρ):=by
 unfold sIf onT;cases c ρ with
 | ok a=>cases a<;>rfl
 | exc c=>rfl
 | bad=>rfl
@[simp] theorem aTr {f:jF} {set:D->Env->Option Env} {b:aQ} {ρ:Env}:jQ f set b ρ=onI (f ρ) fun ds=>forL set b ds ρ:=by
 unfold jQ onI;cases f ρ<;>rfl
@[simp] theorem aTv {i:Nat} {f:aL} {ρ:Env}:dH i f ρ=lQ (f ρ) fun d b=>match (getD ρ i).bind fun e=>pH e (d,b) with | some e=>.next (putD ρ i e) | none=>.bad:=by
 unfold dH lQ;cases f ρ<;>rfl
@[simp] theorem aSy {ds:List D} {x:D×Bool}:pH (.lst true ds) x=if aN x && decide (ds.length<1000000) then some (.lst true (ds ++ [x.1])) else none:=rfl
@[simp] theorem aSi {i:Nat} {ρ:Env}:lT i ρ=match ρ[i]? with | some (.val d)=>.ret d (ρ.set i .un) | some (.pin d)=>if d.calm then .ret d ρ else .bad | _=>.bad:=rfl
@[simp] theorem aTm {is:T0} {g:aQ} {ρ:Env}:pG is g ρ=g (is.foldl frz1 ρ):=rfl
@[simp] theorem aS0 {d:D} {ρ:Env}:frz1 (.val d::ρ) 0=.val d.frz::ρ:=rfl
@[simp] theorem aTc {ρ:Env}:frz1 (.un::ρ) 0=.un::ρ:=rfl
@[simp] theorem aUh {i:Nat} {s:Slot} {ρ:Env}:frz1 (s::ρ) (i+1)=s::frz1 ρ i:=by
 unfold frz1
 rw [aMr]
 cases getD ρ i<;>simp
@[simp] theorem aUg {d:D}:aN (d,true)=true:=rfl
@[simp] theorem aUk {d:D}:aN (d,false)=d.calm:=rfl
def I (xs:Y0):List D:=xs.map D.int
@[simp] theorem aVh:I []=[]:=rfl
@[simp] theorem aVg (xs:Y0):(I xs).length=xs.length:=by simp [I]
@[simp] theorem aTn (xs:Y0) (x:Int):I xs ++ [.int x]=I (xs ++ [x]):=by simp [I]
def gt (xs:Y0) (k:Nat):Int:=xs.getD k 0
theorem aRw {xs:Y0} {k:Nat} (h:k<xs.length):xs[k]?=some (gt xs k):=by simp [gt,List.getElem?_eq_getElem h]
theorem aP6 {xs:Y0} {k:Nat} (h:k<xs.length):(I xs)[k]?=some (.int (gt xs k)):=by simp [I,aRw h]
@[simp] theorem aIi:∀xs:Y0,D.aZ (I xs)=true
 | []=>rfl
 | _::xs=>by show (true && D.aZ (I xs))=true;rw [aIi xs];rfl
@[simp] theorem aNp:∀xs:Y0,D.frzs (I xs)=I xs
 | []=>rfl
 | x::xs=>by show D.int x::D.frzs (I xs)=_;rw [aNp xs];rfl
@[simp] theorem aB3:∀xs:Y0,dD (I xs)=some xs
 | []=>rfl
 | x::xs=>by show (dD (I xs)).map (x::·)=_;rw [aB3 xs];rfl
@[simp] theorem aPy {i:Int}:(D.int i).calm=true:=rfl
@[simp] theorem aRl {x:Str}:(D.str x).calm=true:=rfl
@[simp] theorem aQu:D.non.calm=true:=rfl
@[simp] theorem aS2 {x:Bool}:(D.bl x).calm=true:=rfl
@[simp] theorem aRj {ds:List D}:(D.tup ds).calm=D.aZ ds:=rfl
@[simp] theorem aEc {o:Bool} {ds:List D}:(D.lst o ds).calm=(!o && D.aZ ds):=rfl
@[simp] theorem aPb:D.aZ []=true:=rfl
@[simp] theorem sI {d:D} {ds:List D}:D.aZ (d::ds)=(d.calm && D.aZ ds):=rfl
@[simp] theorem aSd {i:Int}:(D.int i).frz=.int i:=rfl
@[simp] theorem aSw {x:Str}:(D.str x).frz=.str x:=rfl
@[simp] theorem aS9:D.non.frz=.non:=rfl
@[simp] theorem aTo {x:Bool}:(D.bl x).frz=.bl x:=rfl
@[simp] theorem aIj {ds:List D}:(D.tup ds).frz=.tup (D.frzs ds):=rfl
@[simp] theorem aH1 {o:Bool} {ds:List D}:(D.lst o ds).frz=.lst false (D.frzs ds):=rfl
@[simp] theorem aQi:D.frzs []=[]:=rfl
@[simp] theorem aCl {d:D} {ds:List D}:D.frzs (d::ds)=d.frz::D.frzs ds:=rfl
mutual
theorem frz_calm:∀d:D,d.frz.calm=true
 | .non=>rfl | .bl _=>rfl | .int _=>rfl | .str _=>rfl
 | .tup ds=>frzs_calm ds
 | .lst _ ds=>by show (!false && D.aZ (D.frzs ds))=true;rw [frzs_calm ds];rfl
 | .ext _ _=>rfl
theorem frzs_calm:∀ds:List D,D.aZ (D.frzs ds)=true
 | []=>rfl
 | d::ds=>by show (d.frz.calm && D.aZ (D.frzs ds))=true;rw [frz_calm d,frzs_calm ds];rfl
end
mutual
theorem bI:∀d:D,d.calm=true->d.frz=d
 | .non,_=>rfl | .bl _,_=>rfl | .int _,_=>rfl | .str _,_=>rfl
 | .tup ds,h=>by rw [aIj,iZ ds h]
 | .lst o ds,h=>by
  rw [aEc,Bool.and_eq_true] at h
  rw [aH1,iZ ds h.2]
  cases o
  ·rfl
  ·cases h.1
 | .ext o t,h=>by
  cases o
  ·rfl
  ·cases h
theorem iZ:∀ds:List D,D.aZ ds=true->D.frzs ds=ds
 | [],_=>rfl
 | d::ds,h=>by
  rw [sI,Bool.and_eq_true] at h
  rw [aCl,bI d h.1,iZ ds h.2]
end
@[simp] theorem aSk (d:D):d.frz.frz=d.frz:=bI _ (frz_calm d)
@[simp] theorem aPd (ds:List D):D.frzs (D.frzs ds)=D.frzs ds:=iZ _ (frzs_calm ds)
@[simp] theorem eq_int {n:Bool} {i j:Int} {b c:Bool}:kEq n (.int i,b) (.int j,c)=.ok (.bl (if n then !decide (i=j) else decide (i=j)),true):=by
 unfold kEq
 have:lP (.int i) (.int j)=true:=rfl
 rw [if_pos this]
 show R.ok (D.bl (if n then !(i == j) else (i == j)),true)=_
 rw [show (i == j)=decide (i=j) from by by_cases h:i=j<;>simp [h]]
@[simp] theorem aPe {lo:Int} {n:Nat}:(fJ lo n).length=n:=by simp [fJ]
theorem aI1 {n:Nat}:fJ 0 n=(List.range n).map fun i:Nat=>D.int (i:Int):=by simp [fJ]
theorem tW {n:Nat} (h:n<=1000000):bW (n:Int)=true:=by
 unfold bW;rw [Bool.and_eq_true,decide_eq_true_iff,decide_eq_true_iff];omega
theorem iL {n:Nat} (h:n<=1000000):zH (n:Int)=.ok ((List.range n).map fun i:Nat=>D.int (i:Int)):=by
 unfold zH
 rw [if_pos (tW h),aI1,Int.toNat_natCast]
theorem dF {α:Type} {xs:List α} {k:Nat}:atI xs (k:Int)=xs[k]?:=by
 unfold atI ixN
 by_cases h:(k:Int)<xs.length
 ·rw [if_pos (by omega),if_pos h];simp
 ·rw [if_pos (by omega),if_neg h]
  have:xs.length<=k:=by omega
  simp [this]
theorem aEp {α:Type} {xs:List α}:atI xs (-1)=xs.getLast?:=by
 unfold atI ixN
 rw [if_neg (by omega)]
 by_cases h:xs=[]
 ·subst h;rfl
 ·have:0<xs.length:=List.length_pos_iff.mpr h
  rw [if_pos (by omega)]
  show xs[(-1+(xs.length:Int)).toNat]?=_
  rw [List.getLast?_eq_getElem?]
  congr 1;omega
theorem aLe {α:Type} {cY:Env} {e:aL} {φ ψ:α->D} {b:α->Bool}:∀(xs:List α) (t:Slot),np t->(∀x∈xs,e (.val (φ x)::cY)=.ok (ψ x,b x)/\aN (ψ x,b x)=true)->iQ (bH 0) cJ e (xs.map φ) (t::cY)=.ok (xs.map ψ)
 | [],_,_,_=>rfl
 | x::xs,t,ht,h=>by
  obtain ⟨h1,h2⟩:=h x List.mem_cons_self
  have ih:=aLe xs (.val (φ x)) aY fun y hy=>h y (List.mem_cons_of_mem _ hy)
  show (match bH 0 (φ x) (t::cY) with | none=>R.bad | some ρ1=>_)=_
  rw [kN,if_pos (qU ht)]
  show (R.ok true).bind _=_
  rw [cS,if_pos rfl]
  show (e (.val (φ x)::cY)).bind _=_
  rw [h1,cS,if_pos h2]
  show (iQ (bH 0) cJ e (xs.map φ) (.val (φ x)::cY)).bind _=_
  rw [ih];rfl
theorem aKp {α:Type} {cY:Env} {e:aL} {φ χ ψ:α->D} {b:α->Bool}:∀(xs:List α) (t u:Slot),np t->np u->(∀x∈xs,(φ x).calm=true/\(χ x).calm=true/\e (.val (φ x)::.val (χ x)::cY)=.ok (ψ x,b x)/\aN (ψ x,b x)=true) ->
  iQ (fZ [0,1]) cJ e (xs.map fun x=>.tup [φ x,χ x]) (t::u::cY)=.ok (xs.map ψ)
 | [],_,_,_,_,_=>rfl
 | x::xs,t,u,ht,hu,h=>by
  obtain ⟨c1,c2,h1,h2⟩:=h x List.mem_cons_self
  have ih:=aKp xs (.val (φ x)) (.val (χ x)) aY aY fun y hy=>h y (List.mem_cons_of_mem _ hy)
  have hb:fZ [0,1] (.tup [φ x,χ x]) (t::u::cY)=some (.val (φ x)::.val (χ x)::cY):=by
   simp [c1,c2,ht,hu]
  show (match fZ [0,1] (.tup [φ x,χ x]) (t::u::cY) with | none=>R.bad | some ρ1=>_)=_
  rw [hb]
  show (R.ok true).bind _=_
  rw [cS,if_pos rfl]
  show (e (.val (φ x)::.val (χ x)::cY)).bind _=_
  rw [h1,cS,if_pos h2]
  show (iQ (fZ [0,1]) cJ e (xs.map fun x=>.tup [φ x,χ x]) (.val (φ x)::.val (χ x)::cY)).bind _=_
  rw [ih];rfl
theorem mU {α:Type} {it:jF} {js:T0} {e:aL} {ρ:Env} (cY:Env) (xs:List α) (φ ψ:α->D) (b:α->Bool) (hi:it ρ=.ok (xs.map φ)) (hl:xs.length<=1000000) (hc:js.map (jJ ρ)=cY)
  (he:∀x∈xs,e (.val (φ x)::cY)=.ok (ψ x,b x)/\aN (ψ x,b x)=true) (hk:js.all (kL ρ)=true\/∀x∈xs,isScal (ψ x)=true):cG it 1 js (bH 0) cJ e ρ=.ok (.lst true (xs.map ψ),true):=by
 unfold cG
 rw [hi,cS,if_pos (by simpa using hl),hc]
 show (iQ (bH 0) cJ e (xs.map φ) (.un::cY)).bind _=_
 rw [aLe xs .un cN he,cS,if_pos]
 rcases hk with h | h
 ·rw [h];rfl
 ·rw [Bool.or_eq_true];right;rw [List.all_eq_true]
  intro d hd
  obtain ⟨x,hx,rfl⟩:=List.mem_map.mp hd
  exact h x hx
theorem aOk {α:Type} {it:jF} {js:T0} {e:aL} {ρ:Env} (cY:Env) (xs:List α) (φ χ ψ:α->D) (b:α->Bool) (hi:it ρ=.ok (xs.map fun x=>.tup [φ x,χ x])) (hl:xs.length<=1000000) (hc:js.map (jJ ρ)=cY)
  (he:∀x∈xs,(φ x).calm=true/\(χ x).calm=true/\e (.val (φ x)::.val (χ x)::cY)=.ok (ψ x,b x)/\aN (ψ x,b x)=true) (hk:js.all (kL ρ)=true\/∀x∈xs,isScal (ψ x)=true):cG it 2 js (fZ [0,1]) cJ e ρ=.ok (.lst true (xs.map ψ),true):=by
 unfold cG
 rw [hi,cS,if_pos (by simpa using hl),hc]
 show (iQ (fZ [0,1]) cJ e (xs.map fun x=>.tup [φ x,χ x]) (.un::.un::cY)).bind _=_
 rw [aKp xs .un .un cN cN he,cS,if_pos]
 rcases hk with h | h
 ·rw [h];rfl
 ·rw [Bool.or_eq_true];right;rw [List.all_eq_true]
  intro d hd
  obtain ⟨x,hx,rfl⟩:=List.mem_map.mp hd
  exact h x hx
theorem qL {α:Type} {xs:List α} {φ:α->D}:lS (xs.map φ)=(xs.zipIdx).map fun p=>.tup [.int (p.2:Nat),φ p.1]:=by
 unfold lS
 rw [List.zipIdx_map,List.map_map]
 rfl
theorem aKd {c:bU} {b:aQ} {n:Nat} {ρ:Env} (hc:c ρ=.ok false):dY c b (n+1) ρ=.next ρ:=by
 rw [dY,hc]
def out (o:Out) (P:Env->Prop) (Q:D->Prop):Prop:=match o with | .next ρ=>P ρ | .ret d _=>Q d | _=>False
def stp (o:Option Env) (b:aQ):Out:=match o with | some ρ=>b ρ | none=>.bad
@[simp] theorem wA {ρ:Env} {P:Env->Prop} {Q:D->Prop}:out (.next ρ) P Q=P ρ:=rfl
@[simp] theorem aSe {ρ:Env} {d:D} {P:Env->Prop} {Q:D->Prop}:out (.ret d ρ) P Q=Q d:=rfl
@[simp] theorem kG {ρ:Env} {b:aQ}:stp (some ρ) b=b ρ:=rfl
theorem dP {o:Out} {g:aQ} {P P':Env->Prop} {Q:D->Prop} (h:out o P' Q) (h2:∀ρ,P' ρ->out (g ρ) P Q):out (o.andThen g) P Q:=by
 cases o<;>first | exact h2 _ h | exact h | exact h.elim
theorem jH {o:Out} {P P':Env->Prop} {Q Q':D->Prop} (h:out o P' Q') (h1:∀ρ,P' ρ->P ρ) (h2:∀d,Q' d->Q d):out o P Q:=by
 cases o<;>first | exact h1 _ h | exact h2 _ h | exact h.elim
def wO (fn:Fn) (ds:List D) (P:D->Prop):Prop:=∃d,Ret fn ds d/\P d
theorem iH {n:Nat} {body:aQ} {ds:List D} {P:D->Prop} (h:out (body (entry n ds)) (fun _=>P .non) P):wO (fnOf n body) ds P:=by
 cases e:body (entry n ds) with
 | next ρ=>rw [e] at h;exact ⟨_,aFl ⟨ρ,e⟩,h⟩
 | ret d ρ=>rw [e] at h;exact ⟨_,vJ ⟨ρ,e⟩,h⟩
 | brk ρ=>rw [e] at h;exact h.elim
 | cont ρ=>rw [e] at h;exact h.elim
 | exc c ρ=>rw [e] at h;exact h.elim
 | bad=>rw [e] at h;exact h.elim
theorem mK {n:Nat} {body:aQ} {ds:List D} {d:D} (h:out (body (entry n ds)) (fun _=>D.non=d) (·=d)):Ret (fnOf n body) ds d:=by
 obtain ⟨_,h1,rfl⟩:=iH (P:=(·=d)) h
 exact h1
theorem aA4 {α:Type} {set:D->Env->Option Env} {b:aQ} {φ:α->D} {Q:D->Prop} (J:List α->Env->Prop) (xs:List α) (h:∀pre x post ρ,xs=pre++x::post->J pre ρ->out (stp (set (φ x) ρ) b) (J (pre ++ [x])) Q):∀(post pre:List α) (ρ:Env),xs=pre++post->J pre ρ->out (forL set b (post.map φ) ρ) (J xs) Q
 | [],pre,ρ,e,h0=>by show J xs ρ;rw [e,List.append_nil];exact h0
 | x::post,pre,ρ,e,h0=>by
  have h1:=h pre x post ρ e h0
  show out (match set (φ x) ρ with | none=>Out.bad | some ρ1=>gQ (b ρ1) (forL set b (post.map φ))) _ _
  cases es:set (φ x) ρ with
  | none=>rw [es] at h1;exact h1.elim
  | some ρ1 =>
   rw [es,kG] at h1
   dsimp only
   cases eb:b ρ1 with
   | next ρ2=>rw [eb] at h1;exact aA4 J xs h post (pre ++ [x]) ρ2 (by rw [e];simp) h1
   | ret d ρ2=>rw [eb] at h1;exact h1
   | brk ρ=>rw [eb] at h1;exact h1.elim
   | cont ρ=>rw [eb] at h1;exact h1.elim
   | exc c ρ=>rw [eb] at h1;exact h1.elim
   | bad=>rw [eb] at h1;exact h1.elim
theorem fH {α:Type} {set:D->Env->Option Env} {b:aQ} {φ:α->D} {Q:D->Prop} {ρ:Env} (J:List α->Env->Prop) (xs:List α) (h0:J [] ρ) (h:∀pre x post ρ,xs=pre++x::post->J pre ρ->out (stp (set (φ x) ρ) b) (J (pre ++ [x])) Q):out (forL set b (xs.map φ) ρ) (J xs) Q:=aA4 J xs h xs [] ρ rfl h0
end VL
end
section
namespace VL.QQ
open VL
structure E where
 a:Nat
 k:Nat
 b:Nat
 c:Int
 deriving Inhabited
inductive Reach (es:List E):Nat->Prop
 | zero:Reach es 0
 | step {e:E}:e∈es->Reach es e.a->Reach es e.b
theorem uB:∀(n:Nat) (xs:T0),xs.Nodup->(∀x∈xs,x<n)->xs.length<=n
 | 0,[],_,_=>Nat.le_refl _
 | 0,x::xs,_,h=>absurd (h x List.mem_cons_self) (Nat.not_lt_zero x)
 | n+1,xs,nd,h=>by
  have h1:=uB n (xs.erase n) (nd.erase n) fun x hx=>by
   have:=h x (List.mem_of_mem_erase hx)
   have ne:x ≠ n:=fun z=>by subst z;exact absurd hx (List.Nodup.not_mem_erase nd)
   omega
  rw [List.length_erase] at h1
  split at h1<;>omega
def ed (es:List E) (d:Nat):E:=es.getD d default
def og (ow:Y4) (v:Nat):Option Nat:=ow.getD v none
theorem aNw {xs:Y4} {a v:Nat} {x:Option Nat} (ha:a<xs.length):og (xs.set a x) v=if v=a then x else og xs v:=by
 unfold og
 rw [List.getD_eq_getElem?_getD,List.getD_eq_getElem?_getD]
 by_cases h:v=a
 ·subst h;rw [if_pos rfl,List.getElem?_set_self ha];rfl
 ·rw [if_neg h,List.getElem?_set_ne (Ne.symm h)]
section
variable {es:List E} {gs:Y0} {num:T0} {n r:Nat} {most:Y0} {ow:Y4} {L rk:Nat->Nat} {cnt:Nat}
theorem aEw {v:Nat}:og (List.replicate n none) v=none:=by
 unfold og
 rw [List.getD_eq_getElem?_getD,List.getElem?_replicate]
 by_cases h:v<n
 ·rw [if_pos h];rfl
 ·rw [if_neg h];rfl
end
end VL.QQ
end
section
namespace VL
open PySem L2
def jT (o:Out) (P:Env->Prop) (Q:D->Prop) (X:Str->Prop):Prop:=match o with | .next ρ=>P ρ | .ret d _=>Q d | .exc c _=>X c | _=>False
@[simp] theorem aDf {ρ:Env} {P:Env->Prop} {Q:D->Prop} {X:Str->Prop}:jT (.next ρ) P Q X=P ρ:=rfl
@[simp] theorem aQ6 {ρ:Env} {d:D} {P:Env->Prop} {Q:D->Prop} {X:Str->Prop}:jT (.ret d ρ) P Q X=Q d:=rfl
@[simp] theorem aPo {ρ:Env} {c:Str} {P:Env->Prop} {Q:D->Prop} {X:Str->Prop}:jT (.exc c ρ) P Q X=X c:=rfl
@[simp] theorem aKw {ρ:Env} {c:Str} {g:aQ}:(Out.exc c ρ).andThen g=.exc c ρ:=rfl
theorem tH {o:Out} {g:aQ} {P P':Env->Prop} {Q:D->Prop} {X:Str->Prop} (h:jT o P' Q X) (h2:∀ρ,P' ρ->jT (g ρ) P Q X):jT (o.andThen g) P Q X:=by
 cases o<;>first | exact h2 _ h | exact h | exact h.elim
theorem fN {o:Out} {P P':Env->Prop} {Q Q':D->Prop} {X X':Str->Prop} (h:jT o P' Q' X') (h1:∀ρ,P' ρ->P ρ) (h2:∀d,Q' d->Q d) (h3:∀c,X' c->X c):jT o P Q X:=by
 cases o<;>first | exact h1 _ h | exact h2 _ h | exact h3 _ h | exact h.elim
def kH (fn:Fn) (ds:List D) (c:Str):Prop:=fn ds=.exc c
theorem aI3 {n:Nat} {body:aQ} {ds:List D} {P:D->Prop} {X:Str->Prop} (h:jT (body (entry n ds)) (fun _=>P .non) P X):wO (fnOf n body) ds P\/∃c,kH (fnOf n body) ds c/\X c:=by
 cases e:body (entry n ds) with
 | next ρ=>rw [e] at h;exact .inl ⟨_,aFl ⟨ρ,e⟩,h⟩
 | ret d ρ=>rw [e] at h;exact .inl ⟨_,vJ ⟨ρ,e⟩,h⟩
 | exc c ρ=>rw [e] at h;exact .inr ⟨c,by unfold kH fnOf;rw [e],h⟩
 | brk ρ=>rw [e] at h;exact h.elim
 | cont ρ=>rw [e] at h;exact h.elim
 | bad=>rw [e] at h;exact h.elim
def pA (fn:Fn) (ds:List D) (k:Bool) (ρ:Env) (f:D->Out):Out:=match fn ds with
 | .ok y=>if k || isScal y.1 then f y.1 else .bad
 | .exc c=>.exc c ρ | .bad=>.bad
theorem fT {fn:Fn} {ds:List D} {d:D} {ρ:Env} {f:D->Out} (h:Ret fn ds d):pA fn ds true ρ f=f d:=by
 obtain ⟨os,h⟩:=h
 unfold pA;rw [h];rfl
theorem iK {fn:Fn} {ds:List D} {k:Bool} {c:Str} {ρ:Env} {f:D->Out} (h:kH fn ds c):pA fn ds k ρ f=.exc c ρ:=by
 unfold pA;rw [h]
def onA (r:R (List (D×Bool))) (k:List (D×Bool)->Out):Out:=match r with | .ok xs=>k xs | _=>.bad
@[simp] theorem aTx {xs:List (D×Bool)} {k:List (D×Bool)->Out}:onA (.ok xs) k=k xs:=rfl
@[simp] theorem aPq {fn:Fn} {g:cW} {ρ:Env}:kR (gC fn g) ρ=onA (g ρ) fun xs=>pA fn (D.frzs (xs.map (·.1))) (xs.all aN) ρ fun _=>.next ρ:=by
 unfold kR gC onA pA
 cases g ρ with
 | ok xs =>
  dsimp only
  cases fn (D.frzs (xs.map (·.1))) with
  | ok y=>by_cases hk:(xs.all aN || isScal y.1)=true<;>simp [hk]
  | exc c=>rfl
  | bad=>rfl
 | exc _=>rfl
 | bad=>rfl
@[simp] theorem aSh {i:Nat} {fn:Fn} {g:cW} {ρ:Env}:bC i (gC fn g) ρ=onA (g ρ) fun xs=>pA fn (D.frzs (xs.map (·.1))) (xs.all aN) ρ fun d=>if free ρ i then .next (ρ.set i (.val d)) else .bad:=by
 unfold bC gC onA pA
 cases g ρ with
 | ok xs =>
  dsimp only
  cases fn (D.frzs (xs.map (·.1))) with
  | ok y=>by_cases hk:(xs.all aN || isScal y.1)=true<;>simp [hk]
  | exc c=>rfl
  | bad=>rfl
 | exc _=>rfl
 | bad=>rfl
@[simp] theorem aP4 {c:Str} {f:mE} {ρ:Env}:gI c f ρ=match f ρ with | some _=>.exc c ρ | none=>.bad:=rfl
@[simp] theorem aSj {f:mE} {ρ:Env}:zTop f ρ=(f ρ).bind fun n=>if n<=1000000 then some n else none:=rfl
@[simp] theorem aTi {f g:mE} {ρ:Env}:iU f g ρ=(f ρ).bind fun a=>(g ρ).map fun b=>a+b:=rfl
def zI (r:R (D×Bool)):Option Nat:=match r with | .ok (.int a,_)=>if a.natAbs<=100000 then some 100002 else none | _=>none
@[simp] theorem aSt {g:aL} {ρ:Env}:vS g ρ=zI (g ρ):=rfl
@[simp] theorem aUe {a:Int} {b:Bool}:zI (.ok (.int a,b))=if a.natAbs<=100000 then some 100002 else none:=rfl
theorem vX {α:Type} {set:D->Env->Option Env} {b:aQ} {φ:α->D} {Q:D->Prop} {X:Str->Prop} (J:List α->Env->Prop) (xs:List α) (h:∀pre x post ρ,xs=pre++x::post->J pre ρ->jT (stp (set (φ x) ρ) b) (J (pre ++ [x])) Q X):∀(post pre:List α) (ρ:Env),xs=pre++post->J pre ρ->jT (forL set b (post.map φ) ρ) (J xs) Q X
 | [],pre,ρ,e,h0=>by show J xs ρ;rw [e,List.append_nil];exact h0
 | x::post,pre,ρ,e,h0=>by
  have h1:=h pre x post ρ e h0
  show jT (match set (φ x) ρ with | none=>Out.bad | some ρ1=>gQ (b ρ1) (forL set b (post.map φ))) (J xs) Q X
  cases es:set (φ x) ρ with
  | none=>rw [es] at h1;exact h1.elim
  | some ρ1 =>
   rw [es] at h1
   have h1:jT (b ρ1) (J (pre ++ [x])) Q X:=h1
   dsimp only
   cases eb:b ρ1 with
   | next ρ2=>rw [eb] at h1;exact vX J xs h post (pre ++ [x]) ρ2 (by rw [e];simp) h1
   | ret d ρ2=>rw [eb] at h1;exact h1
   | exc c ρ2=>rw [eb] at h1;exact h1
   | brk _=>rw [eb] at h1;exact h1.elim
   | cont _=>rw [eb] at h1;exact h1.elim
   | bad=>rw [eb] at h1;exact h1.elim
theorem qV {α:Type} {set:D->Env->Option Env} {b:aQ} {φ:α->D} {Q:D->Prop} {X:Str->Prop} {ρ:Env} (J:List α->Env->Prop) (xs:List α) (h0:J [] ρ) (h:∀pre x post ρ,xs=pre++x::post->J pre ρ->jT (stp (set (φ x) ρ) b) (J (pre ++ [x])) Q X):jT (forL set b (xs.map φ) ρ) (J xs) Q X:=vX J xs h xs [] ρ rfl h0
end VL
end
section
namespace VL.QQ
open VL PySem L2 PY
abbrev nI (k:Nat):D:=.int (k:Int)
def E.l (e:E):Y0:=[(e.a:Int),(e.k:Int),(e.b:Int),e.c]
def E.d (e:E):D:=.tup [nI e.a,nI e.k,nI e.b,.int e.c]
def ME (es:List E):List D:=es.map E.d
def dM (n kd:Nat) (es:List E):D:=.tup [nI n,nI kd,.lst false (ME es)]
@[simp] theorem E.calm (e:E):e.d.calm=true:=rfl
@[simp] theorem E.frz (e:E):e.d.frz=e.d:=rfl
theorem eO {α:Type} {φ:α->D} (h:∀x,(φ x).calm=true):∀xs:List α,D.aZ (xs.map φ)=true
 | []=>rfl
 | x::xs=>by rw [List.map_cons,sI,h x,eO h xs];rfl
theorem hV {α:Type} {φ:α->D} (h:∀x,(φ x).calm=true) (xs:List α):D.frzs (xs.map φ)=xs.map φ:=iZ _ (eO h xs)
@[simp] theorem aQ5 (es:List E):D.aZ (ME es)=true:=eO E.calm es
@[simp] theorem aS5 (es:List E):D.frzs (ME es)=ME es:=hV E.calm es
@[simp] theorem aTp (es:List E):(ME es).length=es.length:=by simp [ME]
@[simp] theorem aJo {n kd:Nat} {es:List E}:(dM n kd es).calm=true:=by simp [dM,nI]
@[simp] theorem aUf {n kd:Nat} {es:List E}:(dM n kd es).frz=dM n kd es:=bI _ aJo
theorem aFo {α:Type} {a:α} {xs:List α}:atI (a::xs) 0=some a:=by have:=dF (xs:=a::xs) (k:=0);simpa using this
theorem aEm {α:Type} {a b:α} {xs:List α}:atI (a::b::xs) 1=some b:=by have:=dF (xs:=a::b::xs) (k:=1);simpa using this
theorem aHn {α:Type} {a b c:α} {xs:List α}:atI (a::b::c::xs) 2=some c:=by have:=dF (xs:=a::b::c::xs) (k:=2);simpa using this
theorem aQo {α:Type} {a b c d:α} {xs:List α}:atI (a::b::c::d::xs) 3=some d:=by have:=dF (xs:=a::b::c::d::xs) (k:=3);simpa using this
@[simp] theorem aVq {n kd:Nat} {es:List E} {b c:Bool}:kIx (dM n kd es,b) (.int 0,c)=.ok (nI n,b):=by simp [dM,aFo]
@[simp] theorem aVt {n kd:Nat} {es:List E} {b c:Bool}:kIx (dM n kd es,b) (.int 1,c)=.ok (nI kd,b):=by simp [dM,aEm]
@[simp] theorem aVs {n kd:Nat} {es:List E} {b c:Bool}:kIx (dM n kd es,b) (.int 2,c)=.ok (.lst false (ME es),b):=by simp [dM,aHn]
@[simp] theorem E_0 {e:E} {b c:Bool}:kIx (e.d,b) (.int 0,c)=.ok (nI e.a,b):=by simp [E.d,aFo]
@[simp] theorem E_1 {e:E} {b c:Bool}:kIx (e.d,b) (.int 1,c)=.ok (nI e.k,b):=by simp [E.d,aEm]
@[simp] theorem E_2 {e:E} {b c:Bool}:kIx (e.d,b) (.int 2,c)=.ok (nI e.b,b):=by simp [E.d,aHn]
@[simp] theorem E_3 {e:E} {b c:Bool}:kIx (e.d,b) (.int 3,c)=.ok (.int e.c,b):=by simp [E.d,aQo]
theorem pB {es:List E} {k:Nat} (h:k<es.length):es[k]?=some (ed es k):=by simp [ed,List.getElem?_eq_getElem h]
theorem aE0 {es:List E} {k:Nat} (h:k<es.length):ed es k∈es:=List.mem_of_getElem? (pB h)
theorem iG {es:List E} {k:Nat} {b c:Bool} (h:k<es.length):kIx (.lst false (ME es),b) (.int (k:Int),c)=.ok ((ed es k).d,b):=by
 simp [dF,ME,pB h]
structure OkM (n kd:Nat) (es:List E):Prop where
 n1:1<=n
 n2:n<=20
 k1:1<=kd
 k2:kd<=8
 ls:es.length<=18
 a:∀e∈es,e.a<n
 k:∀e∈es,e.k<kd
 b:∀e∈es,e.b<n
 c:∀e∈es,0<=e.c/\e.c<=1000
 up:es.Pairwise fun x y=>ST.ltL x.l y.l=true
theorem aAn (i:Int):Ret lZ [.int i] (.bl true):=by
 refine vJ ⟨[.val (.int i)],?_⟩
 simp [rB,entry,jZ,qA,aEx]
theorem nC (i a b:Int):Ret bL [.int i,.int a,.int b] (.bl (decide (a<=i) && decide (i<=b))):=by
 refine vJ ⟨[.val (.int i),.val (.int a),.val (.int b)],?_⟩
 simp [nP,entry,aP (aAn i)]
 by_cases h:a<=i<;>simp [h]
theorem iE {x a b:Int} (h1:a<=x) (h2:x<=b):Ret bL [.int x,.int a,.int b] (.bl true):=by
 have:=nC x a b
 rwa [decide_eq_true h1,decide_eq_true h2] at this
theorem pY {x a b:Int} (h:¬ (a<=x/\x<=b)):Ret bL [.int x,.int a,.int b] (.bl false):=by
 have:=nC x a b
 have e:(decide (a<=x) && decide (x<=b))=false:=by
  rw [<- Bool.not_eq_true,Bool.and_eq_true,decide_eq_true_eq,decide_eq_true_eq];exact h
 rwa [e] at this
@[simp] theorem aU6 {e:E} {b:Bool}:jZ "tuple" (e.d,b)=.ok (.bl true,true):=rfl
@[simp] theorem aVj {n kd:Nat} {es:List E} {b:Bool}:jZ "tuple" (dM n kd es,b)=.ok (.bl true,true):=rfl
@[simp] theorem aVb {o:Bool} {ds:List D} {b:Bool}:jZ "list" (.lst o ds,b)=.ok (.bl true,true):=rfl
@[simp] theorem aU7 {e:E} {b:Bool}:fG [(e.d,b)]=.ok (.int 4,true):=rfl
@[simp] theorem aVa {n kd:Nat} {es:List E} {b:Bool}:fG [(dM n kd es,b)]=.ok (.int 3,true):=rfl
theorem tZ {n kd:Nat} {es:List E} {e:E} (ha:e.a<n) (hk:e.k<kd) (hb:e.b<n) (hc:0<=e.c/\e.c<=1000):Ret lK [dM n kd es,e.d] (.bl true):=by
 refine mK ?_
 have e1:=aP (iE (x:=(e.a:Int)) (a:=0) (b:=(n:Int) - 1) (by omega) (by omega))
 have e2:=aP (iE (x:=(e.b:Int)) (a:=0) (b:=(n:Int) - 1) (by omega) (by omega))
 have e3:=aP (iE (x:=(e.k:Int)) (a:=0) (b:=(kd:Int) - 1) (by omega) (by omega))
 have e4:=aP (iE (x:=e.c) (a:=0) (b:=1000) hc.1 hc.2)
 simp [fP,entry,bM,dB,nI,e1,e2,e3,e4]
theorem aHc {x y:E} (h:ST.ltL x.l y.l=true) {b c:Bool}:aGt (y.d,b) (x.d,c)=.ok (.bl false,true):=by
 show R.ok (D.bl (!ST.ltL x.l y.l),true)=_
 rw [h];rfl
def kR2:List (D×Bool)->R (List D)
 | [(.int i,_),(.int j,_)]=>if bW i && bW j then .ok (fJ i (j - i).toNat) else .bad
 | _=>.bad
@[simp] theorem aT3 {g:cW} {ρ:Env}:iR2 g ρ=(g ρ).bind kR2:=by
 unfold iR2
 cases g ρ<;>rfl
theorem aLv {n:Nat} {b c:Bool} (h:n<=1000000):kR2 [(.int 1,b),(.int (n:Int),c)]=.ok ((List.range (n - 1)).map fun i:Nat=>D.int (1+(i:Int))):=by
 show (if (bW 1 && bW (n:Int))=true then R.ok (fJ 1 ((n:Int) - 1).toNat) else R.bad)=_
 rw [show (bW 1 && bW (n:Int))=true by rw [tW h];decide,if_pos rfl,show ((n:Int) - 1).toNat=n - 1 by omega]
 rfl
theorem vG (es:List E):lS (ME es)=es.zipIdx.map fun p=>.tup [.int (p.2:Nat),p.1.d]:=qL
theorem vE {n kd:Nat} {es:List E} (h:OkM n kd es):Ret dU [dM n kd es] .non:=by
 refine mK ?_
 have hl:¬ ((600:Int)<(es.length:Int)):=by have:=h.ls;omega
 simp -implicitDefEqProofs [dS,entry,bM,dB,nI,hl,vG]
 refine dP (fH (fun pre ρ=>∃t u,np t/\np u/\ρ=[.val (dM n kd es),.val (.lst false (ME es)),t,u]) es.zipIdx ⟨_,_,cN,cN,rfl⟩ ?_) ?_
 ·rintro pre ⟨x,k⟩ post ρ e ⟨t,u,ht,hu,rfl⟩
  have hx:x∈es:=by
   have:(x,k)∈es.zipIdx:=by rw [e];simp
   have:=List.mem_zipIdx this
   simp at this
   rw [this.2];exact List.getElem_mem _
  simp -implicitDefEqProofs [ht,hu,bM,dB,aP (tZ (es:=es) (h.a x hx) (h.k x hx) (h.b x hx) (h.c x hx))]
 ·rintro ρ ⟨t,u,ht,hu,rfl⟩
  simp -implicitDefEqProofs [aLv (show es.length<=1000000 by have:=h.ls;omega)]
  refine jH (fH (fun pre ρ=>∃t,np t/\ρ=[.val (dM n kd es),.val (.lst false (ME es)),t,u]) (List.range (es.length - 1)) ⟨_,ht,rfl⟩ ?_) (fun ρ h=>trivial) (fun _ h=>h)
  rintro pre i post ρ e ⟨t,ht,rfl⟩
  have hi:i<es.length - 1:=List.mem_range.mp (by rw [e];simp)
  have e1:(1+(i:Int))=((i+1:Nat):Int):=by omega
  have e2:(((i+1:Nat):Int) - 1)=(i:Int):=by omega
  have q1:=iG (es:=es) (k:=i+1) (b:=false) (c:=false) (by omega)
  have q2:=iG (es:=es) (k:=i) (b:=false) (c:=true) (by omega)
  have up:ST.ltL (ed es i).l (ed es (i+1)).l=true:=by
   have:=List.pairwise_iff_getElem.mp h.up i (i+1) (by omega) (by omega) (by omega)
   have z1:=pB (es:=es) (k:=i) (by omega)
   have z2:=pB (es:=es) (k:=i+1) (by omega)
   rw [List.getElem?_eq_getElem (by omega)] at z1 z2
   rw [<- Option.some.inj z1,<- Option.some.inj z2];exact this
  rw [e1]
  simp only [kN,uK,qU ht,if_true,kG,List.set,aBw,mZ,aA9,aBo,uO,cS,q1,aBd,aBt,e2,q2,aHc up,aHh,qZ,wA]
  exact ⟨_,aY,rfl⟩
end VL.QQ
end
section
namespace VL.QQ
open VL PySem L2 PY
def NN (xs:T0):List D:=xs.map nI
@[simp] theorem aUr:NN []=[]:=rfl
@[simp] theorem aUp (xs:T0):(NN xs).length=xs.length:=by simp [NN]
@[simp] theorem aSv (xs:T0) (x:Nat):NN xs ++ [.int (x:Int)]=NN (xs ++ [x]):=by simp [NN]
@[simp] theorem aRb (xs:T0):D.aZ (NN xs)=true:=eO (fun _=>rfl) xs
@[simp] theorem aTh (xs:T0):D.frzs (NN xs)=NN xs:=hV (fun _=>rfl) xs
def nt (xs:T0) (k:Nat):Nat:=xs.getD k 0
theorem aB7 {xs:T0} {k:Nat} (h:k<xs.length):xs[k]?=some (nt xs k):=by simp [nt,List.getElem?_eq_getElem h]
theorem qQ {xs:T0} {k:Nat} (h:k<xs.length):nt xs k∈xs:=List.mem_of_getElem? (aB7 h)
theorem aE6 {o:Bool} {xs:T0} {k:Nat} {b c:Bool} (h:k<xs.length):kIx (.lst o (NN xs),b) (.int (k:Int),c)=.ok (nI (nt xs k),b):=by
 simp [dF,NN,aB7 h]
theorem nZ {o:Bool} {xs:T0} {x:Nat} {b c:Bool} (h:xs.getLast?=some x):kIx (.lst o (NN xs),b) (.int (-1),c)=.ok (nI x,b):=by
 simp [aEp,NN,h]
def oD:Option Nat->D
 | none=>.non
 | some k=>nI k
def OD (ow:Y4):List D:=ow.map oD
@[simp] theorem uN (x:Option Nat):(oD x).calm=true:=by cases x<;>rfl
@[simp] theorem aP8 (xs:Y4):D.aZ (OD xs)=true:=eO uN xs
@[simp] theorem aS4 (xs:Y4):D.frzs (OD xs)=OD xs:=hV uN xs
@[simp] theorem aOc (xs:Y4):(OD xs).length=xs.length:=by simp [OD]
theorem aRa {o:Bool} {ow:Y4} {v:Nat} {b c:Bool} (h:v<ow.length):kIx (.lst o (OD ow),b) (.int (v:Int),c)=.ok (oD (og ow v),b):=by
 simp [dF,OD,og,List.getElem?_eq_getElem h]
theorem rQ {n kd:Nat} {es:List E} (h:OkM n kd es):Ret bE [dM n kd es] .non:=by
 refine mK ?_
 have e1:=aP (iE (x:=(n:Int)) (a:=1) (b:=200) (by have:=h.n1;omega) (by have:=h.n2;omega))
 have e2:=aP (iE (x:=(kd:Int)) (a:=1) (b:=8) (by have:=h.k1;omega) (by have:=h.k2;omega))
 simp [bS,entry,bM,dB,nI,e1,e2,fT (vE h)]
@[simp] theorem l1:(Str.ofString "a machine has 1 to ").length=19:=by rfl
@[simp] theorem l2:(Str.ofString " places").length=7:=by rfl
@[simp] theorem l3:(Str.ofString "the price of kind ").length=18:=by rfl
@[simp] theorem l4:(Str.ofString " is not from 0 to ").length=18:=by rfl
@[simp] theorem l5:(Str.ofString "deed ").length=5:=by rfl
@[simp] theorem l6:(Str.ofString " does not begin where the row has come to").length=41:=by rfl
theorem kY {n:Nat} {body:aQ} {ds:List D} {c:Str} (h:jT (body (entry n ds)) (fun _=>False) (fun _=>False) (fun x=>x=c)):kH (fnOf n body) ds c:=by
 rcases aI3 (P:=fun _=>False) h with ⟨d,_,h⟩ | ⟨c',h1,h2⟩
 ·exact h.elim
 ·rw [h2] at h1;exact h1
theorem aD3 {α:Type} {xs pre post:List α} {x:α} {k:Nat} {pr po:List (α×Nat)} (e:xs.zipIdx=pr++(x,k)::po):k=pr.length/\k<xs.length/\xs[k]?=some x:=by
 have h1:pr.length<xs.zipIdx.length:=by rw [e];simp
 have h2:xs.zipIdx[pr.length]?=some (x,k):=by rw [e];simp
 simp only [List.length_zipIdx] at h1
 rw [List.getElem?_zipIdx,List.getElem?_eq_getElem h1] at h2
 simp at h2
 obtain ⟨h2,h3⟩:=h2
 subst h3
 exact ⟨rfl,h1,by rw [List.getElem?_eq_getElem h1,h2]⟩
end VL.QQ
end
section
namespace VL.QQ
open VL PySem L2 PY
def stP (es:List E) (r:Option (T0)) (x:Nat):Option (T0):=r.bind fun ps=>if ps.getLast?=some (ed es x).a then some (ps ++ [(ed es x).b]) else none
def goP (es:List E) (row:T0):Option (T0):=row.foldl (stP es) (some [0])
theorem aGm {es:List E} {row:T0} {x:Nat}:goP es (row ++ [x])=stP es (goP es row) x:=by unfold goP;rw [List.foldl_append];rfl
def ixP (pre:List (E×Nat)) (p:Nat):T0:=(pre.filter fun x=>x.1.a == p).map (·.2)
def LS (n:Nat) (f:Nat->T0):List D:=(List.range n).map fun p=>.lst true (NN (f p))
theorem aNk {n a x:Nat} {f:Nat->T0}:(LS n f).set a (.lst true (NN (f a ++ [x])))=LS n fun p=>if p=a then f a ++ [x] else f p:=by
 unfold LS
 refine List.ext_getElem (by simp) fun i h1 h2=>?_
 rw [List.getElem_set]
 by_cases h:a=i
 ·simp [h]
 ·simp [h,Ne.symm h]
@[simp] theorem aPz {i:Nat} {h f:aL} {ρ:Env}:gZ i h f ρ=lQ (h ρ) fun d _=>match d with
  | .int k=>(match f ρ with
   | .ok x=>(match (getD ρ i).bind fun d=>wC d k x with | some d=>.next (putD ρ i d) | none=>.bad)
   | .exc _=>.bad | .bad=>.bad)
  | _=>.bad:=by
 unfold gZ lQ
 cases h ρ with
 | ok x=>obtain ⟨d,b⟩:=x;cases d<;>rfl
 | exc _=>rfl
 | bad=>rfl
theorem aTk {n a x:Nat} {f:Nat->T0} {b:Bool} (ha:a<n) (hl:(f a).length<1000000):wC (.lst true (LS n f)) (a:Int) (nI x,b)=some (.lst true (LS n fun p=>if p=a then f a ++ [x] else f p)):=by
 have e1:ixN (LS n f).length (a:Int)=some a:=by
  unfold ixN
  rw [if_pos (Int.natCast_nonneg a),if_pos (by simp [LS];omega)];simp
 have e2:(LS n f)[a]?=some (.lst true (NN (f a))):=by simp [LS,ha]
 show (ixN (LS n f).length (a:Int)).bind _=_
 rw [e1]
 show ((LS n f)[a]?).bind _=_
 rw [e2]
 show (pH (.lst true (NN (f a))) (nI x,b)).map _=_
 have e3:pH (.lst true (NN (f a))) (nI x,b)=some (.lst true (NN (f a ++ [x]))):=by
  cases b<;>simp [hl,nI]
 rw [e3]
 show some (D.lst true ((LS n f).set a (.lst true (NN (f a ++ [x])))))=_
 rw [aNk]
theorem vN {n kd:Nat} {es:List E} (h:OkM n kd es):Ret jV [dM n kd es] (.lst true (LS n (ixP es.zipIdx))):=by
 refine mK ?_
 have ec:cG (iR1 (aC (v2 kIx (aD 0) (vC (.int 0))) aK)) 1 [] (bH 0) cJ (dR aK) [.val (dM n kd es),.un,.un,.un]=.ok (.lst true (LS n fun _=>[]),true):=by
  rw [mU [] (List.range n) (fun i=>.int (i:Int)) (fun _=>D.lst true []) (fun _=>true) (by simp -implicitDefEqProofs [nI,iL (show n<=1000000 by have:=h.n2;omega)]) (by have:=h.n2;simp;omega) rfl ?_ (.inl rfl)]
  ·rfl
  ·intro x _;exact ⟨rfl,rfl⟩
 simp -implicitDefEqProofs [nJ,entry,ec,vG]
 refine dP (fH (fun pre ρ=>∃t u,np t/\np u/\ρ=[.val (dM n kd es),.val (.lst true (LS n (ixP pre))),t,u]) es.zipIdx ⟨_,_,cN,cN,rfl⟩ ?_) ?_
 ·rintro pre ⟨x,k⟩ post ρ e ⟨t,u,ht,hu,rfl⟩
  obtain ⟨hk1,hk2,hk3⟩:=aD3 (pre:=[]) (post:=[]) e
  have hx:x∈es:=List.mem_of_getElem? hk3
  have hlen:(ixP pre x.a).length<1000000:=by
   have h1:(ixP pre x.a).length<=pre.length:=by unfold ixP;rw [List.length_map];exact List.length_filter_le _ _
   have:=h.ls;omega
  have ea:=aTk (n:=n) (a:=x.a) (x:=k) (f:=ixP pre) (b:=false) (h.a x hx) hlen
  simp -implicitDefEqProofs [ht,hu,nI,ea]
  have ef:(fun p=>if p=x.a then ixP pre x.a ++ [k] else ixP pre p)=ixP (pre ++ [(x,k)]):=by
   funext p
   by_cases hp:p=x.a
   ·subst hp
    simp [ixP]
   ·simp [ixP,hp,Ne.symm hp]
  rw [ef]
  exact ⟨_,aY,_,aY,rfl,rfl,rfl⟩
 ·rintro ρ ⟨t,u,ht,hu,rfl⟩
  simp
end VL.QQ
end
section
namespace VL.QQ
open VL PySem L2 PY
theorem oR {c:bU} {b:aQ} {P:Env->Prop} {Q:D->Prop} (J:Nat->Env->Prop) (h:∀m ρ,J m ρ->(c ρ=.ok false/\P ρ)\/(c ρ=.ok true/\∃m',m=m'+1/\out (b ρ) (J m') Q)) :
  ∀(N m:Nat) (ρ:Env),J m ρ->m<N->out (dY c b N ρ) P Q
 | 0,m,ρ,_,hm=>absurd hm (Nat.not_lt_zero m)
 | N+1,m,ρ,hj,hm=>by
  rcases h m ρ hj with ⟨h1,h2⟩ | ⟨h1,m',e,h2⟩
  ·rw [aKd h1];exact h2
  ·show out (match c ρ with | .ok true=>gQ (b ρ) (dY c b N) | .ok false=>.next ρ | .exc _=>.bad | .bad=>.bad) P Q
   rw [h1]
   show out (gQ (b ρ) (dY c b N)) P Q
   cases eb:b ρ with
   | next ρ2 =>
    rw [eb] at h2
    exact oR J h N m' ρ2 h2 (by omega)
   | ret d ρ2=>rw [eb] at h2;exact h2
   | exc _ _=>rw [eb] at h2;exact h2.elim
   | brk _=>rw [eb] at h2;exact h2.elim
   | cont _=>rw [eb] at h2;exact h2.elim
   | bad=>rw [eb] at h2;exact h2.elim
@[simp] theorem aOp {i:Nat} {h f:aL} {ρ:Env}:gA i h f ρ=lQ (f ρ) fun d b=>lQ (h ρ) fun k _=>match k with
  | .int k=>(match (getD ρ i).bind fun e=>aCz e k (d,b) with | some e=>.next (putD ρ i e) | none=>.bad) | _=>.bad:=by
 unfold gA lQ
 cases f ρ with
 | ok x =>
  cases h ρ with
  | ok y=>obtain ⟨y,c⟩:=y;cases y<;>rfl
  | exc _=>rfl
  | bad=>rfl
 | exc _=>rfl
 | bad=>rfl
@[simp] theorem aT1 {i:Nat} {op:Int->Int->Int} {f:aL} {ρ:Env}:aAu i op f ρ=match getD ρ i with
  | some (.int a)=>lQ (f ρ) fun d _=>(match d with | .int b=>if free ρ i then .next (ρ.set i (.val (.int (op a b)))) else .bad | _=>.bad)
  | _=>.bad:=by
 unfold aAu lQ
 cases getD ρ i with
 | none=>rfl
 | some d =>
  cases d<;>try rfl
  cases f ρ with
  | ok x=>obtain ⟨x,b⟩:=x;cases x<;>rfl
  | exc _=>rfl
  | bad=>rfl
theorem aM2 {m k:Nat} (h:k<m):ixN m (k:Int)=some k:=by
 unfold ixN;rw [if_pos (Int.natCast_nonneg k),if_pos (by omega)];simp
theorem aJj {ow:Y4} {v k:Nat} {b:Bool} (h:v<ow.length):aCz (.lst true (OD ow)) (v:Int) (nI k,b)=some (.lst true (OD (ow.set v (some k)))):=by
 show (if aN (nI k,b)=true then (ixN (OD ow).length (v:Int)).map fun j=>D.lst true ((OD ow).set j (nI k)) else none)=_
 rw [if_pos (by cases b<;>rfl),aOc,aM2 h]
 show some (D.lst true ((OD ow).set v (nI k)))=_
 rw [OD,OD,List.map_set];rfl
structure BS (n:Nat) (es:List E) (came:Y4) (pl:T0) (rk:Nat->Nat):Prop where
 len:came.length=n
 nd:pl.Nodup
 lt:∀p∈pl,p<n
 iff:∀p,p<n->(p∈pl ↔ (p=0\/og came p ≠ none))
 ok:∀p k,og came p=some k->k<es.length/\(ed es k).b=p/\p ≠ 0/\(ed es k).a∈pl/\rk (ed es k).a<rk p
 rl:∀p∈pl,rk p<pl.length
 rm:∀p,rk p<=pl.length
 so:∀p∈pl,Reach es p
theorem BS.le {n:Nat} {es:List E} {came:Y4} {pl:T0} {rk:Nat->Nat} (h:BS n es came pl rk):pl.length<=n:=uB n pl h.nd h.lt
theorem BS.add {n:Nat} {es:List E} {came:Y4} {pl:T0} {rk:Nat->Nat} (h:BS n es came pl rk) {k:Nat} (hk:k<es.length) (ha:(ed es k).a∈pl) (hb:(ed es k).b<n) (h0:(ed es k).b ≠ 0) (hn:og came (ed es k).b=none) :
  BS n es (came.set (ed es k).b (some k)) (pl ++ [(ed es k).b]) (fun p=>if p=(ed es k).b then pl.length else rk p):=by
 generalize eb:(ed es k).b=B at *
 have go:∀v,og (came.set B (some k)) v=if v=B then some k else og came v:=fun v=>aNw (by rw [h.len];exact hb)
 have hB:B ∉ pl:=fun z=>by
  rcases (h.iff B hb).mp z with q | q
  ·exact h0 q
  ·exact q hn
 have ne:∀p∈pl,p ≠ B:=fun p hp z=>hB (z ▸ hp)
 refine ⟨by rw [List.length_set];exact h.len,?_,fun p hp=>?_,fun p hp=>?_,fun p k' e=>?_,fun p hp=>?_,fun p=>?_,fun p hp=>?_⟩
 ·refine List.nodup_append.mpr ⟨h.nd,by simp,fun x hx y hy z=>?_⟩
  simp at hy;subst hy;exact ne x hx z
 ·rcases List.mem_append.mp hp with q | q
  ·exact h.lt p q
  ·simp at q;rw [q];exact hb
 ·rw [go,List.mem_append]
  by_cases q:p=B
  ·simp [q]
  ·rw [if_neg q,h.iff p hp];simp [q]
 ·rw [go] at e
  by_cases q:p=B
  ·rw [if_pos q] at e;cases e
   subst q
   refine ⟨hk,eb,h0,List.mem_append_left _ ha,?_⟩
   rw [if_pos rfl,if_neg (ne _ ha)]
   exact h.rl _ ha
  ·rw [if_neg q] at e
   obtain ⟨o1,o2,o3,o4,o5⟩:=h.ok p k' e
   refine ⟨o1,o2,o3,List.mem_append_left _ o4,?_⟩
   rw [if_neg (ne _ o4),if_neg q];exact o5
 ·rw [List.length_append]
  show (if p=B then pl.length else rk p)<pl.length+1
  by_cases q:p=B
  ·rw [if_pos q];omega
  ·rw [if_neg q]
   have:=h.rm p;omega
 ·rw [List.length_append]
  show (if p=B then pl.length else rk p)<=pl.length+1
  have:=h.rm p
  split<;>omega
 ·rcases List.mem_append.mp hp with q | q
  ·exact h.so p q
  ·simp at q
   rw [q,<- eb]
   exact .step (aE0 hk) (h.so _ ha)
theorem aQ0 {es:List E} {e:E} (he:e∈es):∃k,k∈ixP es.zipIdx e.a/\ed es k=e:=by
 obtain ⟨k,hk,hke⟩:=List.getElem_of_mem he
 refine ⟨k,?_,?_⟩
 ·unfold ixP
  refine List.mem_map.mpr ⟨(e,k),List.mem_filter.mpr ⟨?_,by simp⟩,rfl⟩
  rw [List.mem_zipIdx_iff_getElem?,List.getElem?_eq_getElem hk,hke]
 ·have:=pB hk
  rw [List.getElem?_eq_getElem hk,hke] at this
  exact (Option.some.inj this).symm
theorem aNx {es:List E} {k p:Nat} (h:k∈ixP es.zipIdx p):k<es.length/\(ed es k).a=p:=by
 unfold ixP at h
 obtain ⟨⟨e,k'⟩,h1,h2⟩:=List.mem_map.mp h
 obtain ⟨h3,h4⟩:=List.mem_filter.mp h1
 have h2:k'=k:=h2
 subst h2
 rw [List.mem_zipIdx_iff_getElem?] at h3
 have h3:es[k']?=some e:=h3
 have hk:=(List.getElem?_eq_some_iff.mp h3).1
 refine ⟨hk,?_⟩
 have:=pB hk
 rw [h3] at this
 rw [<- Option.some.inj this]
 simpa using h4
structure CameOk (n:Nat) (es:List E) (came:Y4):Prop where
 len:came.length=n
 ok:∀p k,og came p=some k->k<es.length/\(ed es k).b=p/\p ≠ 0
 rk:∃rk:Nat->Nat,(∀p,rk p<=n)/\∀p k,og came p=some k->rk (ed es k).a<rk p
 re:∀p,p<n->((p=0\/og came p ≠ none) ↔ Reach es p)
 sr:∀p k,og came p=some k->Reach es (ed es k).a
theorem aMz {n p:Nat} {f:Nat->T0} (h:p<n):(D.frzs (LS n f))[p]?=some (.lst false (NN (f p))):=by
 rw [D.aCh];simp [LS,h]
def mH:bU:=(aU (v2 kLt (aD 4) (vCB fG (aC (aD 3) aK))))
def qB:aQ:=(aS (jQ (kA (v2 kIx (aD 1) (v2 kIx (aD 3) (aD 4)))) (bH 5) (aS (bC 6 (xOf (v2 kIx (v2 kIx (v2 kIx (aD 0) (vC (.int 2))) (aD 5)) (vC (.int 2))))) (sIf (nV (aU (v2 (kEq true) (aD 6) (vC (.int 0)))) (aU (v2 (nT false) (v2 kIx (aD 2) (aD 6)) (vC .non)))) (aS (gA 2 (aD 6) (aD 5)) (dH 3 (aD 6))) bN))) (aAu 4 (fun i j=>i+j) (vC (.int 1))))
theorem aCp {n kd:Nat} {es:List E} (h:OkM n kd es):wO lF [dM n kd es] (fun d=>∃came,d=.lst true (OD came)/\CameOk n es came):=by
 refine iH ?_
 have ec:cG (iR1 (aC (v2 kIx (aD 0) (vC (.int 0))) aK)) 1 [] (bH 0) cJ (vC .non) [.val (dM n kd es),.val (.lst true (LS n (ixP es.zipIdx))),.un,.un,.un,.un,.un]=.ok (.lst true (OD (List.replicate n none)),true):=by
  rw [mU [] (List.range n) (fun i=>.int (i:Int)) (fun _=>D.non) (fun _=>true) (by simp -implicitDefEqProofs [nI,iL (show n<=1000000 by have:=h.n2;omega)]) (by have:=h.n2;simp;omega) rfl ?_ (.inl rfl)]
  ·rw [OD,List.map_replicate]
   congr 3
   exact List.eq_replicate_iff.mpr ⟨by simp,by simp [oD]⟩
  ·intro x _;exact ⟨rfl,rfl⟩
 have hn2:=h.n2
 simp -implicitDefEqProofs [tM,entry,aP (vN h),ec]
 show out ((dY mH qB fuel _).andThen _) _ _
 refine dP (P':=fun ρ=>∃came pl rk at' t u,np t/\np u/\BS n es came pl rk/\(∀e∈es,e.a∈pl->e.b∈pl)/\0∈pl/\ρ=[.val (dM n kd es),.val (.lst false (D.frzs (LS n (ixP es.zipIdx)))),.val (.lst true (OD came)),.val (.lst true (NN pl)),.val (.int at'),t,u]) (oR (fun m ρ=>∃came pl rk,∃a:Nat,∃t u,np t/\np u/\BS n es came pl rk/\(∀e∈es,e.a∈pl.take a->e.b∈pl)/\a<=pl.length/\0∈pl/\m=n - a/\ρ=[.val (dM n kd es),.val (.lst false (D.frzs (LS n (ixP es.zipIdx)))),.val (.lst true (OD came)),.val (.lst true (NN pl)),.val (nI a),t,u]) ?_ 1000 n _ ?_ (by omega)) ?_
 ·rintro m ρ ⟨came,pl,rk,a,t,u,ht,hu,B,cl,hal,h0,hm,rfl⟩
  by_cases hlt:a<pl.length
  ·refine .inr ⟨by simp [mH,nI,hlt],n - (a+1),by have:=B.le;omega,?_⟩
   have hp:=qQ hlt
   have hpn:=B.lt _ hp
   have e1:atI (D.frzs (LS n (ixP es.zipIdx))) ((nt pl a:Nat):Int)=some (.lst false (NN (ixP es.zipIdx (nt pl a)))):=by rw [dF];exact aMz hpn
   simp -implicitDefEqProofs [qB,nI,aE6 hlt,e1]
   refine dP (fH (fun pre ρ=>∃came pl' rk t u,np t/\np u/\BS n es came pl' rk/\(∀e∈es,e.a∈pl'.take a->e.b∈pl')/\a<pl'.length/\nt pl' a=nt pl a/\0∈pl'/\(∀x∈pre,(ed es x).b∈pl')/\ρ=[.val (dM n kd es),.val (.lst false (D.frzs (LS n (ixP es.zipIdx)))),.val (.lst true (OD came)),.val (.lst true (NN pl')),.val (nI a),t,u]) (ixP es.zipIdx (nt pl a)) ⟨came,pl,rk,t,u,ht,hu,B,cl,hlt,rfl,h0,by simp,rfl⟩ ?_) ?_
   ·rintro pre x post ρ e ⟨came,pl',rk,t,u,ht,hu,B,cl,hlt',hnt,h0,hpre,rfl⟩
    obtain ⟨hx,hxa⟩:=aNx (show x∈ixP es.zipIdx (nt pl a) by rw [e];simp)
    have hbn:=h.b _ (aE0 hx)
    have ha':(ed es x).a∈pl':=by rw [hxa,<- hnt];exact qQ hlt'
    have hoA:=aRa (o:=true) (b:=false) (c:=false) (show (ed es x).b<came.length by rw [B.len];exact hbn)
    by_cases hb0:(ed es x).b=0
    ·simp -implicitDefEqProofs [ht,hu,nI,iG hx,hb0]
     refine ⟨came,pl',rk,_,aY,_,aY,B,cl,hlt',hnt,h0,fun y hy=>?_,rfl,rfl,rfl,rfl⟩
     rcases hy with hy | hy
     ·exact hpre y hy
     ·rw [hy,hb0];exact h0
    ·have hb0':¬ ((ed es x).b:Int)=0:=by omega
     cases ho:og came (ed es x).b with
     | some k =>
      rw [ho] at hoA
      simp -implicitDefEqProofs [ht,hu,nI,iG hx,hb0',hb0,hoA,oD,fK]
      refine ⟨came,pl',rk,_,aY,_,aY,B,cl,hlt',hnt,h0,fun y hy=>?_,rfl,rfl,rfl,rfl⟩
      rcases hy with hy | hy
      ·exact hpre y hy
      ·rw [hy];exact (B.iff _ hbn).mpr (.inr (by rw [ho];simp))
     | none =>
      rw [ho] at hoA
      have hpl:pl'.length<1000000:=by have:=B.le;omega
      have B':=B.add hx ha' hbn hb0 ho
      simp -implicitDefEqProofs [ht,hu,nI,iG hx,hb0',hb0,hoA,oD,fK,aJj (show (ed es x).b<came.length by rw [B.len];exact hbn),hpl]
      refine ⟨_,_,_,_,aY,_,aY,B',fun e he hea=>?_,?_,?_,?_,fun y hy=>?_,rfl,rfl,rfl,rfl⟩
      ·rw [List.take_append_of_le_length (by omega)] at hea
       exact List.mem_append_left _ (cl e he hea)
      ·simp;omega
      ·rw [<- hnt];unfold nt
       rw [List.getD_eq_getElem?_getD,List.getD_eq_getElem?_getD,List.getElem?_append_left hlt']
      ·exact List.mem_append_left _ h0
      ·rcases hy with hy | hy
       ·exact List.mem_append_left _ (hpre y hy)
       ·rw [hy];simp
   ·rintro ρ ⟨came,pl',rk,t,u,ht,hu,B,cl,hlt',hnt,h0,hpre,rfl⟩
    simp -implicitDefEqProofs [ht,hu,nI]
    refine ⟨came,pl',rk,a+1,t,ht,u,hu,B,fun e he hea=>?_,by omega,h0,rfl,rfl,rfl,by simp,rfl,rfl⟩
    rw [List.take_succ,List.mem_append] at hea
    rcases hea with hea | hea
    ·exact cl e he hea
    ·rw [aB7 hlt'] at hea
     simp at hea
     obtain ⟨k,hk1,hk2⟩:=aQ0 he
     rw [hea,hnt] at hk1
     rw [<- hk2];exact hpre k hk1
  ·refine .inl ⟨by simp [mH,nI];omega,came,pl,rk,(a:Int),t,u,ht,hu,B,?_,h0,rfl⟩
   have:a=pl.length:=by omega
   subst this
   simpa using cl
 ·refine ⟨_,[0],fun _=>0,0,_,_,cN,cN,⟨by simp,by simp,by simp;exact h.n1,fun p hp=>by simp [aEw],fun p k e=>(by rw [aEw] at e;cases e),by simp,by simp,by simp;exact .zero⟩,by simp,by simp,by simp,by simp,rfl⟩
 ·rintro ρ ⟨came,pl,rk,a,t,u,ht,hu,B,cl,h0,rfl⟩
  simp
  refine ⟨came,rfl,B.len,fun p k e=>⟨(B.ok p k e).1,(B.ok p k e).2.1,(B.ok p k e).2.2.1⟩,⟨rk,fun p=>Nat.le_trans (B.rm p) B.le,fun p k e=>(B.ok p k e).2.2.2.2⟩,fun p hp=>?_,fun p k e=>B.so _ (B.ok p k e).2.2.2.1⟩
  rw [<- B.iff p hp]
  refine ⟨B.so p,fun hr=>?_⟩
  clear hp
  induction hr with
  | zero=>exact h0
  | step he _ ih=>exact cl _ he ih
end VL.QQ
end
section
namespace VL.QQ
open VL PySem L2 PY
def BB (n:Nat) (f:Nat->Bool):List D:=(List.range n).map fun p=>.bl (f p)
@[simp] theorem aPn (n:Nat) (f:Nat->Bool):D.aZ (BB n f)=true:=eO (fun _=>rfl) _
@[simp] theorem aSx (n:Nat) (f:Nat->Bool):D.frzs (BB n f)=BB n f:=hV (fun _=>rfl) _
theorem aJf (xs:Y4):lS (OD xs)=xs.zipIdx.map fun p=>.tup [.int (p.2:Nat),oD p.1]:=qL
@[simp] theorem aUx {f g:aL} {ρ:Env}:vOr f g ρ=(f ρ).bind fun x=>match x.1 with | .bl false=>g ρ | .bl true=>.ok (.bl true,true) | _=>.bad:=rfl
theorem aHj (x:Option Nat):fK (oD x)=x.isNone:=by cases x<;>rfl
theorem aCs {n kd:Nat} {es:List E} (h:OkM n kd es):wO fL [dM n kd es] (fun d=>∃f,d=.lst true (BB n f)/\∀p,p<n->(f p=true ↔ Reach es p)):=by
 refine iH ?_
 obtain ⟨d,hd,came,rfl,C⟩:=aCp h
 have ec:cG (zW (bG lF (aC (aD 0) aK))) 2 [] (fZ [0,1]) cJ (vOr (v2 (kEq false) (aD 0) (vC (.int 0))) (v2 (nT true) (aD 1) (vC .non))) [.val (dM n kd es)]=.ok (.lst true (BB n fun p=>decide (p=0) || (og came p).isSome),true):=by
  rw [aOk [] came.zipIdx (fun p=>.int (p.2:Nat)) (fun p=>oD p.1) (fun p=>D.bl (decide (p.2=0) || p.1.isSome)) (fun _=>true) (by simp [aP hd,aJf]) (by have:=C.len;have:=h.n2;simp;omega) rfl ?_ (.inl rfl)]
  ·congr 3
   unfold BB
   refine List.ext_getElem (by simp [C.len]) fun i h1 h2=>?_
   simp at h1 h2
   simp [og,List.getElem?_eq_getElem h1]
  ·rintro ⟨x,i⟩ hx
   refine ⟨rfl,uN x,?_,rfl⟩
   by_cases hi:i=0
   ·subst hi;simp
   ·have hi':¬ (i:Int)=0:=by omega
    simp [hi,hi',aHj]
 simp -implicitDefEqProofs [oH,entry,fT (rQ h),ec]
 refine ⟨_,rfl,fun p hp=>?_⟩
 rw [<- C.re p hp]
 simp [Option.isSome_iff_ne_none]
end VL.QQ
end
section
namespace VL.QQ
open VL PySem L2 PY
@[simp] theorem aSr {c d:D} {ρ:Env}:putD (.pin c::ρ) 0 d=.pin d::ρ:=rfl
end VL.QQ
end
section
namespace VL.QQ
open VL PySem L2 PY
end VL.QQ
end
section
namespace VL.QQ
open VL PySem L2 PY
theorem aIg {i:Int} (h1:-(2 ^ 100)<i) (h2:i<2 ^ 100):fits i=true:=by
 unfold fits
 rw [Bool.and_eq_true,decide_eq_true_iff,decide_eq_true_iff]
 have e:(2:Int) ^ 100<2 ^ 200:=by decide
 omega
end VL.QQ
end
section
namespace VL.QQ
open VL PySem L2 PY
end VL.QQ
end
section
namespace VL.QQ
open VL PySem L2 PY K10
def aB9 (ns:Y0) (k:Nat):Int:=if ns=[] then 0 else gt ns (k % ns.length)
theorem aUd {xs:Y0}:(I xs).isEmpty=decide (xs=[]):=by cases xs<;>simp [I]
theorem aP9 {xs:Y0} {k:Nat} (h:k<xs.length):atI (I xs) (k:Int)=some (.int (gt xs k)):=by
 rw [dF,aP6 h]
theorem aOu {ns:Y0} {k:Nat}:Ret rZ [.lst false (I ns),.int k] (.int (aB9 ns k)):=by
 refine mK ?_
 by_cases h:ns=[]
 ·subst h
  simp -implicitDefEqProofs [sJ,entry,bM,dB,aB9]
 ·have hl:0<ns.length:=List.length_pos_iff.mpr h
  have e:((k:Int) % (ns.length:Nat))=((k % ns.length:Nat):Int):=by simp
  simp -implicitDefEqProofs [sJ,entry,bM,dB,aB9,aUd,h,hl,-Int.natCast_emod]
  rw [e,aP9 (Nat.mod_lt _ hl)]
  simp -implicitDefEqProofs
def zA (ns:Y0) (k:Nat):Int:=(aB9 ns k+104729 * ((k:Int)+1)) % 4294967291
def aAy (ns:Y0) (k:Nat):Int:=zA ns k * 48271 % 4294967279
def cZ (ns:Y0) (k:Nat):Int:=(aAy ns k / 64 * 69621+aAy ns k) % 4294967231
theorem aT {x:Int} (h:-1000000000000<=x) (h2:x<=1000000000000):fits x=true:=aIg (by omega) (by omega)
theorem aD7 (ns:Y0) (k:Nat):0<=cZ ns k:=Int.emod_nonneg _ (by decide)
theorem aHb (ns:Y0) (k:Nat):cZ ns k<4294967231:=Int.emod_lt_of_pos _ (by decide)
theorem pC {ns:Y0} {k:Nat} (hk:k<=1000000):Ret bX [.lst false (I ns),.int k] (.int (cZ ns k)):=by
 refine mK ?_
 have h1:0<=zA ns k:=Int.emod_nonneg _ (by decide)
 have h1':zA ns k<4294967291:=Int.emod_lt_of_pos _ (by decide)
 have h2:0<=aAy ns k:=Int.emod_nonneg _ (by decide)
 have h2':aAy ns k<4294967279:=Int.emod_lt_of_pos _ (by decide)
 have f0:fits 104729=true:=aT (by decide) (by decide)
 have f1:fits ((k:Int)+1)=true:=aT (by omega) (by omega)
 have f2:fits 48271=true:=aT (by decide) (by decide)
 have f3:fits 69621=true:=aT (by decide) (by decide)
 have f4:fits 64=true:=aT (by decide) (by decide)
 have f5:fits (zA ns k)=true:=aT (by omega) (by omega)
 have f6:fits (aAy ns k / 64)=true:=aT (by omega) (by omega)
 unfold zA at f5
 unfold aAy zA at f6
 simp -implicitDefEqProofs [aB6,entry,aP (aOu (ns:=ns) (k:=k)),f0,f1,f2,f3,f4,f5,f6,cZ,aAy,zA]
theorem aMt (e:E):dD [nI e.a,nI e.k,nI e.b,.int e.c]=some e.l:=rfl
theorem aBl:∀es:List E,gJ (ME es)=some (es.map E.l)
 | []=>rfl
 | e::es=>by
  show (match dD [nI e.a,nI e.k,nI e.b,.int e.c],gJ (ME es) with | some k,some ks=>some (k::ks) | _,_=>none)=_
  rw [aMt,aBl es];rfl
def ofL:Y0->E
 | [a,k,b,c]=>⟨a.toNat,k.toNat,b.toNat,c⟩
 | _=>default
theorem aI2 (e:E):ofL e.l=e:=by
 show (⟨(e.a:Int).toNat,(e.k:Int).toNat,(e.b:Int).toNat,e.c⟩:E)=e
 simp
theorem xI (k:Y0):∀xs:LI,(pF k xs).length<=xs.length+1
 | []=>Nat.le_refl _
 | x::xs=>by
  unfold pF
  by_cases h1:ST.ltL k x=true
  ·rw [if_pos h1];simp
  ·rw [if_neg h1]
   by_cases h2:k=x
   ·rw [if_pos h2];simp
   ·rw [if_neg h2];simp;exact xI k xs
theorem tO:∀ks:LI,(dW ks).length<=ks.length
 | []=>Nat.le_refl _
 | k::ks=>by
  have h1:=xI k (dW ks)
  have h2:=tO ks
  show (pF k (dW ks)).length<=ks.length+1
  omega
theorem aQx (es:List E):∃es':List E,(dW (es.map E.l)).map TI=ME es'/\(∀e∈es',e∈es)/\es'.length<=es.length/\es'.Pairwise fun x y=>ST.ltL x.l y.l=true:=by
 have hm:∀k∈dW (es.map E.l),∃e∈es,e.l=k:=fun k hk=>by
  obtain ⟨e,he,rfl⟩:=List.mem_map.mp (jD.mp hk)
  exact ⟨e,he,rfl⟩
 refine ⟨(dW (es.map E.l)).map ofL,?_,fun e he=>?_,?_,?_⟩
 ·unfold ME
  rw [List.map_map]
  refine List.map_congr_left fun k hk=>?_
  obtain ⟨e,_,rfl⟩:=hm k hk
  show TI e.l=(ofL e.l).d
  rw [aI2];rfl
 ·obtain ⟨k,hk,rfl⟩:=List.mem_map.mp he
  obtain ⟨e,he',rfl⟩:=hm k hk
  rw [aI2];exact he'
 ·rw [List.length_map];have:=tO (es.map E.l);simpa using this
 ·refine List.pairwise_map.mpr (List.Pairwise.imp_of_mem (fun {a b} ha hb h=>?_) (jC (es.map E.l)))
  obtain ⟨e,_,rfl⟩:=hm a ha
  obtain ⟨e',_,rfl⟩:=hm b hb
  rw [aI2,aI2];exact h
theorem aNh {es:List E} {o b:Bool} (h:es.length<=18):kSS [(.lst o (ME es),b)]=.ok (.lst true ((dW (es.map E.l)).map TI),true):=by
 show (match gJ (ME es) with | some ks=>(if (decide (ks.length<=18) && ks.all (fun k=>!k.isEmpty))=true then R.ok (D.lst true ((dW ks).map TI),true) else .bad) | none=>.bad)=_
 rw [aBl]
 dsimp only
 rw [if_pos]
 simp [h]
 intro e _;simp [E.l]
theorem aRx {v:Int}:∃x,atI [D.int 0,D.int 1,D.int 2,D.int 3,D.int 5,D.int 9,D.int 1,D.int 0] (v % 8)=some (.int x)/\0<=x/\x<=1000:=by
 obtain ⟨k,hk,e⟩:∃k:Nat,k<8/\v % 8=(k:Int):=⟨(v % 8).toNat,by omega,by omega⟩
 rw [e,dF]
 match k,hk with
 | 0,_=>exact ⟨_,rfl,by decide,by decide⟩
 | 1,_=>exact ⟨_,rfl,by decide,by decide⟩
 | 2,_=>exact ⟨_,rfl,by decide,by decide⟩
 | 3,_=>exact ⟨_,rfl,by decide,by decide⟩
 | 4,_=>exact ⟨_,rfl,by decide,by decide⟩
 | 5,_=>exact ⟨_,rfl,by decide,by decide⟩
 | 6,_=>exact ⟨_,rfl,by decide,by decide⟩
 | 7,_=>exact ⟨_,rfl,by decide,by decide⟩
theorem oU {v:Int} {m:Nat} (hm:0<m):∃k:Nat,k<m/\v % (m:Int)=(k:Int):=by
 have h1:=Int.emod_nonneg v (show (m:Int) ≠ 0 by omega)
 have h2:=Int.emod_lt_of_pos v (show (0:Int)<(m:Int) by omega)
 exact ⟨(v % (m:Int)).toNat,by omega,by omega⟩
@[simp] theorem aSq (es:List E) (e:E):ME es ++ [e.d]=ME (es ++ [e]):=by simp [ME]
theorem aC4 {ns:Y0}:wO iI [.lst false (I ns),.int 0,.int 7] (fun d=>∃n kd es,d=dM n kd es/\OkM n kd es/\kd<=3):=by
 refine iH ?_
 have m0:Ret bX [.lst false (I ns),.int 0] (.int (cZ ns 0)):=pC (k:=0) (by omega)
 have m1:Ret bX [.lst false (I ns),.int 1] (.int (cZ ns 1)):=pC (k:=1) (by omega)
 have m2:Ret bX [.lst false (I ns),.int 2] (.int (cZ ns 2)):=pC (k:=2) (by omega)
 obtain ⟨n,hn1,hn7,hn'⟩:∃n:Nat,1<=n/\n<=7/\1+cZ ns 0 % 7=(n:Int):=⟨(1+cZ ns 0 % 7).toNat,by omega,by omega,by omega⟩
 obtain ⟨kd,hk1,hk3,hk'⟩:∃n:Nat,1<=n/\n<=3/\1+cZ ns 1 % 3=(n:Int):=⟨(1+cZ ns 1 % 3).toNat,by omega,by omega,by omega⟩
 obtain ⟨c,hc15,hc⟩:=oU (v:=cZ ns 2) (m:=15) (by omega)
 have hc':cZ ns 2 % 15=((c:Nat):Int):=hc
 have f1:fits 2=true:=aT (by decide) (by decide)
 have f2:fits 7=true:=aT (by decide) (by decide)
 simp -implicitDefEqProofs [pD,entry,aP m0,aP m1,aP m2,hn',hk',hc',f1,f2,iL (show c<=1000000 by omega)]
 refine dP (fH (fun pre ρ=>∃es t u w,np t/\np u/\np w/\es.length=pre.length/\(∀e∈es,e.a<n/\e.k<kd/\e.b<n/\0<=e.c/\e.c<=1000)/\ρ=[.val (.lst false (I ns)),.val (.int 0),.val (.int 7),.val (nI n),.val (nI kd),.val (.lst true (ME es)),t,u,w]) (List.range c) ⟨[],_,_,_,cN,cN,cN,rfl,by simp,rfl⟩ ?_) ?_
 ·rintro pre j post ρ e ⟨es,t,u,w,ht,hu,hw,hlen,hes,rfl⟩
  have hj:j<c:=List.mem_range.mp (by rw [e];simp)
  have hpl:pre.length<=c:=by have:=congrArg List.length e;simp at this;omega
  have mj:Ret bX [.lst false (I ns),.int (3+(j:Int))] (.int (cZ ns (3+j))):=by
   have:=pC (ns:=ns) (k:=3+j) (by omega)
   rwa [show ((3+j:Nat):Int)=3+(j:Int) by omega] at this
  generalize cZ ns (3+j)=v at mj
  obtain ⟨x,hx,hx1,hx2⟩:=aRx (v:=v / 4096)
  obtain ⟨a,ha1,ha2⟩:=oU (v:=v) (m:=n) (by omega)
  obtain ⟨k,hk1,hk2⟩:=oU (v:=v / 16) (m:=kd) (by omega)
  obtain ⟨b,hb1,hb2⟩:=oU (v:=v / 64) (m:=n) (by omega)
  have f3:fits 4096=true:=aT (by decide) (by decide)
  have f4:fits 16=true:=aT (by decide) (by decide)
  have f5:fits 64=true:=aT (by decide) (by decide)
  have hn0:0<n:=by omega
  have hk0:0<kd:=by omega
  have hl':es.length<1000000:=by omega
  simp -implicitDefEqProofs [ht,hu,hw,nI,aP mj,hx,f3,f4,f5,hn0,hk0,ha2,hk2,hb2,hl']
  refine ⟨es ++ [⟨a,k,b,x⟩],_,aY,_,aY,_,aY,by simp [hlen],fun e he=>?_,?_,rfl,rfl,rfl⟩
  ·rcases List.mem_append.mp he with q | q
   ·exact hes e q
   ·simp at q;rw [q];exact ⟨ha1,hk1,hb1,hx1,hx2⟩
  ·simp [ME,E.d]
 ·rintro ρ ⟨es,t,u,w,ht,hu,hw,hlen,hes,rfl⟩
  obtain ⟨es',q1,q2,q3,q4⟩:=aQx es
  have hl:es.length<=18:=by rw [hlen];simp;omega
  simp -implicitDefEqProofs [aNh hl,q1]
  exact ⟨n,kd,es',rfl,⟨hn1,by omega,hk1,by omega,by omega,fun e he=>(hes e (q2 e he)).1,fun e he=>(hes e (q2 e he)).2.1,fun e he=>(hes e (q2 e he)).2.2.1,fun e he=>(hes e (q2 e he)).2.2.2,q4⟩,hk3⟩
end VL.QQ
end
section
namespace VL.QQ
open VL PySem L2 PY K10
theorem jG:∀xs:T0,D.fQ (NN xs)=true
 | []=>rfl
 | x::xs=>by show (true && D.fQ (NN xs))=true;rw [jG xs];rfl
theorem qX:∀xs:T0,PyData.canLayAll0 (D.pys (NN xs))=true
 | []=>rfl
 | x::xs=>by show (true && PyData.canLayAll0 (D.pys (NN xs)))=true;rw [qX xs];rfl
theorem aF4 (x:Nat):∀xs:T0,((D.pys (NN xs)).any fun y=>PyData.eqv y (.int (x:Int)))=decide (x∈xs)
 | []=>rfl
 | y::xs=>by
  show (((y:Int) == (x:Int)) || (D.pys (NN xs)).any fun y=>PyData.eqv y (.int (x:Int)))=_
  rw [aF4 x xs]
  by_cases h:x=y
  ·subst h;simp
  ·have:¬ (y:Int)=(x:Int):=by omega
   simp [h,this]
theorem aE4 {neg o b c:Bool} {x:Nat} {xs:T0}:kIn neg (.int (x:Int),b) (.lst o (NN xs),c)=.ok (.bl (if neg then !decide (x∈xs) else decide (x∈xs)),true):=by
 have e1:pE (.int (x:Int)) (NN xs)=true:=by
  unfold pE
  rw [jG,qX]
  have:(D.int (x:Int)).py.depth=0:=rfl
  rw [this,Nat.min_zero];rfl
 have e2:inD (.int (x:Int)) (NN xs)=decide (x∈xs):=aF4 x xs
 show (if pE (.int (x:Int)) (NN xs)=true then R.ok (D.bl (if neg then !inD (.int (x:Int)) (NN xs) else inD (.int (x:Int)) (NN xs)),true) else .bad)=_
 rw [if_pos e1,e2]
@[simp] theorem aVi {is:T0} {e:E} {ρ:Env}:fZ is e.d ρ=bY is [.int (e.a:Int),.int (e.k:Int),.int (e.b:Int),.int e.c] ρ:=rfl
structure LB (n:Nat) (es:List E) (pl:T0):Prop where
 nd:pl.Nodup
 lt:∀p∈pl,p<n
 z:0∈pl
 so:∀p∈pl,Reach es p
theorem LB.add {n:Nat} {es:List E} {pl:T0} (h:LB n es pl) {e:E} (he:e∈es) (ha:e.a∈pl) (hb:e.b<n) (hn:e.b ∉ pl):LB n es (pl ++ [e.b]):=by
 refine ⟨List.nodup_append.mpr ⟨h.nd,by simp,fun x hx y hy z=>?_⟩,fun p hp=>?_,List.mem_append_left _ h.z,fun p hp=>?_⟩
 ·simp at hy;subst hy;subst z;exact hn hx
 ·rcases List.mem_append.mp hp with q | q
  ·exact h.lt p q
  ·simp at q;rw [q];exact hb
 ·rcases List.mem_append.mp hp with q | q
  ·exact h.so p q
  ·simp at q;rw [q];exact .step he (h.so _ ha)
def jW:bU:=(aU (v2 kLt (aD 2) (vCB fG (aC (aD 1) aK))))
def nH:aQ:=(aS (jQ (kA (v2 kIx (aD 0) (vC (.int 2)))) (fZ [3,4,5,6]) (sIf (nV (aU (v2 (kEq false) (aD 3) (v2 kIx (aD 1) (aD 2)))) (aU (v2 (kIn true) (aD 5) (aD 1)))) (dH 1 (aD 5)) bN)) (bC 2 (xOf (v2 bT (aD 2) (vC (.int 1))))))
theorem xQ {n kd:Nat} {es:List E} (h:OkM n kd es):wO iO [dM n kd es] (fun d=>∃pl,d=.lst true (NN pl)/\∀p,(p∈pl ↔ Reach es p)):=by
 refine iH ?_
 have hn1:=h.n1
 have hn2:=h.n2
 simp [oZ,entry]
 show out ((dY jW nH fuel _).andThen _) _ _
 refine dP (P':=fun ρ=>∃pl a t3 t4 t5 t6,LB n es pl/\(∀e∈es,e.a∈pl->e.b∈pl)/\ρ=[.val (dM n kd es),.val (.lst true (NN pl)),a,t3,t4,t5,t6])
  (oR (fun m ρ=>∃pl,∃a:Nat,∃t3 t4 t5 t6,np t3/\np t4/\np t5/\np t6/\LB n es pl/\(∀e∈es,e.a∈pl.take a->e.b∈pl)/\a<=pl.length/\m=n - a/\ρ=[.val (dM n kd es),.val (.lst true (NN pl)),.val (nI a),t3,t4,t5,t6]) ?_ 1000 n _ ?_ (by omega)) ?_
 ·rintro m ρ ⟨pl,a,t3,t4,t5,t6,h3,h4,h5,h6,B,cl,hal,hm,rfl⟩
  have hle:=uB n pl B.nd B.lt
  by_cases hlt:a<pl.length
  ·refine .inr ⟨by simp [jW,nI,hlt],n - (a+1),by omega,?_⟩
   simp [nH]
   refine dP (fH (fun pre ρ=>∃pl' t3 t4 t5 t6,np t3/\np t4/\np t5/\np t6/\LB n es pl'/\(∀e∈es,e.a∈pl'.take a->e.b∈pl')/\a<pl'.length/\nt pl' a=nt pl a/\(∀e∈pre,e.a=nt pl a->e.b∈pl')/\ρ=[.val (dM n kd es),.val (.lst true (NN pl')),.val (nI a),t3,t4,t5,t6]) es ⟨pl,t3,t4,t5,t6,h3,h4,h5,h6,B,cl,hlt,rfl,by simp,rfl⟩ ?_) ?_
   ·rintro pre e post ρ ee ⟨pl',t3,t4,t5,t6,h3,h4,h5,h6,B,cl,hlt',hnt,hpre,rfl⟩
    have he:e∈es:=by rw [ee];simp
    have y1:=aE6 (o:=true) (xs:=pl') (b:=false) (c:=false) hlt'
    rw [hnt] at y1
    by_cases q1:e.a=nt pl a
    ·have q1':(e.a:Int)=((nt pl a:Nat):Int):=by omega
     by_cases q2:e.b∈pl'
     ·simp [h3,h4,h5,h6,nI,y1,q1',aE4,q2]
      refine ⟨pl',_,aY,_,aY,_,aY,_,aY,B,cl,hlt',hnt,fun e' he' hea=>?_,rfl,rfl,rfl,rfl,rfl⟩
      rcases he' with q | q
      ·exact hpre e' q hea
      ·rw [q];exact q2
     ·have hpl:pl'.length<1000000:=by have:=uB n pl' B.nd B.lt;omega
      have B':=B.add he (by rw [q1,<- hnt];exact qQ hlt') (h.b e he) q2
      simp [h3,h4,h5,h6,nI,y1,q1',aE4,q2,hpl]
      refine ⟨pl' ++ [e.b],_,aY,_,aY,_,aY,_,aY,B',fun e' he' hea=>?_,by simp;omega,?_,fun e' he' hea=>?_,rfl,rfl,rfl,rfl,rfl⟩
      ·rw [List.take_append_of_le_length (by omega)] at hea
       exact List.mem_append_left _ (cl e' he' hea)
      ·rw [<- hnt];unfold nt
       rw [List.getD_eq_getElem?_getD,List.getD_eq_getElem?_getD,List.getElem?_append_left hlt']
      ·rcases he' with q | q
       ·exact List.mem_append_left _ (hpre e' q hea)
       ·rw [q];simp
    ·have q1':¬ (e.a:Int)=((nt pl a:Nat):Int):=by omega
     simp [h3,h4,h5,h6,nI,y1,q1']
     refine ⟨pl',_,aY,_,aY,_,aY,_,aY,B,cl,hlt',hnt,fun e' he' hea=>?_,rfl,rfl,rfl,rfl,rfl⟩
     rcases he' with q | q
     ·exact hpre e' q hea
     ·rw [q] at hea;exact absurd hea q1
   ·rintro ρ ⟨pl',t3,t4,t5,t6,h3,h4,h5,h6,B,cl,hlt',hnt,hpre,rfl⟩
    simp [nI]
    refine ⟨pl',a+1,t3,h3,t4,h4,t5,h5,t6,h6,B,fun e he hea=>?_,by omega,rfl,rfl,by simp,rfl,rfl,rfl,rfl⟩
    rw [List.take_succ,List.mem_append] at hea
    rcases hea with hea | hea
    ·exact cl e he hea
    ·rw [aB7 hlt'] at hea
     simp at hea
     exact hpre e he (by rw [hea,hnt])
  ·refine .inl ⟨by simp [jW,nI];omega,pl,_,t3,t4,t5,t6,B,?_,rfl⟩
   have:a=pl.length:=by omega
   subst this
   simpa using cl
 ·exact ⟨[0],0,_,_,_,_,cN,cN,cN,cN,⟨by simp,by simp;omega,by simp,by simp;exact .zero⟩,by simp,by simp,rfl,rfl⟩
 ·rintro ρ ⟨pl,a,t3,t4,t5,t6,B,cl,rfl⟩
  simp
  refine ⟨pl,rfl,fun p=>⟨B.so p,fun hr=>?_⟩⟩
  induction hr with
  | zero=>exact B.z
  | step he _ ih=>exact cl _ he ih
end VL.QQ
end
section
namespace VL.QQ
open VL PySem L2 PY K10
theorem aGe {α:Type} {cY:Env} {c:bU} {e:aL} {φ ψ:α->D} {b g:α->Bool}:∀(xs:List α) (t:Slot),np t->(∀x∈xs,c (.val (φ x)::cY)=.ok (g x)/\e (.val (φ x)::cY)=.ok (ψ x,b x)/\aN (ψ x,b x)=true) ->
  iQ (bH 0) c e (xs.map φ) (t::cY)=.ok ((xs.filter g).map ψ)
 | [],_,_,_=>rfl
 | x::xs,t,ht,h=>by
  obtain ⟨h0,h1,h2⟩:=h x List.mem_cons_self
  have ih:=aGe xs (.val (φ x)) aY fun y hy=>h y (List.mem_cons_of_mem _ hy)
  have hb:bH 0 (φ x) (t::cY)=some (.val (φ x)::cY):=by
   simp [ht]
  show (match bH 0 (φ x) (t::cY) with | none=>R.bad | some ρ1=>_)=_
  rw [hb]
  show (c (.val (φ x)::cY)).bind _=_
  rw [h0,cS]
  by_cases hg:g x=true
  ·rw [if_pos hg]
   show (e (.val (φ x)::cY)).bind _=_
   rw [h1,cS,if_pos h2]
   show (iQ (bH 0) c e (xs.map φ) (.val (φ x)::cY)).bind _=_
   rw [ih,List.filter_cons_of_pos hg];rfl
  ·rw [if_neg hg,List.filter_cons_of_neg hg];exact ih
theorem aIt {α:Type} {it:jF} {js:T0} {c:bU} {e:aL} {ρ:Env} (cY:Env) (xs:List α) (φ ψ:α->D) (b g:α->Bool) (hi:it ρ=.ok (xs.map φ)) (hl:xs.length<=1000000) (hc:js.map (jJ ρ)=cY)
  (he:∀x∈xs,c (.val (φ x)::cY)=.ok (g x)/\e (.val (φ x)::cY)=.ok (ψ x,b x)/\aN (ψ x,b x)=true) (hk:∀x,isScal (ψ x)=true):cG it 1 js (bH 0) c e ρ=.ok (.lst true ((xs.filter g).map ψ),true):=by
 unfold cG
 rw [hi,cS,if_pos (by simpa using hl),hc]
 show (iQ (bH 0) c e (xs.map φ) (.un::cY)).bind _=_
 rw [aGe xs .un cN he,cS,if_pos]
 rw [Bool.or_eq_true];right;rw [List.all_eq_true]
 intro d hd
 obtain ⟨x,hx,rfl⟩:=List.mem_map.mp hd
 exact hk x
theorem aK1 {xs:T0}:(NN xs).isEmpty=decide (xs=[]):=by cases xs<;>simp [NN]
end VL.QQ
end
section
namespace VL.QQ
open VL PySem L2 PY K10
end VL.QQ
end
section
namespace VL.QQ
open VL PySem L2 PY K10
@[simp] theorem aRs {t:Tg}:(D.ext false t).calm=true:=rfl
@[simp] theorem aSc {t:Tg}:(D.ext false t).frz=.ext false t:=rfl
theorem kx {n c:Str} (h:knF c=true) (b:Bool):sQ knF (eqF n) (.ext false (.exc c),b)=.ok (.bl (eqF n c),true):=by
 show (if knF c=true then R.ok (D.bl (eqF n c),true) else .bad)=_
 rw [if_pos h]
theorem kxt {c:Str} (h:knF c=true) (b:Bool):sQ knF ttF (.ext false (.exc c),b)=.ok (.bl true,true):=by
 show (if knF c=true then R.ok (D.bl (ttF c),true) else .bad)=_
 rw [if_pos h];rfl
theorem aQ4:Ret fY [.ext false (.exc "BadMachine")] (.str "machine"):=by
 refine mK ?_
 have k:knF "BadMachine" = true:=by decide
 have c1:∀b c:Bool,oP (.lst true [.bl true,.bl false,.bl false,.bl false,.bl false],b) (.bl true,c)=.ok (.int 1,true):=fun _ _=>rfl
 have c2:∀b c:Bool,oT (.lst true [.bl true,.bl false,.bl false,.bl false,.bl false],b) (.bl true,c)=.ok (.int 0,true):=fun _ _=>rfl
 simp [kC,entry,kx k,kxt k,show eqF "BadMachine" "BadMachine" = true by decide,show eqF "BadRow" "BadMachine" = false by decide,show eqF "BadPrices" "BadMachine" = false by decide,show eqF "BadModel" "BadMachine" = false by decide,show eqF "BadForm" "BadMachine" = false by decide,fK,c1,c2,bM,dB,aFo]
theorem aKn:Ret fY [.ext false (.exc "BadRow")] (.str "row"):=by
 refine mK ?_
 have k:knF "BadRow" = true:=by decide
 have c1:∀b c:Bool,oP (.lst true [.bl false,.bl true,.bl false,.bl false,.bl false],b) (.bl true,c)=.ok (.int 1,true):=fun _ _=>rfl
 have c2:∀b c:Bool,oT (.lst true [.bl false,.bl true,.bl false,.bl false,.bl false],b) (.bl true,c)=.ok (.int 1,true):=fun _ _=>rfl
 simp [kC,entry,kx k,kxt k,show eqF "BadMachine" "BadRow" = false by decide,show eqF "BadRow" "BadRow" = true by decide,show eqF "BadPrices" "BadRow" = false by decide,show eqF "BadModel" "BadRow" = false by decide,show eqF "BadForm" "BadRow" = false by decide,fK,c1,c2,bM,dB,aEm]
theorem aEd {ie:Nat} {ct:Str->Bool} {b h:aQ} {ρ ρ':Env} (e:b ρ=.next ρ'):zR ie ct b h ρ=.next ρ':=by unfold zR;rw [e]
theorem aBe {ie:Nat} {ct:Str->Bool} {b h:aQ} {ρ ρ':Env} {c:Str} (e:b ρ=.exc c ρ'):zR ie ct b h ρ=kK ie ct h c ρ':=by unfold zR;rw [e]
@[simp] theorem aP2 {i:Nat} {c:bU} {f g:iW} {ρ:Env}:bC i (xIf c f g) ρ=onT (c ρ) (bC i f ρ) (bC i g ρ):=by
 unfold bC xIf onT
 cases c ρ with
 | ok b=>cases b<;>rfl
 | exc _=>rfl
 | bad=>rfl
end VL.QQ
end
section
namespace VL.K02
open VL PySem PY K10
end VL.K02
end
section
namespace VL.QQ
open VL PySem L2 PY K10
structure OkB (n kd:Nat) (es:List E):Prop where
 n1:1<=n
 n2:n<=200
 k1:1<=kd
 k2:kd<=8
 ls:es.length<=600
 a:∀e∈es,e.a<n
 k:∀e∈es,e.k<kd
 b:∀e∈es,e.b<n
 c:∀e∈es,0<=e.c/\e.c<=1000
 up:es.Pairwise fun x y=>ST.ltL x.l y.l=true
theorem OkM.big {n kd:Nat} {es:List E} (h:OkM n kd es):OkB n kd es:=⟨h.n1,by have:=h.n2;omega,h.k1,h.k2,by have:=h.ls;omega,h.a,h.k,h.b,h.c,h.up⟩
theorem sZ {n kd:Nat} {es:List E} (h:OkB n kd es):Ret dU [dM n kd es] .non:=by
 refine mK ?_
 have hl:¬ ((600:Int)<(es.length:Int)):=by have:=h.ls;omega
 simp -implicitDefEqProofs [dS,entry,bM,dB,nI,hl,vG]
 refine dP (fH (fun pre ρ=>∃t u,np t/\np u/\ρ=[.val (dM n kd es),.val (.lst false (ME es)),t,u]) es.zipIdx ⟨_,_,cN,cN,rfl⟩ ?_) ?_
 ·rintro pre ⟨x,k⟩ post ρ e ⟨t,u,ht,hu,rfl⟩
  have hx:x∈es:=by
   have:(x,k)∈es.zipIdx:=by rw [e];simp
   have:=List.mem_zipIdx this
   simp at this
   rw [this.2];exact List.getElem_mem _
  simp -implicitDefEqProofs [ht,hu,bM,dB,aP (tZ (es:=es) (h.a x hx) (h.k x hx) (h.b x hx) (h.c x hx))]
 ·rintro ρ ⟨t,u,ht,hu,rfl⟩
  simp -implicitDefEqProofs [aLv (show es.length<=1000000 by have:=h.ls;omega)]
  refine jH (fH (fun pre ρ=>∃t,np t/\ρ=[.val (dM n kd es),.val (.lst false (ME es)),t,u]) (List.range (es.length - 1)) ⟨_,ht,rfl⟩ ?_) (fun ρ h=>trivial) (fun _ h=>h)
  rintro pre i post ρ e ⟨t,ht,rfl⟩
  have hi:i<es.length - 1:=List.mem_range.mp (by rw [e];simp)
  have e1:(1+(i:Int))=((i+1:Nat):Int):=by omega
  have e2:(((i+1:Nat):Int) - 1)=(i:Int):=by omega
  have q1:=iG (es:=es) (k:=i+1) (b:=false) (c:=false) (by omega)
  have q2:=iG (es:=es) (k:=i) (b:=false) (c:=true) (by omega)
  have up:ST.ltL (ed es i).l (ed es (i+1)).l=true:=by
   have:=List.pairwise_iff_getElem.mp h.up i (i+1) (by omega) (by omega) (by omega)
   have z1:=pB (es:=es) (k:=i) (by omega)
   have z2:=pB (es:=es) (k:=i+1) (by omega)
   rw [List.getElem?_eq_getElem (by omega)] at z1 z2
   rw [<- Option.some.inj z1,<- Option.some.inj z2];exact this
  rw [e1]
  simp only [kN,uK,qU ht,if_true,kG,List.set,aBw,mZ,aA9,aBo,uO,cS,q1,aBd,aBt,e2,q2,aHc up,aHh,qZ,wA]
  exact ⟨_,aY,rfl⟩
theorem pI {n kd:Nat} {es:List E} (h:OkB n kd es):Ret bE [dM n kd es] .non:=by
 refine mK ?_
 have e1:=aP (iE (x:=(n:Int)) (a:=1) (b:=200) (by have:=h.n1;omega) (by have:=h.n2;omega))
 have e2:=aP (iE (x:=(kd:Int)) (a:=1) (b:=8) (by have:=h.k1;omega) (by have:=h.k2;omega))
 simp -implicitDefEqProofs [bS,entry,bM,dB,nI,e1,e2,fT (sZ h)]
theorem aOw {ns:Y0} {n kd:Nat} {es:List E} {k0 most:Nat} (h:OkM n kd es) (hk0:k0<=100) (hm:most<=100):wO nG [.lst false (I ns),.int (k0:Int),dM n kd es,.int (most:Int)] (fun d=>∃row,d=.lst true (NN row)/\(∀x∈row,x<es.length)/\row.length<=100/\∃ps,goP es row=some ps):=by
 refine iH ?_
 have hls:=h.ls
 obtain ⟨c,hc1,hc⟩:=oU (v:=cZ ns k0) (m:=most+1) (by omega)
 have hc':cZ ns k0 % ((most:Int)+1)=((c:Nat):Int):=by rw [<- hc];congr 1
 have hm0:(0:Int)<(most:Int)+1:=by omega
 simp -implicitDefEqProofs [aB1,entry,aP (pC (ns:=ns) (k:=k0) (by omega)),hm0,hc',iL (show c<=1000000 by omega)]
 refine dP (fH (fun pre ρ=>∃row,∃hr:Nat,∃t u,np t/\np u/\(∀x∈row,x<es.length)/\row.length<=pre.length/\(∃ps,goP es row=some ps/\ps.getLast?=some hr)/\ρ=[.val (.lst false (I ns)),.val (nI k0),.val (dM n kd es),.val (nI most),.val (.lst true (NN row)),.val (nI hr),t,u]) (List.range c) ⟨[],0,_,_,cN,cN,by simp,by simp,⟨[0],rfl,rfl⟩,rfl⟩ ?_) ?_
 ·rintro pre j post ρ e ⟨row,hr,t,u,ht,hu,hrow,hlen,hgo,rfl⟩
  have hj:j<c:=List.mem_range.mp (by rw [e];simp)
  have hpl:pre.length<=c:=by have:=congrArg List.length e;simp at this;omega
  let ss:T0:=(List.range es.length).filter fun k=>decide ((ed es k).a=hr)
  have hss:∀x∈ss,x<es.length:=fun x hx=>List.mem_range.mp (List.mem_filter.mp hx).1
  have ec:cG (iR1 (aC (vCB fG (aC (v2 kIx (aD 2) (vC (.int 2))) aK)) aK)) 1 [5,2] (bH 0) (aU (v2 (kEq false) (v2 kIx (v2 kIx (v2 kIx (aD 2) (vC (.int 2))) (aD 0)) (vC (.int 0))) (aD 1))) (aD 0) [.val (.lst false (I ns)),.val (nI k0),.val (dM n kd es),.val (nI most),.val (.lst true (NN row)),.val (nI hr),.val (nI j),u]=.ok (.lst true (NN ss),true):=by
   rw [aIt [.val (nI hr),.val (dM n kd es)] (List.range es.length) nI nI (fun _=>false) (fun k=>decide ((ed es k).a=hr)) (by simp -implicitDefEqProofs [iL (show es.length<=1000000 by omega)]) (by simp;omega) (by simp [jJ,nI]) ?_ (fun _=>rfl)]
   ·rfl
   ·intro x hx
    have hx':=List.mem_range.mp hx
    refine ⟨?_,rfl,rfl⟩
    simp -implicitDefEqProofs [nI,iG hx']
    by_cases q:(ed es x).a=hr
    ·simp [q]
    ·have q':¬ ((ed es x).a:Int)=(hr:Int):=by omega
     simp [q,q']
  have mj:Ret bX [.lst false (I ns),.int ((k0:Int)+1+(j:Int))] (.int (cZ ns (k0+1+j))):=by
   have:=pC (ns:=ns) (k:=k0+1+j) (by omega)
   rwa [show ((k0+1+j:Nat):Int)=(k0:Int)+1+(j:Int) by omega] at this
  by_cases hs:ss=[]
  ·have ec':=ec
   simp only [nI] at ec'
   simp -implicitDefEqProofs [ht,hu,nI,ec',bM,dB,aK1,hs]
   exact ⟨row,hr,_,aY,_,aY,hrow,by omega,hgo,rfl,rfl,rfl,rfl⟩
  ·have hsl:0<ss.length:=List.length_pos_iff.mpr hs
   obtain ⟨i,hi1,hi2⟩:=oU (v:=cZ ns (k0+1+j)) (m:=ss.length) hsl
   have y1:=aE6 (o:=true) (xs:=ss) (b:=false) (c:=true) hi1
   have hx:=hss _ (qQ hi1)
   have hrl:row.length<1000000:=by omega
   have y2:=nZ (o:=true) (xs:=row ++ [nt ss i]) (x:=nt ss i) (b:=false) (c:=true) (by simp)
   have ec':=ec
   simp only [nI] at ec'
   simp -implicitDefEqProofs [ht,hu,nI,ec',bM,dB,aK1,hs,aP mj,hsl,hi2,y1,hrl,y2,iG hx]
   refine ⟨row ++ [nt ss i],(ed es (nt ss i)).b,_,aY,_,aY,fun x hx'=>?_,by simp;omega,?_,rfl,rfl,rfl,rfl⟩
   rotate_left
   ·obtain ⟨ps,g1,g2⟩:=hgo
    have ea:(ed es (nt ss i)).a=hr:=by have:=(List.mem_filter.mp (qQ hi1)).2;simpa using this
    refine ⟨ps ++ [(ed es (nt ss i)).b],?_,by simp⟩
    rw [aGm,g1]
    show (if ps.getLast?=some (ed es (nt ss i)).a then some (ps ++ [(ed es (nt ss i)).b]) else none)=_
    rw [if_pos (by rw [g2,ea])]
   rcases List.mem_append.mp hx' with q | q
   ·exact hrow x q
   ·simp at q;rw [q];exact hx
 ·rintro ρ ⟨row,hr,t,u,ht,hu,hrow,hlen,hgo,rfl⟩
  simp
  obtain ⟨ps,g1,_⟩:=hgo
  exact ⟨row,rfl,hrow,by simp at hlen;omega,ps,g1⟩
end VL.QQ
end
section
namespace VL.QQ
open VL PySem L2 PY K10
end VL.QQ
end
section
namespace VL.QQ
open VL PySem L2 PY K10
section
variable {n1 k1 n2 k2:Nat} {es1 es2:List E} (h1:OkM n1 k1 es1) (h2:OkM n2 k2 es2)
include h1 h2
end
end VL.QQ
end
section
namespace VL.QQ
open VL PySem L2 PY K10
end VL.QQ
end
section
namespace VL.QQ
open VL PySem L2 PY K10
structure Fd where
 a:Int
 k:Int
 b:Int
 c:Int
 deriving Inhabited
def Fd.l (f:Fd):Y0:=[f.a,f.k,f.b,f.c]
def Fd.d (f:Fd):D:=.tup [.int f.a,.int f.k,.int f.b,.int f.c]
def MF (fs:List Fd):List D:=fs.map Fd.d
def dG (n k:Int) (fs:List Fd):D:=.tup [.int n,.int k,.lst false (MF fs)]
@[simp] theorem Fd.calm (f:Fd):f.d.calm=true:=rfl
@[simp] theorem Fd.frz (f:Fd):f.d.frz=f.d:=rfl
@[simp] theorem aE3 (fs:List Fd):D.aZ (MF fs)=true:=eO Fd.calm fs
@[simp] theorem aSs (fs:List Fd):D.frzs (MF fs)=MF fs:=hV Fd.calm fs
@[simp] theorem aU0 (fs:List Fd):(MF fs).length=fs.length:=by simp [MF]
@[simp] theorem lN {n k:Int} {fs:List Fd}:(dG n k fs).calm=true:=by simp [dG]
@[simp] theorem aT9 {n k:Int} {fs:List Fd}:(dG n k fs).frz=dG n k fs:=bI _ lN
@[simp] theorem aVu {n k:Int} {fs:List Fd} {b c:Bool}:kIx (dG n k fs,b) (.int 0,c)=.ok (.int n,b):=by simp [dG,aFo]
@[simp] theorem aVl {n k:Int} {fs:List Fd} {b c:Bool}:kIx (dG n k fs,b) (.int 1,c)=.ok (.int k,b):=by simp [dG,aEm]
@[simp] theorem aVp {n k:Int} {fs:List Fd} {b c:Bool}:kIx (dG n k fs,b) (.int 2,c)=.ok (.lst false (MF fs),b):=by simp [dG,aHn]
@[simp] theorem aVm {e:Fd} {b c:Bool}:kIx (e.d,b) (.int 0,c)=.ok (.int e.a,b):=by simp [Fd.d,aFo]
@[simp] theorem aVr {e:Fd} {b c:Bool}:kIx (e.d,b) (.int 1,c)=.ok (.int e.k,b):=by simp [Fd.d,aEm]
@[simp] theorem aVk {e:Fd} {b c:Bool}:kIx (e.d,b) (.int 2,c)=.ok (.int e.b,b):=by simp [Fd.d,aHn]
@[simp] theorem aVo {e:Fd} {b c:Bool}:kIx (e.d,b) (.int 3,c)=.ok (.int e.c,b):=by simp [Fd.d,aQo]
@[simp] theorem aUi {e:Fd} {b:Bool}:jZ "tuple" (e.d,b)=.ok (.bl true,true):=rfl
@[simp] theorem aTs {n k:Int} {fs:List Fd} {b:Bool}:jZ "tuple" (dG n k fs,b)=.ok (.bl true,true):=rfl
@[simp] theorem aUm {e:Fd} {b:Bool}:fG [(e.d,b)]=.ok (.int 4,true):=rfl
@[simp] theorem aUc {n k:Int} {fs:List Fd} {b:Bool}:fG [(dG n k fs,b)]=.ok (.int 3,true):=rfl
@[simp] theorem w1:(Str.ofString "the deeds are a list of ").length=24:=by rfl
@[simp] theorem w2:(Str.ofString " at most").length=8:=by rfl
@[simp] theorem w3:(Str.ofString "number ").length=7:=by rfl
@[simp] theorem w4:(Str.ofString " is no deed of such a machine").length=29:=by rfl
@[simp] theorem w5:(Str.ofString " does not rise above the one ahead of it").length=40:=by rfl
@[simp] theorem w6:(Str.ofString " kinds of deeds").length=15:=by rfl
def fdA (fs:List Fd) (i:Nat):Fd:=fs.getD i default
theorem aHd {fs:List Fd} {k:Nat} (h:k<fs.length):fs[k]?=some (fdA fs k):=by simp [fdA,List.getElem?_eq_getElem h]
theorem aGu {fs:List Fd} {k:Nat} {b c:Bool} (h:k<fs.length):kIx (.lst false (MF fs),b) (.int (k:Int),c)=.ok ((fdA fs k).d,b):=by
 simp [dF,MF,aHd h]
def okF (n k:Int) (f:Fd):Prop:=(0<=f.a/\f.a<=n - 1)/\(0<=f.b/\f.b<=n - 1)/\(0<=f.k/\f.k<=k - 1)/\(0<=f.c/\f.c<=1000)
instance (n k:Int) (f:Fd):Decidable (okF n k f):=by unfold okF;infer_instance
theorem aAz {n k:Int} {fs:List Fd} {f:Fd}:Ret lK [dG n k fs,f.d] (.bl (decide (okF n k f))):=by
 refine mK ?_
 unfold okF
 by_cases h1:0<=f.a/\f.a<=n - 1
 ·have e1:=aP (iE h1.1 h1.2)
  by_cases h2:0<=f.b/\f.b<=n - 1
  ·have e2:=aP (iE h2.1 h2.2)
   by_cases h3:0<=f.k/\f.k<=k - 1
   ·have e3:=aP (iE h3.1 h3.2)
    by_cases h4:0<=f.c/\f.c<=1000
    ·have e4:=aP (iE h4.1 h4.2)
     simp [fP,entry,bM,dB,e1,e2,e3,e4,h1,h2,h3,h4]
    ·have e4:=aP (pY h4)
     simp [fP,entry,bM,dB,e1,e2,e3,e4,h1,h2,h3,h4]
   ·have e3:=aP (pY h3)
    simp [fP,entry,bM,dB,e1,e2,e3,h1,h2,h3]
  ·have e2:=aP (pY h2)
   simp [fP,entry,bM,dB,e1,e2,h1,h2]
 ·have e1:=aP (pY h1)
  simp [fP,entry,bM,dB,e1,h1]
def UpF (fs:List Fd):Prop:=fs.Pairwise fun x y=>ST.ltL x.l y.l=true
theorem aOm {fs:List Fd} (h:∀i,i+1<fs.length->ST.ltL (fdA fs i).l (fdA fs (i+1)).l=true):UpF fs:=by
 refine List.pairwise_iff_getElem.mpr fun i j hi hj hij=>?_
 have g:∀k (hk:k<fs.length),fs[k]=fdA fs k:=fun k hk=>by have:=aHd hk;rw [List.getElem?_eq_getElem hk] at this;exact Option.some.inj this
 rw [g i hi,g j hj]
 clear hi
 induction j with
 | zero=>omega
 | succ j ih =>
  by_cases e:i=j
  ·subst e;exact h i hj
  ·exact ST.ltL_tr _ _ _ (ih (by omega) (by omega)) (h j hj)
theorem aF1 {fs:List Fd} (h:UpF fs) {i:Nat} (hi:i+1<fs.length):ST.ltL (fdA fs i).l (fdA fs (i+1)).l=true:=by
 have g:∀k (hk:k<fs.length),fs[k]=fdA fs k:=fun k hk=>by have:=aHd hk;rw [List.getElem?_eq_getElem hk] at this;exact Option.some.inj this
 have:=List.pairwise_iff_getElem.mp h i (i+1) (by omega) hi (by omega)
 rwa [g i (by omega),g (i+1) hi] at this
def tK (n k:Int) (fs:List Fd):Prop:=fs.length<=600/\(∀f∈fs,okF n k f)/\UpF fs
def iC (n k:Int) (fs:List Fd):Prop:=(1<=n/\n<=200)/\(1<=k/\k<=8)/\tK n k fs
theorem aKv {x y:Fd} {b c:Bool}:aGt (y.d,b) (x.d,c)=.ok (.bl (!ST.ltL x.l y.l),true):=rfl
theorem aKh (fs:List Fd):lS (MF fs)=fs.zipIdx.map fun p=>.tup [.int (p.2:Nat),p.1.d]:=qL
theorem yR {n k:Int} {fs:List Fd} (hl:fs.length<=1000):jT (dS (entry 4 [dG n k fs])) (fun _=>tK n k fs) (fun _=>False) (fun c=>c = "BadMachine" /\¬ tK n k fs):=by
 by_cases h1:(600:Int)<(fs.length:Int)
 ·simp -implicitDefEqProofs [dS,entry,bM,dB,h1]
  intro z
  have:=z.1
  omega
 ·simp -implicitDefEqProofs [dS,entry,bM,dB,h1,aKh]
  refine tH (qV (Q:=fun _=>False) (X:=fun c=>c = "BadMachine" /\¬ tK n k fs) (fun pre ρ=>(∀p∈pre,okF n k p.1)/\∃t u,np t/\np u/\ρ=[.val (dG n k fs),.val (.lst false (MF fs)),t,u]) fs.zipIdx ⟨by simp,_,_,cN,cN,rfl⟩ ?_) ?_
  ·rintro pre ⟨x,i⟩ post ρ e ⟨ha,t,u,ht,hu,rfl⟩
   obtain ⟨i1,i2,i3⟩:=aD3 (pre:=[]) (post:=[]) e
   have rd:=aP (aAz (n:=n) (k:=k) (fs:=fs) (f:=x))
   by_cases hx:okF n k x
   ·rw [decide_eq_true hx] at rd
    simp -implicitDefEqProofs [ht,hu,bM,dB,rd]
    intro a b hab
    rcases hab with hab | ⟨rfl,_⟩
    ·exact ha (a,b) hab
    ·exact hx
   ·rw [decide_eq_false hx] at rd
    have hk4:i<=100000:=by omega
    simp -implicitDefEqProofs [ht,hu,bM,dB,rd,hk4]
    intro z
    exact hx (z.2.1 x (List.mem_of_getElem? i3))
  ·rintro ρ ⟨ha,t,u,ht,hu,rfl⟩
   have hall:∀f∈fs,okF n k f:=fun f hf=>by
    obtain ⟨i,hi,e⟩:=List.getElem_of_mem hf
    exact ha (f,i) (by rw [List.mem_zipIdx_iff_getElem?];rw [List.getElem?_eq_getElem hi,e])
   simp -implicitDefEqProofs [aLv (show fs.length<=1000000 by omega)]
   refine fN (qV (Q:=fun _=>False) (X:=fun c=>c = "BadMachine" /\¬ tK n k fs) (fun pre ρ=>(∀i∈pre,ST.ltL (fdA fs i).l (fdA fs (i+1)).l=true)/\∃t,np t/\ρ=[.val (dG n k fs),.val (.lst false (MF fs)),t,u]) (List.range (fs.length - 1)) ⟨by simp,_,ht,rfl⟩ ?_) ?_ (fun _ z=>z) fun _ z=>z
   ·rintro pre i post ρ e ⟨hp,t,ht,rfl⟩
    have hi:i<fs.length - 1:=List.mem_range.mp (by rw [e];simp)
    have e1:(1+(i:Int))=((i+1:Nat):Int):=by omega
    have e2:(((i+1:Nat):Int) - 1)=(i:Int):=by omega
    have q1:=aGu (fs:=fs) (k:=i+1) (b:=false) (c:=false) (by omega)
    have q2:=aGu (fs:=fs) (k:=i) (b:=false) (c:=true) (by omega)
    rw [e1]
    by_cases hu:ST.ltL (fdA fs i).l (fdA fs (i+1)).l=true
    ·simp only [kN,uK,qU ht,if_true,kG,List.set,aBw,mZ,aA9,aBo,uO,cS,q1,aBd,aBt,e2,q2,aKv,hu,Bool.not_true,aHh,qZ,aDf]
     refine ⟨fun j hj=>?_,_,aY,rfl⟩
     rcases List.mem_append.mp hj with hj | hj
     ·exact hp j hj
     ·rw [List.mem_singleton] at hj;rw [hj];exact hu
    ·have hu':ST.ltL (fdA fs i).l (fdA fs (i+1)).l=false:=by simpa using hu
     have hk4:i+1<=100000:=by omega
     have hk5:(i:Int)+1<=100000:=by omega
     simp -implicitDefEqProofs only [kN,uK,qU ht,if_true,kG,List.set,aBw,mZ,aA9,aBo,uO,cS,q1,aBd,aBt,e2,q2,aKv,hu',Bool.not_false,aR1]
     obtain ⟨j,ej⟩:∃j,j=i+1:=⟨_,rfl⟩
     rw [<- ej]
     have hk6:j<=100000:=by omega
     simp -implicitDefEqProofs [hk6]
     intro z
     have:=aF1 z.2.2 (i:=i) (by omega)
     rw [hu'] at this;cases this
   ·rintro ρ ⟨hp,t,ht,rfl⟩
    exact ⟨by omega,hall,aOm fun i hi=>hp i (List.mem_range.mpr (by omega))⟩
theorem aLr {n k:Int} {fs:List Fd} (hl:fs.length<=1000):jT (bS (entry 1 [dG n k fs])) (fun _=>iC n k fs) (fun _=>False) (fun c=>c = "BadMachine" /\¬ iC n k fs):=by
 by_cases h1:1<=n/\n<=200
 ·have e1:=aP (iE h1.1 h1.2)
  by_cases h2:1<=k/\k<=8
  ·have e2:=aP (iE h2.1 h2.2)
   have key:=yR (n:=n) (k:=k) hl
   by_cases g:tK n k fs
   ·have r:Ret dU [dG n k fs] .non:=by
     rcases aI3 (P:=fun d=>d=.non) (X:=fun _=>False) (fN key (fun _ _=>rfl) (fun _ q=>q.elim) fun c q=>q.2 g) with ⟨d,h1,rfl⟩ | ⟨c,_,hc⟩
     ·exact h1
     ·exact hc.elim
    simp -implicitDefEqProofs [bS,entry,bM,dB,e1,e2,fT r]
    exact ⟨h1,h2,g⟩
   ·have r:kH dU [dG n k fs] "BadMachine" :=kY (fN key (fun _ q=>g q) (fun _ q=>q.elim) fun c q=>q.1)
    simp -implicitDefEqProofs [bS,entry,bM,dB,e1,e2,iK r]
    exact fun z=>g z.2.2
  ·have e2:=aP (pY h2)
   simp -implicitDefEqProofs [bS,entry,bM,dB,e1,e2]
   exact fun z=>h2 z.2.1
 ·have e1:=aP (pY h1)
  simp -implicitDefEqProofs [bS,entry,bM,dB,e1]
  exact fun z=>h1 z.1
theorem aIv {n k:Int} {fs:List Fd} (hl:fs.length<=1000) (g:iC n k fs):Ret bE [dG n k fs] .non:=by
 rcases aI3 (P:=fun d=>d=.non) (X:=fun _=>False) (fN (aLr hl) (fun _ _=>rfl) (fun _ q=>q.elim) fun c q=>q.2 g) with ⟨d,h1,rfl⟩ | ⟨c,_,hc⟩
 ·exact h1
 ·exact hc.elim
theorem aI4 {n k:Int} {fs:List Fd} (hl:fs.length<=1000) (g:¬ iC n k fs):kH bE [dG n k fs] "BadMachine" :=kY (fN (aLr hl) (fun _ q=>g q) (fun _ q=>q.elim) fun c q=>q.1)
end VL.QQ
end
section
namespace VL.QQ
open VL PySem L2 PY K10
theorem aA8:∀k:Y0,D.pys (k.map D.int)=k.map PyData.int
 | []=>rfl
 | i::k=>by show PyData.int i::D.pys (k.map D.int)=_;rw [aA8 k];rfl
theorem aRt:∀k l:Y0,PyData.eqvAll (k.map PyData.int) (l.map PyData.int)=decide (k=l)
 | [],[]=>rfl
 | [],_::_=>rfl
 | _::_,[]=>rfl
 | i::k,j::l=>by
  show ((i == j) && PyData.eqvAll (k.map PyData.int) (l.map PyData.int))=_
  rw [aRt k l]
  by_cases h:i=j
  ·subst h;by_cases h2:k=l<;>simp [h2]
  ·simp [h]
theorem aQd:∀k:Y0,PyData.canLayAll0 (k.map PyData.int)=true
 | []=>rfl
 | i::k=>aQd k
theorem aP7:∀k:Y0,PyData.depthAll (k.map PyData.int)=0
 | []=>rfl
 | i::k=>by show max 0 (PyData.depthAll (k.map PyData.int))=0;rw [aP7 k];rfl
theorem plI:∀k:Y0,D.fQ (k.map D.int)=true
 | []=>rfl
 | i::k=>plI k
theorem aRn (k:Y0):(TI k).py=.tuple (k.map PyData.int):=by show PyData.tuple (D.pys (k.map D.int))=_;rw [aA8]
theorem zU:∀ks:LI,D.pys (ks.map TI)=ks.map fun k=>PyData.tuple (k.map PyData.int)
 | []=>rfl
 | k::ks=>by show (TI k).py::D.pys (ks.map TI)=_;rw [zU ks,aRn];rfl
theorem aQh:∀ks ls:LI,PyData.eqvAll (ks.map fun k=>PyData.tuple (k.map PyData.int)) (ls.map fun k=>PyData.tuple (k.map PyData.int))=decide (ks=ls)
 | [],[]=>rfl
 | [],_::_=>rfl
 | _::_,[]=>rfl
 | i::k,j::l=>by
  show (PyData.eqvAll (i.map PyData.int) (j.map PyData.int) && PyData.eqvAll (k.map fun k=>PyData.tuple (k.map PyData.int)) (l.map fun k=>PyData.tuple (k.map PyData.int)))=_
  rw [aQh k l,aRt]
  by_cases h:i=j
  ·subst h;by_cases h2:k=l<;>simp [h2]
  ·simp [h]
theorem aN8:∀ks:LI,PyData.canLayAll0 (ks.map fun k=>PyData.tuple (k.map PyData.int))=true
 | []=>rfl
 | k::ks=>by show (PyData.canLayAll0 (k.map PyData.int) && PyData.canLayAll0 (ks.map fun k=>PyData.tuple (k.map PyData.int)))=true;rw [aQd,aN8 ks];rfl
theorem aP5:∀ks:LI,PyData.depthAll (ks.map fun k=>PyData.tuple (k.map PyData.int))<=1
 | []=>by decide
 | k::ks=>by
  have:=aP5 ks
  show max (PyData.depthAll (k.map PyData.int)+1) (PyData.depthAll (ks.map fun k=>PyData.tuple (k.map PyData.int)))<=1
  rw [aP7];omega
theorem plT:∀ks:LI,D.fQ (ks.map TI)=true
 | []=>rfl
 | k::ks=>by show (D.fQ (k.map D.int) && D.fQ (ks.map TI))=true;rw [plI,plT ks];rfl
theorem aLj {n o p b c:Bool} {ks ls:LI}:kEq n (.lst o (ks.map TI),b) (.lst p (ls.map TI),c)=.ok (.bl (if n then !decide (ks=ls) else decide (ks=ls)),true):=by
 have h1:(D.lst o (ks.map TI)).plain=true:=plT ks
 have h2:(D.lst p (ls.map TI)).plain=true:=plT ls
 have p1:(D.lst o (ks.map TI)).py=.list (ks.map fun k=>PyData.tuple (k.map PyData.int)):=by show PyData.list (D.pys (ks.map TI))=_;rw [zU]
 have p2:(D.lst p (ls.map TI)).py=.list (ls.map fun k=>PyData.tuple (k.map PyData.int)):=by show PyData.list (D.pys (ls.map TI))=_;rw [zU]
 have l1:(D.lst o (ks.map TI)).py.canLay0=true:=by rw [p1];exact aN8 ks
 have l2:(D.lst p (ls.map TI)).py.canLay0=true:=by rw [p2];exact aN8 ls
 have d1:(D.lst o (ks.map TI)).py.depth<=2:=by rw [p1];show _+1<=2;have:=aP5 ks;omega
 have e1:lP (.lst o (ks.map TI)) (.lst p (ls.map TI))=true:=by
  unfold lP
  rw [h1,h2,l1,l2,decide_eq_true (by omega)];rfl
 have e2:eqD (.lst o (ks.map TI)) (.lst p (ls.map TI))=decide (ks=ls):=by
  unfold eqD
  rw [p1,p2]
  exact aQh ks ls
 unfold kEq
 rw [if_pos e1]
 show R.ok (D.bl (if n then !eqD _ _ else eqD _ _),true)=_
 rw [e2]
theorem aKy (fs:List Fd):MF fs=(fs.map Fd.l).map TI:=by rw [List.map_map];rfl
theorem aCf:∀fs:List Fd,gJ (MF fs)=some (fs.map Fd.l)
 | []=>rfl
 | f::fs=>by
  show (match dD [.int f.a,.int f.k,.int f.b,.int f.c],gJ (MF fs) with | some k,some ks=>some (k::ks) | _,_=>none)=_
  rw [aCf fs];rfl
theorem aJx {fs:List Fd} {o b:Bool} (h:fs.length<=1000):aGx [(.lst o (MF fs),b)]=.ok (.lst true ((dW (fs.map Fd.l)).map TI),true):=by
 unfold aGx
 dsimp only
 rw [aCf]
 dsimp only
 rw [if_pos]
 simp [h]
 intro f _;simp [Fd.l]
theorem tX {ks:LI}:ks=dW ks ↔ UpL ks:=by
 constructor
 ·intro h;rw [h];exact jC ks
 ·intro h;exact vD h (jC ks) fun z=>jD.symm
theorem aA6 {fs:List Fd}:UpF fs ↔ UpL (fs.map Fd.l):=(List.pairwise_map (R:=fun x y=>ST.ltL x y=true) (f:=Fd.l) (l:=fs)).symm
theorem aRv {i j k:Nat} {f:aL} {ρ:Env} {a b c:D} {x:Bool} (h:f ρ=.ok (.tup [a,b,c],x)):gO [i,j,k] (xOf f) ρ=match bY [i,j,k] [a,b,c] ρ with | some ρ2=>.next ρ2 | none=>.bad:=by
 unfold gO xOf
 rw [h]
 try rfl
theorem aEo {n k:Int} {fs:List Fd} (hl:fs.length<=1000):(iC n k fs->Ret K01.f_q_good [dG n k fs] (.bl true))/\(¬ iC n k fs->Ret K01.f_q_good [dG n k fs] (.bl false)):=by
 have key:out (K01.b_q_good (entry 8 [dG n k fs])) (fun _=>False) (fun d=>(iC n k fs/\d=.bl true)\/(¬ iC n k fs/\d=.bl false)):=by
  have e0:entry 8 [dG n k fs]=[.val (dG n k fs),.un,.un,.un,.un,.un,.un,.un]:=by simp [entry]
  have a1:gO [1,2,3] (xOf (aD 0)) [.val (dG n k fs),.un,.un,.un,.un,.un,.un,.un]=.next [.val (dG n k fs),.val (.int n),.val (.int k),.val (.lst false (MF fs)),.un,.un,.un,.un]:=by
   rw [aRv (a:=.int n) (b:=.int k) (c:=.lst false (MF fs)) (x:=false) rfl]
   simp [bY]
  unfold K01.b_q_good
  rw [e0,cO,a1,bA]
  by_cases h1:1<=n
  rotate_left
  ·simp [h1]
   exact fun z=>h1 z.1.1
  by_cases h1':n<=200
  rotate_left
  ·simp [h1,h1']
   exact fun z=>h1' z.1.2
  by_cases h2:1<=k
  rotate_left
  ·simp [h1,h1',h2]
   exact fun z=>h2 z.2.1.1
  by_cases h2':k<=8
  rotate_left
  ·simp [h1,h1',h2,h2']
   exact fun z=>h2' z.2.1.2
  by_cases h3:(600:Int)<(fs.length:Int)
  ·simp [h1,h1',h2,h2',h3]
   intro z;have:=z.2.2.1;omega
  simp [h1,h1',h2,h2',h3]
  refine dP (fH (φ:=Fd.d) (Q:=fun d=>(iC n k fs/\d=.bl true)\/(¬ iC n k fs/\d=.bl false)) (fun pre ρ=>(∀f∈pre,okF n k f)/\∃t4 t5 t6 t7,np t4/\np t5/\np t6/\np t7/\ρ=[.val (dG n k fs),.val (.int n),.val (.int k),.val (.lst false (MF fs)),t4,t5,t6,t7]) fs ⟨by simp,_,_,_,_,cN,cN,cN,cN,rfl⟩ ?_) ?_
  ·rintro pre f post ρ e ⟨ha,t4,t5,t6,t7,n4,n5,n6,n7,rfl⟩
   have hf:f∈fs:=by rw [e];simp
   have km:∀a b c d,yJ [(.int f.a,a),(.int f.k,b),(.int f.b,c),(.int f.c,d)]=.ok (.int (sF f.a f.k f.b f.c),true):=fun _ _ _ _=>rfl
   have kx:∀a b,k2i (fun i j=>if i<j then j else i) [(.int f.a,a),(.int f.b,b)]=.ok (.int (if f.a<f.b then f.b else f.a),true):=fun _ _=>rfl
   by_cases g1:sF f.a f.k f.b f.c<0
   ·have nb:¬ okF n k f:=fun z=>by obtain ⟨⟨z1,z2⟩,⟨z3,z4⟩,⟨z5,z6⟩,z7,z8⟩:=z;unfold sF at g1;omega
    simp [Fd.d,n4,n5,n6,n7,km,kx,g1]
    exact fun z=>nb (z.2.2.2.1 f hf)
   ·by_cases g2:n<=(if f.a<f.b then f.b else f.a)
    ·have nb:¬ okF n k f:=fun z=>by obtain ⟨⟨z1,z2⟩,⟨z3,z4⟩,_⟩:=z;split at g2<;>omega
     simp [Fd.d,n4,n5,n6,n7,km,kx,g1,g2]
     exact fun z=>nb (z.2.2.2.1 f hf)
    ·by_cases g3:k<=f.k
     ·have nb:¬ okF n k f:=fun z=>by obtain ⟨_,_,⟨z5,z6⟩,_⟩:=z;omega
      simp [Fd.d,n4,n5,n6,n7,km,kx,g1,g2,g3]
      exact fun z=>nb (z.2.2.2.1 f hf)
     ·by_cases g4:1000<f.c
      ·have nb:¬ okF n k f:=fun z=>by obtain ⟨_,_,_,z7,z8⟩:=z;omega
       simp [Fd.d,n4,n5,n6,n7,km,kx,g1,g2,g3,g4]
       exact fun z=>nb (z.2.2.2.1 f hf)
      ·have ok:okF n k f:=by
        unfold sF at g1
        refine ⟨?_,?_,?_,?_⟩<;>split at g2<;>constructor<;>omega
       simp [Fd.d,n4,n5,n6,n7,km,kx,g1,g2,g3,g4]
       refine ⟨?_,_,aY,_,aY,_,aY,_,aY,rfl,rfl,rfl,rfl⟩
       rintro a (h | rfl)
       ·exact ha a h
       ·exact ok
  ·rintro ρ ⟨ha,t4,t5,t6,t7,n4,n5,n6,n7,rfl⟩
   have e1:=aJx (fs:=fs) (o:=false) (b:=false) hl
   have e2:∀b c,kEq false (.lst false (MF fs),b) (.lst true ((dW (fs.map Fd.l)).map TI),c)=.ok (.bl (decide (fs.map Fd.l=dW (fs.map Fd.l))),true):=fun b c=>by rw [aKy];exact aLj
   simp [e1,e2]
   by_cases hu:UpF fs
   ·refine .inl ⟨⟨⟨h1,h1'⟩,⟨h2,h2'⟩,by omega,ha,hu⟩,tX.mpr (aA6.mp hu)⟩
   ·exact .inr ⟨fun z=>hu z.2.2.2.2,fun z=>hu (aA6.mpr (tX.mp z))⟩
 obtain ⟨d,hd,hq⟩:=iH (P:=fun d=>(iC n k fs/\d=.bl true)\/(¬ iC n k fs/\d=.bl false)) (jH key (fun _ z=>z.elim) fun _ z=>z)
 constructor
 ·intro g
  rcases hq with ⟨_,rfl⟩ | ⟨g',_⟩
  ·exact hd
  ·exact absurd g g'
 ·intro g
  rcases hq with ⟨g',_⟩ | ⟨_,rfl⟩
  ·exact absurd g' g
  ·exact hd
end VL.QQ
end
section
namespace VL.QQ
open VL PySem L2 PY K10
theorem aI0 {M R:D} {c:Str} (hM:M.calm=true) (hR:R.calm=true) (h:kH bE [M] c):kH jN [M,R] c:=by
 refine kY ?_
 simp [vM,entry,hM,hR,bI _ hM,iK h]
theorem aB0 {M R:D} {c:Str} (hM:M.calm=true) (hR:R.calm=true) (h:kH jN [M,R] c):kH K01.f_cost_of [M,R] c:=by
 refine kY ?_
 simp [K01.b_cost_of,entry,hM,hR,bI _ hM,bI _ hR,iK h]
theorem zY {M:D} {c:Str} (hM:M.calm=true) (h:kH bE [M] c):kH fL [M] c:=by
 refine kY ?_
 simp [oH,entry,hM,bI _ hM,iK h]
section
variable {M R:D} (hM:M.calm=true) (hR:R.calm=true)
include hM hR
theorem zF {w:Int} {x n:Str} (hk:knF x=true) (hr:Ret fY [.ext false (.exc x)] (.str n))
  (h:(w=0/\kH bE [M] x)\/(w=1/\kH jN [M,R] x)\/(w=2/\kH K01.f_cost_of [M,R] x)\/(w=3/\kH fL [M] x)):Ret K01.f_q_told [.int w,M,R] (.str n):=by
 refine mK ?_
 rcases h with ⟨rfl,h⟩ | ⟨rfl,h⟩ | ⟨rfl,h⟩ | ⟨rfl,h⟩
 ·rw [K01.b_q_told]
  simp [entry,hM,hR]
  rw [aBe (ρ':=[.val (.int 0),.val M,.val R,.val .non,.val .non,.un]) (c:=x) (by simp [hM,hR,bI _ hM,bI _ hR,iK h])]
  simp [kK,hk,fK,aP hr]
 ·rw [K01.b_q_told]
  simp [entry,hM,hR]
  rw [aBe (ρ':=[.val (.int 1),.val M,.val R,.val .non,.val .non,.un]) (c:=x) (by simp [hM,hR,bI _ hM,bI _ hR,iK h])]
  simp [kK,hk,fK,aP hr]
 ·rw [K01.b_q_told]
  simp [entry,hM,hR]
  rw [aBe (ρ':=[.val (.int 2),.val M,.val R,.val .non,.val .non,.un]) (c:=x) (by simp [hM,hR,bI _ hM,bI _ hR,iK h])]
  simp [kK,hk,fK,aP hr]
 ·rw [K01.b_q_told]
  simp [entry,hM,hR]
  rw [aBe (ρ':=[.val (.int 3),.val M,.val R,.val .non,.val .non,.un]) (c:=x) (by simp [hM,hR,bI _ hM,bI _ hR,iK h])]
  simp [kK,hk,fK,aP hr]
theorem zT {w:Int} {d:D} (hd:d.frz.calm=true) (h:(w=0/\Ret bE [M] d)\/(w=1/\Ret jN [M,R] d)\/(w=2/\Ret K01.f_cost_of [M,R] d)):Ret K01.f_q_told [.int w,M,R] d.frz:=by
 refine mK ?_
 rcases h with ⟨rfl,h⟩ | ⟨rfl,h⟩ | ⟨rfl,h⟩
 ·rw [K01.b_q_told]
  simp [entry,hM,hR]
  rw [aEd (ρ':=[.val (.int 0),.val M,.val R,.val .non,.val d,.un]) (by simp [hM,hR,bI _ hM,bI _ hR,fT h])]
  simp [fK,hd]
 ·rw [K01.b_q_told]
  simp [entry,hM,hR]
  rw [aEd (ρ':=[.val (.int 1),.val M,.val R,.val .non,.val d,.un]) (by simp [hM,hR,bI _ hM,bI _ hR,fT h])]
  simp [fK,hd]
 ·rw [K01.b_q_told]
  simp [entry,hM,hR]
  rw [aEd (ρ':=[.val (.int 2),.val M,.val R,.val .non,.val d,.un]) (by simp [hM,hR,bI _ hM,bI _ hR,fT h])]
  simp [fK,hd]
end
def stI (es:List E) (r:Option (T0)) (x:Int):Option (T0):=r.bind fun ps=>if (0<=x/\x<es.length)/\ps.getLast?=some (ed es x.toNat).a then some (ps ++ [(ed es x.toNat).b]) else none
def goI (es:List E) (row:Y0):Option (T0):=row.foldl (stI es) (some [0])
theorem rW {es:List E} {row:Y0} {x:Int}:goI es (row ++ [x])=stI es (goI es row) x:=by unfold goI;rw [List.foldl_append];rfl
theorem qO {es:List E}:∀row:Y0,row.foldl (stI es) none=none
 | []=>rfl
 | x::row=>qO row
theorem wW {es:List E} {pre post:Y0} (h:goI es pre=none):goI es (pre++post)=none:=by
 unfold goI at h ⊢;rw [List.foldl_append,h];exact qO post
theorem vA {es:List E}:∀(row:Y0) {r:Option (T0)} {ps:T0},row.foldl (stI es) r=some ps->∃qs,r=some qs/\ps.length=qs.length+row.length
 | [],r,ps,h=>⟨ps,h,by simp⟩
 | x::row,r,ps,h=>by
  obtain ⟨qs,h1,h2⟩:=vA row h
  cases r with
  | none=>cases h1
  | some rs =>
   have h1:(if (0<=x/\x<es.length)/\rs.getLast?=some (ed es x.toNat).a then some (rs ++ [(ed es x.toNat).b]) else none)=some qs:=h1
   by_cases c:(0<=x/\x<es.length)/\rs.getLast?=some (ed es x.toNat).a
   ·rw [if_pos c] at h1
    cases h1
    exact ⟨rs,rfl,by simp at h2 ⊢;omega⟩
   ·rw [if_neg c] at h1;cases h1
def sS (es:List E) (row:Y0):Int:=(row.map fun x=>(ed es x.toNat).c).sum
theorem aDh {es:List E} {row:Y0} {x:Int}:sS es (row ++ [x])=sS es row+(ed es x.toNat).c:=by simp [sS]
theorem xW {es:List E}:∀(row:Y0) {r:Option (T0)} {ps:T0},row.foldl (stI es) r=some ps->∀x∈row,0<=x/\x<es.length
 | [],r,ps,h,x,hx=>by cases hx
 | y::row,r,ps,h,x,hx=>by
  rcases List.mem_cons.mp hx with rfl | hx
  ·cases e:stI es r x with
   | none =>
    have h:row.foldl (stI es) (stI es r x)=some ps:=h
    rw [e,qO] at h;cases h
   | some qs =>
    cases r with
    | none=>cases e
    | some rs =>
     have e:(if (0<=x/\x<es.length)/\rs.getLast?=some (ed es x.toNat).a then some (rs ++ [(ed es x.toNat).b]) else none)=some qs:=e
     by_cases c:(0<=x/\x<es.length)/\rs.getLast?=some (ed es x.toNat).a
     ·exact c.1
     ·rw [if_neg c] at e;cases e
  ·exact xW row h x hx
theorem rE {n kd:Nat} {es:List E} {row:Y0} (h:OkB n kd es) (hl:row.length<=1000) (hb:∀x∈row,-1<=x/\x<=1000) :
  jT (vM (entry 5 [dM n kd es,.lst false (I row)])) (fun _=>False) (fun d=>∃ps,goI es row=some ps/\d=.lst true (NN ps)) (fun c=>c = "BadRow" /\goI es row=none):=by
 simp [vM,entry,bM,dB,fT (pI h)]
 refine tH (qV (φ:=D.int) (Q:=fun d=>∃ps,goI es row=some ps/\d=.lst true (NN ps)) (X:=fun c=>c = "BadRow" /\goI es row=none) (fun pre ρ=>∃ps t,np t/\goI es pre=some ps/\ρ=[.val (dM n kd es),.val (.lst false (I row)),.val (.lst false (ME es)),.val (.lst true (NN ps)),t]) row ⟨[0],_,cN,rfl,rfl⟩ ?_) ?_
 ·rintro pre x post ρ e ⟨ps,t,ht,hg,rfl⟩
  have hpl:ps.length=pre.length+1:=by obtain ⟨qs,q1,q2⟩:=vA pre hg;cases q1;simpa [Nat.add_comm] using q2
  have hpre:pre.length<=1000:=by have:=congrArg List.length e;simp at this;omega
  have hb1:=hb x (by rw [e];simp)
  have els:=h.ls
  obtain ⟨y,hy⟩:∃y,ps.getLast?=some y:=by
   cases q:ps.getLast? with
   | none=>rw [List.getLast?_eq_none_iff] at q;rw [q] at hpl;simp at hpl
   | some y=>exact ⟨y,rfl⟩
  have bad:¬ ((0<=x/\x<es.length)/\ps.getLast?=some (ed es x.toNat).a)->goI es row=none:=fun c=>by
   rw [e,show pre++x::post=(pre ++ [x])++post by simp]
   refine wW ?_
   rw [rW,hg]
   show (if (0<=x/\x<es.length)/\ps.getLast?=some (ed es x.toNat).a then some (ps ++ [(ed es x.toNat).b]) else none)=none
   rw [if_neg c]
  by_cases hr:0<=x/\x<=(es.length:Int) - 1
  ·have e1:=aP (iE hr.1 hr.2)
   obtain ⟨j,rfl⟩:∃j:Nat,x=(j:Int):=⟨x.toNat,by omega⟩
   have hj:j<es.length:=by omega
   by_cases hq:(ed es j).a=y
   ·have hq':((ed es j).a:Int)=(y:Int):=by omega
    have hps:ps.length<1000000:=by omega
    simp [ht,e1,bM,dB,nI,iG hj,nZ hy,hq',hps]
    refine ⟨_,_,aY,?_,rfl,rfl⟩
    rw [rW,hg]
    show (if (0<=(j:Int)/\(j:Int)<es.length)/\ps.getLast?=some (ed es j).a then some (ps ++ [(ed es j).b]) else none)=_
    rw [if_pos ⟨⟨by omega,by omega⟩,by rw [hy,hq]⟩]
   ·have hq':¬ ((ed es j).a:Int)=(y:Int):=by omega
    have hx':j<=100000:=by omega
    simp [ht,e1,bM,dB,nI,iG hj,nZ hy,hq',hx']
    exact bad fun c=>by have:=c.2;rw [hy] at this;cases this;exact hq rfl
  ·have e1:=aP (pY hr)
   simp [ht,e1,bM,dB,nI]
   exact bad fun c=>hr ⟨c.1.1,by omega⟩
 ·rintro ρ ⟨ps,t,ht,hg,rfl⟩
  simp [hg]
end VL.QQ
end
section
namespace VL.QQ
open VL PySem L2 PY K10
theorem aBq {n kd:Nat} {es:List E} {row:Y0} {ps:T0} (h:OkB n kd es) (hl:row.length<=1000) (hb:∀x∈row,-1<=x/\x<=1000) (hg:goI es row=some ps):Ret jN [dM n kd es,.lst false (I row)] (.lst true (NN ps)):=by
 rcases aI3 (P:=fun d=>d=.lst true (NN ps)) (X:=fun _=>False) (fN (rE h hl hb) (fun _ q=>q.elim) (fun _ q=>by obtain ⟨qs,q1,q2⟩:=q;rw [hg] at q1;cases q1;exact q2) fun c q=>by rw [hg] at q;exact absurd q.2 (by simp)) with ⟨d,h1,rfl⟩ | ⟨c,_,hc⟩
 ·exact h1
 ·exact hc.elim
theorem aA1 {n kd:Nat} {es:List E} {row:Y0} (h:OkB n kd es) (hl:row.length<=1000) (hb:∀x∈row,-1<=x/\x<=1000) (hg:goI es row=none):kH jN [dM n kd es,.lst false (I row)] "BadRow" :=
 kY (fN (rE h hl hb) (fun _ q=>q) (fun _ q=>by obtain ⟨qs,q1,q2⟩:=q;rw [hg] at q1;cases q1) fun c q=>q.1)
theorem aI7 {n kd:Nat} {es:List E} {row:Y0} {ps:T0} (h:OkB n kd es) (hl:row.length<=1000) (hb:∀x∈row,-1<=x/\x<=1000) (hg:goI es row=some ps):Ret K01.f_cost_of [dM n kd es,.lst false (I row)] (.int (sS es row)):=by
 refine mK ?_
 have ec:cG (kA (aD 1)) 1 [0] (bH 0) cJ (v2 kIx (v2 kIx (v2 kIx (aD 1) (vC (.int 2))) (aD 0)) (vC (.int 3))) [.val (dM n kd es),.val (.lst false (I row))]=.ok (.lst true (I (row.map fun x=>(ed es x.toNat).c)),true):=by
  rw [mU [.val (dM n kd es)] row D.int (fun x=>D.int (ed es x.toNat).c) (fun _=>false) (by simp;rfl) (by omega) (by simp [jJ]) ?_ (.inr fun _ _=>rfl)]
  ·simp [I]
  ·intro x hx
   refine ⟨?_,rfl⟩
   have hx':=xW row hg x hx
   obtain ⟨j,rfl⟩:∃j:Nat,x=(j:Int):=⟨x.toNat,by omega⟩
   simp [nI,iG (show j<es.length by omega)]
 have es':aIs [(.lst true (I (row.map fun x=>(ed es x.toNat).c)),true)]=.ok (.int (sS es row),true):=by
  show (match dD (I (row.map fun x=>(ed es x.toNat).c)) with | some ns=>R.ok (D.int ns.sum,true) | none=>.bad)=_
  rw [aB3];rfl
 simp [K01.b_cost_of,entry,fT (aBq h hl hb hg),ec,es']
theorem aEs:knF "BadRow" = true:=by decide +kernel
theorem aN9:knF "BadMachine" = true:=by decide +kernel
def aL2 (es:List E) (row:Y0):D:=match goI es row with | some ps=>.lst false (NN ps) | none=>.str "row"
def aLw (es:List E) (row:Y0):D:=match goI es row with | some _=>.int (sS es row) | none=>.str "row"
theorem aNz {n kd:Nat} {es:List E} {row:Y0} (h:OkB n kd es) (hl:row.length<=1000) (hb:∀x∈row,-1<=x/\x<=1000):Ret K01.f_q_told [.int 1,dM n kd es,.lst false (I row)] (aL2 es row):=by
 unfold aL2
 cases hg:goI es row with
 | some ps =>
  have:=zT (M:=dM n kd es) (R:=.lst false (I row)) (w:=1) (d:=.lst true (NN ps)) (by simp) (by simp) (by simp) (.inr (.inl ⟨rfl,aBq h hl hb hg⟩))
  simpa using this
 | none=>exact zF (M:=dM n kd es) (R:=.lst false (I row)) (by simp) (by simp) aEs aKn (.inr (.inl ⟨rfl,aA1 h hl hb hg⟩))
theorem aMi {n kd:Nat} {es:List E} {row:Y0} (h:OkB n kd es) (hl:row.length<=1000) (hb:∀x∈row,-1<=x/\x<=1000):Ret K01.f_q_told [.int 2,dM n kd es,.lst false (I row)] (aLw es row):=by
 unfold aLw
 cases hg:goI es row with
 | some ps =>
  have:=zT (M:=dM n kd es) (R:=.lst false (I row)) (w:=2) (d:=.int (sS es row)) (by simp) (by simp) (by simp) (.inr (.inr ⟨rfl,aI7 h hl hb hg⟩))
  simpa using this
 | none=>exact zF (M:=dM n kd es) (R:=.lst false (I row)) (by simp) (by simp) aEs aKn (.inr (.inr (.inl ⟨rfl,aB0 (by simp) (by simp) (aA1 h hl hb hg)⟩)))
theorem aI9 {n k:Int} {fs:List Fd} {w:Nat} (hw:w<4) (hl:fs.length<=1000) (g:¬ iC n k fs):Ret K01.f_q_told [.int (w:Int),dG n k fs,.lst false [.int (-1)]] (.str "machine"):=by
 have hR:(D.lst false [.int (-1)]).calm=true:=rfl
 have h0:=aI4 hl g
 have h1:=aI0 (R:=.lst false [.int (-1)]) lN hR h0
 refine zF lN hR aN9 aQ4 ?_
 match w,hw with
 | 0,_=>exact .inl ⟨rfl,h0⟩
 | 1,_=>exact .inr (.inl ⟨rfl,h1⟩)
 | 2,_=>exact .inr (.inr (.inl ⟨rfl,aB0 lN hR h1⟩))
 | 3,_=>exact .inr (.inr (.inr ⟨rfl,zY lN h0⟩))
theorem aNt {n k:Int} {fs:List Fd} (hl:fs.length<=1000) (g:iC n k fs):Ret K01.f_q_told [.int 0,dG n k fs,.lst false []] .non:=by
 have:=zT (M:=dG n k fs) (R:=.lst false []) (w:=0) (d:=.non) lN rfl rfl (.inl ⟨rfl,aIv hl g⟩)
 simpa using this
def toF (e:E):Fd:=⟨e.a,e.k,e.b,e.c⟩
theorem aPv {n kd:Nat} {es:List E}:dM n kd es=dG n kd (es.map toF):=by
 simp [dM,dG,MF,ME];exact fun _ _=>rfl
theorem zJ {fs:List Fd} {lo hi:Option Int}:∃gs:List Fd,cutD (MF fs) lo hi=MF gs/\gs.length<=fs.length:=by
 refine ⟨(fs.drop (HT.sIx (MF fs).length 0 lo)).take (HT.sIx (MF fs).length (MF fs).length hi - HT.sIx (MF fs).length 0 lo),?_,?_⟩
 ·unfold cutD MF;rw [List.map_take,List.map_drop]
 ·rw [List.length_take,List.length_drop];omega
theorem aD4 {fs:List Fd}:(MF fs).isEmpty=decide (fs=[]):=by cases fs<;>simp [MF]
def Gd (d:D):Prop:=∃n k fs,d=dG n k fs/\fs.length<=1000
theorem aJy {fs:List Fd} {o b c:Bool}:yH (.lst o (MF fs),b) (.int (-1),c)=.ok (.lst true (MF fs.reverse),true):=by
 show (if (-1:Int) = -1/\D.aZ (MF fs)=true then R.ok (D.lst true (MF fs).reverse,true) else .bad)=_
 rw [if_pos ⟨rfl,aE3 fs⟩];simp [MF]
end VL.QQ
end
section
namespace VL.QQ
open VL PySem L2 PY K10
theorem aUl {f:Fd} {x:Int} {b:Bool} {a:Nat} (ha:a<4):∃g:Fd,aCz (.lst true [.int f.a,.int f.k,.int f.b,.int f.c]) (a:Int) (.int x,b)=some (.lst true [.int g.a,.int g.k,.int g.b,.int g.c]):=by
 match a,ha with
 | 0,_=>exact ⟨⟨x,f.k,f.b,f.c⟩,by cases b<;>rfl⟩
 | 1,_=>exact ⟨⟨f.a,x,f.b,f.c⟩,by cases b<;>rfl⟩
 | 2,_=>exact ⟨⟨f.a,f.k,x,f.c⟩,by cases b<;>rfl⟩
 | 3,_=>exact ⟨⟨f.a,f.k,f.b,x⟩,by cases b<;>rfl⟩
theorem aCb {d0 d1 d2 d3:Int} {a:Nat} (ha:a<4):∃x,atI [D.int d0,D.int d1,D.int d2,D.int d3] (a:Int)=some (.int x):=by
 rw [dF]
 match a,ha with
 | 0,_=>exact ⟨_,rfl⟩
 | 1,_=>exact ⟨_,rfl⟩
 | 2,_=>exact ⟨_,rfl⟩
 | 3,_=>exact ⟨_,rfl⟩
theorem aP1 {d0 d1 d2:Int} {a:Nat} (ha:a<3):∃x,atI [D.int d0,D.int d1,D.int d2] (a:Int)=some (.int x):=by
 rw [dF]
 match a,ha with
 | 0,_=>exact ⟨_,rfl⟩
 | 1,_=>exact ⟨_,rfl⟩
 | 2,_=>exact ⟨_,rfl⟩
theorem aGc {a b:List Fd}:MF a++MF b=MF (a++b):=by simp [MF]
theorem aOs {a:List Fd} {g:Fd}:MF a ++ [D.tup [.int g.a,.int g.k,.int g.b,.int g.c]]=MF (a ++ [g]):=by simp [MF,Fd.d]
theorem aGy {n k:Int} {fs:List Fd} {v:Int} (hl:fs.length<=100) (hv:0<=v) (hv2:v<4294967231):wO K01.f_q_spoilt [dG n k fs,.int v] Gd:=by
 refine iH ?_
 have e0:entry 11 [dG n k fs,.int v]=[.val (dG n k fs),.val (.int v),.un,.un,.un,.un,.un,.un,.un,.un,.un]:=by simp [entry]
 obtain ⟨w,hw,ew⟩:=oU (v:=v) (m:=8) (by decide)
 obtain ⟨u,hu,eu⟩:=oU (v:=v / 8 / 64) (m:=4) (by decide)
 obtain ⟨m,hm,em⟩:=oU (v:=v / 8) (m:=4) (by decide)
 obtain ⟨m2,hm2,em2⟩:=oU (v:=v / 8 / 4) (m:=4) (by decide)
 obtain ⟨m3,hm3,em3⟩:=oU (v:=v / 8) (m:=2) (by decide)
 have a1:gO [2,3,4] (xOf (aD 0)) [.val (dG n k fs),.val (.int v),.un,.un,.un,.un,.un,.un,.un,.un,.un]=.next [.val (dG n k fs),.val (.int v),.val (.int n),.val (.int k),.val (.lst false (MF fs)),.un,.un,.un,.un,.un,.un]:=by
  rw [aRv (a:=.int n) (b:=.int k) (c:=.lst false (MF fs)) (x:=false) rfl]
  simp [bY]
 unfold K01.b_q_spoilt
 rw [e0,cO,a1,bA]
 have ew:v % 8=(w:Int):=ew
 have eu:v / 8 / 64 % 4=(u:Int):=eu
 have em:v / 8 % 4=(m:Int):=em
 have em2:v / 8 / 4 % 4=(m2:Int):=em2
 have em3:v / 8 % 2=(m3:Int):=em3
 have f8:fits 8=true:=aT (by decide) (by decide)
 have f4:fits 4=true:=aT (by decide) (by decide)
 have f64:fits 64=true:=aT (by decide) (by decide)
 have fv:fits v=true:=aT (by omega) (by omega)
 have fv8:fits (v / 8)=true:=aT (by omega) (by omega)
 by_cases h1:w<3/\fs ≠ []
 ·have hn:=h1.2
  have hp:0<fs.length:=List.length_pos_iff.mpr hn
  obtain ⟨j,hj,ej⟩:=oU (v:=v / 8) (m:=fs.length) hp
  have h1':(w:Int)<3:=by omega
  obtain ⟨y1,q1⟩:=aCb (d0:=n) (d1:=k) (d2:=n) (d3:=1001) hu
  obtain ⟨y2,q2⟩:=aCb (d0:=n - 1) (d1:=k - 1) (d2:=0) (d3:=1000) hu
  obtain ⟨y3,q3⟩:=aP1 (d0:=-1) (d1:=y1) (d2:=y2) h1.1
  obtain ⟨g,q4⟩:=aUl (f:=fdA fs j) (x:=y3) (b:=true) hu
  obtain ⟨g1,r1,s1⟩:=zJ (fs:=fs) (lo:=none) (hi:=some (j:Int))
  obtain ⟨g2,r2,s2⟩:=zJ (fs:=fs) (lo:=some ((j:Int)+1)) (hi:=none)
  have t1:(g1.length+1<=1000000):=by omega
  have t2:(g1.length+1+g2.length<=1000000):=by omega
  have q5:∀b c,kIx (.lst false (MF fs),b) (.int (j:Int),c)=.ok ((fdA fs j).d,b):=fun b c=>aGu hj
  have q6:∀b,kM [((fdA fs j).d,b)]=.ok (.lst true [.int (fdA fs j).a,.int (fdA fs j).k,.int (fdA fs j).b,.int (fdA fs j).c],true):=fun _=>rfl
  simp -implicitDefEqProofs [ew,f8,f4,f64,fv,fv8,h1',bM,dB,aD4,hn,ej,hp,q5,q6,eu,q1,q2,q3,q4,r1,r2,t1,t2,aOs,aGc]
  exact ⟨n,k,g1++g::g2,rfl,by simp;omega⟩
 ·have e3:∀z:Int,(z=3)=((z == 3)=true):=fun z=>by simp
  have hc:¬ ((w:Int)<3)\/fs=[]:=by
   by_cases q:fs=[]
   ·exact .inr q
   ·exact .inl fun z=>h1 ⟨by omega,q⟩
  have hi:∀X:aQ,sIf (nV (aU (v2 kLt (aD 5) (vC (.int 3)))) (jE (aD 4))) X bN [.val (dG n k fs),.val (.int v),.val (.int n),.val (.int k),.val (.lst false (MF fs)),.val (.int (w:Int)),.val (.int (v / 8)),.un,.un,.un,.un]=.next [.val (dG n k fs),.val (.int v),.val (.int n),.val (.int k),.val (.lst false (MF fs)),.val (.int (w:Int)),.val (.int (v / 8)),.un,.un,.un,.un]:=fun X=>by
   rcases hc with hc | hc
   ·simp [hc,bM,dB,aD4]
   ·by_cases q:(w:Int)<3<;>simp [hc,bM,dB,aD4,q]
  have hv8:aS (bC 5 (xOf (v2 eY (aD 1) (vC (.int 8))))) (bC 6 (xOf (v2 gK (aD 1) (vC (.int 8))))) [.val (dG n k fs),.val (.int v),.val (.int n),.val (.int k),.val (.lst false (MF fs)),.un,.un,.un,.un,.un,.un]=.next [.val (dG n k fs),.val (.int v),.val (.int n),.val (.int k),.val (.lst false (MF fs)),.val (.int (w:Int)),.val (.int (v / 8)),.un,.un,.un,.un]:=by
   simp -implicitDefEqProofs [ew,f8,f4,f64,fv,fv8]
  have ws:w=3\/w=4\/w=5\/w=6\/(w ≠ 3/\w ≠ 4/\w ≠ 5/\w ≠ 6):=by omega
  have hs:∀Y:aQ,aS (bC 5 (xOf (v2 eY (aD 1) (vC (.int 8))))) (aS (bC 6 (xOf (v2 gK (aD 1) (vC (.int 8))))) Y) [.val (dG n k fs),.val (.int v),.val (.int n),.val (.int k),.val (.lst false (MF fs)),.un,.un,.un,.un,.un,.un]=Y [.val (dG n k fs),.val (.int v),.val (.int n),.val (.int k),.val (.lst false (MF fs)),.val (.int (w:Int)),.val (.int (v / 8)),.un,.un,.un,.un]:=fun Y=>by
   simp -implicitDefEqProofs [ew,f8,f4,f64,fv,fv8]
  rw [hs,cO,hi,bA]
  obtain ⟨g1,r1,s1⟩:=zJ (fs:=fs) (lo:=some (-1)) (hi:=none)
  have t1:(fs.length+g1.length<=1000000):=by omega
  rcases ws with rfl | rfl | rfl | rfl | ⟨w3,w4,w5,w6⟩
  ·simp -implicitDefEqProofs [aJy]
   exact ⟨n,k,fs.reverse,rfl,by simp;omega⟩
  ·simp -implicitDefEqProofs [r1,t1,aGc]
   exact ⟨n,k,fs++g1,rfl,by simp;omega⟩
  ·obtain ⟨x1,z1⟩:=aCb (d0:=0) (d1:=200) (d2:=201) (d3:=-1) hm
   obtain ⟨x2,z2⟩:=aCb (d0:=0) (d1:=8) (d2:=9) (d3:=1) hm2
   simp -implicitDefEqProofs [em,em2,z1,z2,f4]
   exact ⟨x1,x2,[],rfl,by simp⟩
  ·have hh:600+m3<=1000:=by omega
   have e6:(600:Int)+(m3:Int)=((600+m3:Nat):Int):=by omega
   have er:zH ((600:Int)+(m3:Int))=.ok ((List.range (600+m3)).map fun i:Nat=>D.int (i:Int)):=by rw [e6];exact iL (by omega)
   have ec:cG (iR1 (aC (aD 10) aK)) 1 [] (bH 0) cJ (nR (aC (v2 gK (aD 0) (vC (.int 8))) (aC (v2 eY (aD 0) (vC (.int 8))) (aC (vC (.int 0)) (aC (vC (.int 0)) aK))))) [.val (dG n k fs),.val (.int v),.val (.int n),.val (.int k),.val (.lst false (MF fs)),.val (.int 6),.val (.int (v / 8)),.un,.un,.un,.val (.int (600+(m3:Int)))]=.ok (.lst true (MF ((List.range (600+m3)).map fun (x:Nat)=>(⟨(x:Int) / 8,(x:Int) % 8,0,0⟩:Fd))),true):=by
    rw [mU [] (List.range (600+m3)) nI (fun x=>(Fd.mk ((x:Int) / 8) ((x:Int) % 8) 0 0).d) (fun _=>true) (by simp -implicitDefEqProofs [er,nI]) (by simp;omega) (by simp [jJ]) ?_ (.inl (by simp [kL]))]
    ·simp [MF]
    ·intro x hx
     refine ⟨?_,rfl⟩
     simp -implicitDefEqProofs [nI,f8,Fd.d]
   simp -implicitDefEqProofs [em3]
   rw [ec]
   simp -implicitDefEqProofs
   exact ⟨200,8,_,rfl,by simp;omega⟩
  ·have w3':¬ ((w:Int)=3):=by omega
   have w4':¬ ((w:Int)=4):=by omega
   have w5':¬ ((w:Int)=5):=by omega
   have w6':¬ ((w:Int)=6):=by omega
   simp -implicitDefEqProofs [w3',w4',w5',w6']
   exact ⟨n,k,fs,rfl,by omega⟩
end VL.QQ
end
section
namespace VL.QQ
open VL PySem L2 PY K10
def lw1:aQ:=(bC 1 (xOf (bG iI (aC (aD 0) (aC (vC (.int 0)) (aC (vC (.int 7)) aK))))))
def lw2:aQ:=(bC 2 (xOf (bG K01.f_q_spoilt (aC (aD 1) (aC (bG bX (aC (aD 0) (aC (vC (.int 30)) aK))) aK)))))
def lw3:aQ:=(bC 3 (xOf (nR (aC (v2 kIx (aD 2) (vC (.int 0))) (aC (v2 kIx (aD 2) (vC (.int 1))) (aC (vCB kM (aC (v2 kIx (aD 2) (vC (.int 2))) aK)) aK))))))
def lw4:aQ:=(sIf (eS (jE (bG K01.f_q_good (aC (aD 2) aK)))) (sIf (aU (v2 (kEq true) (cG (iR1 (aC (vC (.int 4)) aK)) 1 [3] (bH 0) cJ (bG K01.f_q_told (aC (aD 0) (aC (aD 1) (aC (dR (aC (v1 (kU fun i=>.int (-i)) (vC (.int 1))) aK)) aK))))) (v2 jR (dR (aC (vC (.str "machine")) aK)) (vC (.int 4))))) (dJ (xOf (vC (.bl false)))) bN) (sIf (iS (aU (v2 (nT true) (bG K01.f_q_told (aC (vC (.int 0)) (aC (aD 3) (aC (dR aK) aK)))) (vC .non))) (aU (v2 (kEq true) (v2 kIx (aD 3) (vC (.int 2))) (v2 kIx (aD 2) (vC (.int 2)))))) (dJ (xOf (vC (.bl false)))) bN))
def lw5:aQ:=(bC 4 (xOf (bG nG (aC (aD 0) (aC (vC (.int 40)) (aC (aD 1) (aC (vC (.int 8)) aK)))))))
def lw6:aQ:=(bC 5 (xOf (bG bX (aC (aD 0) (aC (vC (.int 50)) aK)))))
def lw7:aQ:=(bC 6 (xOf (v2 eY (v2 gK (aD 5) (vC (.int 8))) (v2 bT (vCB fG (aC (aD 4) aK)) (vC (.int 1))))))
def lw8:aQ:=(sIf (aU (v2 (kEq false) (v2 eY (aD 5) (vC (.int 3))) (vC (.int 0)))) (bC 4 (xOf (v2 bT (v2 bT (vSl (aD 4) lR (tD (aD 6))) (dR (aC (v2 kIx (dR (aC (v1 (kU fun i=>.int (-i)) (vC (.int 1))) (aC (vCB fG (aC (v2 kIx (aD 1) (vC (.int 2))) aK)) (aC (vC (.int 0)) (aC (vC (.int 1)) aK))))) (v2 eY (v2 gK (aD 5) (vC (.int 64))) (vC (.int 4)))) aK))) (vSl (aD 4) (tD (aD 6)) lR)))) bN)
def lw9:aQ:=(bC 7 (xOf (dR (aC (vC (.int 0)) aK))))
def aL6:aQ:=(bC 8 (xOf (vC (.int 0))))
def lwB:aQ:=(sIf (iS (aU (v2 (kEq false) (aD 7) (vC (.str "row")))) (iS (eS (aU (jO (fun i j=>decide (i<=j)) (fun i j=>decide (i<j)) (vC (.int 0)) (aD 9) (vCB fG (aC (v2 kIx (aD 1) (vC (.int 2))) aK))))) (aU (v2 (kEq true) (v2 kIx (v2 kIx (v2 kIx (aD 1) (vC (.int 2))) (aD 9)) (vC (.int 0))) (v2 kIx (aD 7) (v1 (kU fun i=>.int (-i)) (vC (.int 1)))))))) (bC 7 (xOf (vC (.str "row")))) (aS (dH 7 (v2 kIx (v2 kIx (v2 kIx (aD 1) (vC (.int 2))) (aD 9)) (vC (.int 2)))) (bC 8 (xOf (v2 bT (aD 8) (v2 kIx (v2 kIx (v2 kIx (aD 1) (vC (.int 2))) (aD 9)) (vC (.int 3))))))))
def aJz:aQ:=(pG [4] (jQ (kA (aD 4)) (bH 9) lwB))
def aIn:aQ:=(pG [7] (sIf (iS (aU (v2 (kEq true) (bG K01.f_q_told (aC (vC (.int 1)) (aC (aD 1) (aC (vCB kM (aC (aD 4) aK)) aK)))) (aD 7))) (aU (v2 (kEq true) (bG K01.f_q_told (aC (vC (.int 2)) (aC (aD 1) (aC (aD 4) aK)))) (vIf (aU (v2 (kEq false) (aD 7) (vC (.str "row")))) (vC (.str "row")) (aD 8))))) (dJ (xOf (vC (.bl false)))) bN))
def aOg:aQ:=(bC 10 (xOf (bG iO (aC (aD 1) aK))))
def aOf:aQ:=(bC 11 (gC fL (aC (aD 1) aK)))
def aBp:aQ:=(pG [10,11] (dJ (xOf (yF (v2 (kEq false) (aD 11) (cG (iR1 (aC (v2 kIx (aD 1) (vC (.int 0))) aK)) 1 [10] (bH 0) cJ (v2 (kIn false) (aD 0) (aD 1)))) (vCB aDq (aC (cG (kA (aD 11)) 1 [] (bH 0) cJ (v1 (jZ "bool") (aD 0))) aK))))))
theorem aDr:K01.b_law=(aS lw1 (aS lw2 (aS lw3 (aS lw4 (aS lw5 (aS lw6 (aS lw7 (aS lw8 (aS lw9 (aS aL6 (aS aJz (aS aIn (aS aOg (aS aOf aBp)))))))))))))):=rfl
@[irreducible] def aIu:aQ:=aBp
theorem aJt:aBp=aIu:=by unfold aIu;rfl
end VL.QQ
end
section
namespace VL.QQ
open VL PySem L2 PY K10
theorem aQ9:∀xs:T0,PyData.depthAll (D.pys (NN xs))=0
 | []=>rfl
 | x::xs=>by show max 0 (PyData.depthAll (D.pys (NN xs)))=0;rw [aQ9 xs];rfl
theorem aQc:∀xs:T0,PyData.eqvAll (D.pys (NN xs)) (D.pys (NN xs))=true
 | []=>rfl
 | x::xs=>by
  show (((x:Int) == (x:Int)) && PyData.eqvAll (D.pys (NN xs)) (D.pys (NN xs)))=true
  rw [aQc xs];simp
theorem aRf {n o p b c:Bool} {xs:T0}:kEq n (.lst o (NN xs),b) (.lst p (NN xs),c)=.ok (.bl (if n then false else true),true):=by
 have e1:lP (.lst o (NN xs)) (.lst p (NN xs))=true:=by
  unfold lP
  have h1:(D.lst o (NN xs)).plain=true:=jG xs
  have h1':(D.lst p (NN xs)).plain=true:=jG xs
  have h2:(D.lst o (NN xs)).py.canLay0=true:=qX xs
  have h2':(D.lst p (NN xs)).py.canLay0=true:=qX xs
  rw [h1,h2,h1',h2']
  have h3:(D.lst p (NN xs)).py.depth=1:=by show PyData.depthAll (D.pys (NN xs))+1=1;rw [aQ9]
  rw [h3]
  have h4:min (D.lst o (NN xs)).py.depth 1<=100:=by omega
  rw [decide_eq_true h4];rfl
 unfold kEq
 rw [if_pos e1]
 have e2:eqD (D.lst o (NN xs)) (D.lst p (NN xs))=true:=aQc xs
 dsimp only
 rw [e2]
 cases n<;>rfl
theorem aQs:(PyData.str "row").canLay0=true:=by decide +kernel
theorem vV {n o b c:Bool} {xs:T0}:kEq n (.lst o (NN xs),b) (.str "row",c)=.ok (.bl n,true):=by
 have e1:lP (.lst o (NN xs)) (.str "row")=true:=by
  unfold lP
  have h1:(D.lst o (NN xs)).plain=true:=jG xs
  have h2:(D.lst o (NN xs)).py.canLay0=true:=qX xs
  have h3:(D.str "row").py.canLay0=true:=aQs
  have h4:(D.str "row").plain=true:=rfl
  rw [h1,h2,h3,h4]
  have h5:(D.str "row").py.depth=0:=rfl
  rw [h5]
  have h4:min (D.lst o (NN xs)).py.depth 0<=100:=by omega
  rw [decide_eq_true h4];rfl
 unfold kEq
 rw [if_pos e1]
 have e2:eqD (D.lst o (NN xs)) (D.str "row")=false:=rfl
 dsimp only
 rw [e2]
 cases n<;>rfl
theorem aLa {n b c:Bool}:kEq n (.str "row",b) (.str "row",c)=.ok (.bl (if n then false else true),true):=by
 unfold kEq
 rw [if_pos (show lP (.str "row") (.str "row")=true by decide +kernel)]
 have e2:eqD (D.str "row") (D.str "row")=true:=by
  show (("row" : Str) == ("row" : Str))=true
  simp
 dsimp only
 rw [e2]
 cases n<;>rfl
def aCx (o:Bool) (es:List E) (row:Y0):D:=match goI es row with | some ps=>.lst o (NN ps) | none=>.str "row"
theorem aI5 {S:Slot} {n kd:Nat} {es:List E} {row:Y0} {t2 t3 t5 t6:Slot} {o:Bool} (h:OkB n kd es) (hl:row.length<=1000) (hb:∀x∈row,-1<=x/\x<=1000) :
  out (aJz [S,.val (dM n kd es),t2,t3,.val (.lst o (I row)),t5,t6,.val (.lst true (NN [0])),.val (.int 0),.un,.un,.un])
   (fun ρ=>∃c t,np t/\(goI es row ≠ none->c=sS es row)/\ρ=[S,.val (dM n kd es),t2,t3,.val (.lst false (I row)),t5,t6,.val (aCx true es row),.val (.int c),t,.un,.un]) (fun _=>False):=by
 have e0:aJz [S,.val (dM n kd es),t2,t3,.val (.lst o (I row)),t5,t6,.val (.lst true (NN [0])),.val (.int 0),.un,.un,.un]=jQ (kA (aD 4)) (bH 9) lwB [S,.val (dM n kd es),t2,t3,.val (.lst false (I row)),t5,t6,.val (.lst true (NN [0])),.val (.int 0),.un,.un,.un]:=by
  simp [aJz]
 rw [e0]
 simp
 refine jH (fH (φ:=D.int) (Q:=fun _=>False) (fun pre ρ=>∃c t,np t/\(goI es pre ≠ none->c=sS es pre)/\ρ=[S,.val (dM n kd es),t2,t3,.val (.lst false (I row)),t5,t6,.val (aCx true es pre),.val (.int c),t,.un,.un]) row ⟨0,_,cN,fun _=>rfl,rfl⟩ ?_) (fun _ z=>z) fun _ z=>z
 rintro pre x post ρ e ⟨c,t,ht,hc,rfl⟩
 have hb1:=hb x (by rw [e];simp)
 have els:=h.ls
 unfold aCx
 cases hg:goI es pre with
 | none =>
  have e1:goI es (pre ++ [x])=none:=wW hg
  simp [lwB,ht,aLa]
  exact ⟨c,.val (.int x),aY,by simp [e1],by simp [e1]⟩
 | some ps =>
  have hpl:ps.length=pre.length+1:=by obtain ⟨qs,q1,q2⟩:=vA pre hg;cases q1;simpa [Nat.add_comm] using q2
  have hpre:pre.length<=1000:=by have:=congrArg List.length e;simp at this;omega
  obtain ⟨y,hy⟩:∃y,ps.getLast?=some y:=by
   cases q:ps.getLast? with
   | none=>rw [List.getLast?_eq_none_iff] at q;rw [q] at hpl;simp at hpl
   | some y=>exact ⟨y,rfl⟩
  have e1:goI es (pre ++ [x])=if (0<=x/\x<es.length)/\ps.getLast?=some (ed es x.toNat).a then some (ps ++ [(ed es x.toNat).b]) else none:=by
   rw [rW,hg];rfl
  by_cases hr:0<=x/\x<(es.length:Int)
  ·obtain ⟨j,rfl⟩:∃j:Nat,x=(j:Int):=⟨x.toNat,by omega⟩
   have hj:j<es.length:=by omega
   by_cases hq:(ed es j).a=y
   ·have hq':((ed es j).a:Int)=(y:Int):=by omega
    have hps:ps.length<1000000:=by omega
    rw [if_pos ⟨hr,by rw [hy,<- hq];rfl⟩] at e1
    have hc':=hc (by rw [hg];simp)
    simp [lwB,ht,vV,hj,nI,iG hj,nZ hy,hq',hps]
    refine ⟨c+(ed es j).c,.val (.int (j:Int)),aY,?_,?_⟩
    ·intro _;rw [aDh,hc'];rfl
    ·rw [e1];simp
   ·have hq':¬ ((ed es j).a:Int)=(y:Int):=by omega
    rw [if_neg fun z=>hq (by have:=z.2;rw [hy] at this;exact (Option.some.inj this).symm)] at e1
    simp [lwB,ht,vV,hj,nI,iG hj,nZ hy,hq']
    exact ⟨c,.val (.int (j:Int)),aY,by simp [e1],by simp [e1]⟩
  ·rw [if_neg fun z=>hr z.1] at e1
   by_cases h0:0<=x
   ·have h2:¬ x<(es.length:Int):=fun z=>hr ⟨h0,z⟩
    simp [lwB,ht,vV,h0,h2]
    exact ⟨c,.val (.int x),aY,by simp [e1],by simp [e1]⟩
   ·simp [lwB,ht,vV,h0]
    exact ⟨c,.val (.int x),aY,by simp [e1],by simp [e1]⟩
end VL.QQ
end
section
namespace VL.QQ
open VL PySem L2 PY K10
theorem aRi:∀xs:List Bool,PyData.depthAll (D.pys (xs.map D.bl))=0
 | []=>rfl
 | x::xs=>by show max 0 (PyData.depthAll (D.pys (xs.map D.bl)))=0;rw [aRi xs];rfl
theorem aQy:∀xs:List Bool,PyData.eqvAll (D.pys (xs.map D.bl)) (D.pys (xs.map D.bl))=true
 | []=>rfl
 | x::xs=>by
  have h:PyData.eqv (.bool x) (.bool x)=true:=by cases x<;>rfl
  show (PyData.eqv (.bool x) (.bool x) && PyData.eqvAll (D.pys (xs.map D.bl)) (D.pys (xs.map D.bl)))=true
  rw [aQy xs,h];rfl
theorem plB:∀xs:List Bool,D.fQ (xs.map D.bl)=true
 | []=>rfl
 | x::xs=>plB xs
theorem layB:∀xs:List Bool,PyData.canLayAll0 (D.pys (xs.map D.bl))=true
 | []=>rfl
 | x::xs=>layB xs
theorem aPt {o p b c:Bool} {xs:List Bool}:kEq false (.lst o (xs.map D.bl),b) (.lst p (xs.map D.bl),c)=.ok (.bl true,true):=by
 have e1:lP (.lst o (xs.map D.bl)) (.lst p (xs.map D.bl))=true:=by
  unfold lP
  have h1:(D.lst o (xs.map D.bl)).plain=true:=plB xs
  have h1':(D.lst p (xs.map D.bl)).plain=true:=plB xs
  have h2:(D.lst o (xs.map D.bl)).py.canLay0=true:=layB xs
  have h2':(D.lst p (xs.map D.bl)).py.canLay0=true:=layB xs
  rw [h1,h2,h1',h2']
  have h3:(D.lst p (xs.map D.bl)).py.depth=1:=by show PyData.depthAll (D.pys (xs.map D.bl))+1=1;rw [aRi]
  rw [h3]
  have h4:min (D.lst o (xs.map D.bl)).py.depth 1<=100:=by omega
  rw [decide_eq_true h4];rfl
 unfold kEq
 rw [if_pos e1]
 have e2:eqD (D.lst o (xs.map D.bl)) (D.lst p (xs.map D.bl))=true:=aQy xs
 dsimp only
 rw [e2]
 rfl
theorem aUs {w:Str} {b c:Bool}:jR (.lst true [.str w],b) (.int 4,c)=.ok (.lst true [.str w,.str w,.str w,.str w],true):=by
 have f:fits 4=true:=aT (by decide) (by decide)
 rfl
theorem aRc {b c:Bool}:kEq true (.lst true [.str "machine",.str "machine",.str "machine",.str "machine"],b) (.lst true [.str "machine",.str "machine",.str "machine",.str "machine"],c)=.ok (.bl false,true):=by
 unfold kEq
 rw [if_pos (show lP (.lst true [.str "machine",.str "machine",.str "machine",.str "machine"]) (.lst true [.str "machine",.str "machine",.str "machine",.str "machine"])=true by decide +kernel)]
 have e2:eqD (D.lst true [.str "machine",.str "machine",.str "machine",.str "machine"]) (.lst true [.str "machine",.str "machine",.str "machine",.str "machine"])=true:=by
  have h:(("machine" : Str) == ("machine" : Str))=true:=by simp
  show ((("machine" : Str) == ("machine" : Str)) && ((("machine" : Str) == ("machine" : Str)) && ((("machine" : Str) == ("machine" : Str)) && ((("machine" : Str) == ("machine" : Str)) && true))))=true
  rw [h];rfl
 dsimp only
 rw [e2];rfl
theorem aD5 {α:Type} {f:α->Bool}:∀xs:List α,dO (xs.map fun x=>D.bl (f x))=some (xs.map f)
 | []=>rfl
 | x::xs=>by
  show (dO (xs.map fun x=>D.bl (f x))).map (f x::·)=_
  rw [aD5 xs];rfl
theorem aT7 {α:Type} {f:α->Bool} {xs:List α} {o b:Bool}:aDq [(.lst o (xs.map fun x=>D.bl (f x)),b)]=.ok (.bl (xs.all f),true):=by
 show (match dO (xs.map fun x=>D.bl (f x)) with | some ns=>R.ok (D.bl (ns.all id),true) | none=>R.bad)=_
 rw [aD5]
 simp [List.all_map]
theorem aEf {xs:T0} {lo hi:Option Int}:∃ys:T0,cutD (NN xs) lo hi=NN ys/\ys.length<=xs.length/\∀y∈ys,y∈xs:=by
 refine ⟨(xs.drop (HT.sIx (NN xs).length 0 lo)).take (HT.sIx (NN xs).length (NN xs).length hi - HT.sIx (NN xs).length 0 lo),?_,?_,?_⟩
 ·unfold cutD NN;rw [List.map_take,List.map_drop]
 ·rw [List.length_take,List.length_drop];omega
 ·intro y hy;exact List.mem_of_mem_drop (List.mem_of_mem_take hy)
theorem aHw {xs:T0}:NN xs=I (xs.map fun x:Nat=>(x:Int)):=by simp [NN,I,nI]
section
variable {S:Slot} {n kd:Nat} {es:List E} {n' k':Int} {fs:List Fd}
theorem aM8 (hl:fs.length<=1000):lw4 [S,.val (dM n kd es),.val (dG n' k' fs),.val (dG n' k' fs),.un,.un,.un,.un,.un,.un,.un,.un]=.next [S,.val (dM n kd es),.val (dG n' k' fs),.val (dG n' k' fs),.un,.un,.un,.un,.un,.un,.un,.un]:=by
 by_cases g:iC n' k' fs
 ·have r:=aP ((aEo hl).1 g)
  have t:=aP (aNt hl g)
  have e2:∀b c,kEq true (.lst false (MF fs),b) (.lst false (MF fs),c)=.ok (.bl false,true):=fun b c=>by rw [aKy,aLj];simp
  simp -implicitDefEqProofs [lw4,r,bM,dB,t,fK,e2]
 ·have r:=aP ((aEo hl).2 g)
  have ec:cG (iR1 (aC (vC (.int 4)) aK)) 1 [3] (bH 0) cJ (bG K01.f_q_told (aC (aD 0) (aC (aD 1) (aC (dR (aC (v1 (kU fun i=>.int (-i)) (vC (.int 1))) aK)) aK)))) [S,.val (dM n kd es),.val (dG n' k' fs),.val (dG n' k' fs),.un,.un,.un,.un,.un,.un,.un,.un]=.ok (.lst true [.str "machine",.str "machine",.str "machine",.str "machine"],true):=by
   rw [mU [.val (dG n' k' fs)] (List.range 4) nI (fun _=>.str "machine") (fun _=>true) ?_ (by simp) (by simp [jJ]) ?_ (.inr fun _ _=>rfl)]
   ·rfl
   ·have:=iL (n:=4) (by omega)
    have this:zH 4=_:=this
    simp -implicitDefEqProofs [this,nI]
   ·intro w hw
    have t:=aP (aI9 (List.mem_range.mp hw) hl g)
    refine ⟨?_,rfl⟩
    simp -implicitDefEqProofs [nI,t]
  simp -implicitDefEqProofs [lw4,r,bM,dB,ec,aUs,aRc]
theorem aO5 {t2 t3:Slot} {v a:Int} {row:T0} (h:OkB n kd es) (hv:0<=v) (hv2:v<4294967231) (hr:∀x∈row,x<es.length) (hl:row.length<=100) :
  ∃row':Y0,row'.length<=1000/\(∀x∈row',-1<=x/\x<=1000)/\lw8 [S,.val (dM n kd es),t2,t3,.val (.lst true (NN row)),.val (.int v),.val (.int a),.un,.un,.un,.un,.un]=.next [S,.val (dM n kd es),t2,t3,.val (.lst true (I row')),.val (.int v),.val (.int a),.un,.un,.un,.un,.un]:=by
 have els:=h.ls
 have f4:fits 4=true:=aT (by decide) (by decide)
 have f3:fits 3=true:=aT (by decide) (by decide)
 have f64:fits 64=true:=aT (by decide) (by decide)
 have fv:fits v=true:=aT (by omega) (by omega)
 have hrow:∀x∈row.map (fun x:Nat=>(x:Int)),-1<=x/\x<=1000:=fun x hx=>by
  obtain ⟨y,hy,rfl⟩:=List.mem_map.mp hx
  have:=hr y hy;omega
 by_cases h3:v % 3=0
 ·obtain ⟨u,hu,eu⟩:=oU (v:=v / 64) (m:=4) (by decide)
  have eu:v / 64 % 4=(u:Int):=eu
  obtain ⟨x,q1,q2,q3⟩:∃x,atI [D.int (-1),D.int (es.length:Int),D.int 0,D.int 1] (u:Int)=some (.int x)/\-1<=x/\x<=1000:=by
   rw [dF]
   match u,hu with
   | 0,_=>exact ⟨_,rfl,by omega,by omega⟩
   | 1,_=>exact ⟨_,rfl,by omega,by omega⟩
   | 2,_=>exact ⟨_,rfl,by omega,by omega⟩
   | 3,_=>exact ⟨_,rfl,by omega,by omega⟩
  obtain ⟨r1,e1,l1,m1⟩:=aEf (xs:=row) (lo:=none) (hi:=some a)
  obtain ⟨r2,e2,l2,m2⟩:=aEf (xs:=row) (lo:=some a) (hi:=none)
  refine ⟨r1.map (fun x:Nat=>(x:Int))++x::r2.map (fun x:Nat=>(x:Int)),by simp;omega,?_,?_⟩
  ·intro y hy
   rcases List.mem_append.mp hy with hy | hy
   ·obtain ⟨z,hz,rfl⟩:=List.mem_map.mp hy
    have:=hr z (m1 z hz);omega
   ·rcases List.mem_cons.mp hy with rfl | hy
    ·exact ⟨q2,q3⟩
    ·obtain ⟨z,hz,rfl⟩:=List.mem_map.mp hy
     have:=hr z (m2 z hz);omega
  ·have i1:D.aZ (NN r1 ++ [D.int x])=true:=by
    rw [aHw,show I (r1.map fun x:Nat=>(x:Int)) ++ [D.int x]=I (r1.map (fun x:Nat=>(x:Int)) ++ [x]) by simp [I]];simp
   have i2:NN r1++D.int x::NN r2=I (r1.map (fun x:Nat=>(x:Int))++x::r2.map (fun x:Nat=>(x:Int))):=by
    rw [aHw,aHw];simp [I]
   have t1:r1.length+1<=1000000:=by omega
   have t2:r1.length+1+r2.length<=1000000:=by omega
   simp -implicitDefEqProofs [lw8,h3,f3,f4,f64,fv,eu,q1,e1,e2,i1,i2,t1,t2]
 ·refine ⟨row.map (fun x:Nat=>(x:Int)),by simp;omega,hrow,?_⟩
  rw [<- aHw]
  simp -implicitDefEqProofs [lw8,h3,f3,f4,f64,fv]
theorem aIw {t2 t3 t5 t6 t:Slot} {row:Y0} {c:Int} (h:OkB n kd es) (hl:row.length<=1000) (hb:∀x∈row,-1<=x/\x<=1000) (hc:goI es row ≠ none->c=sS es row) :
  aIn [S,.val (dM n kd es),t2,t3,.val (.lst false (I row)),t5,t6,.val (aCx true es row),.val (.int c),t,.un,.un]=.next [S,.val (dM n kd es),t2,t3,.val (.lst false (I row)),t5,t6,.val (aCx false es row),.val (.int c),t,.un,.un]:=by
 have kl:∀ds b,D.aZ ds=true->kM [(.lst false ds,b)]=.ok (.lst true ds,true):=fun ds b hd=>by
  show (if D.aZ ds then R.ok (D.lst true ds,true) else .bad)=_
  rw [if_pos hd]
 have r1:=aP (aNz h hl hb)
 have r2:=aP (aMi h hl hb)
 unfold aL2 at r1
 unfold aLw at r2
 unfold aCx
 cases hg:goI es row with
 | none =>
  rw [hg] at r1 r2
  simp -implicitDefEqProofs [aIn,kl,r1,r2,aLa]
 | some ps =>
  rw [hg] at r1 r2
  have:=hc (by rw [hg];simp)
  subst this
  simp -implicitDefEqProofs [aIn,kl,r1,r2,aRf,vV]
theorem aJr {t2 t3 t4 t5 t6 t7 t8 t9:Slot} {pl:T0} {f:Nat->Bool} (hn:n<=200) (hf:∀p,p<n->f p=decide (p∈pl)) :
  out (aIu [S,.val (dM n kd es),t2,t3,t4,t5,t6,t7,t8,t9,.val (.lst true (NN pl)),.val (.lst true (BB n f))]) (fun _=>False) (fun d=>d=.bl true):=by
 have eB:BB n f=(((List.range n).map f).map D.bl):=by simp [BB]
 have ec:cG (iR1 (aC (v2 kIx (aD 1) (vC (.int 0))) aK)) 1 [10] (bH 0) cJ (v2 (kIn false) (aD 0) (aD 1)) [S,.val (dM n kd es),t2,t3,t4,t5,t6,t7,t8,t9,.val (.lst false (NN pl)),.val (.lst false (BB n f))]=.ok (.lst true (BB n f),true):=by
  rw [mU [.val (.lst false (NN pl))] (List.range n) nI (fun p=>.bl (f p)) (fun _=>true) ?_ (by simp;omega) (by simp [jJ]) ?_ (.inr fun _ _=>rfl)]
  ·rfl
  ·simp -implicitDefEqProofs [iL (show n<=1000000 by omega),nI]
  ·intro p hp
   refine ⟨?_,rfl⟩
   simp -implicitDefEqProofs [nI,aE4,hf p (List.mem_range.mp hp)]
 have ec2:cG (kA (aD 11)) 1 [] (bH 0) cJ (v1 (jZ "bool") (aD 0)) [S,.val (dM n kd es),t2,t3,t4,t5,t6,t7,t8,t9,.val (.lst false (NN pl)),.val (.lst false (BB n f))]=.ok (.lst true ((List.range n).map fun _=>D.bl true),true):=by
  rw [mU [] (List.range n) (fun p=>.bl (f p)) (fun _=>.bl true) (fun _=>true) (by simp;rfl) (by simp;omega) (by simp [jJ]) ?_ (.inr fun _ _=>rfl)]
  intro p hp
  refine ⟨?_,rfl⟩
  simp -implicitDefEqProofs [jZ,qA,aEx]
 have e3:aDq [(.lst true ((List.range n).map fun _=>D.bl true),true)]=.ok (.bl true,true):=by
  rw [aT7];simp
 have e4:∀b c,kEq false (.lst false (BB n f),b) (.lst true (BB n f),c)=.ok (.bl true,true):=fun b c=>by rw [eB];exact aPt
 have cB:D.frzs (BB n f)=BB n f:=by rw [eB];exact hV (fun _=>rfl) _
 simp -implicitDefEqProofs [aIu,aBp,cB,ec,ec2,e3,e4,bM,dB]
end
theorem law_ok01 {ns:Y0}:Ret K01.f_law [.lst false (I ns)] (.bl true):=by
 refine mK ?_
 obtain ⟨M1,q1,n,kd,es,rfl,h,hk⟩:=aC4 (ns:=ns)
 have m30:Ret bX [.lst false (I ns),.int 30] (.int (cZ ns 30)):=pC (k:=30) (by omega)
 have m50:Ret bX [.lst false (I ns),.int 50] (.int (cZ ns 50)):=pC (k:=50) (by omega)
 obtain ⟨M2,q2,n',k',fs,rfl,hfs⟩:=aGy (n:=n) (k:=kd) (fs:=es.map toF) (v:=cZ ns 30) (by have:=h.ls;simp;omega) (aD7 ns 30) (aHb ns 30)
 rw [<- aPv] at q2
 obtain ⟨R0,p0,row,rfl,w0,l0,_⟩:=aOw (ns:=ns) (k0:=40) (most:=8) h (by omega) (by omega)
 have p0:Ret nG [.lst false (I ns),.int 40,dM n kd es,.int 8] (.lst true (NN row)):=p0
 obtain ⟨dq,rq,pl,rfl,hpl⟩:=xQ h
 obtain ⟨df,rf,f,rfl,hf⟩:=aCs h
 have hv:=aD7 ns 50
 have hv2:=aHb ns 50
 have f8:fits 8=true:=aT (by decide) (by decide)
 have fv:fits (cZ ns 50)=true:=aT (by omega) (by omega)
 have fv8:fits (cZ ns 50 / 8)=true:=aT (by omega) (by omega)
 have fl:fits ((row.length:Int)+1)=true:=aT (by omega) (by omega)
 have hl1:¬ ((row.length:Int)+1=0):=by omega
 have kl:∀ds b,D.aZ ds=true->kM [(.lst false ds,b)]=.ok (.lst true ds,true):=fun ds b hd=>by
  show (if D.aZ ds then R.ok (D.lst true ds,true) else .bad)=_
  rw [if_pos hd]
 rw [aDr,aJt]
 have e0:entry 12 [.lst false (I ns)]=[.val (.lst false (I ns)),.un,.un,.un,.un,.un,.un,.un,.un,.un,.un,.un]:=by simp [entry]
 rw [e0]
 have a1:lw1 [.val (.lst false (I ns)),.un,.un,.un,.un,.un,.un,.un,.un,.un,.un,.un]=.next [.val (.lst false (I ns)),.val (dM n kd es),.un,.un,.un,.un,.un,.un,.un,.un,.un,.un]:=by
  simp -implicitDefEqProofs [lw1,aP q1]
 have a2:lw2 [.val (.lst false (I ns)),.val (dM n kd es),.un,.un,.un,.un,.un,.un,.un,.un,.un,.un]=.next [.val (.lst false (I ns)),.val (dM n kd es),.val (dG n' k' fs),.un,.un,.un,.un,.un,.un,.un,.un,.un]:=by
  simp -implicitDefEqProofs [lw2,aP m30,aP q2]
 have a3:lw3 [.val (.lst false (I ns)),.val (dM n kd es),.val (dG n' k' fs),.un,.un,.un,.un,.un,.un,.un,.un,.un]=.next [.val (.lst false (I ns)),.val (dM n kd es),.val (dG n' k' fs),.val (dG n' k' fs),.un,.un,.un,.un,.un,.un,.un,.un]:=by
  simp -implicitDefEqProofs [lw3,kl]
  simp [dG]
 have a5:lw5 [.val (.lst false (I ns)),.val (dM n kd es),.val (dG n' k' fs),.val (dG n' k' fs),.un,.un,.un,.un,.un,.un,.un,.un]=.next [.val (.lst false (I ns)),.val (dM n kd es),.val (dG n' k' fs),.val (dG n' k' fs),.val (.lst true (NN row)),.un,.un,.un,.un,.un,.un,.un]:=by
  simp -implicitDefEqProofs [lw5,aP p0]
 have a6:lw6 [.val (.lst false (I ns)),.val (dM n kd es),.val (dG n' k' fs),.val (dG n' k' fs),.val (.lst true (NN row)),.un,.un,.un,.un,.un,.un,.un]=.next [.val (.lst false (I ns)),.val (dM n kd es),.val (dG n' k' fs),.val (dG n' k' fs),.val (.lst true (NN row)),.val (.int (cZ ns 50)),.un,.un,.un,.un,.un,.un]:=by
  simp -implicitDefEqProofs [lw6,aP m50]
 have a7:lw7 [.val (.lst false (I ns)),.val (dM n kd es),.val (dG n' k' fs),.val (dG n' k' fs),.val (.lst true (NN row)),.val (.int (cZ ns 50)),.un,.un,.un,.un,.un,.un]=.next [.val (.lst false (I ns)),.val (dM n kd es),.val (dG n' k' fs),.val (dG n' k' fs),.val (.lst true (NN row)),.val (.int (cZ ns 50)),.val (.int (cZ ns 50 / 8 % ((row.length:Int)+1))),.un,.un,.un,.un,.un]:=by
  simp -implicitDefEqProofs [lw7,f8,fv,fv8,fl,hl1]
 obtain ⟨row',hl',hb',a8⟩:=aO5 (S:=.val (.lst false (I ns))) (t2:=.val (dG n' k' fs)) (t3:=.val (dG n' k' fs)) (v:=cZ ns 50) (a:=cZ ns 50 / 8 % ((row.length:Int)+1)) h.big hv hv2 w0 l0
 generalize cZ ns 50 / 8 % ((row.length:Int)+1)=at' at *
 have a9:lw9 [.val (.lst false (I ns)),.val (dM n kd es),.val (dG n' k' fs),.val (dG n' k' fs),.val (.lst true (I row')),.val (.int (cZ ns 50)),.val (.int at'),.un,.un,.un,.un,.un]=.next [.val (.lst false (I ns)),.val (dM n kd es),.val (dG n' k' fs),.val (dG n' k' fs),.val (.lst true (I row')),.val (.int (cZ ns 50)),.val (.int at'),.val (.lst true (NN [0])),.un,.un,.un,.un]:=by
  simp -implicitDefEqProofs [lw9,NN,nI]
 have a10:aL6 [.val (.lst false (I ns)),.val (dM n kd es),.val (dG n' k' fs),.val (dG n' k' fs),.val (.lst true (I row')),.val (.int (cZ ns 50)),.val (.int at'),.val (.lst true (NN [0])),.un,.un,.un,.un]=.next [.val (.lst false (I ns)),.val (dM n kd es),.val (dG n' k' fs),.val (dG n' k' fs),.val (.lst true (I row')),.val (.int (cZ ns 50)),.val (.int at'),.val (.lst true (NN [0])),.val (.int 0),.un,.un,.un]:=by
  simp -implicitDefEqProofs [aL6]
 rw [cO,a1,bA,cO,a2,bA,cO,a3,bA,cO,aM8 hfs,bA,cO,a5,bA,cO,a6,bA,cO,a7,bA,cO,a8,bA,cO,a9,bA,cO,a10,bA,cO]
 refine dP (jH (aI5 h.big hl' hb') (fun _ z=>z) fun _ z=>z.elim) ?_
 rintro ρ ⟨c,t,ht,hc,rfl⟩
 rw [cO,aIw h.big hl' hb' hc,bA]
 have a13:∀d7,aOg [.val (.lst false (I ns)),.val (dM n kd es),.val (dG n' k' fs),.val (dG n' k' fs),.val (.lst false (I row')),.val (.int (cZ ns 50)),.val (.int at'),d7,.val (.int c),t,.un,.un]=.next [.val (.lst false (I ns)),.val (dM n kd es),.val (dG n' k' fs),.val (dG n' k' fs),.val (.lst false (I row')),.val (.int (cZ ns 50)),.val (.int at'),d7,.val (.int c),t,.val (.lst true (NN pl)),.un]:=fun d7=>by
  simp -implicitDefEqProofs [aOg,aP rq]
 have a14:∀d7,aOf [.val (.lst false (I ns)),.val (dM n kd es),.val (dG n' k' fs),.val (dG n' k' fs),.val (.lst false (I row')),.val (.int (cZ ns 50)),.val (.int at'),d7,.val (.int c),t,.val (.lst true (NN pl)),.un]=.next [.val (.lst false (I ns)),.val (dM n kd es),.val (dG n' k' fs),.val (dG n' k' fs),.val (.lst false (I row')),.val (.int (cZ ns 50)),.val (.int at'),d7,.val (.int c),t,.val (.lst true (NN pl)),.val (.lst true (BB n f))]:=fun d7=>by
  simp -implicitDefEqProofs [aOf,fT rf]
 rw [cO,a13,bA,cO,a14,bA]
 have key:∀p,p<n->f p=decide (p∈pl):=fun p hp=>by
  have h1:=hf p hp
  rw [<- hpl p] at h1
  by_cases z:p∈pl
  ·rw [decide_eq_true z];exact h1.mpr z
  ·rw [decide_eq_false z];exact Bool.eq_false_iff.mpr fun y=>z (h1.mp y)
 have hn:n<=200:=by have:=h.n2;omega
 refine jH (@aJr _ _ _ _ _ _ _ _ _ _ _ _ _ _ hn key) ?_ ?_
 ·intro _ z;exact z.elim
 ·intro _ z;exact z
end VL.QQ
namespace VL.K01
open VL
theorem aRh {ns:Y0}:∃os,f_law [.lst false (ns.map D.int)]=.ok (.bl true,os):=QQ.law_ok01
end VL.K01
end
section
namespace VL.K01
open VL PySem PySem.Spec PyProof.Rows L2 PY K10
abbrev FO (n:Str) (t:Stmt) (kV dc pm:Value) (an:Option Addr) (cd ct:Value):=W.fnOf n n (iJ t) (fB t) (aO t) .none kV dc pm an cd ct
theorem all_mk {P:Program} {w:World} {K:W.Frag} {h:Heap} {mg:Y6} {fa:Addr} (X:K.In h) (G:h.Ns mainGlobals mg) (hfa:mg "law" = some (.ref fa))
  {t0 t1 t2 t3:Tok}
  (a0:W.nsIn K mainGlobals "is_whole" = some (some (.ref f0))) (l0:K.lookup f0=some ⟨oc0,od0,.func (FO "is_whole" (top 8) kV0 dc0 pm0 an0 cd0 ct0),sl0⟩) (c0:W.codeIn K cd0 "is_whole" = true) (k0:W.keepIn K (.ref f0)=true)
  (a1:W.nsIn K mainGlobals "is_between" = some (some (.ref f1))) (l1:K.lookup f1=some ⟨oc1,od1,.func (FO "is_between" (top 9) kV1 dc1 pm1 an1 cd1 ct1),sl1⟩) (c1:W.codeIn K cd1 "is_between" = true) (k1:W.keepIn K (.ref f1)=true)
  (a2:W.nsIn K mainGlobals "is_deed" = some (some (.ref f2))) (l2:K.lookup f2=some ⟨oc2,od2,.func (FO "is_deed" (top 15) kV2 dc2 pm2 an2 cd2 ct2),sl2⟩) (c2:W.codeIn K cd2 "is_deed" = true) (k2:W.keepIn K (.ref f2)=true)
  (a3:W.nsIn K mainGlobals "look_deeds" = some (some (.ref f3))) (l3:K.lookup f3=some ⟨oc3,od3,.func (FO "look_deeds" (top 16) kV3 dc3 pm3 an3 cd3 ct3),sl3⟩) (c3:W.codeIn K cd3 "look_deeds" = true) (k3:W.keepIn K (.ref f3)=true)
  (a4:W.nsIn K mainGlobals "look_machine" = some (some (.ref f4))) (l4:K.lookup f4=some ⟨oc4,od4,.func (FO "look_machine" (top 17) kV4 dc4 pm4 an4 cd4 ct4),sl4⟩) (c4:W.codeIn K cd4 "look_machine" = true) (k4:W.keepIn K (.ref f4)=true)
  (a5:W.nsIn K mainGlobals "gone" = some (some (.ref f5))) (l5:K.lookup f5=some ⟨oc5,od5,.func (FO "gone" (top 18) kV5 dc5 pm5 an5 cd5 ct5),sl5⟩) (c5:W.codeIn K cd5 "gone" = true) (k5:W.keepIn K (.ref f5)=true)
  (a6:W.nsIn K mainGlobals "cost_of" = some (some (.ref f6))) (l6:K.lookup f6=some ⟨oc6,od6,.func (FO "cost_of" (top 19) kV6 dc6 pm6 an6 cd6 ct6),sl6⟩) (c6:W.codeIn K cd6 "cost_of" = true) (k6:W.keepIn K (.ref f6)=true)
  (a7:W.nsIn K mainGlobals "deeds_from" = some (some (.ref f7))) (l7:K.lookup f7=some ⟨oc7,od7,.func (FO "deeds_from" (top 20) kV7 dc7 pm7 an7 cd7 ct7),sl7⟩) (c7:W.codeIn K cd7 "deeds_from" = true) (k7:W.keepIn K (.ref f7)=true)
  (a8:W.nsIn K mainGlobals "came_by" = some (some (.ref f8))) (l8:K.lookup f8=some ⟨oc8,od8,.func (FO "came_by" (top 21) kV8 dc8 pm8 an8 cd8 ct8),sl8⟩) (c8:W.codeIn K cd8 "came_by" = true) (k8:W.keepIn K (.ref f8)=true)
  (a9:W.nsIn K mainGlobals "reached" = some (some (.ref f9))) (l9:K.lookup f9=some ⟨oc9,od9,.func (FO "reached" (top 22) kV9 dc9 pm9 an9 cd9 ct9),sl9⟩) (c9:W.codeIn K cd9 "reached" = true) (k9:W.keepIn K (.ref f9)=true)
  (a10:W.nsIn K mainGlobals "_law_cell" = some (some (.ref f10))) (l10:K.lookup f10=some ⟨oc10,od10,.func (FO "_law_cell" (top 24) kV10 dc10 pm10 an10 cd10 ct10),sl10⟩) (c10:W.codeIn K cd10 "_law_cell" = true) (k10:W.keepIn K (.ref f10)=true)
  (a11:W.nsIn K mainGlobals "_law_mix" = some (some (.ref f11))) (l11:K.lookup f11=some ⟨oc11,od11,.func (FO "_law_mix" (top 25) kV11 dc11 pm11 an11 cd11 ct11),sl11⟩) (c11:W.codeIn K cd11 "_law_mix" = true) (k11:W.keepIn K (.ref f11)=true)
  (a12:W.nsIn K mainGlobals "_law_machine" = some (some (.ref f12))) (l12:K.lookup f12=some ⟨oc12,od12,.func (FO "_law_machine" (top 26) kV12 dc12 pm12 an12 cd12 ct12),sl12⟩) (c12:W.codeIn K cd12 "_law_machine" = true) (k12:W.keepIn K (.ref f12)=true)
  (a13:W.nsIn K mainGlobals "_law_row" = some (some (.ref f13))) (l13:K.lookup f13=some ⟨oc13,od13,.func (FO "_law_row" (top 27) kV13 dc13 pm13 an13 cd13 ct13),sl13⟩) (c13:W.codeIn K cd13 "_law_row" = true) (k13:W.keepIn K (.ref f13)=true)
  (a14:W.nsIn K mainGlobals "_law_reached" = some (some (.ref f14))) (l14:K.lookup f14=some ⟨oc14,od14,.func (FO "_law_reached" (top 28) kV14 dc14 pm14 an14 cd14 ct14),sl14⟩) (c14:W.codeIn K cd14 "_law_reached" = true) (k14:W.keepIn K (.ref f14)=true)
  (a15:W.nsIn K mainGlobals "_law_refusal" = some (some (.ref f15))) (l15:K.lookup f15=some ⟨oc15,od15,.func (FO "_law_refusal" (top 29) kV15 dc15 pm15 an15 cd15 ct15),sl15⟩) (c15:W.codeIn K cd15 "_law_refusal" = true) (k15:W.keepIn K (.ref f15)=true)
  (a16:W.nsIn K mainGlobals "_law_good" = some (some (.ref f16))) (l16:K.lookup f16=some ⟨oc16,od16,.func (FO "_law_good" (top 30) kV16 dc16 pm16 an16 cd16 ct16),sl16⟩) (c16:W.codeIn K cd16 "_law_good" = true) (k16:W.keepIn K (.ref f16)=true)
  (a17:W.nsIn K mainGlobals "_law_spoilt" = some (some (.ref f17))) (l17:K.lookup f17=some ⟨oc17,od17,.func (FO "_law_spoilt" (top 31) kV17 dc17 pm17 an17 cd17 ct17),sl17⟩) (c17:W.codeIn K cd17 "_law_spoilt" = true) (k17:W.keepIn K (.ref f17)=true)
  (a18:W.nsIn K mainGlobals "_law_told" = some (some (.ref f18))) (l18:K.lookup f18=some ⟨oc18,od18,.func (FO "_law_told" (top 32) kV18 dc18 pm18 an18 cd18 ct18),sl18⟩) (c18:W.codeIn K cd18 "_law_told" = true) (k18:W.keepIn K (.ref f18)=true)
  (a19:W.nsIn K mainGlobals "law" = some (some (.ref f19))) (l19:K.lookup f19=some ⟨oc19,od19,.func (FO "law" (top 33) kV19 dc19 pm19 an19 cd19 ct19),sl19⟩) (c19:W.codeIn K cd19 "law" = true) (k19:W.keepIn K (.ref f19)=true)
  (i0:W.nsIn K mainGlobals "MOST_PLACES" = some (some (.int 200 t0)))
  (i1:W.nsIn K mainGlobals "MOST_KINDS" = some (some (.int 8 t1)))
  (i2:W.nsIn K mainGlobals "MOST_DEEDS" = some (some (.int 600 t2)))
  (i3:W.nsIn K mainGlobals "MOST_COST" = some (some (.int 1000 t3)))
  (z0:W.nsIn K mainGlobals "ValueError" = some none)
  (z1:W.nsIn K mainGlobals "all" = some none)
  (z2:W.nsIn K mainGlobals "bool" = some none)
  (z3:W.nsIn K mainGlobals "enumerate" = some none)
  (z4:W.nsIn K mainGlobals "int" = some none)
  (z5:W.nsIn K mainGlobals "isinstance" = some none)
  (z6:W.nsIn K mainGlobals "len" = some none)
  (z7:W.nsIn K mainGlobals "list" = some none)
  (z8:W.nsIn K mainGlobals "max" = some none)
  (z9:W.nsIn K mainGlobals "min" = some none)
  (z10:W.nsIn K mainGlobals "range" = some none)
  (z11:W.nsIn K mainGlobals "set" = some none)
  (z12:W.nsIn K mainGlobals "sorted" = some none)
  (z13:W.nsIn K mainGlobals "sum" = some none)
  (z14:W.nsIn K mainGlobals "tuple" = some none)
  {qP qM qR qC qD qF:Addr} {cdM cdR cdC:ClassData}
  (xP:W.nsIn K mainGlobals "PurseError" = some (some (.ref qP)))
  (xM:W.nsIn K mainGlobals "BadMachine" = some (some (.ref qM)))
  (xR:W.nsIn K mainGlobals "BadRow" = some (some (.ref qR)))
  (xC:W.nsIn K mainGlobals "BadPrices" = some (some (.ref qC)))
  (xD:W.nsIn K mainGlobals "BadModel" = some (some (.ref qD)))
  (xF:W.nsIn K mainGlobals "BadForm" = some (some (.ref qF)))
  (y4:W.specialIn K (.builtin "object.__class__") "__get__" = some (some (.builtin "getset_descriptor.__get__"))) (y5:W.takesIn K (.builtin "object.__class__")=some true)
  (yXM:W.excIn K qM bmV "ValueError.__new__" = true) (yEM:W.exmOne K (.ref qM) (.ref qP)=some true) (y1M:W.clsIn K qM=some cdM) (y2M:W.findIn K (.ref qM) "__getattribute__" = some (some (.builtin "BaseException.__getattribute__"))) (y7M:W.findIn K (.ref qM) "__getattr__" = some none) (y3M:W.findIn K (.ref qM) "__class__" = some (some (.builtin "object.__class__"))) (y6M:W.mroIn K qM (.type "object")=some true) (y8M:W.mroIn K qM (.type "BaseException")=some true)
  (yMM:W.kitOne K (.ref qM) (.ref qM)=some true)    (yMR:W.kitOne K (.ref qM) (.ref qR)=some false)    (yMC:W.kitOne K (.ref qM) (.ref qC)=some false)    (yMD:W.kitOne K (.ref qM) (.ref qD)=some false)    (yMF:W.kitOne K (.ref qM) (.ref qF)=some false) (yMV:W.kitOne K (.ref qM) (.type "ValueError")=some true)
  (yXR:W.excIn K qR bmV "ValueError.__new__" = true) (yER:W.exmOne K (.ref qR) (.ref qP)=some true) (y1R:W.clsIn K qR=some cdR) (y2R:W.findIn K (.ref qR) "__getattribute__" = some (some (.builtin "BaseException.__getattribute__"))) (y7R:W.findIn K (.ref qR) "__getattr__" = some none) (y3R:W.findIn K (.ref qR) "__class__" = some (some (.builtin "object.__class__"))) (y6R:W.mroIn K qR (.type "object")=some true) (y8R:W.mroIn K qR (.type "BaseException")=some true)
  (yRM:W.kitOne K (.ref qR) (.ref qM)=some false)    (yRR:W.kitOne K (.ref qR) (.ref qR)=some true)    (yRC:W.kitOne K (.ref qR) (.ref qC)=some false)    (yRD:W.kitOne K (.ref qR) (.ref qD)=some false)    (yRF:W.kitOne K (.ref qR) (.ref qF)=some false) (yRV:W.kitOne K (.ref qR) (.type "ValueError")=some true)
  (yXC:W.excIn K qC bmV "ValueError.__new__" = true) (yEC:W.exmOne K (.ref qC) (.ref qP)=some true) (y1C:W.clsIn K qC=some cdC) (y2C:W.findIn K (.ref qC) "__getattribute__" = some (some (.builtin "BaseException.__getattribute__"))) (y7C:W.findIn K (.ref qC) "__getattr__" = some none) (y3C:W.findIn K (.ref qC) "__class__" = some (some (.builtin "object.__class__"))) (y6C:W.mroIn K qC (.type "object")=some true) (y8C:W.mroIn K qC (.type "BaseException")=some true)
  (yCM:W.kitOne K (.ref qC) (.ref qM)=some false)    (yCR:W.kitOne K (.ref qC) (.ref qR)=some false)    (yCC:W.kitOne K (.ref qC) (.ref qC)=some true)    (yCD:W.kitOne K (.ref qC) (.ref qD)=some false)    (yCF:W.kitOne K (.ref qC) (.ref qF)=some false) (yCV:W.kitOne K (.ref qC) (.type "ValueError")=some true) :
  ∃fd:FuncData,(∀(s:Shared) (u:Value),BindsTo s fd ⟨[u],[]⟩ [("_law_script",u)])/\∀base:Heap,K.In base->base.Ns mainGlobals mg->FnOk P w K mg base (CX1 P w) 9 fa fd ["_law_script"] (spV K 1 f_law):=by
 have T:Txt K mg:=⟨W.mg_none_of X G z0,W.mg_none_of X G z1,W.mg_none_of X G z2,W.mg_none_of X G z3,W.mg_none_of X G z4,W.mg_none_of X G z5,W.mg_none_of X G z6,W.mg_none_of X G z7,W.mg_none_of X G z8,W.mg_none_of X G z9,W.mg_none_of X G z10,W.mg_none_of X G z11,W.mg_none_of X G z12,W.mg_none_of X G z13,W.mg_none_of X G z14,
  ⟨t0,W.mg_of X G i0⟩,⟨t1,W.mg_of X G i1⟩,⟨t2,W.mg_of X G i2⟩,⟨t3,W.mg_of X G i3⟩,
  bV a0 l0 c0 k0,bV a1 l1 c1 k1,bV a2 l2 c2 k2,bV a3 l3 c3 k3,bV a4 l4 c4 k4,bV a5 l5 c5 k5,bV a6 l6 c6 k6,bV a7 l7 c7 k7,bV a8 l8 c8 k8,bV a9 l9 c9 k9,bV a10 l10 c10 k10,bV a11 l11 c11 k11,bV a12 l12 c12 k12,bV a13 l13 c13 k13,bV a14 l14 c14 k14,bV a15 l15 c15 k15,bV a16 l16 c16 k16,bV a17 l17 c17 k17,bV a18 l18 c18 k18,bV a19 l19 c19 k19,⟨qP,qM,qR,qC,qD,qF,xP,W.mg_of X G xP,W.mg_of X G xM,W.mg_of X G xR,W.mg_of X G xC,W.mg_of X G xD,W.mg_of X G xF,xM,yXM,yEM,⟨by rw [y1M];rfl,y2M,y7M,y3M,y4,y5,y6M,y8M⟩,yMM,yMR,yMC,yMD,yMF,yMV,xR,yXR,yER,⟨by rw [y1R];rfl,y2R,y7R,y3R,y4,y5,y6R,y8R⟩,yRM,yRR,yRC,yRD,yRF,yRV,xC,yXC,yEC,⟨by rw [y1C];rfl,y2C,y7C,y3C,y4,y5,y6C,y8C⟩,yCM,yCR,yCC,yCD,yCF,yCV⟩⟩
 obtain ⟨f,fd,e,hb,hF⟩:=aM1 (P:=P) (w:=w) T.d_law X G eF rfl rfl (by decide) (fun _ _ _ _ _ _ us hl=>match us,hl with | [_],_=>rfl) (fun base kb nb=>aMd T base kb nb)
 have e:=hfa.symm.trans e
 cases e
 exact ⟨fd,fun s u=>hb s [u] rfl,hF⟩
theorem walk {l:PySem.W.OpenLaw} {q:Program} {loose:List Str} {XP:(Str->Option Value)->Heap->Prop} {YP:World->Heap->Prop} {d:DefRec} {K:Params->FG} (hn:l.most=some 63) (hdf:d.params.defaults=[])
  (hY:∀(w:World) (h:Heap),YP w h->(K w.params).In h)
  (F:∀(w:World) (mg:Y6) (fa:Addr) (h:Heap),(K w.params).In h->h.Ns mainGlobals mg->mg d.name=some (.ref fa) ->
   ∃fd:FuncData,(∀(s:Shared) (u:Value),BindsTo s fd ⟨[u],[]⟩ [("_law_script",u)])/\∀base:Heap,(K w.params).In base->base.Ns mainGlobals mg->FnOk l.prog w (K w.params) mg base (CX1 l.prog w) 9 fa fd ["_law_script"] (spV (K w.params) 1 f_law))
  (hK:∀p:Params,nO (K p)=true):PySem.W.WalkO q loose XP YP l.row.toRowW d [] (fun f vs=>PySem.call f vs) :=
 L2.walk_of (n:=63) (k:=9) (x := "_law_script") (CX:=fun w=>CX1 l.prog w) (sp:=fun w=>spV (K w.params) 1 f_law) hn (by decide) hdf ⟨rfl,by decide,by decide⟩ hY F (fun w H a ns hl _ hS=>aI8 (hK w.params) aRh hS) fun _ _ _ _ _ z=>aGh z
end VL.K01
namespace PySem.W.Fast
def tw9839261813383254254:=()
def tw18094171197846428484:=()
def tw15905469606414028691:=()
def tw15382179328193314491:=()
def tw15524672356340364323:=()
def tw11940487293684933075:=()
def tw6143776678271867544:=()
def tw13014809580729073597:=()
def tw2155028006173854070:=()
def tw13300696214357296116:=()
def tw1457174058727296088:=()
def tw7014227446827097284:=()
def tw1703569472562690856:=()
def tw2377941928061484501:=()
def tw10812862170445931766:=()
def tw15043611565314350546:=()
def tw2598280980139558893:=()
def tw12730255816746168659:=()
def tw17327199652715341553:=()
def tw4875766307202782150:=()
def tw10105008718176389748:=()
def tw9793953297725655447:=()
def tw8339138604363018863:=()
def tw16920600683915750492:=()
def tw3261353702658511217:=()
def tw15472743592077371476:=()
def tw12184593641348413244:=()
def tw4184669876156133756:=()
def tw8006673265858821268:=()
def tw46642920199468230:=()
def tw2888928154875606747:=()
def tw6963562065250656572:=()
def tw6323506377858433956:=()
def tw13430064643585973461:=()
def tw15400526612921555945:=()
def tw10966611187962164579:=()
def tw3102318336297891933:=()
def tw4505358168660774549:=()
def tw10016868650415156009:=()
def tw5269517277018526971:=()
def tw16640192511632328649:=()
def tw14537867046571185111:=()
def tw14354251926593179696:=()
def tw2530266973481095001:=()
def tw1267346509330774961:=()
def tw10041363367985144399:=()
def tw14205647112429213551:=()
def tw12504248315964173227:=()
def tw5984376430321280623:=()
def tw17459983905820299087:=()
def tw13263491253122911989:=()
def tw3116012602198127989:=()
def tw13689763868722875730:=()
def tw18341229105552623236:=()
def tw12584698315605298634:=()
def tw11558973558670162341:=()
def tw12161619088496959494:=()
def tw13375669108390999678:=()
def tw16140997078321864906:=()
def tw17006360348459160355:=()
def tw16080537308120859161:=()
def tw11991286747097427497:=()
def tw9331273597854679941:=()
def tw18112316839684375888:=()
def tw11398516492964012082:=()
def tw8282303380095376107:=()
def tw4408695597259802906:=()
def tw15637721127068636936:=()
def tw9544079739056913578:=()
def tw6652766295355313470:=()
def tw11130221378247236438:=()
def tw8580072688334223920:=()
def tw12795554537218495760:=()
def tw4371794322092938229:=()
def tw739438197223088834:=()
def tw5392329877492407810:=()
def tw13407998312404615166:=()
def tw11700084020204725813:=()
def tw16208434747136694668:=()
def tw16044153292821922037:=()
def tw284800606252526672:=()
def tw13864119219338361431:=()
def tw19076843682647007:=()
def tw8928025445076362270:=()
def tw13128755755493851591:=()
def tw11514572728576168243:=()
def tw5498136135255749091:=()
def tw4616793681626139171:=()
def tw2341754724329776965:=()
def tw14611939714133693442:=()
def tw11479142972437185853:=()
def tw8610431762825528111:=()
def tw13422611954597361592:=()
def tw18235908197819390162:=()
def tw11417899087117768649:=()
def tw2869107510629584852:=()
def tw15874116101304254289:=()
def tw16177873897284417923:=()
def tw6660612242103272523:=()
def tw6303629354597296:=()
def tw12252820133583098771:=()
def tw11670358434897382093:=()
def tw17097939630448167072:=()
def tw4399826765465162652:=()
def tw18000046520916625000:=()
def tw9766964041736557027:=()
def tw11153385815600626776:=()
def tw14341691497957795685:=()
def tw1857822611603629513:=()
def tw17186827415671661444:=()
def tw492765465270297051:=()
def tw16070114079577312357:=()
def tw1740969921474649489:=()
def tw2181303303035453985:=()
def tw11268678760702523938:=()
def tw1072232233636684177:=()
def tw13547176600827662136:=()
def tw1857436385058706590:=()
def tw17789244203221941691:=()
def tw8221491381646683473:=()
end PySem.W.Fast
open PySem PySem.W PyProof.Rows
set_option maxRecDepth 100000 in
set_option maxHeartbeats 0 in
theorem PySem.Challenge.cw_pursehall_k01_machines_holds : PySem.Challenge.rw_pursehall_k01_machines.Holds := by
 w_on;o_law;k_head;(case hw=>w_witness2)
 k_fill
 refine VL.K01.walk (l:=PySem.Challenge.rw_pursehall_k01_machines) rfl rfl (fun w h Y=>PySem.W.kIn_of Y) ?F ?hNL
 case F =>
  intro w mg fa h KX G hmg
  refine' VL.K01.all_mk KX G hmg ?a0 ?l0 ?c0 ?k0 ?a1 ?l1 ?c1 ?k1 ?a2 ?l2 ?c2 ?k2 ?a3 ?l3 ?c3 ?k3 ?a4 ?l4 ?c4 ?k4 ?a5 ?l5 ?c5 ?k5 ?a6 ?l6 ?c6 ?k6 ?a7 ?l7 ?c7 ?k7 ?a8 ?l8 ?c8 ?k8 ?a9 ?l9 ?c9 ?k9 ?a10 ?l10 ?c10 ?k10 ?a11 ?l11 ?c11 ?k11 ?a12 ?l12 ?c12 ?k12 ?a13 ?l13 ?c13 ?k13 ?a14 ?l14 ?c14 ?k14 ?a15 ?l15 ?c15 ?k15 ?a16 ?l16 ?c16 ?k16 ?a17 ?l17 ?c17 ?k17 ?a18 ?l18 ?c18 ?k18 ?a19 ?l19 ?c19 ?k19 ?i0 ?i1 ?i2 ?i3 ?z0 ?z1 ?z2 ?z3 ?z4 ?z5 ?z6 ?z7 ?z8 ?z9 ?z10 ?z11 ?z12 ?z13 ?z14 ?xP ?xM ?xR ?xC ?xD ?xF ?y4 ?y5 ?yXM ?yEM ?y1M ?y2M ?y7M ?y3M ?y6M ?y8M ?yMM ?yMR ?yMC ?yMD ?yMF ?yMV ?yXR ?yER ?y1R ?y2R ?y7R ?y3R ?y6R ?y8R ?yRM ?yRR ?yRC ?yRD ?yRF ?yRV ?yXC ?yEC ?y1C ?y2C ?y7C ?y3C ?y6C ?y8C ?yCM ?yCR ?yCC ?yCD ?yCF ?yCV
  any_goals first | k_is | k_exc | kts_exm | kit_is
 case hNL=>intro p;rfl
end
