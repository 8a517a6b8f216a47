import PyProof.Rows.All
import Wide.All
import OpenK.AllK
import Wide.FinOn
import PyProof.EqAt
import PyProof.EqKinds
import PyProof.TupleCall
import PyProof.TupleKey
import KE.KSortTup
import Lean
import PySem.Challenge.RW_pursehall_k20_whole_least_price
set_option Elab.async false
set_option maxRecDepth 100000
set_option maxHeartbeats 8000000
set_option linter.all false
set_option exponentiation.threshold 500
abbrev FG:=PySem.W.Frag
abbrev LQ:=List (Int×Int)
abbrev LI:=List (List Int)
abbrev Y9:=PySem.Value->PySem.Shared->Prop
abbrev Y8:=List (PySem.Addr×PySem.Obj)
abbrev Y7:=List (List Int×PySem.Addr)
abbrev Y6:=PySem.Str->Option PySem.Value
abbrev Y5:=List (List PySem.Addr)
abbrev Y4:=List (Option Nat)
abbrev Y3:=Array (Int×PySem.Value)
abbrev Y2:=List PySem.Addr
abbrev Y1:=List PySem.Value
abbrev Y0:=List Int
abbrev T0:=List Nat
section
namespace L2
open PySem PySem.Spec PyProof.Rows
abbrev Key:=Sum Int Str
def xH:Key->Value->Bool
 | .inl k,v=>Value.isInt k v
 | .inr x,v=>Value.isStrOf x v
def aV4 (w:World):Key->Int
 | .inl k=>hashInt k
 | .inr x=>hashStr w x
theorem cY:∀ {k:Key} {v:Value},xH k v=true->(∃i t,k=Sum.inl i/\v=Value.int i t)\/(∃x t,k=Sum.inr x/\v=Value.str x t)
 | .inl i,v,h=>by
  obtain ⟨t,e⟩:=Value.isInt_shape (k:=i) (v:=v) h
  exact .inl ⟨i,t,rfl,e⟩
 | .inr x,v,h=>by
  obtain ⟨t,e⟩:=Value.isStrOf_shape (x:=x) (v:=v) h
  exact .inr ⟨x,t,rfl,e⟩
theorem aGm (i:Int) (t:Tok):xH (.inl i) (.int i t)=true:=by simp [xH,Value.isInt]
theorem aGd (x:Str) (t:Tok):xH (.inr x) (.str x t)=true:=by simp [xH,Value.isStrOf]
theorem aQ3 (a b:Int):decide ((Sum.inl a:Key)=Sum.inl b)=(a == b):=by
 by_cases e:a=b
 ·subst e;simp
 ·have h:¬ (Sum.inl a:Key)=Sum.inl b:=fun q=>e (Sum.inl.inj q)
  rw [decide_eq_false h]
  exact (beq_eq_false_iff_ne.mpr e).symm
theorem aPk (a b:Str):decide ((Sum.inr a:Key)=Sum.inr b)=decide (a=b):=by
 by_cases e:a=b
 ·subst e;simp
 ·have h:¬ (Sum.inr a:Key)=Sum.inr b:=fun q=>e (Sum.inr.inj q)
  rw [decide_eq_false h,decide_eq_false e]
theorem aRs (a:Int) (b:Str):decide ((Sum.inl a:Key)=Sum.inr b)=false:=decide_eq_false (fun q=>nomatch q)
theorem aPo (a:Str) (b:Int):decide ((Sum.inr a:Key)=Sum.inl b)=false:=decide_eq_false (fun q=>nomatch q)
def dF (prog:Program) (w:World):PySem.KeyKind prog w Key where
 is:=xH
 hash:=aV4 w
 inj:=fun v a b ha hb=>by
  rcases cY ha with ⟨i,t,rfl,rfl⟩ | ⟨x,t,rfl,rfl⟩
  ·rcases cY hb with ⟨j,u,rfl,e⟩ | ⟨y,u,rfl,e⟩
   ·injection e with e1 _;rw [e1]
   ·exact nomatch e
  ·rcases cY hb with ⟨j,u,rfl,e⟩ | ⟨y,u,rfl,e⟩
   ·exact nomatch e
   ·injection e with e1 _;rw [e1]
 byValue:=fun k v h=>by
  rcases cY h with ⟨i,t,rfl,rfl⟩ | ⟨x,t,rfl,rfl⟩<;>rfl
 pyHash:=fun hv h=>by
  rcases cY hv with ⟨i,t,rfl,rfl⟩ | ⟨x,t,rfl,rfl⟩
  ·exact wpAny_pyHash_int h
  ·exact wpAny_pyHash_str h
 eqBool:=fun hu hv h=>by
  rcases cY hu with ⟨i,t,rfl,rfl⟩ | ⟨x,t,rfl,rfl⟩
  ·rcases cY hv with ⟨j,u,rfl,rfl⟩ | ⟨y,u,rfl,rfl⟩
   ·rw [aQ3] at h;exact wpAny_eqBool_int h
   ·rw [aRs] at h;exact SeqAt.EqAt.int_str i t y u _ _ _ _ h
  ·rcases cY hv with ⟨j,u,rfl,rfl⟩ | ⟨y,u,rfl,rfl⟩
   ·rw [aPo] at h;exact SeqAt.EqAt.str_int x t j u _ _ _ _ h
   ·rw [aPk] at h;exact wpAny_eqBool_str h
 «strs» :=fun k x t v h=>by
  rcases cY h with ⟨i,u,rfl,e⟩ | ⟨y,u,rfl,e⟩
  ·exact nomatch e
  ·injection e with e1 _
   subst e1
   cases v<;>rfl
theorem aAd (prog:Program) (w:World) (i:Int) (t:Tok):(dF prog w).is (.inl i) (.int i t)=true:=aGm i t
theorem aAe (prog:Program) (w:World) (x:Str) (t:Tok):(dF prog w).is (.inr x) (.str x t)=true:=aGd x t
end L2
namespace L2
open PySem PySem.Spec PyProof.Rows
inductive V where
 | non | bl (b:Bool) | int (i:Int) | str (x:Str) | byt (b:Array UInt8) | flt (b:UInt64) | ref (a:Addr) | ty (n:String)
 deriving DecidableEq
def RelV:V->Value->Prop
 | .non,u=>u=Value.none
 | .bl b,u=>u=Value.bool b
 | .int i,u=>∃t,u=Value.int i t
 | .str x,u=>∃t,u=Value.str x t
 | .byt b,u=>∃t,u=Value.bytes b t
 | .flt b,u=>∃t,u=Value.float b t
 | .ref a,u=>u=Value.ref a
 | .ty n,u=>u=Value.type n
abbrev Vals:List V->Y1->Prop:=Paired RelV
theorem Vals.length {xs:List V} {us:Y1} (r:Vals xs us):xs.length=us.length:=Paired.length r
theorem Vals.get:∀ {xs:List V} {us:Y1} {i:Nat} {x:V},Vals xs us->xs[i]?=some x->∃u,us[i]?=some u/\RelV x u
 | _,_,_,_,.nil,e=>by simp at e
 | _,_,0,_,.cons r _,e=>by simp at e;subst e;exact ⟨_,rfl,r⟩
 | _,_,i+1,x,.cons _ t,e=>by
  obtain ⟨u,h1,h2⟩:=Vals.get (i:=i) (x:=x) t (by simpa using e)
  exact ⟨u,by simpa using h1,h2⟩
theorem Vals.set {x:V} {u:Value} (r:RelV x u):∀ {xs:List V} {us:Y1} (i:Nat),Vals xs us->Vals (xs.set i x) (us.set i u)
 | _,_,_,.nil=>.nil
 | _,_,0,.cons _ t=>.cons r t
 | _,_,i+1,.cons q t=>.cons q (Vals.set r i t)
theorem Vals.append:∀ {xs ys:List V} {us ws:Y1},Vals xs us->Vals ys ws->Vals (xs++ys) (us++ws)
 | _,_,_,_,.nil,s=>s
 | _,_,_,_,.cons r t,s=>.cons r (Vals.append t s)
theorem Vals.take:∀ {xs:List V} {us:Y1} (n:Nat),Vals xs us->Vals (xs.take n) (us.take n)
 | _,_,0,_=>.nil
 | _,_,_+1,.nil=>.nil
 | _,_,n+1,.cons r t=>.cons r (Vals.take n t)
theorem Vals.drop:∀ {xs:List V} {us:Y1} (n:Nat),Vals xs us->Vals (xs.drop n) (us.drop n)
 | _,_,0,r=>r
 | _,_,_+1,.nil=>.nil
 | _,_,n+1,.cons _ t=>Vals.drop n t
def tV:Option V->Option Value->Prop
 | some v,some u=>RelV v u
 | none,none=>True
 | _,_=>False
def KV {κ:Type}:List (κ×V)->List (κ×Value)->Prop:=Paired fun (p:κ×V) (q:κ×Value)=>p.1=q.1/\RelV p.2 q.2
def kV:Key->V
 | .inl i=>.int i
 | .inr x=>.str x
inductive HO where
 | lst (xs:List V)
 | tup (xs:List V)
 | dK (kvs:List (Key×V)) | dT (kvs:List (List Key×V))
 | set (S:Int->Bool) (n:Nat)
 | ins (C dx:Addr) (fs:List (Str×V))
 | own (x:Addr)
 | xd (fs:List (Str×V))
 | met (f x:Addr)
 | rng (lo hi:Int)
 | frz (o:Obj) (u:HO)
 | tbl (ps:Array Value)
 | ext (φ:Heap->Prop)
abbrev Hp:=Addr->Option HO
def upd (H:Hp) (a:Addr) (o:HO):Hp:=fun b=>if b=a then some o else H b
theorem bU {H:Hp} {a:Addr} {o:HO}:upd H a o a=some o:=by unfold upd;rw [if_pos rfl]
theorem bF {H:Hp} {a b:Addr} {o:HO} (h:b ≠ a):upd H a o b=H b:=by unfold upd;rw [if_neg h]
theorem aSy {H:Hp} {a b:Addr} {o u:HO} (h:H a=some o) (h':H b=some u) (d:o ≠ u):a ≠ b:=by
 intro e;subst e;rw [h] at h';exact d (Option.some.inj h')
theorem bO {H:Hp} {a b:Addr} {o:HO} (h:H a=some o) (h':H b=none):a ≠ b:=by
 intro e;subst e;rw [h] at h';cases h'
section
variable (P:Program) (w:World)
def dA (H:Hp) (h:Heap) (a:Addr):HO->Prop
 | .lst xs=>xs.length<=sizeLine/\∃(its:Y1) (n:Nat),Vals xs its/\h.get? a=some { cls:=.type "list",data:=.seq its.toArray n }
 | .tup xs=>xs.length<=sizeLine/\∃its:Y1,Vals xs its/\IsTup h a its.toArray
 | .dK kvs=>kvs.length<=sizeLine/\(a == sysModules)=false/\∃vs,KV kvs vs/\h.DictOf (dF P w) a vs
 | .dT kvs=>kvs.length<=sizeLine/\(a == sysModules)=false/\∃xs:List (List Key×Addr×Value),
   Paired (fun (p:List Key×V) (q:List Key×Addr×Value)=>p.1=q.1/\H q.2.1=some (.tup (p.1.map kV))/\RelV p.2 q.2.2) kvs xs /\
   ∃o es ep,h.get? a=some o/\o.ExactDict/\o.data=.dict es ep/\es.toList=xs.map (entryOfKey (tupleKind (dF P w)))/\(xs.map (·.1)).Nodup
 | .set S n=>h.SetOf (intKind P w) a S n
 | .ins C dx fs=>H dx=some (.own a)/\fs.length<=1000/\dx ≠ a/\h.get? a=some (PySem.W.instObj C dx) /\
   ∃mA,h.Ns1 dx mA/\(∀f,tV (fs.lookup f) (mA f))/\PySem.Within mA (fs.map (·.1))
 | .own _=>∃o,h.get? a=some o
 | .xd fs=>∃mA,h.Ns1 a mA/\∀f,tV (fs.lookup f) (mA f)
 | .rng lo hi=>∃t u v,h.get? a=some { cls:=.type "range",data:=.fields #[.int lo t,.int hi u,.int 1 v] }
 | .frz o u=>h.get? a=some o/\dA H h a u
 | .tbl ps=>h.get? a=some { cls:=.none,data:=.fields ps }
 | .met f x=>h.get? a=some (PySem.W.methodObj (.ref f) (.ref x))
 | .ext φ=>φ h/\(∃o,h.get? a=some o)/\∀h1 h2:Heap,φ h1->(∀o,h1.get? a=some o->h2.get? a=some o)->φ h2
def HOk (H:Hp) (h:Heap):Prop:=∀a o,H a=some o->dA P w H h a o
end
section
variable {P:Program} {w:World} {H H':Hp} {h h':Heap} {a:Addr} {o:HO}
theorem dA.lt (x:dA P w H h a o):a<h.objs.size:=by
 cases o with
 | lst xs=>obtain ⟨_,_,_,_,e⟩:=x;exact Heap.lt_size e
 | tup xs=>obtain ⟨_,_,_,p⟩:=x;exact p.lt
 | dK kvs=>obtain ⟨_,_,_,_,o,_,_,e,_⟩:=x;exact Heap.lt_size e
 | dT kvs=>obtain ⟨_,_,_,_,o,_,_,e,_⟩:=x;exact Heap.lt_size e
 | set S n=>obtain ⟨o,_,_,_,e,_⟩:=x;exact Heap.lt_size e
 | ins C dx fs=>obtain ⟨_,_,_,e,_⟩:=x;exact Heap.lt_size e
 | own y=>obtain ⟨_,e⟩:=x;exact Heap.lt_size e
 | xd fs=>obtain ⟨_,⟨_,_,_,e,_⟩,_⟩:=x;exact Heap.lt_size e
 | rng lo hi=>obtain ⟨_,_,_,e⟩:=x;exact Heap.lt_size e
 | frz ob u=>obtain ⟨e,_⟩:=x;exact Heap.lt_size e
 | tbl ps=>exact Heap.lt_size (show h.get? a=some _ from x)
 | met f y=>exact Heap.lt_size (show h.get? a=some _ from x)
 | ext φ=>obtain ⟨_,⟨_,e⟩,_⟩:=x;exact Heap.lt_size e
theorem Paired.aR5 {α β:Type} {F G:α->β->Prop}:∀ {l₁:List α} {l₂:List β},Paired F l₁ l₂->(∀a b,F a b->G a b)->Paired G l₁ l₂
 | _,_,.nil,_=>.nil
 | _,_,.cons r t,f=>.cons (f _ _ r) (Paired.aR5 t f)
theorem dA.stay (x:dA P w H h a o) (k:∀b u,(b=a\/H b=some (.own a))->h.get? b=some u->h'.get? b=some u)
  (ho:∀b,H b=some (.own a)->H' b=some (.own a)) (ht:∀b xs,H b=some (.tup xs)->H' b=some (.tup xs)):dA P w H' h' a o:=by
 induction o with
 | lst xs=>obtain ⟨z,its,n,r,e⟩:=x;exact ⟨z,its,n,r,k _ _ (.inl rfl) e⟩
 | tup xs=>obtain ⟨z,its,r,ob,e,c⟩:=x;exact ⟨z,its,r,ob,k _ _ (.inl rfl) e,c⟩
 | dK kvs=>obtain ⟨z,y,vs,r,ob,es,ep,e,c⟩:=x;exact ⟨z,y,vs,r,ob,es,ep,k _ _ (.inl rfl) e,c⟩
 | dT kvs =>
  obtain ⟨z,y,xs,r,ob,es,ep,e,c⟩:=x
  exact ⟨z,y,xs,Paired.aR5 r fun p q z=>⟨z.1,ht _ _ z.2.1,z.2.2⟩,ob,es,ep,k _ _ (.inl rfl) e,c⟩
 | set S n=>obtain ⟨ob,es,ep,t,e,c⟩:=x;exact ⟨ob,es,ep,t,k _ _ (.inl rfl) e,c⟩
 | ins C dx fs =>
  obtain ⟨d,z,ne,e,mA,⟨od,es,ep,e2,c⟩,r⟩:=x
  exact ⟨ho _ d,z,ne,k _ _ (.inl rfl) e,mA,⟨od,es,ep,k _ _ (.inr d) e2,c⟩,r⟩
 | own y=>obtain ⟨ob,e⟩:=x;exact ⟨ob,k _ _ (.inl rfl) e⟩
 | xd fs=>obtain ⟨mA,⟨od,es,ep,e,c⟩,r⟩:=x;exact ⟨mA,⟨od,es,ep,k _ _ (.inl rfl) e,c⟩,r⟩
 | rng lo hi=>obtain ⟨t,u,v,e⟩:=x;exact ⟨t,u,v,k _ _ (.inl rfl) e⟩
 | frz ob u ih=>obtain ⟨e,q⟩:=x;exact ⟨k _ _ (.inl rfl) e,ih q⟩
 | tbl ps =>
  have e:h.get? a=some { cls:=.none,data:=.fields ps }:=x
  show h'.get? a=some { cls:=.none,data:=.fields ps }
  exact k a _ (.inl rfl) e
 | met f y =>
  have e:h.get? a=some (PySem.W.methodObj (.ref f) (.ref y)):=x
  show h'.get? a=some (PySem.W.methodObj (.ref f) (.ref y))
  exact k a _ (.inl rfl) e
 | ext φ=>obtain ⟨p,⟨o,e⟩,st⟩:=x;exact ⟨st _ _ p fun o q=>k _ _ (.inl rfl) q,⟨o,k _ _ (.inl rfl) e⟩,st⟩
theorem HOk.lt (x:HOk P w H h) (e:H a=some o):a<h.objs.size:=(x a o e).lt
theorem HOk.fresh (x:HOk P w H h) (e:h.objs.size<=a):H a=none:=by
 cases q:H a with
 | none=>rfl
 | some u=>exact absurd (Nat.lt_of_lt_of_le (x.lt q) e) (Nat.lt_irrefl _)
theorem HOk.kept (x:HOk P w H h) (k:∀b u,h.get? b=some u->h'.get? b=some u):HOk P w H h':=fun a o e =>
 (x a o e).stay (fun b u _ q=>k b u q) (fun _ q=>q) fun _ _ q=>q
theorem HOk.laid (x:HOk P w H h) (k:∀b u,h.get? b=some u->h'.get? b=some u) (hp:h.objs.size<=a) (new:dA P w (upd H a o) h' a o):HOk P w (upd H a o) h':=fun b u e=>by
 have hn:=x.fresh hp
 by_cases hb:b=a
 ·subst hb;rw [bU] at e;cases e;exact new
 ·rw [bF hb] at e
  exact (x b u e).stay (fun c v _ q=>k c v q) (fun c q=>by rw [bF (bO q hn)];exact q) fun c xs q=>by rw [bF (bO q hn)];exact q
end
def Rd (H:Hp) (a:Addr) (u:HO):Prop:=H a=some u\/∃o,H a=some (.frz o u)
theorem Rd.ok {P:Program} {w:World} {H:Hp} {h:Heap} {a:Addr} {u:HO} (r:Rd H a u) (x:HOk P w H h):dA P w H h a u:=by
 rcases r with r | ⟨o,r⟩
 ·exact x a u r
 ·obtain ⟨_,q⟩:=x a _ r
  exact q
def Mut:Option HO->Prop
 | some (.lst _)=>True
 | some (.dK _)=>True
 | some (.dT _)=>True
 | some (.set _ _)=>True
 | some (.ins _ _ _)=>True
 | some (.ext _)=>True
 | _=>False
section
variable {P:Program} {w:World} {H:Hp} {h h':Heap} {x e:Addr} {o':HO}
theorem HOk.write (ok:HOk P w H h) (mu:Mut (H x)) (he:e=x\/H e=some (.own x)) (k:∀b u,b ≠ e->h.get? b=some u->h'.get? b=some u) (heo:∃u,h'.get? e=some u)
  (new:dA P w (upd H x o') h' x o'):HOk P w (upd H x o') h':=fun b u q=>by
 have nown:∀c y,H c=some (.own y)->c ≠ x:=fun c y r z=>by subst z;rw [r] at mu;exact mu
 have ntup:∀c xs,H c=some (.tup xs)->c ≠ x:=fun c xs r z=>by subst z;rw [r] at mu;exact mu
 by_cases hb:b=x
 ·subst hb;rw [bU] at q;cases q;exact new
 ·rw [bF hb] at q
  by_cases hbe:b=e
  ·have q':H b=some (.own x):=by
    rcases he with z | z
    ·exact absurd (hbe.trans z) hb
    ·rw [hbe];exact z
   rw [q] at q';cases q'
   obtain ⟨v,hv⟩:=heo
   exact ⟨v,by rw [hbe];exact hv⟩
  ·refine (ok b u q).stay (fun c v hc r=>k c v ?_ r) (fun c r=>by rw [bF (nown c b r)];exact r) fun c xs r=>by rw [bF (ntup c xs r)];exact r
   rcases hc with rfl | hc
   ·exact hbe
   ·rintro rfl
    rcases he with z | z
    ·exact nown c b hc z
    ·rw [hc] at z;cases z;exact hb rfl
end
structure Un (fs ex:Y2) (H H':Hp) (h h':Heap):Prop where
 keep:∀b o,h.get? b=some o->H b=none->b ∉ fs->b ∉ ex->h'.get? b=some o
 slot:∀b o,h.get? b=some o->H b=none->b∈fs->b ∉ ex->∃sl,h'.get? b=some { o with slots:=sl }
 free:∀b o,h.get? b=some o->H b=none->b ∉ ex->H' b=none
 there:∀b o,h.get? b=some o->b ∉ ex->∃o',h'.get? b=some o'
 tups:∀b xs,H b=some (.tup xs)->H' b=some (.tup xs)
 frzs:∀b o u,H b=some (.frz o u)->H' b=some (.frz o u)
 tbls:∀b ps,H b=some (.tbl ps)->∃more,H' b=some (.tbl (ps++more))
section
variable {fs fs' ex ex':Y2} {H H1 H2:Hp} {h h1 h2 h':Heap} {a x e:Addr} {o:HO}
theorem Un.any (u:Un fs ex H H1 h h1) {b:Addr} {ob:Obj} (q:h.get? b=some ob) (n:H b=none) (hx:b ∉ ex):∃sl,h1.get? b=some { ob with slots:=sl }:=by
 by_cases hb:b∈fs
 ·exact u.slot b ob q n hb hx
 ·exact ⟨ob.slots,u.keep b ob q n hb hx⟩
theorem Un.trans (a:Un fs ex H H1 h h1) (b:Un fs ex H1 H2 h1 h2):Un fs ex H H2 h h2 where
 keep:=fun c ob q n hc hx=>b.keep c ob (a.keep c ob q n hc hx) (a.free c ob q n hx) hc hx
 slot:=fun c ob q n hc hx=>by
  obtain ⟨sl,e1⟩:=a.slot c ob q n hc hx
  obtain ⟨sl',e2⟩:=b.slot c _ e1 (a.free c ob q n hx) hc hx
  exact ⟨sl',e2⟩
 free:=fun c ob q n hx=>by
  obtain ⟨o',e1⟩:=a.there c ob q hx
  exact b.free c o' e1 (a.free c ob q n hx) hx
 there:=fun c ob q hx=>by
  obtain ⟨o',e1⟩:=a.there c ob q hx
  exact b.there c o' e1 hx
 tups:=fun c xs q=>b.tups c xs (a.tups c xs q)
 frzs:=fun c ob xs q=>b.frzs c ob xs (a.frzs c ob xs q)
 tbls:=fun c ps q=>by
  obtain ⟨m1,e1⟩:=a.tbls c ps q
  obtain ⟨m2,e2⟩:=b.tbls c _ e1
  exact ⟨m1++m2,by rw [e2,Array.append_assoc]⟩
theorem Un.kept (k:∀b u,h.get? b=some u->h'.get? b=some u):Un fs ex H H h h' :=
 ⟨fun b ob q _ _ _=>k b ob q,fun b ob q _ _ _=>⟨ob.slots,k b ob q⟩,fun _ _ _ n _=>n,fun b ob q _=>⟨ob,k b ob q⟩,fun _ _ q=>q,fun _ _ _ q=>q,fun _ ps q=>⟨#[],by rw [q];simp⟩⟩
theorem Un.refl:Un fs ex H H h h:=Un.kept fun _ _ q=>q
theorem Un.laid (k:∀b u,h.get? b=some u->h'.get? b=some u) (hp:h.objs.size<=a) (hn:H a=none):Un fs ex H (upd H a o) h h' where
 keep:=fun b u q _ _ _=>k b u q
 slot:=fun b u q _ _ _=>⟨u.slots,k b u q⟩
 free:=fun b u q n _=>by rw [bF (Nat.ne_of_lt (Nat.lt_of_lt_of_le (Heap.lt_size q) hp))];exact n
 there:=fun b u q _=>⟨u,k b u q⟩
 tups:=fun b xs q=>by rw [bF (bO q hn)];exact q
 frzs:=fun b u xs q=>by rw [bF (bO q hn)];exact q
 tbls:=fun b ps q=>⟨#[],by rw [bF (bO q hn),q];simp⟩
theorem Un.write (mu:Mut (H x)) (he:e=x\/H e=some (.own x)) (k:∀b u,b ≠ e->h.get? b=some u->h'.get? b=some u) (heo:∃u,h'.get? e=some u):Un fs ex H (upd H x o) h h':=by
 have hx:∀b,H b=none->b ≠ x:=fun b n z=>by subst z;rw [n] at mu;exact mu
 have hb:∀b,H b=none->b ≠ e:=fun b n z=>by
  subst z
  rcases he with r | r
  ·exact hx b n r
  ·rw [n] at r;cases r
 have hm:∀b u,H b=some u->¬ Mut (some u)->b ≠ x:=fun b u q nm z=>by subst z;rw [q] at mu;exact nm mu
 refine ⟨fun b u q n _ _=>k b u (hb b n) q,fun b u q n _ _=>⟨u.slots,k b u (hb b n) q⟩,fun b u q n _=>by rw [bF (hx b n)];exact n,fun b u q _=>?_,
  fun b xs q=>by rw [bF (hm b _ q fun z=>z)];exact q,fun b u xs q=>by rw [bF (hm b _ q fun z=>z)];exact q,fun b ps q=>⟨#[],by rw [bF (hm b _ q fun z=>z),q];simp⟩⟩
 by_cases hbe:b=e
 ·subst hbe;exact heo
 ·exact ⟨u,k b u hbe q⟩
end
def trk (h:Heap) (H:Hp):Y2:=(List.range h.objs.size).filter fun a=>(H a).isSome
def zM (h:Heap) (H:Hp):Heap:=PySem.W.hideAll h (trk h H)
theorem aF0 (h:Heap) (H:Hp):(zM h H).objs.size=h.objs.size:=PySem.W.hideAll_size _ _
theorem aI9 {h:Heap} {H:Hp} {b:Addr} {o:Obj} (e:h.get? b=some o) (n:H b=none):(zM h H).get? b=some o :=
 PySem.W.hideAll_get _ e fun hm=>by
  have q:(H b).isSome=true:=(List.mem_filter.mp hm).2
  rw [n] at q;simp at q
theorem aMh {h:Heap} {H:Hp} {b:Addr} {o:Obj} (e:(zM h H).get? b=some o):h.get? b=some o/\H b=none:=by
 have e':h.get? b=some o:=PySem.W.of_hideAll (trk h H) e
 refine ⟨e',?_⟩
 cases q:H b with
 | none=>rfl
 | some x =>
  have hm:b∈trk h H:=List.mem_filter.mpr ⟨List.mem_range.mpr (Heap.lt_size e'),by simp [q]⟩
  have z:(zM h H).get? b=none:=PySem.W.hideAll_none (trk h H) hm
  rw [z] at e;cases e
end L2
namespace L2
open PySem PySem.Spec PyProof.Rows
structure Mod (K:FG) (mg:Y6) (base:Heap):Prop where
 kin:K.In base
 glob:base.Ns mainGlobals mg
 blt:∃mb,base.Ns builtinsNs mb/\∀x:Str,x ≠ "__name__" ->mb x=bootBuiltins x
 nolimit:base.NoLimit
structure Cx where
 prog:Program
 w:World
 K:FG
 mg:Str->Option Value
 base:Heap
 A:Around
 N:List Str
 s₀:Shared
 H₀:Hp
 env:Env
 outer:List Env
 stack:List Env
 ex:Y2
 fn:Str->Bool
 calm:Bool
 pn:Y8
 xe:Value->Shared->Prop
def frs (l:List Env):Y2:=l.filterMap (·.frame)
abbrev Cx.fs (X:Cx):Y2:=frs X.outer
def Vis (sc:Scope) (x:Str):Prop:=sc.names.lookup x=some .local\/sc.names.lookup x=some .cell\/sc.names.lookup x=some .free
def Loc (sc:Scope) (x:Str):Prop:=sc.names.lookup x=some .local\/sc.names.lookup x=some .cell
def Look (env:Env) (h:Heap) (m:Y6) (x:Str) (u:Value):Prop :=
 (env.kindOf x=some .local/\m x=some u)\/((env.kindOf x=some .cell\/env.kindOf x=some .free)/\∃c,env.cells.lookup x=some c/\h.IsCell c (some u))
structure Cx.Ok (X:Cx):Prop where
 mod:Mod X.K X.mg X.base
 kind:X.env.scope.kind=.function
 glob:X.env.globals=mainGlobals
 blt:X.env.builtins=builtinsNs
 above:X.s₀.heap.objs.size<=X.env.locals
 inj:∀x y c,X.env.cells.lookup x=some c->X.env.cells.lookup y=some c->x=y
 has:∀x,(X.env.kindOf x=some .cell\/X.env.kindOf x=some .free)->∃c,X.env.cells.lookup x=some c
 cab:∀x c,X.fn x=true->X.env.cells.lookup x=some c->X.s₀.heap.objs.size<=c
 hd:X.calm=true->X.A.handled=none
 frames:X.A.frames=some X.stack
 stk:X.stack=X.outer\/(X.stack=X.env::X.outer/\X.env.frame=some X.env.locals)
 exf:∀b∈X.ex,b ≠ X.env.locals/\∀x c,X.env.cells.lookup x=some c->c ≠ b
 bs:∀b o,X.base.get? b=some o->X.s₀.heap.get? b=some o/\X.H₀ b=none
 bsz:X.base.objs.size<=X.s₀.heap.objs.size
 noex:∀b o,X.base.get? b=some o->b ∉ X.ex
 exfs:∀b∈X.ex,b ∉ X.fs
 funs:X.s₀.heap.FunFrames X.base X.outer
 frf:∀b∈X.fs,X.H₀ b=none
structure Inv (X:Cx) (pins:Y8) (σ:List (Option V)) (H:Hp) (s:Shared):Prop where
 ok:X.Ok
 os:s.os=X.s₀.os
 bare:AllBare s.gens
 base:Un X.fs X.ex X.H₀ H X.s₀.heap s.heap
 loc:∃m,s.heap.Ns X.env.locals m/\∀(i:Nat) (x:Str) (v:V),X.N[i]?=some x->σ[i]?=some (some v)->Vis X.env.scope x->∃u,RelV v u/\Look X.env s.heap m x u
 cell:∀x c,X.env.cells.lookup x=some c->∃v,s.heap.IsCell c v
 free:H X.env.locals=none
 freeC:∀x c,X.env.cells.lookup x=some c->H c=none
 pin:∀p∈X.pn++pins,s.heap.get? p.1=some p.2/\H p.1=none/\p.1 ≠ X.env.locals/\p.1 ∉ X.fs/\∀v,p.2.data ≠ .cell v
 hok:HOk X.prog X.w H s.heap
 len:σ.length=X.N.length
section
variable {X:Cx} {pins:Y8} {σ:List (Option V)} {H H':Hp} {s:Shared} {h':Heap}
theorem Cx.Ok.aWv (ok:X.Ok) {b:Addr} {o:Obj} (e:X.base.get? b=some o):b ∉ X.fs:=fun hb=>by
 have:=(ok.funs.mem hb).1
 rw [e] at this;cases this
theorem Inv.bs (I:Inv X pins σ H s):∀b o,X.base.get? b=some o->s.heap.get? b=some o/\H b=none:=fun b o e =>
 ⟨I.base.keep b o (I.ok.bs b o e).1 (I.ok.bs b o e).2 (I.ok.aWv e) (I.ok.noex b o e),I.base.free b o (I.ok.bs b o e).1 (I.ok.bs b o e).2 (I.ok.noex b o e)⟩
theorem Inv.bk (I:Inv X pins σ H s):∀b o,X.base.get? b=some o->s.heap.get? b=some o:=fun b o e=>(I.bs b o e).1
theorem Inv.mod (I:Inv X pins σ H s):Mod X.K X.mg X.base:=I.ok.mod
theorem Inv.kIn (I:Inv X pins σ H s):X.K.In s.heap:=I.ok.mod.kin.keeps I.bk
theorem Inv.lt (I:Inv X pins σ H s):X.env.locals<s.heap.objs.size:=let ⟨_,hn,_⟩:=I.loc;hn.lt
theorem Inv.sz (I:Inv X pins σ H s):X.s₀.heap.objs.size<=s.heap.objs.size:=Nat.le_trans I.ok.above (Nat.le_of_lt I.lt)
theorem Inv.aWy (I:Inv X pins σ H s) {a:Addr} (h:s.heap.objs.size<=a):a ∉ X.fs:=fun hb=>by
 obtain ⟨_,o,ho,_⟩:=I.ok.funs.mem hb
 exact absurd (Nat.lt_of_lt_of_le (Heap.lt_size ho) (Nat.le_trans I.sz h)) (Nat.lt_irrefl _)
theorem Inv.cne (I:Inv X pins σ H s):∀x c,X.env.cells.lookup x=some c->c ≠ X.env.locals:=fun x c e z=>by
 obtain ⟨v,o,ho,hd⟩:=I.cell x c e
 obtain ⟨m,⟨o',es,ep,ho',hd',_⟩,_⟩:=I.loc
 rw [z,ho'] at ho;cases ho;rw [hd'] at hd;cases hd
theorem Inv.funs (I:Inv X pins σ H s):s.heap.FunFrames X.base X.outer:=by
 have all:∀(l:List Env),(∀b∈frs l,b∈X.fs)->X.s₀.heap.FunFrames X.base l->s.heap.FunFrames X.base l:=by
  intro l
  induction l with
  | nil=>intro _ _;trivial
  | cons env r ih =>
   intro hs hl
   obtain ⟨hk,⟨L,o,hf,hn,ho,hd⟩,hr⟩:=hl
   have hL:L∈X.fs:=hs L (by unfold frs;rw [List.filterMap_cons,hf];exact List.mem_cons_self)
   obtain ⟨sl,e⟩:=I.base.slot L o ho (I.ok.frf L hL) hL fun z=>I.ok.exfs L z hL
   exact ⟨hk,⟨L,_,hf,hn,e,hd⟩,ih (fun b hb=>hs b (by unfold frs;rw [List.filterMap_cons,hf];exact List.mem_cons_of_mem _ hb)) hr⟩
 exact all X.outer (fun _ hb=>hb) I.ok.funs
theorem Inv.stack (I:Inv X pins σ H s):s.heap.FunFrames X.base X.stack:=by
 rcases I.ok.stk with e | ⟨e,hf⟩
 ·rw [e];exact I.funs
 ·rw [e]
  obtain ⟨m,hn,_⟩:=I.loc
  refine .cons (by rw [I.ok.kind];decide) hf hn ?_ I.funs
  exact Heap.get?_none_of_le (Nat.le_trans I.ok.bsz I.ok.above)
theorem Inv.zY (I:Inv X pins σ H s):∀b∈frs X.stack,b∈X.env.locals::X.fs:=fun b hb=>by
 rcases I.ok.stk with e | ⟨e,hf⟩
 ·rw [e] at hb;exact List.mem_cons_of_mem _ hb
 ·rw [e] at hb
  unfold frs at hb
  rw [List.filterMap_cons,hf] at hb
  exact hb
theorem Inv.zX (I:Inv X pins σ H s):∀b∈frs X.stack,H b=none:=fun b hb=>by
 rcases List.mem_cons.mp (I.zY b hb) with e | hb
 ·rw [e];exact I.free
 ·obtain ⟨_,o,ho,_⟩:=I.ok.funs.mem hb
  exact I.base.free b o ho (I.ok.frf b hb) fun z=>I.ok.exfs b z hb
theorem Inv.step {g':Array GenState} {t':Nat} {d':Drawn} {ch:Y2} (I:Inv X pins σ H s)
  (hch:∀b∈ch,(b∈X.ex\/X.s₀.heap.objs.size<=b)/\b ≠ X.env.locals/\(∀x c,X.env.cells.lookup x=some c->c ≠ b)/\∀p∈X.pn++pins,p.1 ≠ b)
  (keep:∀b o,b ≠ X.env.locals->b ∉ X.fs->b ∉ ch->s.heap.get? b=some o->H b=none->h'.get? b=some o)
  (slot:∀b o,b ≠ X.env.locals->b∈X.fs->b ∉ ch->s.heap.get? b=some o->H b=none->∃sl,h'.get? b=some { o with slots:=sl }) (free:∀b o,b ∉ ch->s.heap.get? b=some o->H b=none->H' b=none)
  (there:∀b o,b ∉ ch->s.heap.get? b=some o->∃o',h'.get? b=some o')
  (tups:∀b xs,H b=some (.tup xs)->H' b=some (.tup xs)) (frzs:∀b o u,H b=some (.frz o u)->H' b=some (.frz o u)) (tbls:∀b ps,H b=some (.tbl ps)->∃more,H' b=some (.tbl (ps++more)))
  (ns:∀m,s.heap.Ns X.env.locals m->h'.Ns X.env.locals m) (hok:HOk X.prog X.w H' h') (hg:AllBare g') :
  Inv X pins σ H' { s with heap:=h',gens:=g',drawn:=d',toks:=t' }:=by
 have neL:∀b o,X.s₀.heap.get? b=some o->b ≠ X.env.locals:=fun b o e=>Nat.ne_of_lt (Nat.lt_of_lt_of_le (Heap.lt_size e) I.ok.above)
 have neC:∀b o,X.s₀.heap.get? b=some o->b ∉ X.ex->b ∉ ch:=fun b o e hx hb=>by
  rcases (hch b hb).1 with z | z
  ·exact hx z
  ·exact absurd (Nat.lt_of_lt_of_le (Heap.lt_size e) z) (Nat.lt_irrefl _)
 have cellK:∀x c,X.env.cells.lookup x=some c->∀v,s.heap.IsCell c v->h'.IsCell c v:=fun x c e v ⟨o,ho,hd⟩=>by
  have nch:c ∉ ch:=fun z=>(hch c z).2.2.1 x c e rfl
  by_cases hc:c∈X.fs
  ·obtain ⟨sl,q⟩:=slot c o (I.cne x c e) hc nch ho (I.freeC x c e)
   exact ⟨_,q,hd⟩
  ·exact ⟨o,keep c o (I.cne x c e) hc nch ho (I.freeC x c e),hd⟩
 refine ⟨I.ok,I.os,hg,⟨fun b o e n hb hx=>?_,fun b o e n hb hx=>?_,fun b o e n hx=>?_,fun b o e hx=>?_,fun b xs e=>tups b xs (I.base.tups b xs e),fun b o xs e=>frzs b o xs (I.base.frzs b o xs e),fun b ps e=>?_⟩,?_,fun x c e=>?_,?_,fun x c e=>?_,fun p hp=>?_,hok,I.len⟩
 ·exact keep b o (neL b o e) hb (neC b o e hx) (I.base.keep b o e n hb hx) (I.base.free b o e n hx)
 ·obtain ⟨sl,e1⟩:=I.base.slot b o e n hb hx
  obtain ⟨sl',e2⟩:=slot b _ (neL b o e) hb (neC b o e hx) e1 (I.base.free b o e n hx)
  exact ⟨sl',e2⟩
 ·obtain ⟨o',e1⟩:=I.base.there b o e hx
  exact free b o' (neC b o e hx) e1 (I.base.free b o e n hx)
 ·obtain ⟨o',e1⟩:=I.base.there b o e hx
  exact there b o' (neC b o e hx) e1
 ·obtain ⟨m1,e1⟩:=I.base.tbls b ps e
  obtain ⟨m2,e2⟩:=tbls b _ e1
  exact ⟨m1++m2,by rw [e2,Array.append_assoc]⟩
 ·obtain ⟨m,hn,hl⟩:=I.loc
  refine ⟨m,ns m hn,fun i x v e1 e2 e3=>?_⟩
  obtain ⟨u,r,l⟩:=hl i x v e1 e2 e3
  refine ⟨u,r,?_⟩
  rcases l with l | ⟨k,c,e,z⟩
  ·exact .inl l
  ·exact .inr ⟨k,c,e,cellK x c e _ z⟩
 ·obtain ⟨v,z⟩:=I.cell x c e
  exact ⟨v,cellK x c e v z⟩
 ·obtain ⟨m,⟨o,_,_,ho,_⟩,_⟩:=I.loc
  exact free _ o (fun z=>(hch _ z).2.1 rfl) ho I.free
 ·obtain ⟨v,o,ho,hd⟩:=I.cell x c e
  exact free c o (fun z=>(hch c z).2.2.1 x c e rfl) ho (I.freeC x c e)
 ·obtain ⟨e,n,ne,nf,d⟩:=I.pin p hp
  have nch:p.1 ∉ ch:=fun z=>(hch p.1 z).2.2.2 p hp rfl
  exact ⟨keep p.1 p.2 ne nf nch e n,free p.1 p.2 nch e n,ne,nf,d⟩
theorem Inv.un {t':Nat} (I:Inv X pins σ H s) (u:Un X.fs [] H H' s.heap h') (hok:HOk X.prog X.w H' h'):Inv X pins σ H' { s with heap:=h',toks:=t' }:=by
 obtain ⟨m,⟨o,es,ep,ho,r⟩,_⟩:=id I.loc
 obtain ⟨sl,hL⟩:=u.any ho I.free (by simp)
 exact I.step (g':=s.gens) (d':=s.drawn) (ch:=[]) (fun _ z=>nomatch z) (fun b o _ hb _ e n=>u.keep b o e n hb (by simp)) (fun b o _ hb _ e n=>u.slot b o e n hb (by simp)) (fun b o _ e n=>u.free b o e n (by simp)) (fun b o _ e=>u.there b o e (by simp)) u.tups u.frzs u.tbls (fun m' hm=>by
  obtain ⟨o',es',ep',ho',r'⟩:=hm
  rw [ho] at ho';cases ho'
  exact ⟨_,es',ep',hL,r'⟩) hok I.bare
theorem Inv.call {g':Array GenState} {t':Nat} {d':Drawn} {ch:Y2} (I:Inv X pins σ H s) (u:Un (frs X.stack) ch H H' s.heap h') (hok:HOk X.prog X.w H' h') (hg:AllBare g')
  (hch:∀b∈ch,(b∈X.ex\/X.s₀.heap.objs.size<=b)/\b ≠ X.env.locals/\(∀x c,X.env.cells.lookup x=some c->c ≠ b)/\∀p∈X.pn++pins,p.1 ≠ b) :
  Inv X pins σ H' { s with heap:=h',gens:=g',drawn:=d',toks:=t' }:=by
 obtain ⟨m,⟨o,es,ep,ho,r⟩,_⟩:=id I.loc
 obtain ⟨sl,hL⟩:=u.any ho I.free fun z=>(hch _ z).2.1 rfl
 exact I.step (ch:=ch) hch (fun b o hL hb hc e n=>u.keep b o e n (fun z=>(List.mem_cons.mp (I.zY b z)).elim hL hb) hc) (fun b o _ _ hc e n=>u.any e n hc) (fun b o hc e n=>u.free b o e n hc) (fun b o hc e=>u.there b o e hc) u.tups u.frzs u.tbls (fun m' hm=>by
  obtain ⟨o',es',ep',ho',r'⟩:=hm
  rw [ho] at ho';cases ho'
  exact ⟨_,es',ep',hL,r'⟩) hok hg
theorem Inv.turned {t':Nat} {it:Addr} (I:Inv X pins σ H s) (k:∀b o,b ≠ it->s.heap.get? b=some o->h'.get? b=some o) (hn:H it=none) (hL:it ≠ X.env.locals)
  (h1:it∈X.ex\/X.s₀.heap.objs.size<=it) (h2:∀x c,X.env.cells.lookup x=some c->c ≠ it) (h3:∀p∈X.pn++pins,p.1 ≠ it):Inv X pins σ H { s with heap:=h',toks:=t' }:=by
 have nit:∀b u,H b=some u->b ≠ it:=fun b u e z=>by rw [z,hn] at e;cases e
 refine I.step (g':=s.gens) (d':=s.drawn) (ch:=[it]) (fun b hb=>?_) (fun b o _ _ hc e _=>k b o (fun z=>hc (by simp [z])) e) (fun b o _ _ hc e _=>⟨o.slots,k b o (fun z=>hc (by simp [z])) e⟩) (fun _ _ _ _ n=>n)
  (fun b o hc e=>⟨o,k b o (fun z=>hc (by simp [z])) e⟩) (fun _ _ e=>e) (fun _ _ _ e=>e) (fun b ps e=>⟨#[],by rw [e];simp⟩) (fun m hm=>?_) (fun b u e=>?_) I.bare
 ·have e:b=it:=by simpa using hb
  subst e
  exact ⟨h1,hL,h2,h3⟩
 ·obtain ⟨o,es,ep,ho,r⟩:=hm
  exact ⟨o,es,ep,k _ o (Ne.symm hL) ho,r⟩
 ·refine (I.hok b u e).stay (fun c v hc q=>k c v ?_ q) (fun _ q=>q) fun _ _ q=>q
  rcases hc with z | z
  ·rw [z];exact nit b u e
  ·exact nit c _ z
theorem Inv.tok (I:Inv X pins σ H s) (t:Nat):Inv X pins σ H { s with toks:=t }:=I.un (h':=s.heap) (t':=t) Un.refl I.hok
theorem Inv.kept {t':Nat} (I:Inv X pins σ H s) (k:∀b u,s.heap.get? b=some u->h'.get? b=some u):Inv X pins σ H { s with heap:=h',toks:=t' }:=I.un (Un.kept k) (I.hok.kept k)
theorem Inv.laid {a:Addr} {o:HO} {t':Nat} (I:Inv X pins σ H s) (k:∀b u,s.heap.get? b=some u->h'.get? b=some u) (hp:s.heap.objs.size<=a) (new:dA X.prog X.w (upd H a o) h' a o) :
  Inv X pins σ (upd H a o) { s with heap:=h',toks:=t' }:=I.un (Un.laid k hp (I.hok.fresh hp)) (I.hok.laid k hp new)
theorem Inv.write {x e:Addr} {o:HO} {t':Nat} (I:Inv X pins σ H s) (mu:Mut (H x)) (he:e=x\/H e=some (.own x)) (k:∀b u,b ≠ e->s.heap.get? b=some u->h'.get? b=some u) (heo:∃u,h'.get? e=some u)
  (new:dA X.prog X.w (upd H x o) h' x o):Inv X pins σ (upd H x o) { s with heap:=h',toks:=t' }:=I.un (Un.write mu he k heo) (I.hok.write mu he k heo new)
theorem Inv.aFb {pins':Y8} (I:Inv X pins σ H s) (h:∀p∈pins',s.heap.get? p.1=some p.2/\H p.1=none/\p.1 ≠ X.env.locals/\p.1 ∉ X.fs/\∀v,p.2.data ≠ .cell v):Inv X pins' σ H s :=
 ⟨I.ok,I.os,I.bare,I.base,I.loc,I.cell,I.free,I.freeC,fun p hp=>(List.mem_append.mp hp).elim (fun z=>I.pin p (List.mem_append_left _ z)) (h p),I.hok,I.len⟩
theorem aAg {N:List Str} (hN:N.Nodup) {i j:Nat} {x:Str} (a:N[i]?=some x) (b:N[j]?=some x):i=j:=by
 obtain ⟨h1,e1⟩:=List.getElem?_eq_some_iff.mp a
 obtain ⟨h2,e2⟩:=List.getElem?_eq_some_iff.mp b
 exact (List.getElem_inj hN).mp (e1.trans e2.symm)
theorem wN {M:Model} {A:Around} {E:Y9} {i:Nat} {x:Str} {v:V} {u:Value} {Q:Unit->Shared->Prop} (I:Inv X pins σ H s) (hN:X.N.Nodup) (hi:X.N[i]?=some x) (hx:Loc X.env.scope x) (r:RelV v u)
  (h:∀s',Inv X pins (σ.set i (some v)) H s'->(∃a,Heap.SameBut a s.heap s'.heap/\(a=X.env.locals\/X.env.cells.lookup x=some a))->Q () s') (hf:X.fn x=true\/X.env.scope.names.lookup x=some .local:=by first | exact .inl rfl | exact .inr rfl | assumption):wpAny M A (storeName X.env x u) Q E s:=by
 obtain ⟨m,hn,hl⟩:=id I.loc
 have hcls:(X.env.scope.kind == .class || (X.env.scope.kind == .module && X.env.locals != X.env.globals))=false:=by rw [I.ok.kind];rfl
 have hiσ:i < σ.length:=by rw [I.len];exact (List.getElem?_eq_some_iff.mp hi).1
 have cne:=I.cne
 have tracked:∀ {a:Addr} {h':Heap},(∃o,s.heap.get? a=some o/\H a=none)->Heap.SameBut a s.heap h'->HOk X.prog X.w H h':=fun {a h'} ha hs b ob e=>by
  obtain ⟨_,_,hfree⟩:=ha
  refine (I.hok b ob e).stay (fun c w' hc q=>(hs.2 c ?_).trans q) (fun _ q=>q) fun _ _ q=>q
  rintro rfl
  rcases hc with rfl | hc
  ·rw [hfree] at e;cases e
  ·rw [hfree] at hc;cases hc
 rcases hx with hk | hk
 ·refine wpAny_storeName_local hk hn (fun h' hn' hs=>?_) hcls
  obtain ⟨oL,_,_,hoL,_⟩:=id hn
  refine h _ ⟨I.ok,I.os,I.bare,⟨fun b o e n hb hx=>?_,fun b o e n hb hx=>?_,I.base.free,fun b o e hx=>?_,I.base.tups,I.base.frzs,I.base.tbls⟩,⟨_,hn',fun j y v' e1 e2 e3=>?_⟩,fun y c e=>?_,I.free,I.freeC,fun p hp=>?_,tracked ⟨oL,hoL,I.free⟩ hs,by simpa using I.len⟩ ⟨_,hs,.inl rfl⟩
  ·exact (hs.2 b (Nat.ne_of_lt (Nat.lt_of_lt_of_le (Heap.lt_size e) I.ok.above))).trans (I.base.keep b o e n hb hx)
  ·obtain ⟨sl,e1⟩:=I.base.slot b o e n hb hx
   exact ⟨sl,(hs.2 b (Nat.ne_of_lt (Nat.lt_of_lt_of_le (Heap.lt_size e) I.ok.above))).trans e1⟩
  ·obtain ⟨o',e1⟩:=I.base.there b o e hx
   exact ⟨o',(hs.2 b (Nat.ne_of_lt (Nat.lt_of_lt_of_le (Heap.lt_size e) I.ok.above))).trans e1⟩
  ·by_cases hj:j=i
   ·subst hj
    rw [hi] at e1;cases e1
    rw [List.getElem?_set_self hiσ] at e2
    cases e2
    exact ⟨u,r,.inl ⟨hk,by simp⟩⟩
   ·rw [List.getElem?_set_ne (Ne.symm hj)] at e2
    obtain ⟨u',r',q⟩:=hl j y v' e1 e2 e3
    refine ⟨u',r',?_⟩
    rcases q with ⟨k,e⟩ | ⟨k,c,e,z⟩
    ·refine .inl ⟨k,?_⟩
     have:y ≠ x:=fun e=>hj (aAg hN e1 (e ▸ hi))
     simp [this,e]
    ·exact .inr ⟨k,c,e,z.sameBut hs (cne y c e)⟩
  ·obtain ⟨w',z⟩:=I.cell y c e
   exact ⟨w',z.sameBut hs (cne y c e)⟩
  ·obtain ⟨e,n,ne,nf,d⟩:=I.pin p hp
   exact ⟨(hs.2 p.1 ne).trans e,n,ne,nf,d⟩
 ·have hfn:X.fn x=true:=by
   rcases hf with z | z
   ·exact z
   ·rw [z] at hk;cases hk
  obtain ⟨c,hc⟩:=I.ok.has x (.inl hk)
  obtain ⟨w',z⟩:=I.cell x c hc
  refine wpAny_storeName_cell I.ok.kind hk hc z (fun h' hc' hs=>?_)
  obtain ⟨oc,hoc,hocd⟩:=id z
  refine h { s with heap:=h' } ⟨I.ok,I.os,I.bare,⟨fun b o e n hb hx=>?_,fun b o e n hb hx=>?_,I.base.free,fun b o e hx=>?_,I.base.tups,I.base.frzs,I.base.tbls⟩,⟨m,hn.sameBut hs (Ne.symm (cne x c hc)),fun j y v' e1 e2 e3=>?_⟩,fun y c' e=>?_,I.free,I.freeC,fun p hp=>?_,tracked ⟨oc,hoc,I.freeC x c hc⟩ hs,by simpa using I.len⟩ ⟨c,hs,.inr hc⟩
  ·exact (hs.2 b (Nat.ne_of_lt (Nat.lt_of_lt_of_le (Heap.lt_size e) (I.ok.cab x c hfn hc)))).trans (I.base.keep b o e n hb hx)
  ·obtain ⟨sl,e1⟩:=I.base.slot b o e n hb hx
   exact ⟨sl,(hs.2 b (Nat.ne_of_lt (Nat.lt_of_lt_of_le (Heap.lt_size e) (I.ok.cab x c hfn hc)))).trans e1⟩
  ·obtain ⟨o',e1⟩:=I.base.there b o e hx
   exact ⟨o',(hs.2 b (Nat.ne_of_lt (Nat.lt_of_lt_of_le (Heap.lt_size e) (I.ok.cab x c hfn hc)))).trans e1⟩
  ·by_cases hj:j=i
   ·subst hj
    rw [hi] at e1;cases e1
    rw [List.getElem?_set_self hiσ] at e2
    cases e2
    exact ⟨u,r,.inr ⟨.inl hk,c,hc,hc'⟩⟩
   ·rw [List.getElem?_set_ne (Ne.symm hj)] at e2
    obtain ⟨u',r',q⟩:=hl j y v' e1 e2 e3
    refine ⟨u',r',?_⟩
    rcases q with q | ⟨k,c',e,z'⟩
    ·exact .inl q
    ·refine .inr ⟨k,c',e,z'.sameBut hs ?_⟩
     rintro rfl
     exact hj (aAg hN e1 (I.ok.inj _ _ _ e hc ▸ hi))
  ·by_cases hcc:c'=c
   ·subst hcc;exact ⟨_,hc'⟩
   ·obtain ⟨w2,z2⟩:=I.cell y c' e
    exact ⟨w2,z2.sameBut hs hcc⟩
  ·obtain ⟨e,n,ne,nf,d⟩:=I.pin p hp
   refine ⟨(hs.2 p.1 ?_).trans e,n,ne,nf,d⟩
   intro q
   rw [q,hoc] at e
   have q':oc=p.2:=Option.some.inj e
   exact d w' (by rw [<- q'];exact hocd)
theorem mV {M:Model} {A:Around} {E:Y9} {i:Nat} {x:Str} {v:V} {u:Value} {Q:Unit->Shared->Prop} (I:Inv X pins σ H s) (hN:X.N.Nodup) (hi:X.N[i]?=some x) (hx:Loc X.env.scope x) (r:RelV v u)
  (h:∀s',Inv X pins (σ.set i (some v)) H s'->Q () s') (hf:X.fn x=true\/X.env.scope.names.lookup x=some .local:=by first | exact .inl rfl | exact .inr rfl | assumption):wpAny M A (storeName X.env x u) Q E s :=
 wN I hN hi hx r (fun s' I' _=>h s' I') hf
theorem Inv.aFd {s':Shared} {ch:Y2} (I:Inv X pins σ H s) (ho:s'.os=s.os) (u:Un (frs X.stack) ch H H' s.heap s'.heap) (hok:HOk X.prog X.w H' s'.heap) (hg:AllBare s'.gens)
  (hch:∀b∈ch,(b∈X.ex\/X.s₀.heap.objs.size<=b)/\b ≠ X.env.locals/\(∀x c,X.env.cells.lookup x=some c->c ≠ b)/\∀p∈X.pn++pins,p.1 ≠ b):Inv X pins σ H' s':=by
 obtain ⟨h',g',d',t',o'⟩:=s'
 have e:o'=s.os:=ho
 subst e
 exact I.call (g':=g') (t':=t') (d':=d') u hok hg hch
end
abbrev XK:=Value->Option Addr->Hp->Prop
abbrev St:=List (Option V)
abbrev VK:=V->Hp->Prop
abbrev TE:=St->Hp->VK->Prop
abbrev TT:=St->Hp->(Bool->Hp->Prop)->Prop
abbrev TA:=St->Hp->(List V->Hp->Prop)->Prop
structure Ends where
 nx:St->Hp->Prop
 rt:VK
 bk:St->Hp->Prop:=fun _ _=>False
 ct:St->Hp->Prop:=fun _ _=>False
abbrev TS:=Ends->St->Hp->Prop
def EP (X:Cx) (pins:Y8) (σ:St) (Q:VK) (u:Value) (s':Shared):Prop:=∃v H',Inv X pins σ H' s'/\RelV v u/\Q v H'
def TP (X:Cx) (pins:Y8) (σ:St) (Q:Bool->Hp->Prop) (b:Bool) (s':Shared):Prop:=∃H',Inv X pins σ H' s'/\Q b H'
def AP (X:Cx) (pins:Y8) (σ:St) (Q:List V->Hp->Prop) (us:Y1) (s':Shared):Prop:=∃vs H',Inv X pins σ H' s'/\Vals vs us/\Q vs H'
def SP (X:Cx) (pins:Y8) (D:Ends) (f:Flow) (s':Shared):Prop :=
 match f with
 | .next=>∃σ' H',Inv X pins σ' H' s'/\D.nx σ' H'
 | .brk=>∃σ' H',Inv X pins σ' H' s'/\D.bk σ' H'
 | .cont=>∃σ' H',Inv X pins σ' H' s'/\D.ct σ' H'
 | .ret u=>∃v σ' H',Inv X pins σ' H' s'/\RelV v u/\D.rt v H'
def PE (X:Cx) (e:Expr) (t:TE):Prop :=
 ∀(pins:Y8) (s:Shared) (σ:St) (H:Hp) (Q:VK),Inv X pins σ H s->t σ H Q->wpAny (model X.prog X.w) X.A (eval e X.env) (EP X pins σ Q) X.xe s
def PT (X:Cx) (e:Expr) (t:TT):Prop :=
 ∀(pins:Y8) (s:Shared) (σ:St) (H:Hp) (Q:Bool->Hp->Prop),Inv X pins σ H s->t σ H Q->wpAny (model X.prog X.w) X.A (isTrue e X.env (eval e X.env)) (TP X pins σ Q) X.xe s
def PW (X:Cx) (e:Expr) (t:TT):Prop :=
 ∀(whole:Sem Value) (pins:Y8) (s:Shared) (σ:St) (H:Hp) (Q:Bool->Hp->Prop),Inv X pins σ H s->t σ H Q->wpAny (model X.prog X.w) X.A (isTrue e X.env whole) (TP X pins σ Q) X.xe s
theorem PW.pt {X:Cx} {e:Expr} {t:TT} (h:PW X e t):PT X e t:=h _
def PA (X:Cx) (es:List Expr) (t:TA):Prop :=
 ∀(pos:Pos) (pins:Y8) (s:Shared) (σ:St) (H:Hp) (Q:List V->Hp->Prop),Inv X pins σ H s->t σ H Q->wpAny (model X.prog X.w) X.A (spliced (backTo pos (starEach es X.env))) (AP X pins σ Q) X.xe s
def PS (X:Cx) (st:Stmt) (t:TS):Prop :=
 ∀(pins:Y8) (s:Shared) (σ:St) (H:Hp) (D:Ends),Inv X pins σ H s->t D σ H->wpAny (model X.prog X.w) X.A (exec st X.env) (SP X pins D) X.xe s
def PSs (X:Cx) (st:List Stmt) (t:TS):Prop :=
 ∀(pins:Y8) (s:Shared) (σ:St) (H:Hp) (D:Ends),Inv X pins σ H s->t D σ H->wpAny (model X.prog X.w) X.A (execs st X.env) (SP X pins D) X.xe s
theorem thn {α:Type} {t:Sem α} {Q Q':α->Shared->Prop} {M:Model} {A:Around} {E:Y9} {s:Shared} (h:wpAny M A t Q E s) (hQ:∀a s,Q a s->Q' a s):wpAny M A t Q' E s:=wpAny_mono h hQ fun _ _ x=>x
end L2
namespace L2
open PySem PySem.Spec PyProof.Rows
section
variable {X:Cx}
def yK (i:Nat):TE:=fun σ H Q=>∃v,σ[i]?=some (some v)/\Q v H
def tC (v:V):TE:=fun _ H Q=>Q v H
theorem mL {i:Nat} {x:Str} {pos:Pos} (hN:X.N[i]?=some x) (hv:Vis X.env.scope x) (hd:(x == ("__debug__" : Str))=false:=by decide) (hcd:(x == ("__classdict__" : Str))=false:=by decide):PE X (.Name x pos) (yK i):=by
 intro pins s σ H Q I h
 obtain ⟨v,e,h⟩:=h
 obtain ⟨m,hn,hl⟩:=I.loc
 obtain ⟨u,r,l⟩:=hl i x v hN e hv
 have fin:EP X pins σ Q u s:=⟨v,H,I,r,h⟩
 rcases l with ⟨hk,hm⟩ | ⟨hk,c,hc,hcell⟩
 ·exact wpAny_Name (wpAny_loadName_local I.ok.kind hk hn hm fin) hd
 ·rcases hk with hk | hk
  ·exact wpAny_Name (wpAny_loadName_cell I.ok.kind hk hc hcell fin) hd
  ·exact wpAny_Name (wpAny_loadName_free I.ok.kind hk hc hcell fin hcd) hd
theorem aPu {i j pos}:PE X (.Constant (.int i) j pos) (tC (.int i)):=fun _ _ _ H _ I h=>wpAny_Constant_int ⟨.int i,H,I.tok _,⟨_,rfl⟩,h⟩
theorem aSt {b j pos}:PE X (.Constant (.bool b) j pos) (tC (.bl b)):=fun _ _ _ H _ I h=>Constant_bool ⟨.bl b,H,I,rfl,h⟩
theorem aPt {j pos}:PE X (.Constant .none j pos) (tC .non):=fun _ _ _ H _ I h=>Constant_none ⟨.non,H,I,rfl,h⟩
theorem aOq {x j pos}:PE X (.Constant (.str x) j pos) (tC (.str x)):=fun _ _ _ H _ I h=>Calls.Constant_str ⟨.str x,H,I.tok _,⟨_,rfl⟩,h⟩
def Gl (X:Cx) (x:Str):Prop:=X.env.kindOf x=some .globalImplicit
theorem sV {E:Y9} {pins:Y8} {s:Shared} {σ:St} {H:Hp} {x:Str} {u:Value} {pos:Pos} {Q:Y9} (I:Inv X pins σ H s) (hg:Gl X x) (hm:X.mg x=some u) (h:Q u s)
  (hd:(x == ("__debug__" : Str))=false:=by decide):wpAny (model X.prog X.w) X.A (eval (.Name x pos) X.env) Q E s :=
 Calls.Name_function_global I.ok.kind hg (Calls.loadGlobal_global (by rw [I.ok.glob];exact I.mod.glob.keeps I.bk) hm h) hd
theorem mU {E:Y9} {pins:Y8} {s:Shared} {σ:St} {H:Hp} {x:Str} {u:Value} {pos:Pos} {Q:Y9} (I:Inv X pins σ H s) (hg:Gl X x) (hm:X.mg x=none) (hv:bootBuiltins x=some u) (h:Q u s)
  (hn:x ≠ "__name__" :=by decide) (hd:(x == ("__debug__" : Str))=false:=by decide):wpAny (model X.prog X.w) X.A (eval (.Name x pos) X.env) Q E s:=by
 obtain ⟨mb,h1,h2⟩:=I.mod.blt
 exact Calls.Name_function_global I.ok.kind hg (Calls.loadGlobal_builtin (by rw [I.ok.glob];exact I.mod.glob.keeps I.bk) hm (by rw [I.ok.blt];exact h1.keeps I.bk) ((h2 x hn).trans hv) h) hd
theorem aEr {x:Str} {v:V} {u:Value} {pos:Pos} (hg:Gl X x) (hm:X.mg x=some u) (r:RelV v u) (hd:(x == ("__debug__" : Str))=false:=by decide):PE X (.Name x pos) (tC v) :=
 fun _ _ _ H _ I h=>sV I hg hm ⟨v,H,I,r,h⟩ hd
theorem aLc {x:Str} {v:V} {u:Value} {pos:Pos} (hg:Gl X x) (hm:X.mg x=none) (hv:bootBuiltins x=some u) (r:RelV v u) (hn:x ≠ "__name__" :=by decide) (hd:(x == ("__debug__" : Str))=false:=by decide):PE X (.Name x pos) (tC v) :=
 fun _ _ _ H _ I h=>mU I hg hm hv ⟨v,H,I,r,h⟩ hn hd
variable {a b:Expr} {ta tb:TE} {pos:Pos}
def PC (X:Cx) (op:CmpOp) (a b:Expr) (t:TE):Prop :=
 ∀(pins:Y8) (s:Shared) (σ:St) (H:Hp) (Q:VK),Inv X pins σ H s->t σ H Q ->
  wpAny (model X.prog X.w) X.A (eval a X.env) (fun v s₁=>wpAny (model X.prog X.w) X.A (eval b X.env) (fun u s₂=>wpAny (model X.prog X.w) X.A (compareOp op v u) (EP X pins σ Q) X.xe s₂) X.xe s₁) X.xe s
def tB (t:TE):TT:=fun σ H Q=>t σ H fun x H1=>∃c,x=.bl c/\Q c H1
theorem aRp {op:CmpOp} {t:TE} (h:PC X op a b t) (h1:behindInMarks op b=false:=by first | exact nobehind _ (by decide) (by decide) | rfl):PT X (.Compare a [op] [b] pos) (tB t):=by
 intro pins s σ H Q I hw
 refine wpAny_isTrue_Compare1 (thn (h pins s σ H _ I hw) fun v s1 h1=>thn h1 fun u s2 h2=>thn h2 fun c s3 ⟨x,H1,I1,r1,q1⟩=>?_) h1
 obtain ⟨d,rfl,q⟩:=q1
 cases r1
 exact wpAny_truthy_bool ⟨H1,I1,q⟩
variable {tA tB':TT} {rest:List Expr}
def aTj (t u:TT):TT:=fun σ H Q=>t σ H fun c H1=>if c=true then u σ H1 Q else Q false H1
def tOr (t u:TT):TT:=fun σ H Q=>t σ H fun c H1=>if c=true then Q true H1 else u σ H1 Q
def aUd (t:TT):TT:=fun σ H Q=>t σ H fun c H1=>Q (!c) H1
theorem aMm (ha:PT X a tA):PW X (.BoolOp .And [a] pos) tA:=by
 intro wh pins s σ H Q I h
 refine isTrue_and (thn (ha pins s σ H Q I h) fun c s1 e=>?_)
 cases c with
 | true=>exact isTrue_and_nil e
 | false=>exact e
theorem aPb (ha:PT X a tA):PW X (.BoolOp .Or [a] pos) tA:=by
 intro wh pins s σ H Q I h
 refine isTrue_or (thn (ha pins s σ H Q I h) fun c s1 e=>?_)
 cases c with
 | false=>exact isTrue_or_nil e
 | true=>exact e
theorem aQi (ha:PT X a tA) (hb:PW X (.BoolOp .And (b::rest) pos) tB'):PW X (.BoolOp .And (a::b::rest) pos) (aTj tA tB'):=by
 intro wh pins s σ H Q I h
 refine isTrue_and (thn (ha pins s σ H _ I h) fun c s1 ⟨H1,I1,q1⟩=>?_)
 cases c with
 | true=>exact hb wh pins s1 σ H1 Q I1 q1
 | false=>exact ⟨H1,I1,q1⟩
theorem aUi (ha:PT X a tA) (hb:PW X (.BoolOp .Or (b::rest) pos) tB'):PW X (.BoolOp .Or (a::b::rest) pos) (tOr tA tB'):=by
 intro wh pins s σ H Q I h
 refine isTrue_or (thn (ha pins s σ H _ I h) fun c s1 ⟨H1,I1,q1⟩=>?_)
 cases c with
 | true=>exact ⟨H1,I1,q1⟩
 | false=>exact hb wh pins s1 σ H1 Q I1 q1
theorem aPd (ha:PT X a tA):PT X (.UnaryOp .Not a pos) (aUd tA):=by
 intro pins s σ H Q I h
 exact isTrue_not (ha pins s σ H (fun c H1=>Q (!c) H1) I h)
def aOl (ta tb:TE):TE:=fun σ H Q=>ta σ H fun x H1=>∃c,x=.bl c/\if c=true then tb σ H1 Q else Q (.bl false) H1
def aSl (ta tb:TE):TE:=fun σ H Q=>ta σ H fun x H1=>∃c,x=.bl c/\if c=true then Q (.bl true) H1 else tb σ H1 Q
def aNr (ta:TE):TE:=fun σ H Q=>ta σ H fun x H1=>∃c,x=.bl c/\Q (.bl (!c)) H1
theorem aO7 {op} {t:TE} (h:PE X a t):PE X (.BoolOp op [a] pos) t:=fun pins s σ H Q I hw=>BoolOp_one (h pins s σ H Q I hw)
theorem aQ7 (ha:PE X a ta) (hb:PE X (.BoolOp .And (b::rest) pos) tb):PE X (.BoolOp .And (a::b::rest) pos) (aOl ta tb):=by
 intro pins s σ H Q I h
 refine BoolOp_and (thn (ha pins s σ H _ I h) fun v s1 ⟨x,H1,I1,r1,q1⟩=>?_)
 obtain ⟨c,rfl,q1⟩:=q1
 cases r1
 refine wpAny_truthy_bool ?_
 cases c with
 | true=>exact hb pins s1 σ H1 Q I1 q1
 | false=>exact ⟨.bl false,H1,I1,rfl,q1⟩
theorem aTb (ha:PE X a ta) (hb:PE X (.BoolOp .Or (b::rest) pos) tb):PE X (.BoolOp .Or (a::b::rest) pos) (aSl ta tb):=by
 intro pins s σ H Q I h
 refine BoolOp_or (thn (ha pins s σ H _ I h) fun v s1 ⟨x,H1,I1,r1,q1⟩=>?_)
 obtain ⟨c,rfl,q1⟩:=q1
 cases r1
 refine wpAny_truthy_bool ?_
 cases c with
 | false=>exact hb pins s1 σ H1 Q I1 q1
 | true=>exact ⟨.bl true,H1,I1,rfl,q1⟩
theorem aPp (ha:PE X a ta):PE X (.UnaryOp .Not a pos) (aNr ta):=by
 intro pins s σ H Q I h
 refine UnaryOp_ (thn (ha pins s σ H _ I h) fun v s1 ⟨x,H1,I1,r1,q1⟩=>?_)
 obtain ⟨c,rfl,q1⟩:=q1
 cases r1
 exact not_of (wpAny_truthy_bool ⟨.bl (!c),H1,I1,rfl,q1⟩)
def tIf (t:TT) (ta tb:TE):TE:=fun σ H Q=>t σ H fun c H1=>if c=true then ta σ H1 Q else tb σ H1 Q
theorem aKf {c:Expr} (hc:PT X c tA) (ha:PE X a ta) (hb:PE X b tb):PE X (.IfExp c a b pos) (tIf tA ta tb):=by
 intro pins s σ H Q I h
 refine wpAny_IfExp (thn (hc pins s σ H _ I h) fun d s1 ⟨H1,I1,q1⟩=>?_)
 cases d with
 | true=>exact ha pins s1 σ H1 Q I1 q1
 | false=>exact hb pins s1 σ H1 Q I1 q1
end
end L2
namespace L2
open PySem PySem.Spec PyProof.Rows
def SqL (K:FG) (H:Hp) (a:Addr) (xs:List V):Prop :=
 Rd H a (.lst xs) \/
  ∃(o:Obj) (its:Array Value) (n:Nat),K.lookup a=some o/\o.cls=.type "list" /\o.dict=none/\o.data=.seq its n/\its.size<=sizeLine/\Vals xs its.toList
def SqT (K:FG) (H:Hp) (a:Addr) (xs:List V):Prop :=
 Rd H a (.tup xs) \/
  ∃(o:Obj) (its:Array Value) (n:Nat),K.lookup a=some o/\o.cls=.type "tuple" /\o.data=.seq its n/\its.size<=sizeLine/\Vals xs its.toList
def aVz:Value->Option V
 | .none=>some .non
 | .bool b=>some (.bl b)
 | .int i _=>some (.int i)
 | .str x _=>some (.str x)
 | .bytes b _=>some (.byt b)
 | .float b _=>some (.flt b)
 | .ref a=>some (.ref a)
 | .type n=>some (.ty n)
 | _=>none
theorem RelV.abs {x:V} {u:Value} (r:RelV x u):aVz u=some x:=by
 cases x with
 | non=>cases r;rfl
 | bl _=>cases r;rfl
 | int _=>obtain ⟨t,rfl⟩:=r;rfl
 | str _=>obtain ⟨t,rfl⟩:=r;rfl
 | byt _=>obtain ⟨t,rfl⟩:=r;rfl
 | flt _=>obtain ⟨t,rfl⟩:=r;rfl
 | ref _=>cases r;rfl
 | ty _=>cases r;rfl
theorem RelV.inj {x y:V} {u:Value} (r:RelV x u) (q:RelV y u):x=y:=Option.some.inj (r.abs.symm.trans q.abs)
theorem Vals.inj:∀ {xs ys:List V} {us:Y1},Vals xs us->Vals ys us->xs=ys
 | _,_,_,.nil,.nil=>rfl
 | _,_,_,.cons r t,.cons r' t'=>by rw [r.inj r',Vals.inj t t']
section
variable {X:Cx} {pins:Y8} {σ:St} {H:Hp} {s:Shared} {a:Addr} {xs ys:List V}
theorem SqL.of {K:FG} (h:H a=some (.lst xs)):SqL K H a xs:=.inl (.inl h)
theorem SqT.of {K:FG} (h:H a=some (.tup xs)):SqT K H a xs:=.inl (.inl h)
theorem Inv.list (I:Inv X pins σ H s) (h:SqL X.K H a xs):∃its:Y1,Vals xs its/\PlainL s.heap a its.toArray/\xs.length<=sizeLine:=by
 rcases h with h | ⟨o,its,n,hk,hc,hd,hs,hz,r⟩
 ·obtain ⟨z,its,n,r,e⟩:=h.ok I.hok
  exact ⟨its,r,⟨_,n,e,rfl,rfl,rfl⟩,z⟩
 ·refine ⟨its.toList,r,⟨o,n,I.kIn a o hk,hc,hd,by simpa using hs⟩,?_⟩
  have e:=r.length
  simp only [Array.length_toList] at e
  omega
theorem Inv.tuple (I:Inv X pins σ H s) (h:SqT X.K H a xs):∃its:Y1,Vals xs its/\IsTup s.heap a its.toArray/\xs.length<=sizeLine:=by
 rcases h with h | ⟨o,its,n,hk,hc,hs,hz,r⟩
 ·obtain ⟨z,its,r,p⟩:=h.ok I.hok
  exact ⟨its,r,p,z⟩
 ·refine ⟨its.toList,r,⟨o,I.kIn a o hk,hc,n,by simpa using hs⟩,?_⟩
  have e:=r.length
  simp only [Array.length_toList] at e
  omega
theorem Inv.aB1 (I:Inv X pins σ H s) (h:SqL X.K H a xs) (h':SqL X.K H a ys):xs=ys:=by
 obtain ⟨its,r,⟨o,n,e,_,_,d⟩,_⟩:=I.list h
 obtain ⟨its',r',⟨o',n',e',_,_,d'⟩,_⟩:=I.list h'
 rw [e] at e';cases e'
 rw [d] at d'
 injection d' with d1 _
 have:its=its':=by simpa using congrArg Array.toList d1
 subst this
 exact r.inj r'
theorem Inv.aG1 (I:Inv X pins σ H s) (h:SqT X.K H a xs) (h':SqT X.K H a ys):xs=ys:=by
 obtain ⟨its,r,⟨o,e,_,n,d⟩,_⟩:=I.tuple h
 obtain ⟨its',r',⟨o',e',_,n',d'⟩,_⟩:=I.tuple h'
 rw [e] at e';cases e'
 rw [d] at d'
 injection d' with d1 _
 have:its=its':=by simpa using congrArg Array.toList d1
 subst this
 exact r.inj r'
end
section
variable {X:Cx} {pins:Y8} {σ:St} {H:Hp} {s:Shared} {E:Y9}
end
section
variable {X:Cx} {st:Stmt} {rest:List Stmt} {t u:TS} {e:Expr} {te:TE} {pos:Pos}
def aNp:TS:=fun D σ H=>D.nx σ H
def aUp (t u:TS):TS:=fun D σ H=>t { D with nx:=u D } σ H
theorem aMj:PSs X [] aNp:=fun _ _ σ H _ I h=>wpAny_execs_nil ⟨σ,H,I,h⟩
theorem aIs (h1:PS X st t) (h2:PSs X rest u):PSs X (st::rest) (aUp t u):=by
 intro pins s σ H D I h
 refine wpAny_execs_cons (thn (h1 pins s σ H { D with nx:=u D } I h) fun f s1 q=>?_)
 cases f with
 | next =>
  obtain ⟨σ',H',I',q⟩:=q
  exact h2 pins s1 σ' H' D I' q
 | ret v=>exact q
 | brk=>exact q
 | cont=>exact q
theorem aK3 (h1:PS X st t):PSs X [st] t:=by
 intro pins s σ H D I h
 refine wpAny_execs_cons (thn (h1 pins s σ H D I h) fun f s1 q=>?_)
 cases f with
 | next=>exact wpAny_execs_nil q
 | ret v=>exact q
 | brk=>exact q
 | cont=>exact q
theorem Inv.quiet {pins:Y8} {σ:St} {H:Hp} {s:Shared} (I:Inv X pins σ H s):interactive X.env=false:=by simp [interactive,I.ok.kind]
def aBa (te:TE):TS:=fun D σ H=>te σ H fun _ H1=>D.nx σ H1
theorem sR (he:PE X e te) (hs:swapsWith e none pos.line X.env=pure false:=by rfl):PS X (.Expr e pos) (aBa te):=by
 intro pins s σ H D I h
 exact wpAny_Expr_any (thn (he pins s σ H _ I h) fun v s1 ⟨x,H1,I1,r1,q1⟩=>⟨σ,H1,I1,q1⟩) I.quiet hs
def aRr (te:TE):TS:=fun D σ H=>te σ H D.rt
theorem aI0 (he:PE X e te):PS X (.Return (some e) pos) (aRr te):=by
 intro pins s σ H D I h
 exact wpAny_Return_some (thn (he pins s σ H _ I h) fun v s1 ⟨x,H1,I1,r1,q1⟩=>⟨x,σ,H1,I1,r1,q1⟩)
def aT0 (c:TT) (t u:TS):TS:=fun D σ H=>c σ H fun b H1=>if b=true then t D σ H1 else u D σ H1
theorem aUk {c:Expr} {a b:List Stmt} {tc:TT} (hc:PT X c tc) (ha:PSs X a t) (hb:PSs X b u):PS X (.If c a b pos) (aT0 tc t u):=by
 intro pins s σ H D I h
 refine wpAny_If (thn (hc pins s σ H _ I h) fun d s1 ⟨H1,I1,q1⟩=>?_)
 cases d with
 | true=>exact ha pins s1 σ H1 D I1 q1
 | false=>exact hb pins s1 σ H1 D I1 q1
end
abbrev TG:=V->St->Hp->(St->Hp->Prop)->Prop
abbrev TGs:=List V->St->Hp->(St->Hp->Prop)->Prop
def PG (X:Cx) (target:Expr) (t:TG):Prop :=
 ∀(pins:Y8) (s:Shared) (σ:St) (H:Hp) (v:V) (u:Value) (Q:St->Hp->Prop),Inv X pins σ H s->RelV v u->t v σ H Q ->
  wpAny (model X.prog X.w) X.A (assign target X.env u) (fun _ s'=>∃σ' H',Inv X pins σ' H' s'/\Q σ' H') X.xe s
def PGs (X:Cx) (ts:List Expr) (t:TGs):Prop :=
 ∀(pins:Y8) (s:Shared) (σ:St) (H:Hp) (vs:List V) (us:Y1) (Q:St->Hp->Prop),Inv X pins σ H s->Vals vs us->t vs σ H Q ->
  wpAny (model X.prog X.w) X.A (assignInOrder ((assignEach ts X.env).map (·.2)) us) (fun _ s'=>∃σ' H',Inv X pins σ' H' s'/\Q σ' H') X.xe s
abbrev aRf:=V->V->V->Hp->(Hp->Prop)->Prop
def aTx (X:Cx) (t:aRf):Prop :=
 ∀(pins:Y8) (s:Shared) (σ:St) (H:Hp) (o i v:V) (ov iv u:Value) (Q:Hp->Prop),Inv X pins σ H s->RelV o ov->RelV i iv->RelV v u->t o i v H Q ->
  wpAny (model X.prog X.w) X.A (setItem ov iv u) (fun _ s'=>∃H',Inv X pins σ H' s'/\Q H') X.xe s
abbrev TIp:=V->V->Hp->VK->Prop
def PIp (X:Cx) (op:Operator) (t:TIp):Prop :=
 ∀(pins:Y8) (s:Shared) (σ:St) (H:Hp) (x y:V) (v u:Value) (Q:VK),Inv X pins σ H s->RelV x v->RelV y u->t x y H Q ->
  wpAny (model X.prog X.w) X.A (inplaceOp op v u) (EP X pins σ Q) X.xe s
section
variable {X:Cx} {pos:Pos}
def rV (i:Nat):TG:=fun v σ H Q=>Q (σ.set i (some v)) H
theorem aLw {i:Nat} {x:Str} (hN:X.N.Nodup) (hi:X.N[i]?=some x) (hx:Loc X.env.scope x) (hf:X.fn x=true\/X.env.scope.names.lookup x=some .local:=by first | exact .inl rfl | exact .inr rfl | assumption):PG X (.Name x pos) (rV i):=by
 intro pins s σ H v u Q I r h
 exact wpAny_assign_Name (mV I hN hi hx r (fun s' I'=>⟨_,H,I',h⟩) hf)
def aSn:TGs:=fun vs σ H Q=>vs=[]/\Q σ H
def aN3 (t:TG) (u:TGs):TGs:=fun vs σ H Q=>∃v r,vs=v::r/\t v σ H fun σ' H'=>u r σ' H' Q
theorem aMe:PGs X [] aSn:=by
 intro pins s σ H vs us Q I r h
 obtain ⟨e,h⟩:=h
 subst e
 cases r
 exact assignInOrder_nil ⟨σ,H,I,h⟩
theorem aG4 {e:Expr} {es:List Expr} {t:TG} {u:TGs} (h1:PG X e t) (h2:PGs X es u)
  (hs:(assignEach (e::es) X.env).map (·.2)=assign e X.env::(assignEach es X.env).map (·.2):=by rfl):PGs X (e::es) (aN3 t u):=by
 intro pins s σ H vs us Q I r h
 obtain ⟨v,vr,e1,h⟩:=h
 subst e1
 cases r with
 | cons r rr =>
  rw [hs]
  refine assignInOrder_cons (thn (h1 pins s σ H _ _ _ I r h) fun _ s1 ⟨σ1,H1,I1,q1⟩=>?_)
  exact h2 pins s1 σ1 H1 _ _ Q I1 rr q1
def aOv (K:FG) (n:Nat) (t:TGs):TG:=fun v σ H Q=>∃a xs,v=.ref a/\SqT K H a xs/\xs.length=n/\t xs σ H Q
theorem mW {es:List Expr} {k:Nat} {t:TGs} {n:Nat} (hc:X.calm=true) (h:PGs X es t)
  (hn:(assignEach es X.env).length=n:=by rfl) (hst:(assignEach es X.env).findIdx? (·.1)=none:=by rfl):PG X (.Tuple es k pos) (aOv X.K n t):=by
 intro pins s σ H v u Q I r hw
 obtain ⟨a,xs,e1,hq,hl,hw⟩:=hw
 subst e1
 cases r
 obtain ⟨its,rv,ht,hz⟩:=I.tuple hq
 refine assign_Tuple_tuple (I.ok.hd hc) ht (by simp [hn,<- hl,rv.length]) hst fun h' hx=>?_
 have I1:Inv X pins σ H { s with heap:=h' }:=I.kept (t':=s.toks) fun b o e=>hx b o (Nat.ne_of_lt (Heap.lt_size e)) e
 exact h pins _ σ H xs _ Q I1 (by simpa using rv) hw
def aSq (to ti:TE) (t:aRf):TG:=fun v σ H Q=>to σ H fun o H1=>ti σ H1 fun i H2=>t o i v H2 fun H3=>Q σ H3
theorem aO1 {o i:Expr} {to ti:TE} {t:aRf} (ho:PE X o to) (hi:PE X i ti) (hs:aTx X t)
  (ha:∀v,assign (.Subscript o i pos) X.env v=(do
   let ov <- holding [v] (eval o X.env)
   let iv <- holding [v,ov] (eval i X.env)
   standAt pos
   holding [v,ov,iv] (setItem ov iv v)
   release [v,ov,iv] []):=by intro _;rfl):PG X (.Subscript o i pos) (aSq to ti t):=by
 intro pins s σ H v u Q I r h
 rw [ha]
 refine wpAny_bind (wpAny_holding (thn (ho pins s σ H _ I h) fun ov s1 ⟨x,H1,I1,r1,q1⟩=>?_))
 refine wpAny_bind (wpAny_holding (thn (hi pins s1 σ H1 _ I1 q1) fun iv s2 ⟨y,H2,I2,r2,q2⟩=>?_))
 refine wpAny_bind (wpAny_standAt (wpAny_bind (wpAny_holding (thn (hs pins s2 σ H2 x y v ov iv u _ I2 r1 r2 r q2) fun _ s3 ⟨H3,I3,q3⟩=>?_))))
 exact wpAny_release ⟨σ,H3,I3,q3⟩
def aFv (te:TE) (g:TG):TS:=fun D σ H=>te σ H fun x H1=>g x σ H1 D.nx
theorem aJy {tg e:Expr} {te:TE} {g:TG} (he:PE X e te) (hg:PG X tg g) (hs:swapsWithSole [tg] e pos.line X.env=pure false:=by rfl) (hw:swappedStores [tg] e X.env=pure none:=by rfl)
  (h1:(assignEach [tg] X.env).map (·.2)=[assign tg X.env]:=by rfl):PS X (.Assign [tg] e pos) (aFv te g):=by
 intro pins s σ H D I h
 refine wpAny_Assign_stores (thn (he pins s σ H _ I h) fun v s1 ⟨x,H1,I1,r1,q1⟩=>?_) hs hw
 rw [h1]
 exact thn (hg pins s1 σ H1 x v _ I1 r1 q1) fun _ s2 q=>q
theorem aPj {i:Nat} {x:Str} {e:Expr} {te:TE} {pos':Pos} (hN:X.N.Nodup) (hi:X.N[i]?=some x) (hx:Loc X.env.scope x) (he:PE X e te) (hs:swapsWith e (some (.Name x pos')) pos.line X.env=pure false:=by rfl) (hf:X.fn x=true\/X.env.scope.names.lookup x=some .local:=by first | exact .inl rfl | exact .inr rfl | assumption) :
  PS X (.Assign [.Name x pos'] e pos) (aFv te (rV i)):=by
 intro pins s σ H D I h
 refine wpAny_Assign_Name (thn (he pins s σ H _ I h) fun v s1 ⟨y,H1,I1,r1,q1⟩=>?_) hs
 exact mV I1 hN hi hx r1 (fun s2 I2=>⟨_,H1,I2,q1⟩) hf
def aTt (i j:Nat) (ta:TA):TS:=fun D σ H=>ta σ H fun vs H1=>∃v w,vs=[v,w]/\D.nx ((σ.set i (some v)).set j (some w)) H1
theorem aOt {i j:Nat} {x y:Str} {a b:Expr} {ta:TA} {px py pt:Pos} {kt k2 pt2} (hc:X.calm=true) (hN:X.N.Nodup) (hi:X.N[i]?=some x) (hj:X.N[j]?=some y) (hij:i ≠ j)
  (hx:X.env.scope.names.lookup x=some .local) (hy:X.env.scope.names.lookup y=some .local) (ha:PA X [a,b] ta)
  (hw:swappedStores [.Tuple [.Name x px,.Name y py] kt pt] (.Tuple [a,b] k2 pt2) X.env=pure (some [x,y]))
  (hs:swapsWithSole [.Tuple [.Name x px,.Name y py] kt pt] (.Tuple [a,b] k2 pt2) pos.line X.env=pure false:=by rfl) :
  PS X (.Assign [.Tuple [.Name x px,.Name y py] kt pt] (.Tuple [a,b] k2 pt2) pos) (aTt i j ta):=by
 intro pins s σ H D I h
 rw [exec_Assign_arm]
 refine wpAny_bind (wpAny_standAt ?_)
 rw [hs]
 refine wpAny_bind (wpAny_pure ?_)
 rw [if_neg (by decide)]
 refine wpAny_bind (Tuple_ (thn (ha _ pins s σ H _ I h) fun us s1 ⟨vs,H1,I1,r1,q1⟩=>?_))
 obtain ⟨v,w,e1,q1⟩:=q1
 subst e1
 obtain ⟨u1,u2,rfl,rv,rw'⟩:∃u1 u2,us=[u1,u2]/\RelV v u1/\RelV w u2:=by
  cases r1 with
  | cons p q =>
   cases q with
   | cons p' q' =>
    cases q'
    exact ⟨_,_,rfl,p,p'⟩
 refine wpAny_newObj_type ?_ (by show 2<=sizeLine;decide)
 have I2:Inv X pins σ H1 { s1 with heap:=s1.heap.push { cls:=.type "tuple",data:=.seq [u1,u2].toArray } }:=I1.kept (t':=s1.toks) fun b o e=>Heap.get?_push_of_some _ e
 rw [hw]
 refine wpAny_bind (wpAny_pure ?_)
 show wpAny (model X.prog X.w) X.A (do rule "assign.swapped-stores";let items <- unpackItems (.ref s1.heap.objs.size) 2 none;assignInOrder [fun v=>bindName X.env y v,fun v=>bindName X.env x v] items.reverse;pure Flow.next) _ _ _
 refine wpAny_bind (wpAny_rule (wpAny_bind (unpackItems_tuple (items:=#[u1,u2]) (I.ok.hd hc) (IsTup.new s1.heap _) fun h' hx'=>?_)))
 have I3:=I2.kept (h':=h') (t':=s1.toks) fun b o e=>hx' b o (Nat.ne_of_lt (Heap.lt_size e)) e
 show wpAny _ _ (assignInOrder [fun v=>bindName X.env y v,fun v=>bindName X.env x v] [u2,u1] >>= fun _=>pure Flow.next) _ _ _
 refine wpAny_bind (assignInOrder_cons (wpAny_bindName (mV I3 hN hj (.inl hy) rw' (fun s2 I4=>?_) (.inr hy))))
 refine assignInOrder_cons (wpAny_bindName (mV I4 hN hi (.inl hx) rv (fun s3 I5=>assignInOrder_nil (wpAny_pure ?_)) (.inr hx)))
 rw [List.set_comm _ _ (Ne.symm hij)] at I5
 exact ⟨_,H1,I5,q1⟩
def aTr (i:Nat) (te:TE) (ti:TIp):TS:=fun D σ H=>∃x,σ[i]?=some (some x)/\te σ H fun y H1=>ti x y H1 fun z H2=>D.nx (σ.set i (some z)) H2
theorem aQl {i:Nat} {x:Str} {e:Expr} {te:TE} {op:Operator} {ti:TIp} {pos':Pos} (hN:X.N.Nodup) (hi:X.N[i]?=some x) (hx:Loc X.env.scope x) (he:PE X e te) (ho:PIp X op ti) (hf:X.fn x=true\/X.env.scope.names.lookup x=some .local:=by first | exact .inl rfl | exact .inr rfl | assumption) :
  PS X (.AugAssign (.Name x pos') op e pos) (aTr i te ti):=by
 intro pins s σ H D I h
 obtain ⟨v,e1,h⟩:=h
 obtain ⟨m,hn,hl⟩:=I.loc
 have vis:Vis X.env.scope x:=by rcases hx with k | k;exact .inl k;exact .inr (.inl k)
 obtain ⟨u,r,l⟩:=hl i x v hi e1 vis
 refine wpAny_AugAssign_Name ?_
 have go:wpAny (model X.prog X.w) X.A (eval e X.env) (fun w s₂=>wpAny (model X.prog X.w) X.A (inplaceOp op u w) (fun r s₃=>wpAny (model X.prog X.w) X.A (storeName X.env x r) (fun _=>SP X pins D .next) X.xe s₃) X.xe s₂) X.xe s:=by
  refine thn (he pins s σ H _ I h) fun w s1 ⟨y,H1,I1,r1,q1⟩=>?_
  refine thn (ho pins s1 σ H1 v y u w _ I1 r r1 q1) fun z s2 ⟨zv,H2,I2,r2,q2⟩=>?_
  exact mV I2 hN hi hx r2 (fun s3 I3=>⟨_,H2,I3,q2⟩) hf
 rcases l with ⟨hk,hm⟩ | ⟨hk,c,hc,hcell⟩
 ·exact wpAny_loadName_local I.ok.kind hk hn hm go
 ·rcases hk with hk | hk
  ·exact wpAny_loadName_cell I.ok.kind hk hc hcell go
  ·rcases hx with k | k
   ·have:X.env.scope.names.lookup x=some .free:=hk
    rw [k] at this;cases this
   ·have:X.env.scope.names.lookup x=some .free:=hk
    rw [k] at this;cases this
def ipI (f:Int->Int->Int):TIp:=fun x y H Q=>∃i j,x=.int i/\y=.int j/\Q (.int (f i j)) H
theorem aHk:PIp X .Add (ipI fun i j=>i+j):=by
 intro pins s σ H x y v u Q I r1 r2 h
 obtain ⟨i,j,e1,e2,q⟩:=h
 subst e1;subst e2
 obtain ⟨t,rfl⟩:=r1
 obtain ⟨t',rfl⟩:=r2
 exact iadd_int ⟨.int _,H,I.tok _,⟨_,rfl⟩,q⟩
theorem aP3:PIp X .Sub (ipI fun i j=>i - j):=by
 intro pins s σ H x y v u Q I r1 r2 h
 obtain ⟨i,j,e1,e2,q⟩:=h
 subst e1;subst e2
 obtain ⟨t,rfl⟩:=r1
 obtain ⟨t',rfl⟩:=r2
 exact isub_int ⟨.int _,H,I.tok _,⟨_,rfl⟩,q⟩
end
section
variable {X:Cx} {pos:Pos}
def aG2 (c:TT) (tb:TS):TS:=fun D σ H=>∃W:Nat->St->Hp->Prop,(∃m,W m σ H)/\∀m σ H,W m σ H ->
 c σ H fun b H1=>if b=true then ∃N:St->Hp->Prop,(∀σ' H',N σ' H'->∃m',m'<m/\W m' σ' H')/\tb { D with nx:=N,ct:=N,bk:=D.nx } σ H1 else D.nx σ H1
theorem aHa {c:Expr} {body:List Stmt} {tc:TT} {tb:TS} (hp:PassesOwn (model X.prog X.w) X.A X.env X.xe) (hc:PT X c tc) (hb:PSs X body tb):PS X (.While c body [] pos) (aG2 tc tb):=by
 intro pins s σ H D I h
 obtain ⟨W,⟨m0,w0⟩,turn⟩:=h
 refine wpAny_While (codeAny_whileLoop (fun n s'=>∃σ' H',Inv X pins σ' H' s'/\W n σ' H') ?_ m0 ⟨σ,H,I,w0⟩)
 rintro n s1 ⟨σ1,H1,I1,w1⟩
 refine wpAny_passesOwn hp (thn (hc pins s1 σ1 H1 _ I1 (turn n σ1 H1 w1)) fun b s2 ⟨H2,I2,q2⟩=>?_)
 cases b with
 | true =>
  obtain ⟨N,hN,q2⟩:=q2
  rw [if_pos rfl]
  refine wpAny_passesOwn hp (thn (hb pins s2 σ1 H2 _ I2 q2) fun f s3 q3=>?_)
  cases f with
  | next =>
   obtain ⟨σ3,H3,I3,n3⟩:=q3
   obtain ⟨m',hm,w3⟩:=hN σ3 H3 n3
   exact ⟨m',hm,σ3,H3,I3,w3⟩
  | cont =>
   obtain ⟨σ3,H3,I3,n3⟩:=q3
   obtain ⟨m',hm,w3⟩:=hN σ3 H3 n3
   exact ⟨m',hm,σ3,H3,I3,w3⟩
  | brk=>exact q3
  | ret v=>exact q3
 | false =>
  rw [if_neg Bool.false_ne_true]
  exact wpAny_execs_nil ⟨σ1,H2,I2,q2⟩
end
structure It where
 go:Nat->Hp->Prop
 yld:Nat->Hp->V->Hp->Prop
 stop:Nat->Hp->Prop
def tK (X:Cx) (pins:Y8) (H:Hp) (b:Addr):Prop :=
 H b=none/\b ≠ X.env.locals/\b ∉ X.fs/\(b∈X.ex\/X.s₀.heap.objs.size<=b)/\(∀x c,X.env.cells.lookup x=some c->c ≠ b)/\∀p∈X.pn++pins,p.1 ≠ b
theorem Inv.aKk {X:Cx} {pins:Y8} {σ:St} {H H':Hp} {s:Shared} {b:Addr} (I:Inv X pins σ H s) (hb:s.heap.objs.size<=b) (hn:H' b=none):tK X pins H' b:=by
 refine ⟨hn,Nat.ne_of_gt (Nat.lt_of_lt_of_le I.lt hb),I.aWy hb,.inr (Nat.le_trans I.sz hb),fun x c e z=>?_,fun p hp z=>?_⟩
 ·obtain ⟨v,q⟩:=I.cell x c e
  exact absurd (Nat.lt_of_lt_of_le q.lt (by rw [z];exact hb)) (Nat.lt_irrefl _)
 ·exact absurd (Nat.lt_of_lt_of_le (Heap.lt_size (I.pin p hp).1) (by rw [z];exact hb)) (Nat.lt_irrefl _)
structure Turn (P:Program) (w:World) (K:FG) (tg:Expr) (J:It) (fp:Y2) (it:Addr) (tn:Nat->Heap->Prop):Prop where
 mem:it∈fp
 obj:∀i h,tn i h->∀b∈fp,∃o,h.get? b=some o/\∀v,o.data ≠ .cell v
 keep:∀i h h',tn i h->(∀b∈fp,∀o,h.get? b=some o->h'.get? b=some o)->tn i h'
 item:∀(X:Cx),X.prog=P->X.w=w->X.K=K->X.calm=true->∀(i:Nat) (pins:Y8) (s:Shared) (σ:St) (H:Hp) (E:Y9),Inv X pins σ H s->(∀b∈fp,tK X pins H b)->tn i s.heap->J.go i H ->
  wpAny (model P w) X.A (pyNext (.ref it)) (fun r s1=>∃u,r=some u /\
   wpAny (model P w) X.A (letOwnedTupleGo tg (.ref it) u) (fun _ s2=>∃x H',Inv X pins σ H' s2/\RelV x u/\J.yld i H x H'/\tn (i+1) s2.heap/\∀b∈fp,H' b=none) E s1) E s
 done:∀(X:Cx),X.prog=P->X.w=w->X.K=K->X.calm=true->∀(i:Nat) (pins:Y8) (s:Shared) (σ:St) (H:Hp) (E:Y9),Inv X pins σ H s->(∀b∈fp,tK X pins H b)->tn i s.heap->J.stop i H ->
  wpAny (model P w) X.A (pyNext (.ref it)) (fun r s1=>r=none/\Inv X pins σ H s1) E s
 self:∀(A:Around) (i:Nat) (s:Shared) (Q:Y9) (E:Y9),tn i s.heap->Q (.ref it) s->wpAny (model P w) A (pyIter (.ref it)) Q E s
abbrev TI:=St->Hp->(It->Hp->Prop)->Prop
def PIE (X:Cx) (pins:Y8) (σ:St) (tg:Expr) (R:It->Hp->Prop) (itv:Value) (s2:Shared):Prop :=
 ∃(it:Addr) (fp:Y2) (tn:Nat->Heap->Prop) (J:It) (H':Hp),itv=.ref it/\Inv X pins σ H' s2/\Turn X.prog X.w X.K tg J fp it tn/\tn 0 s2.heap/\(∀b∈fp,tK X pins H' b)/\R J H'
def PI (X:Cx) (tg iter:Expr) (wi:TI):Prop :=
 ∀(pins:Y8) (s:Shared) (σ:St) (H:Hp) (R:It->Hp->Prop),Inv X pins σ H s->wi σ H R ->
  wpAny (model X.prog X.w) X.A (eval iter X.env) (fun v s1=>wpAny (model X.prog X.w) X.A (pyIter v) (PIE X pins σ tg R) X.xe s1) X.xe s
theorem aHe {M:Model} {A:Around} {E:Y9} {s:Shared} {tg:Expr} {it:Addr} {u:Value} {o:Obj} {n:String} {vs:Array Value} {Q:Unit->Shared->Prop} (ho:s.heap.get? it=some o) (hc:o.cls=.type n) (hd:o.data=.fields vs)
  (hn:["enumerate", "zip", "dict_itemiterator", "dict_reverseitemiterator", "odict_iterator", "itertools.zip_longest", "itertools.pairwise"].contains n=false) (hQ:Q () s):wpAny M A (letOwnedTupleGo tg (.ref it) u) Q E s:=by
 unfold letOwnedTupleGo
 cases tg<;>first
  | exact wpAny_pure hQ
  | (cases u<;>first
    | exact wpAny_pure hQ
    | (refine wpAny_bind (wpAny_load ho ?_)
       rw [hc,hd]
       show wpAny M A (if (["enumerate", "zip", "dict_itemiterator", "dict_reverseitemiterator", "odict_iterator", "itertools.zip_longest", "itertools.pairwise"].contains n && vs[0]? == some (rawInt _))=true then _ else _) Q E s
       rw [if_neg (by intro h;rw [hn,Bool.false_and] at h;cases h)]
       exact wpAny_pure hQ))
def Itl (K:FG) (a:Addr):It :=
 ⟨fun i H=>∃xs x,SqL K H a xs/\xs[i]?=some x,fun i H x H'=>H'=H/\∀xs,SqL K H a xs->xs[i]?=some x,fun i H=>∃xs,SqL K H a xs/\xs.length<=i⟩
def Itt (K:FG) (a:Addr):It :=
 ⟨fun i H=>∃xs x,SqT K H a xs/\xs[i]?=some x,fun i H x H'=>H'=H/\∀xs,SqT K H a xs->xs[i]?=some x,fun i H=>∃xs,SqT K H a xs/\xs.length<=i⟩
def Itr (lo:Int) (n:Nat):It:=⟨fun i _=>i<n,fun i H x H'=>H'=H/\x=.int (lo+i),fun i _=>n<=i⟩
theorem aFt {P:Program} {w:World} {K:FG} {tg:Expr} (a it:Addr):Turn P w K tg (Itl K a) [it] it (fun i h=>h.IsListIter it a i) where
 mem:=by simp
 obj:=fun i h st b hb=>by
  have e:b=it:=by simpa using hb
  subst e
  obtain ⟨o,e,c,d⟩:=st
  exact ⟨o,e,fun v z=>by rw [d] at z;cases z⟩
 keep:=fun i h h' st k=>st.at fun o e=>k it (by simp) o e
 item:=by
  intro X hP hw hK hc i pins s σ H E I hf st hg
  subst hP hw hK
  obtain ⟨xs,x,hq,hx⟩:=hg
  obtain ⟨its,rv,p,hz⟩:=I.list hq
  obtain ⟨u,hu,ru⟩:=rv.get hx
  obtain ⟨f0,f1,f2,f3,f4,f5⟩:=hf it (by simp)
  refine wpAny_pyNext_list_item st p.isList (x:=u) (by simpa using hu) fun h' st' sb=>?_
  have I1:Inv X pins σ H { s with heap:=h' }:=I.turned (t':=s.toks) (fun b o hb e=>(sb.2 b hb).trans e) f0 f1 f3 f4 f5
  obtain ⟨o,e,c,d⟩:=id st'
  exact ⟨u,rfl,aHe (s:={ s with heap:=h' }) e c d (by decide) ⟨x,H,I1,ru,⟨rfl,fun ys hy=>by rw [I.aB1 hy hq];exact hx⟩,st',fun b hb=>(hf b hb).1⟩⟩
 done:=by
  intro X hP hw hK hc i pins s σ H E I hf st hg
  subst hP hw hK
  obtain ⟨xs,hq,hx⟩:=hg
  obtain ⟨its,rv,p,hz⟩:=I.list hq
  obtain ⟨f0,f1,f2,f3,f4,f5⟩:=hf it (by simp)
  have hl:=rv.length
  exact wpAny_pyNext_list_end (I.ok.hd hc) st p.isList (by simp;omega) fun h' eb=>⟨rfl,I.turned (t':=s.toks) (fun b o hb e=>eb b o hb e) f0 f1 f3 f4 f5⟩
 self:=fun _ _ _ _ _ st h=>wpAny_pyIter_listiter st h
theorem aCy {P:Program} {w:World} {K:FG} {tg:Expr} (a it:Addr):Turn P w K tg (Itt K a) [it] it (fun i h=>h.IsTupleIter it a i) where
 mem:=by simp
 obj:=fun i h st b hb=>by
  have e:b=it:=by simpa using hb
  subst e
  obtain ⟨o,e,c,d⟩:=st
  exact ⟨o,e,fun v z=>by rw [d] at z;cases z⟩
 keep:=fun i h h' st k=>st.at fun o e=>k it (by simp) o e
 item:=by
  intro X hP hw hK hc i pins s σ H E I hf st hg
  subst hP hw hK
  obtain ⟨xs,x,hq,hx⟩:=hg
  obtain ⟨its,rv,p,hz⟩:=I.tuple hq
  obtain ⟨u,hu,ru⟩:=rv.get hx
  obtain ⟨f0,f1,f2,f3,f4,f5⟩:=hf it (by simp)
  refine wpAny_pyNext_tuple_item st (show s.heap.IsTuple a its.toArray from p) (x:=u) (by simpa using hu) fun h' st' sb=>?_
  have I1:Inv X pins σ H { s with heap:=h' }:=I.turned (t':=s.toks) (fun b o hb e=>(sb.2 b hb).trans e) f0 f1 f3 f4 f5
  obtain ⟨o,e,c,d⟩:=id st'
  exact ⟨u,rfl,aHe (s:={ s with heap:=h' }) e c d (by decide) ⟨x,H,I1,ru,⟨rfl,fun ys hy=>by rw [I.aG1 hy hq];exact hx⟩,st',fun b hb=>(hf b hb).1⟩⟩
 done:=by
  intro X hP hw hK hc i pins s σ H E I hf st hg
  subst hP hw hK
  obtain ⟨xs,hq,hx⟩:=hg
  obtain ⟨its,rv,p,hz⟩:=I.tuple hq
  obtain ⟨f0,f1,f2,f3,f4,f5⟩:=hf it (by simp)
  have hl:=rv.length
  exact wpAny_pyNext_tuple_end (I.ok.hd hc) st (show s.heap.IsTuple a its.toArray from p) (by simp;omega) fun h' eb=>⟨rfl,I.turned (t':=s.toks) (fun b o hb e=>eb b o hb e) f0 f1 f3 f4 f5⟩
 self:=fun _ _ _ _ _ st h=>wpAny_pyIter_tupleiter st h
theorem aCz {P:Program} {w:World} {K:FG} {tg:Expr} (it:Addr) (lo:Int) (n:Nat):Turn P w K tg (Itr lo n) [it] it (fun i h=>IsRangeIter h it (lo+(i:Nat) * 1) ((n:Int) - (i:Nat)) 1) where
 mem:=by simp
 obj:=fun i h st b hb=>by
  have e:b=it:=by simpa using hb
  subst e
  exact ⟨_,st,fun v z=>by
   have z':Data.fields _=Data.cell v:=z
   cases z'⟩
 keep:=fun i h h' st k=>k it (by simp) _ st
 item:=by
  intro X hP hw hK hc i pins s σ H E I hf st hg
  subst hP hw hK
  obtain ⟨f0,f1,f2,f3,f4,f5⟩:=hf it (by simp)
  have W:=Walks.range (prog:=X.prog) (w:=X.w) (I.ok.hd hc) it lo 1 n
  refine W.item i s _ _ hg st fun v h' tk hv st' kk=>?_
  obtain ⟨t,rfl⟩:=hv
  have I1:Inv X pins σ H { s with heap:=h',toks:=tk }:=I.turned (fun b o hb e=>kk b o (by simpa using hb) e) f0 f1 f3 f4 f5
  refine ⟨_,rfl,aHe (s:={ s with heap:=h',toks:=tk }) (n := "range_iterator") st' rfl rfl (by decide) ⟨.int (lo+i),H,I1,⟨t,?_⟩,⟨rfl,rfl⟩,st',fun b hb=>(hf b hb).1⟩⟩
  rw [Int.mul_one]
 done:=by
  intro X hP hw hK hc i pins s σ H E I hf st hg
  subst hP hw hK
  obtain ⟨f0,f1,f2,f3,f4,f5⟩:=hf it (by simp)
  exact wpAny_pyNext_range_end (I.ok.hd hc) st (by have:n<=i:=hg;omega) fun h' eb=>⟨rfl,I.turned (t':=s.toks) (fun b o hb e=>eb b o hb e) f0 f1 f3 f4 f5⟩
 self:=fun _ _ _ _ _ st h=>wpAny_pyIter_rangeiter st h
end L2
namespace L2
open PySem PySem.Spec PyProof.Rows
section
variable {X:Cx} {tg:Expr}
def aHn (K:FG) (tl:TE):TI:=fun σ H R=>tl σ H fun x H1=>∃a,x=.ref a/\(∃xs,SqL K H1 a xs)/\R (Itl K a) H1
def aO3 (K:FG) (tl:TE):TI:=fun σ H R=>tl σ H fun x H1=>∃a,x=.ref a/\(∃xs,SqT K H1 a xs)/\R (Itt K a) H1
theorem aLi {l:Expr} {tl:TE} (hl:PE X l tl):PI X tg l (aHn X.K tl):=by
 intro pins s σ H R I h
 refine thn (hl pins s σ H _ I h) fun v s1 ⟨x,H1,I1,r1,q1⟩=>?_
 obtain ⟨a,e,⟨xs,hq⟩,q⟩:=q1
 subst e
 cases r1
 obtain ⟨its,rv,p,hz⟩:=I1.list hq
 refine wpAny_pyIter_list p.isList ?_
 refine ⟨s1.heap.objs.size,[s1.heap.objs.size],_,_,H1,rfl,I1.kept (t':=s1.toks) fun b o e=>Heap.get?_push_of_some _ e,aFt a _,⟨_,Heap.get?_push_size _ rfl,rfl,rfl⟩,fun b hb=>?_,q⟩
 have e:b=s1.heap.objs.size:=by simpa using hb
 subst e
 exact I1.aKk (Nat.le_refl _) (I1.hok.fresh (Nat.le_refl _))
theorem aO2 {l:Expr} {tl:TE} (hl:PE X l tl):PI X tg l (aO3 X.K tl):=by
 intro pins s σ H R I h
 refine thn (hl pins s σ H _ I h) fun v s1 ⟨x,H1,I1,r1,q1⟩=>?_
 obtain ⟨a,e,⟨xs,hq⟩,q⟩:=q1
 subst e
 cases r1
 obtain ⟨its,rv,p,hz⟩:=I1.tuple hq
 refine wpAny_pyIter_tuple (show s1.heap.IsTuple a its.toArray from p) ?_
 refine ⟨s1.heap.objs.size,[s1.heap.objs.size],_,_,H1,rfl,I1.kept (t':=s1.toks) fun b o e=>Heap.get?_push_of_some _ e,aCy a _,⟨_,Heap.get?_push_size _ rfl,rfl,rfl⟩,fun b hb=>?_,q⟩
 have e:b=s1.heap.objs.size:=by simpa using hb
 subst e
 exact I1.aKk (Nat.le_refl _) (I1.hok.fresh (Nat.le_refl _))
theorem aBv {pins:Y8} {σ:St} {H:Hp} {s:Shared} {R:It->Hp->Prop} {E:Y9} {lo hi:Int} {t u v:Tok} {tk:Nat} (I:Inv X pins σ H s) (h1:-(2 ^ 62)<=lo) (h2:lo<2 ^ 62) (h3:-(2 ^ 62)<=hi) (h4:hi<2 ^ 62)
  (q:R (Itr lo (hi - lo).toNat) H):wpAny (model X.prog X.w) X.A (pyIter (.ref s.heap.objs.size)) (PIE X pins σ tg R) E { s with heap:=s.heap.push { cls:=.type "range",data:=.fields #[.int lo t,.int hi u,.int 1 v] },toks:=tk }:=by
 refine wpAny_pyIter_range (IsRange.new ..) (small_one h1 h2 h3 h4) ?_
 have I1:Inv X pins σ H { s with heap:=s.heap.push { cls:=.type "range",data:=.fields #[.int lo t,.int hi u,.int 1 v] },toks:=tk }:=I.kept fun b o e=>Heap.get?_push_of_some _ e
 refine ⟨(s.heap.push { cls:=.type "range",data:=.fields #[.int lo t,.int hi u,.int 1 v] }).objs.size,[(s.heap.push { cls:=.type "range",data:=.fields #[.int lo t,.int hi u,.int 1 v] }).objs.size],_,_,H,rfl,
  I1.kept (t':=tk) fun b o e=>Heap.get?_push_of_some _ e,aCz _ lo (hi - lo).toNat,?_,fun b hb=>?_,q⟩
 ·have e1:lo+((0:Nat):Int) * 1=lo:=by simp
  have e2:(((hi - lo).toNat:Nat):Int) - ((0:Nat):Int)=Builtin.Range.rangeSize lo hi 1:=by rw [rangeSize_one];split<;>omega
  show IsRangeIter _ _ (lo+((0:Nat):Int) * 1) ((((hi - lo).toNat:Nat):Int) - ((0:Nat):Int)) 1
  rw [e1,e2]
  exact Heap.get?_push_size _ rfl
 ·have e:b=(s.heap.push { cls:=.type "range",data:=.fields #[.int lo t,.int hi u,.int 1 v] }).objs.size:=by simpa using hb
  subst e
  exact I1.aKk (Nat.le_refl _) (I1.hok.fresh (Nat.le_refl _))
def aNz (ta:TA):TI:=fun σ H R=>ta σ H fun vs H1=>∃j:Int,vs=[.int j]/\-(2 ^ 62)<=j/\j<2 ^ 62/\R (Itr 0 j.toNat) H1
def aNl (ta:TA):TI:=fun σ H R=>ta σ H fun vs H1=>∃i j:Int,vs=[.int i,.int j]/\(-(2 ^ 62)<=i/\i<2 ^ 62/\-(2 ^ 62)<=j/\j<2 ^ 62)/\R (Itr i (j - i).toNat) H1
theorem aFh {a:Expr} {ta:TA} {p pos:Pos} (hg:Gl X "range") (hm:X.mg "range" = none) (ha:PA X [a] ta) (hs:starEach [a] X.env=[(false,eval a X.env)]:=by rfl):PI X tg (.Call (.Name "range" p) [a] [] pos) (aNz ta):=by
 intro pins s σ H R I h
 refine Call_ (mU I hg hm boot_range (PyProof.Rows.callWith_type1 (thn (ha pos pins s σ H _ I h) fun us s1 ⟨vs,H1,I1,r1,q1⟩=>?_) hs rfl))
 obtain ⟨j,e,q1,q2,q⟩:=q1
 subst e
 cases r1 with
 | cons r rr =>
  cases rr
  obtain ⟨t,rfl⟩:=r
  exact call_range_1 (aBv I1 (by omega) (by omega) q1 q2 (by simpa using q))
theorem aGl {a b:Expr} {ta:TA} {p pos:Pos} (hg:Gl X "range") (hm:X.mg "range" = none) (ha:PA X [a,b] ta) (hs:starEach [a,b] X.env=[(false,eval a X.env),(false,eval b X.env)]:=by rfl) (hs2:starEach [b] X.env=[(false,eval b X.env)]:=by rfl) :
  PI X tg (.Call (.Name "range" p) [a,b] [] pos) (aNl ta):=by
 intro pins s σ H R I h
 refine Call_ (mU I hg hm boot_range (PyProof.Rows.callWith_type1 (thn (ha pos pins s σ H _ I h) fun us s1 ⟨vs,H1,I1,r1,q1⟩=>?_) (by rw [hs,hs2]) (by rw [hs2];rfl)))
 obtain ⟨i,j,e,⟨q1,q2,q3,q4⟩,q⟩:=q1
 subst e
 cases r1 with
 | cons r rr =>
  cases rr with
  | cons r' rr =>
   cases rr
   obtain ⟨t,rfl⟩:=r
   obtain ⟨t',rfl⟩:=r'
   exact call_range_2 (aBv I1 q1 q2 q3 q4 q)
def aSp (wi:TI) (g:TG) (tb:TS):TS:=fun D σ H=>wi σ H fun J H1=>∃W:Nat->Nat->St->Hp->Prop,(∃m,W 0 m σ H1)/\∀i m σ H,W i m σ H ->
 (J.stop i H/\D.nx σ H)\/(J.go i H/\∃N:St->Hp->Prop,(∀σ' H',N σ' H'->∃m',m'<m/\W (i+1) m' σ' H')/\∀x H',J.yld i H x H'->g x σ H' fun σ2 H2=>tb { D with nx:=N,ct:=N,bk:=D.nx } σ2 H2)
def uG (fp:Y2) (h:Heap):Y8:=fp.filterMap fun b=>(h.get? b).map fun o=>(b,o)
theorem lB {fp:Y2} {h:Heap} {b:Addr} {o:Obj} (hb:b∈fp) (e:h.get? b=some o):(b,o)∈uG fp h:=List.mem_filterMap.mpr ⟨b,hb,by rw [e];rfl⟩
theorem aGk {fp:Y2} {h:Heap} {p:Addr×Obj} (hp:p∈uG fp h):p.1∈fp/\h.get? p.1=some p.2:=by
 obtain ⟨b,hb,e⟩:=List.mem_filterMap.mp hp
 cases q:h.get? b with
 | none=>rw [q] at e;cases e
 | some o =>
  rw [q] at e
  have e':(b,o)=p:=Option.some.inj e
  subst e'
  exact ⟨hb,q⟩
theorem Inv.pinned {pins:Y8} {σ:St} {H:Hp} {s:Shared} {fp:Y2} (I:Inv X pins σ H s) (hf:∀b∈fp,tK X pins H b) (ho:∀b∈fp,∃o,s.heap.get? b=some o/\∀v,o.data ≠ .cell v):Inv X (pins++uG fp s.heap) σ H s :=
 I.aFb fun p hp=>(List.mem_append.mp hp).elim (fun z=>I.pin p (List.mem_append_right _ z)) fun z=>by
  obtain ⟨hb,e⟩:=aGk z
  obtain ⟨f0,f1,f2,_⟩:=hf p.1 hb
  obtain ⟨o,e',d⟩:=ho p.1 hb
  rw [e] at e';cases e'
  exact ⟨e,f0,f1,f2,d⟩
theorem Inv.qF {pins pl:Y8} {σ:St} {H:Hp} {s:Shared} (I:Inv X (pins++pl) σ H s):Inv X pins σ H s:=I.aFb fun p hp=>I.pin p (List.mem_append_right _ (List.mem_append_left _ hp))
theorem aO8 {iter:Expr} {body:List Stmt} {wi:TI} {g:TG} {tb:TS} {pos:Pos} (hp:PassesOwn (model X.prog X.w) X.A X.env X.xe) (hc:X.calm=true) (hi:PI X tg iter wi) (hg:PG X tg g) (hb:PSs X body tb)
  (hs:∀x,foldedSetIterable iter X.env x=pure x:=by intro _;rfl):PS X (.For tg iter body [] pos) (aSp wi g tb):=by
 intro pins s σ H D I h
 refine wpAny_For (thn (hi pins s σ H _ I h) fun v s1 h1=>thn h1 fun itv s2 h2=>?_) hs
 obtain ⟨it,fp,tn,J,H2,e,I2,T,st2,f2,W,⟨m0,w0⟩,turn⟩:=h2
 subst e
 have stat:∀ {H':Hp},(∀b∈fp,H' b=none)->∀b∈fp,tK X pins H' b:=fun hn b hb=>⟨hn b hb,(f2 b hb).2⟩
 refine codeAny_forLoop_any (fun n s'=>∃i σ' H',Inv X pins σ' H' s'/\tn i s'.heap/\(∀b∈fp,H' b=none)/\W i n σ' H') ?_ m0 ⟨0,σ,H2,I2,st2,fun b hb=>(f2 b hb).1,w0⟩
 rintro n s3 ⟨i,σ3,H3,I3,st3,fr3,w3⟩
 rcases turn i n σ3 H3 w3 with ⟨stop,qn⟩ | ⟨go,N,hN,step⟩
 ·refine wpAny_passesOwn hp (thn (T.done X rfl rfl rfl hc i pins s3 σ3 H3 X.xe I3 (stat fr3) st3 stop) fun r s4 ⟨hr,I4⟩=>?_)
  subst hr
  exact wpAny_execs_nil ⟨σ3,H3,I4,qn⟩
 ·refine wpAny_passesOwn hp (thn (T.item X rfl rfl rfl hc i pins s3 σ3 H3 X.xe I3 (stat fr3) st3 go) fun r s4 ⟨u,hr,h4⟩=>?_)
  subst hr
  refine wpAny_passesOwn hp (thn h4 fun _ s5 ⟨x,H5,I5,r5,y5,st5,fr5⟩=>?_)
  have I5':=I5.pinned (stat fr5) (T.obj _ _ st5)
  refine wpAny_passesOwn hp (thn (hg _ s5 σ3 H5 x u _ I5' r5 (step x H5 y5)) fun _ s6 ⟨σ6,H6,I6,q6⟩=>?_)
  refine wpAny_passesOwn hp (thn (hb _ s6 σ6 H6 _ I6 q6) fun f s7 q7=>?_)
  have again:∀ {σ7:St} {H7:Hp},Inv X (pins++uG fp s5.heap) σ7 H7 s7->N σ7 H7->∃m,m<n/\∃i σ' H',Inv X pins σ' H' s7/\tn i s7.heap/\(∀b∈fp,H' b=none)/\W i m σ' H':=fun {σ7 H7} I7 n7=>by
   obtain ⟨m',hm,w7⟩:=hN σ7 H7 n7
   refine ⟨m',hm,i+1,σ7,H7,I7.qF,T.keep _ _ _ st5 fun b hb o e=>(I7.pin (b,o) (List.mem_append_right _ (List.mem_append_right _ (lB hb e)))).1,fun b hb=>?_,w7⟩
   obtain ⟨o,e,d⟩:=T.obj _ _ st5 b hb
   exact (I7.pin (b,o) (List.mem_append_right _ (List.mem_append_right _ (lB hb e)))).2.1
  cases f with
  | next=>obtain ⟨σ7,H7,I7,n7⟩:=q7;exact again I7 n7
  | cont=>obtain ⟨σ7,H7,I7,n7⟩:=q7;exact again I7 n7
  | brk=>obtain ⟨σ7,H7,I7,q7⟩:=q7;exact ⟨σ7,H7,I7.qF,q7⟩
  | ret v=>obtain ⟨x7,σ7,H7,I7,r7,q7⟩:=q7;exact ⟨x7,σ7,H7,I7.qF,r7,q7⟩
end
end L2
namespace L2
open PySem PySem.Spec PyProof.Rows
abbrev R2:=V->V->Hp->VK->Prop
def OpR (X:Cx) (f:Value->Value->Sem Value) (r:R2):Prop :=
 ∀(pins:Y8) (s:Shared) (σ:St) (H:Hp) (x y:V) (v u:Value) (Q:VK),Inv X pins σ H s->RelV x v->RelV y u->r x y H Q ->
  wpAny (model X.prog X.w) X.A (f v u) (EP X pins σ Q) X.xe s
def UnR (X:Cx) (f:Value->Sem Value) (r:V->Hp->VK->Prop):Prop :=
 ∀(pins:Y8) (s:Shared) (σ:St) (H:Hp) (x:V) (v:Value) (Q:VK),Inv X pins σ H s->RelV x v->r x H Q ->
  wpAny (model X.prog X.w) X.A (f v) (EP X pins σ Q) X.xe s
def lW (X:Cx) (f:Value) (r:List V->Hp->VK->Prop):Prop :=
 ∀(pins:Y8) (s:Shared) (σ:St) (H:Hp) (xs:List V) (us:Y1) (Q:VK),Inv X pins σ H s->Vals xs us->r xs H Q ->
  wpAny (model X.prog X.w) X.A (call f us) (EP X pins σ Q) X.xe s
def aWl (X:Cx) (r:V->Hp->(Bool->Hp->Prop)->Prop):Prop :=
 ∀(pins:Y8) (s:Shared) (σ:St) (H:Hp) (x:V) (v:Value) (Q:Bool->Hp->Prop),Inv X pins σ H s->RelV x v->r x H Q ->
  wpAny (model X.prog X.w) X.A (truthy v) (TP X pins σ Q) X.xe s
def tOp (r:R2) (ta tb:TE):TE:=fun σ H Q=>ta σ H fun x H1=>tb σ H1 fun y H2=>r x y H2 Q
def tUn (r:V->Hp->VK->Prop) (ta:TE):TE:=fun σ H Q=>ta σ H fun x H1=>r x H1 Q
def rI (C:Int->Int->Prop) (g:Int->Int->V):R2:=fun x y H Q=>∃i j,x=.int i/\y=.int j/\C i j/\Q (g i j) H
def rI0 (g:Int->Int->V):R2:=fun x y H Q=>∃i j,x=.int i/\y=.int j/\Q (g i j) H
def rU (g:Int->V):V->Hp->VK->Prop:=fun x H Q=>∃i,x=.int i/\Q (g i) H
section
variable {X:Cx} {a b c:Expr} {ta tb tc:TE} {pos:Pos}
theorem aR1 (ha:PE X a ta) (hb:PE X b tb) {pins:Y8} {s:Shared} {σ:St} {H:Hp} {R:V->V->Hp->Prop} (I:Inv X pins σ H s)
  (h:ta σ H fun x H1=>tb σ H1 fun y H2=>R x y H2) {Q:Y9} {f:Value->Value->Sem Value}
  (hf:∀v u s2 x y H2,Inv X pins σ H2 s2->RelV x v->RelV y u->R x y H2->wpAny (model X.prog X.w) X.A (f v u) Q X.xe s2) :
  wpAny (model X.prog X.w) X.A (eval a X.env) (fun v s₁=>wpAny (model X.prog X.w) X.A (eval b X.env) (fun u s₂=>wpAny (model X.prog X.w) X.A (f v u) Q X.xe s₂) X.xe s₁) X.xe s:=by
 refine thn (ha pins s σ H _ I h) fun v s1 ⟨x,H1,I1,r1,q1⟩=>?_
 refine thn (hb pins s1 σ H1 _ I1 q1) fun u s2 ⟨y,H2,I2,r2,q2⟩=>?_
 exact hf v u s2 x y H2 I2 r1 r2 q2
theorem aUr {op:Operator} {r:R2} (ho:OpR X (binaryOp op) r) (ha:PE X a ta) (hb:PE X b tb):PE X (.BinOp a op b pos) (tOp r ta tb):=by
 intro pins s σ H Q I h
 exact wpAny_BinOp (aR1 ha hb I h fun v u s2 x y H2 I2 rx ry q=>ho pins s2 σ H2 x y v u Q I2 rx ry q)
theorem aUo {op:UnaryOp} {r:V->Hp->VK->Prop} (ho:UnR X (unaryOp op) r) (ha:PE X a ta):PE X (.UnaryOp op a pos) (tUn r ta):=by
 intro pins s σ H Q I h
 exact UnaryOp_ (thn (ha pins s σ H _ I h) fun v s1 ⟨x,H1,I1,r1,q1⟩=>ho pins s1 σ H1 x v Q I1 r1 q1)
theorem opI {f:Value->Value->Sem Value} {C:Int->Int->Prop} {g:Int->Int->Int}
  (rule:∀(i j:Int) (t u:Tok) (s:Shared) (Q:Y9) (E:Y9),C i j->Q (.int (g i j) s.toks) { s with toks:=s.toks+1 }->wpAny (model X.prog X.w) X.A (f (.int i t) (.int j u)) Q E s) :
  OpR X f (rI C fun i j=>.int (g i j)):=by
 intro pins s σ H x y v u Q I rx ry h
 obtain ⟨i,j,rfl,rfl,hc,q⟩:=h
 obtain ⟨t,rfl⟩:=rx
 obtain ⟨t',rfl⟩:=ry
 exact rule i j t t' s _ _ hc ⟨.int (g i j),H,I.tok _,⟨_,rfl⟩,q⟩
theorem aSx {f:Value->Value->Sem Value} {g:Int->Int->Int}
  (rule:∀(i j:Int) (t u:Tok) (s:Shared) (Q:Y9) (E:Y9),Q (.int (g i j) s.toks) { s with toks:=s.toks+1 }->wpAny (model X.prog X.w) X.A (f (.int i t) (.int j u)) Q E s) :
  OpR X f (rI0 fun i j=>.int (g i j)):=by
 intro pins s σ H x y v u Q I rx ry h
 obtain ⟨i,j,rfl,rfl,q⟩:=h
 obtain ⟨t,rfl⟩:=rx
 obtain ⟨t',rfl⟩:=ry
 exact rule i j t t' s _ _ ⟨.int (g i j),H,I.tok _,⟨_,rfl⟩,q⟩
theorem aL5 {f:Value->Value->Sem Value} {g:Int->Int->Bool}
  (rule:∀(i j:Int) (t u:Tok) (s:Shared) (Q:Y9) (E:Y9),Q (.bool (g i j)) s->wpAny (model X.prog X.w) X.A (f (.int i t) (.int j u)) Q E s) :
  OpR X f (rI0 fun i j=>.bl (g i j)):=by
 intro pins s σ H x y v u Q I rx ry h
 obtain ⟨i,j,rfl,rfl,q⟩:=h
 obtain ⟨t,rfl⟩:=rx
 obtain ⟨t',rfl⟩:=ry
 exact rule i j t t' s _ _ ⟨.bl (g i j),H,I,rfl,q⟩
theorem aRk:OpR X (binaryOp .Add) (rI0 fun i j=>.int (i+j)):=aSx fun _ _ _ _ _ _ _ q=>add_int q
theorem aQ0:OpR X (binaryOp .Sub) (rI0 fun i j=>.int (i - j)):=aSx fun _ _ _ _ _ _ _ q=>sub_int q
theorem aOs:OpR X (binaryOp .Mod) (rI (fun _ j=>0<j) fun i j=>.int (i % j)):=opI fun i j _ _ _ _ _ hc q=>by
 have h1:(0:Int)<j:=hc
 exact mod_int' (by omega) (by rw [Int.fmod_eq_emod_of_nonneg i (by omega)];exact q)
theorem unI {f:Value->Sem Value} {g:Int->Int}
  (rule:∀(i:Int) (t:Tok) (s:Shared) (Q:Y9) (E:Y9),Q (.int (g i) s.toks) { s with toks:=s.toks+1 }->wpAny (model X.prog X.w) X.A (f (.int i t)) Q E s) :
  UnR X f (rU fun i=>.int (g i)):=by
 intro pins s σ H x v Q I rx h
 obtain ⟨i,rfl,q⟩:=h
 obtain ⟨t,rfl⟩:=rx
 exact rule i t s _ _ ⟨.int (g i),H,I.tok _,⟨_,rfl⟩,q⟩
theorem aPm:UnR X (unaryOp .USub) (rU fun i=>.int (-i)):=unI fun _ _ _ _ _ q=>neg_int q
end
section
variable {X:Cx} {a b c:Expr} {ta tb tc:TE} {pos:Pos}
theorem aIn {pins:Y8} {σ:St} {H:Hp} {s:Shared} {Q:VK} {k k':Bool} (I:Inv X pins σ H s) (q:Q (.bl k) H) (e:k=k'):EP X pins σ Q (.bool k') s:=by
 subst e
 exact ⟨.bl k,H,I,rfl,q⟩
theorem aN6:OpR X (compareOp .Lt) (rI0 fun i j=>.bl (decide (i<j))):=aL5 fun _ _ _ _ _ _ _ q=>lt_int q
theorem aNg:OpR X (compareOp .LtE) (rI0 fun i j=>.bl (decide (i<=j))):=aL5 fun _ _ _ _ _ _ _ q=>le_int q
theorem aNj:OpR X (compareOp .Gt) (rI0 fun i j=>.bl (decide (j<i))):=aL5 fun _ _ _ _ _ _ _ q=>gt_int q
theorem aSj:OpR X (compareOp .GtE) (rI0 fun i j=>.bl (decide (j<=i))):=aL5 fun _ _ _ _ _ _ _ q=>ge_int q
theorem aRm:OpR X (compareOp .Is) (fun x y H Q=>y=.non/\Q (.bl (decide (x=.non))) H):=by
 intro pins s σ H x y v u Q I rx ry h
 obtain ⟨rfl,q⟩:=h
 cases ry
 refine is_none_gen (aIn I q ?_)
 cases x<;>first
  | (cases rx;rfl)
  | (obtain ⟨t,rfl⟩:=rx;rfl)
theorem aEq:OpR X (compareOp .IsNot) (fun x y H Q=>y=.non/\Q (.bl (!decide (x=.non))) H):=by
 intro pins s σ H x y v u Q I rx ry h
 obtain ⟨rfl,q⟩:=h
 cases ry
 refine isnot_none_gen (aIn I q ?_)
 cases x<;>first
  | (cases rx;rfl)
  | (obtain ⟨t,rfl⟩:=rx;rfl)
theorem OpR.or {f:Value->Value->Sem Value} {r r':R2} (h:OpR X f r) (h':OpR X f r'):OpR X f (fun x y H Q=>r x y H Q\/r' x y H Q):=by
 intro pins s σ H x y v u Q I rx ry q
 rcases q with q | q
 ·exact h pins s σ H x y v u Q I rx ry q
 ·exact h' pins s σ H x y v u Q I rx ry q
theorem gC (b:Expr) {op:CmpOp} (h:op ≠ .In:=by decide) (h2:op ≠ .NotIn:=by decide):behindInMarks op b=false:=by
 have e1:(op == CmpOp.In)=false:=by cases op<;>first | rfl | exact absurd rfl h
 have e2:(op == CmpOp.NotIn)=false:=by cases op<;>first | rfl | exact absurd rfl h2
 cases b<;>simp [behindInMarks,e1,e2]
theorem aK4 {op:CmpOp} {r:R2} (ho:OpR X (compareOp op) r) (ha:PE X a ta) (hb:PE X b tb) (hm:behindInMarks op b=false):PE X (.Compare a [op] [b] pos) (tOp r ta tb):=by
 intro pins s σ H Q I h
 exact wpAny_Compare1 (aR1 ha hb I h fun v u s2 x y H2 I2 rx ry q=>ho pins s2 σ H2 x y v u Q I2 rx ry q) hm
def aE9 (t:TE):TT:=fun σ H Q=>t σ H fun x H'=>∃k,x=.bl k/\Q k H'
theorem aLs {op:CmpOp} {r:R2} (ho:OpR X (compareOp op) r) (ha:PE X a ta) (hb:PE X b tb) (hm:behindInMarks op b=false):PT X (.Compare a [op] [b] pos) (aE9 (tOp r ta tb)):=by
 intro pins s σ H Q I h
 refine wpAny_isTrue_Compare1 (thn (ha pins s σ H _ I h) fun v s1 ⟨x,H1,I1,r1,q1⟩=>thn (hb pins s1 σ H1 _ I1 q1) fun u s2 ⟨y,H2,I2,r2,q2⟩ =>
  thn (ho pins s2 σ H2 x y v u _ I2 r1 r2 q2) fun c s3 ⟨z,H3,I3,r3,k,e,q3⟩=>?_) hm
 subst e
 cases r3
 exact wpAny_truthy_bool ⟨H3,I3,q3⟩
def aH7 (r r':R2) (ta tb tc:TE):TE:=fun σ H Q=>ta σ H fun x H1=>tb σ H1 fun y H2=>r x y H2 fun z H3=>∃k,z=.bl k /\
 (if k=true then tc σ H3 fun w' H4=>r' y w' H4 Q else Q (.bl false) H3)
theorem aI7 {op op':CmpOp} {r r':R2} (ho:OpR X (compareOp op) r) (ho':OpR X (compareOp op') r') (ha:PE X a ta) (hb:PE X b tb) (hc:PE X c tc)
  (hm:lastMarks [op,op'] [b,c]=false:=by with_unfolding_all rfl):PE X (.Compare a [op,op'] [b,c] pos) (aH7 r r' ta tb tc):=by
 intro pins s σ H Q I h
 refine Compare_chain (thn (ha pins s σ H _ I h) fun v s1 ⟨x,H1,I1,r1,q1⟩=>chain_link (thn (hb pins s1 σ H1 _ I1 q1) fun u s2 ⟨y,H2,I2,r2,q2⟩ =>
  thn (ho pins s2 σ H2 x y v u _ I2 r1 r2 q2) fun d s3 ⟨z,H3,I3,r3,k,e,q3⟩=>?_)) hm
 subst e
 cases r3
 refine wpAny_truthy_bool ?_
 cases k with
 | false=>exact ite_ff ⟨.bl false,H3,I3,rfl,q3⟩
 | true=>exact ite_tt (chain_last (thn (hc pins s3 σ H3 _ I3 q3) fun w' s4 ⟨z',H4,I4,r4,q4⟩=>ho' pins s4 σ H4 y z' u w' Q I4 r2 r4 q4))
def aOz (K:FG) (x:V) (H:Hp) (k:Bool):Prop :=
 match x with
 | .non=>k=false
 | .bl b=>k=b
 | .int i=>k=(i != 0)
 | .str y=>y.length<=sizeLine/\k=((y.length:Int) != 0)
 | .byt y=>y.size<=sizeLine/\k=((y.size:Int) != 0)
 | .ref p=>(∃xs,SqL K H p xs/\k = !xs.isEmpty)\/(∃xs,SqT K H p xs/\k = !xs.isEmpty)\/∃kvs,H p=some (.dK kvs)/\k = !kvs.isEmpty
 | _=>False
theorem aCk {κ:Type} {kvs:List (κ×V)} {vs:List (κ×Value)} (r:KV kvs vs):(!vs.isEmpty) = !kvs.isEmpty:=by
 cases r<;>rfl
theorem uD {xs:List V} {its:Y1} (r:Vals xs its):(!its.toArray.isEmpty) = !xs.isEmpty:=by
 cases r<;>simp
theorem uK:(sizeLine:Nat)<2 ^ 63:=by rw [sizeLine_eq];decide
theorem aQ9:aWl X (fun x H Q=>∃k,aOz X.K x H k/\Q k H):=by
 intro pins s σ H x v Q I rx h
 obtain ⟨k,e,q⟩:=h
 have hl:=uK
 have hs:sizeLine=16777216:=sizeLine_eq
 cases x with
 | non =>
  cases rx
  have e':k=false:=e
  subst e'
  exact truthy_none ⟨H,I,q⟩
 | bl b =>
  cases rx
  have e':k=b:=e
  subst e'
  exact wpAny_truthy_bool ⟨H,I,q⟩
 | int i =>
  obtain ⟨t,rfl⟩:=rx
  have e':k=(i != 0):=e
  subst e'
  exact PySem.P.truthy_int ⟨H,I,q⟩
 | str y =>
  obtain ⟨t,rfl⟩:=rx
  obtain ⟨hy,e'⟩:y.length<=sizeLine/\k=((y.length:Int) != 0):=e
  subst e'
  exact PySem.P.truthy_str (by omega) ⟨H,I.tok _,q⟩
 | byt y =>
  obtain ⟨t,rfl⟩:=rx
  obtain ⟨hy,e'⟩:y.size<=sizeLine/\k=((y.size:Int) != 0):=e
  subst e'
  exact PySem.W.truthy_bytes (by omega) ⟨H,I.tok _,q⟩
 | ref p =>
  cases rx
  have e':(∃xs,SqL X.K H p xs/\k = !xs.isEmpty)\/(∃xs,SqT X.K H p xs/\k = !xs.isEmpty)\/∃kvs,H p=some (.dK kvs)/\k = !kvs.isEmpty:=e
  rcases e' with ⟨xs,hx,e'⟩ | ⟨xs,hx,e'⟩ | ⟨kvs,hx,e'⟩
  ·subst e'
   obtain ⟨its,r,pl,hz⟩:=I.list hx
   have hlen:=r.length
   exact wpAny_truthy_list pl.isList (by simp only [List.size_toArray];omega) ⟨H,I.tok _,by rw [uD r];exact q⟩
  ·subst e'
   obtain ⟨its,r,pl,hz⟩:=I.tuple hx
   have hlen:=r.length
   exact truthy_tuple pl (by simp only [List.size_toArray];omega) ⟨H,I.tok _,by rw [uD r];exact q⟩
  ·subst e'
   obtain ⟨hz,hS,vs,r,m⟩:kvs.length<=sizeLine/\(p == sysModules)=false/\∃vs,KV kvs vs/\s.heap.DictOf (dF X.prog X.w) p vs:=I.hok p _ hx
   have hlen:kvs.length=vs.length:=Paired.length r
   exact wpAny_truthy_dict hS m (by omega) ⟨H,I.tok _,by rw [aCk r];exact q⟩
 | _=>exact (show False from e).elim
theorem aG9 (ha:PE X a ta) (he:∀whole,isTrue a X.env whole=(do let v <- whole;standAt a.pos;holding [v] (truthy v))) :
  PT X a (fun σ H Q=>ta σ H fun x H'=>∃k,aOz X.K x H' k/\Q k H'):=by
 intro pins s σ H Q I h
 exact isTrue_plain (thn (ha pins s σ H _ I h) fun v s1 ⟨x,H1,I1,r1,q1⟩=>aQ9 pins s1 σ H1 x v Q I1 r1 q1) (he _)
theorem vals1 {x:V} {us:Y1} (r:Vals [x] us):∃u,us=[u]/\RelV x u:=by
 cases r with
 | cons r1 r2=>cases r2;exact ⟨_,rfl,r1⟩
theorem aJx:lW X (.builtin "abs") (fun xs H Q=>∃i,xs=[.int i]/\Q (.int (if i<0 then -i else i)) H):=by
 intro pins s σ H xs us Q I r h
 obtain ⟨i,rfl,q⟩:=h
 obtain ⟨u,rfl,t,rfl⟩:=vals1 r
 exact call_abs_int fun u tk=>⟨.int (if i<0 then -i else i),H,I.tok _,⟨_,rfl⟩,q⟩
end
end L2
namespace L2
open PySem PySem.Spec PyProof.Rows
structure ObjM (h:Heap) (x dx C:Addr) (mA:Y6):Prop where
 obj:h.get? x=some (PySem.W.instObj C dx)
 ns:h.Ns1 dx mA
 ne:dx ≠ x
theorem aGq {h:Heap} {dx:Addr} {mA:Y6} (n:h.Ns1 dx mA):∃od,h.get? dx=some od/\∀name,PySem.W.lookIn name od=some (mA name):=by
 obtain ⟨o,es,ep,ho,hd,hk,_,hm⟩:=n
 refine ⟨o,ho,fun name=>?_⟩
 have e:=hm name
 unfold nsFind findBy at e
 rw [<- Array.find?_toList] at e
 unfold PySem.W.lookIn
 rw [hd]
 dsimp only
 split
 ·rename_i y q
  rw [q] at e
  exact congrArg some e
 ·rename_i q
  rw [q] at e
  have a:es.toList.any (·.refKey)=false:=by
   rw [List.any_eq_false]
   intro y hy
   obtain ⟨z,t,hkey⟩:=hk y (Array.mem_toList_iff.mp hy)
   simp [DictEntry.refKey,hkey]
  have a':¬ es.toList.any (·.refKey)=true:=by rw [a];exact Bool.false_ne_true
  rw [if_neg a']
  exact congrArg some e
theorem ObjM.look {h:Heap} {x dx C:Addr} {mA:Y6} (I:ObjM h x dx C mA):∃od,PySem.W.InstAt h x (PySem.W.instObj C dx) C (some od)/\∀name,PySem.W.lookIn name od=some (mA name) :=
 let ⟨od,ho,hl⟩:=aGq I.ns
 ⟨od,⟨I.obj,rfl,rfl,ho⟩,hl⟩
section
variable {prog:Program} {w:World} {A:Around} {E:Y9} {s:Shared} {K:FG} {x dx C f:Addr} {mA:Y6} {name:Str} {v:Value}
end
theorem tV.some_of {v:V} {o:Option Value} (r:tV (some v) o):∃u,o=some u/\RelV v u:=by
 cases o with
 | none=>exact (show False from r).elim
 | some u=>exact ⟨u,rfl,r⟩
section
variable {P:Program} {w:World} {H H':Hp} {h h':Heap} {a C dx:Addr} {fs fs':List (Str×V)}
theorem hZ (hok:HOk P w H h) (e:H a=some (.ins C dx fs)):∃mA,ObjM h a dx C mA/\(∀f,tV (fs.lookup f) (mA f))/\PySem.Within mA (fs.map (·.1))/\fs.length<=1000/\H dx=some (.own a):=by
 obtain ⟨d,z,ne,ob,mA,n,r,q⟩:=(show dA P w H h a (.ins C dx fs) from hok a _ e)
 exact ⟨mA,⟨ob,n,ne⟩,r,q,z,d⟩
end
structure Cls (K:FG) (C:Addr):Prop where
 pg:PySem.W.plainGet K C Str.empty=true
 hd:PySem.W.hasDictIn K C=true
 po:PySem.W.plainOver K C=true
 sa:PySem.W.findIn K (.ref C) "__setattr__" = some (some (.builtin "object.__setattr__"))
theorem Cls.get {K:FG} {C:Addr} (c:Cls K C) (f:Str):PySem.W.plainGet K C f=true:=c.pg
section
variable {X:Cx} {pins:Y8} {σ:St} {H:Hp} {s:Shared} {a C dx:Addr} {fs:List (Str×V)} {f:Str} {v:V} {A:Around} {E:Y9}
end
section
variable {X:Cx} {o e value:Expr} {f:Str} {pos pos' tpos:Pos} {ta tv:TE}
end
section
variable {X:Cx} {pins:Y8} {σ:St} {H:Hp} {s:Shared} {A:Around} {E:Y9} {Q:Y9} {c:Value} {b:Bool}
inductive TyOf (K:FG) (H:Hp):V->Value->Prop where
 | non:TyOf K H .non (.type "NoneType")
 | bl (x:Bool):TyOf K H (.bl x) (.type "bool")
 | int (i:Int):TyOf K H (.int i) (.type "int")
 | str (x:Str):TyOf K H (.str x) (.type "str")
 | flt (x:UInt64):TyOf K H (.flt x) (.type "float")
 | lst {a:Addr} {xs:List V} (e:H a=some (.lst xs)):TyOf K H (.ref a) (.type "list")
 | frz {a:Addr} {o:Obj} {xs:List V} (e:H a=some (.frz o (.lst xs))):TyOf K H (.ref a) (.type "list")
 | tup {a:Addr} {xs:List V} (e:H a=some (.tup xs)):TyOf K H (.ref a) (.type "tuple")
 | dK {a:Addr} {kvs:List (Key×V)} (e:H a=some (.dK kvs)):TyOf K H (.ref a) (.type "dict")
 | dT {a:Addr} {kvs:List (List Key×V)} (e:H a=some (.dT kvs)):TyOf K H (.ref a) (.type "dict")
 | ins {a C dx:Addr} {fs:List (Str×V)} (e:H a=some (.ins C dx fs)) (cl:Cls K C) (ha:PySem.W.findIn K (.ref C) "__class__" = some (some (.builtin "object.__class__")))
   (hn:PySem.W.specialIn K (.builtin "object.__class__") "__get__" = some (some (.builtin "getset_descriptor.__get__"))) (htk:PySem.W.takesIn K (.builtin "object.__class__")=some true)
   (hm:PySem.W.mroIn K C (.type "object")=some true):TyOf K H (.ref a) (.ref C)
theorem iG {x:V} {u t:Value} (I:Inv X pins σ H s) (rx:RelV x u) (ty:TyOf X.K H x t) (e:PySem.W.kitOne X.K t c=some b) (h:∀tk,Q (.bool b) { s with toks:=tk }) :
  wpAny (model X.prog X.w) A (call (.builtin "isinstance") [u,c]) Q E s:=by
 cases ty with
 | non=>cases (show u=Value.none from rx);exact PySem.W.kia_one PySem.W.kitx_none I.kIn True.intro e (fun z=>nomatch z) h
 | bl y=>cases (show u=Value.bool y from rx);exact PySem.W.kia_one PySem.W.kitx_bool I.kIn True.intro e (fun z=>nomatch z) h
 | int i=>obtain ⟨t,q⟩:=(show ∃t,u=Value.int i t from rx);cases q;exact PySem.W.kia_one PySem.W.kitx_int I.kIn True.intro e (fun z=>nomatch z) h
 | str y=>obtain ⟨t,q⟩:=(show ∃t,u=Value.str y t from rx);cases q;exact PySem.W.kia_one PySem.W.kitx_str I.kIn True.intro e (fun z=>nomatch z) h
 | flt y=>obtain ⟨t,q⟩:=(show ∃t,u=Value.float y t from rx);cases q;exact PySem.W.kia_one PySem.W.kitx_float I.kIn True.intro e (fun z=>nomatch z) h
 | @lst a xs ea =>
  cases (show u=Value.ref a from rx)
  obtain ⟨_,_,n,_,h1⟩:=(show dA X.prog X.w H s.heap a (.lst xs) from I.hok a _ ea)
  exact PySem.W.kia_one PySem.W.kitx_list I.kIn ⟨_,h1,rfl⟩ e (fun z=>nomatch z) h
 | @frz a ob xs ea =>
  cases (show u=Value.ref a from rx)
  obtain ⟨_,_,_,n,_,h1⟩:=(show dA X.prog X.w H s.heap a (.frz ob (.lst xs)) from I.hok a _ ea)
  exact PySem.W.kia_one PySem.W.kitx_list I.kIn ⟨_,h1,rfl⟩ e (fun z=>nomatch z) h
 | @tup a xs ea =>
  cases (show u=Value.ref a from rx)
  obtain ⟨_,_,_,p⟩:=(show dA X.prog X.w H s.heap a (.tup xs) from I.hok a _ ea)
  obtain ⟨o,h1,h2,_⟩:=p
  exact PySem.W.kia_one PySem.W.kitx_tuple I.kIn ⟨o,h1,h2⟩ e (fun z=>nomatch z) h
 | @dK a kvs ea =>
  cases (show u=Value.ref a from rx)
  obtain ⟨_,_,vs,_,p⟩:=(show dA X.prog X.w H s.heap a (.dK kvs) from I.hok a _ ea)
  obtain ⟨o,es,ep,h1,h2,_⟩:=p
  exact PySem.W.kia_one PySem.W.kitx_dict I.kIn ⟨o,h1,h2.1⟩ e (fun z=>nomatch z) h
 | @dT a kvs ea =>
  cases (show u=Value.ref a from rx)
  obtain ⟨_,_,xs,_,o,es,ep,h1,h2,_⟩:=(show dA X.prog X.w H s.heap a (.dT kvs) from I.hok a _ ea)
  exact PySem.W.kia_one PySem.W.kitx_dict I.kIn ⟨o,h1,h2.1⟩ e (fun z=>nomatch z) h
 | @ins a C dx fs ea cl ha hn htk hm =>
  cases (show u=Value.ref a from rx)
  obtain ⟨mA,O,_⟩:=hZ I.hok ea
  obtain ⟨od,J,_⟩:=O.look
  exact PySem.W.kia_one (PySem.W.kitx_own (cl.get _) cl.hd ha hn htk hm) I.kIn J e (fun z=>nomatch z) h
end
end L2
namespace L2
open PySem PySem.Spec PyProof.Rows
structure Room (k:Nat) (A:Around):Prop where
 hd:A.handled=none
 dp:A.depth+3 * k+5<recursionLimit
 un:A.units+16 * k+200<cLine
theorem Room.mono {j k:Nat} {A:Around} (r:Room k A) (h:j<=k):Room j A:=⟨r.hd,by have:=r.dp;omega,by have:=r.un;omega⟩
theorem Room.deeper {k:Nat} {A:Around} (r:Room (k+1) A) (env:Env):Room k (A.deeper env) :=
 ⟨r.hd,by have:=r.dp;show A.depth+1+3 * k+5<_;omega,by have:=r.un;show A.units+3+16 * k+200<_;omega⟩
theorem Room.depth {k:Nat} {A:Around} (r:Room k A):A.depth<recursionLimit:=by have:=r.dp;omega
def aDg:TA:=fun _ H Q=>Q [] H
def rS (ta:TE) (tr:TA):TA:=fun σ H Q=>ta σ H fun x H1=>tr σ H1 fun xs H2=>Q (x::xs) H2
section
variable {X:Cx} {e:Expr} {es:List Expr} {te:TE} {t:TA} {pos:Pos}
theorem qP:PA X [] aDg:=fun _ _ _ _ H Q I h=>Calls.spliced_nil ⟨[],H,I,.nil,h⟩
theorem iC (ha:PE X e te) (hr:PA X es t) (hs:starEach (e::es) X.env=(false,eval e X.env)::starEach es X.env:=by rfl):PA X (e::es) (rS te t):=by
 intro pos pins s σ H Q I h
 rw [hs]
 show wpAny _ _ (spliced ((false,eval e X.env)::backTo pos (starEach es X.env))) _ _ s
 refine Calls.spliced_cons (thn (ha pins s σ H _ I h) fun u s1 ⟨x,H1,I1,r1,q1⟩=>?_)
 exact thn (hr pos pins s1 σ H1 _ I1 q1) fun us s2 ⟨xs,H2,I2,r2,q2⟩=>⟨x::xs,H2,I2,.cons r1 r2,q2⟩
def aUh (t:TA):TE:=fun σ H Q=>t σ H fun xs H1=>xs.length<=sizeLine/\∀p,H1 p=none->Q (.ref p) (upd H1 p (.tup xs))
def aS3 (t:TA):TE:=fun σ H Q=>t σ H fun xs H1=>xs.length<=sizeLine/\∀p,H1 p=none->Q (.ref p) (upd H1 p (.lst xs))
theorem aQp {x1} (h:PA X es t):PE X (.Tuple es x1 pos) (aUh t):=by
 intro pins s σ H Q I hq
 refine wpAny_Tuple_spliced (thn (h pos pins s σ H _ I hq) fun us s1 ⟨xs,H1,I1,r,z,q⟩=>⟨by rw [<- r.length];exact z,?_⟩)
 have hf:H1 s1.heap.objs.size=none:=I1.hok.fresh (Nat.le_refl _)
 refine ⟨.ref s1.heap.objs.size,upd H1 s1.heap.objs.size (.tup xs),I1.laid (t':=s1.toks) (fun b u e=>Heap.get?_push_of_some _ e) (Nat.le_refl _) ?_,rfl,q _ hf⟩
 exact ⟨z,us,r,⟨_,Heap.get?_push_size _ rfl,rfl,_,rfl⟩⟩
theorem aQx (h:PA X es t):PE X (.List es pos) (aS3 t):=by
 intro pins s σ H Q I hq
 refine wpAny_List_spliced (thn (h pos pins s σ H _ I hq) fun us s1 ⟨xs,H1,I1,r,z,q⟩=>⟨by rw [<- r.length];exact z,?_⟩)
 have hf:H1 s1.heap.objs.size=none:=I1.hok.fresh (Nat.le_refl _)
 refine ⟨.ref s1.heap.objs.size,upd H1 s1.heap.objs.size (.lst xs),I1.laid (t':=s1.toks) (fun b u e=>Heap.get?_push_of_some _ e) (Nat.le_refl _) ?_,rfl,q _ hf⟩
 exact ⟨z,us,0,r,Heap.get?_push_size _ rfl⟩
end
abbrev Sp:=List V->Hp->VK->XK->Prop
abbrev CXT:=List Env->Hp->Shared->XK->Value->Shared->Prop
structure Env0 (P:Program) (w:World) (K:FG) (mg:Y6) (base:Heap) (A:Around) (outer:List Env) (s:Shared) (H:Hp):Prop where
 frames:A.frames=some outer
 mod:Mod K mg base
 bs:∀b o,base.get? b=some o->s.heap.get? b=some o/\H b=none
 bsz:base.objs.size<=s.heap.objs.size
 funs:s.heap.FunFrames base outer
 frf:∀b∈frs outer,H b=none
 hok:HOk P w H s.heap
 bare:AllBare s.gens
def CE (outer:List Env) (P:Program) (w:World) (H:Hp) (s:Shared) (Q:VK) (u:Value) (s':Shared):Prop :=
 ∃v H',s'.os=s.os/\AllBare s'.gens/\Un (frs outer) [] H H' s.heap s'.heap/\HOk P w H' s'.heap/\RelV v u/\Q v H'
def CR (CX:CXT) (outer:List Env) (P:Program) (w:World) (H:Hp) (s:Shared) (Q:VK) (E:XK) (r:Result) (s':Shared):Prop :=
 match r with
 | .ok (.ret u)=>CE outer P w H s Q u s'
 | .ok _=>False
 | .error e=>CX outer H s E e s'
structure FnOk (P:Program) (w:World) (K:FG) (mg:Y6) (base:Heap) (CX:CXT) (k:Nat) (f:Addr) (fd:FuncData) (ps:List Str) (sp:Sp):Prop where
 len:∀vs H Q E,sp vs H Q E->vs.length=ps.length
 run:∀(A:Around) (outer:List Env) (s:Shared) (H:Hp) (args:Args) (us:Y1) (vs:List V) (Q:VK) (E:XK),Room k A->Env0 P w K mg base A outer s H->BindsTo s fd args (ps.zip us)->Vals vs us->sp vs H Q E ->
  codeAny (model P w) A (.call (.ref f) args) (CR CX outer P w H s Q E) s
section
variable {X:Cx} {pins:Y8} {σ:St} {H:Hp} {s s':Shared}
theorem Inv.aUs (I:Inv X pins σ H s):Env0 X.prog X.w X.K X.mg X.base X.A X.stack s H :=
 ⟨I.ok.frames,I.ok.mod,I.bs,Nat.le_trans I.ok.bsz I.sz,I.stack,I.zX,I.hok,I.bare⟩
theorem Inv.after {Q:VK} {u:Value} (I:Inv X pins σ H s) (h:CE X.stack X.prog X.w H s Q u s'):EP X pins σ Q u s':=by
 obtain ⟨v,H',os,bare,un,hok,r,q⟩:=h
 obtain ⟨hh,g,d,t,os'⟩:=s'
 obtain rfl:os'=s.os:=os
 exact ⟨v,H',I.call (h':=hh) (g':=g) (d':=d) (t':=t) (ch:=[]) un hok bare (fun b z=>absurd z (by simp)),r,q⟩
end
def aH9 (sp:Sp) (dvs:List V) (E:XK) (t:TA):TE:=fun σ H Q=>t σ H fun vs H1=>sp (vs++dvs) H1 Q E
def Binds (K:FG) (fd:FuncData) (ps:List Str) (ds:Y1):Prop :=
 ∀(s:Shared) (us:Y1),K.In s.heap->(us++ds).length=ps.length->BindsTo s fd ⟨us,[]⟩ (ps.zip (us++ds))
theorem Binds.all {K:FG} {fd:FuncData} {ps:List Str} (h:∀us:Y1,us.length=ps.length->bindArgs fd ⟨us,[]⟩=pure (ps.zip us)):Binds K fd ps []:=fun s us _ hl=>by
 rw [List.append_nil] at hl ⊢
 exact .of_eq (h us hl)
def Passes (CX:CXT) (X:Cx) (E:XK):Prop:=∀(pins:Y8) (σ:St) (H:Hp) (s:Shared) (e:Value) (s':Shared),Inv X pins σ H s->CX X.stack H s E e s'->X.xe e s'
section
variable {X:Cx} {CX:CXT} {k:Nat} {f C:Addr} {fd:FuncData} {ps:List Str} {sp:Sp} {dvs:List V} {ds:Y1} {E:XK} {x m:Str} {p pos apos:Pos} {e o:Expr} {es:List Expr} {ta:TE} {t:TA}
theorem aP2 {pins:Y8} {σ:St} {H:Hp} {s:Shared} {Q:VK} {us:Y1} {vs:List V} (F:FnOk X.prog X.w X.K X.mg X.base CX k f fd ps sp) (hr:Room k X.A) (hb:Binds X.K fd ps ds) (hd:Vals dvs ds) (hx:Passes CX X E)
  (I:Inv X pins σ H s) (r:Vals vs us) (h:sp (vs++dvs) H Q E):wpAny (model X.prog X.w) X.A (call (.ref f) us) (EP X pins σ Q) X.xe s:=by
 have r2:Vals (vs++dvs) (us++ds):=r.append hd
 have hl:(us++ds).length=ps.length:=by rw [<- r2.length];exact F.len _ _ _ _ h
 refine wpAny_call (codeAny_mono (F.run X.A X.stack s H ⟨us,[]⟩ (us++ds) (vs++dvs) Q E hr I.aUs (hb s us I.kIn hl) r2 h) fun r s' hq=>?_)
 cases r with
 | error e=>exact hx pins σ H s e s' I hq
 | ok fl =>
  cases fl with
  | ret u=>exact I.after hq
  | next=>exact False.elim hq
  | brk=>exact False.elim hq
  | cont=>exact False.elim hq
theorem aDs (F:FnOk X.prog X.w X.K X.mg X.base CX k f fd ps sp) (hr:Room k X.A) (hg:Gl X x) (hm:X.mg x=some (.ref f)) (hk:PySem.W.keepIn X.K (.ref f)=true) (hb:Binds X.K fd ps ds) (hd:Vals dvs ds) (hx:Passes CX X E)
  (ha:PA X (e::es) t) (hdb:(x == ("__debug__" : Str))=false:=by decide) (he:starEach (e::es) X.env=(false,eval e X.env)::starEach es X.env:=by rfl) (hpl:(backTo pos (starEach es X.env)).any (·.1)=false:=by rfl) :
  PE X (.Call (.Name x p) (e::es) [] pos) (aH9 sp dvs E t):=by
 intro pins s σ H Q I h
 refine wpAny_Call_Name_kw (sV I hg hm ?_ hdb)
 refine PySem.W.callWith_K (h₀:=X.base) I.ok.mod.kin hk (thn (ha pos pins s σ H _ I h) fun us s1 ⟨vs,H1,I1,r,q⟩=>⟨I1.kIn,?_⟩) he hpl
 exact aP2 F hr hb hd hx I1 r q
end
section
variable {X:Cx} {CX:CXT} {k:Nat} {f C:Addr} {fd:FuncData} {ps ks:List Str} {sp:Sp} {E:XK} {x m:Str} {p pos apos kpos:Pos} {e o:Expr} {es:List Expr} {kws:List Keyword} {te ta:TE} {t tk:TA} {nm:Option Str}
variable {g:Y1->Y1->Y1} {gV:List V->List V->List V}
end
structure FnScope (N P:List Str) (sc:Scope):Prop where
 kind:sc.kind=.function
 co:sc.isCoroutine=false
 gen:sc.isGenerator=false
 nd:N.Nodup
 pre:N.take P.length=P
 par:∀x∈P,sc.names.lookup x=some .local\/sc.names.lookup x=some .cell
 nofree:∀y∈sc.names,y.2 ≠ .free
theorem yB {kindOf:Str->Option NameKind} {x:Str}:∀ {binds:List (Str×Value)} {m:Y6},(∀v,(x,v) ∉ binds)->bindL kindOf binds m x=m x
 | [],_,_=>rfl
 | (n,v)::r,m,h=>by
  unfold bindL
  rw [yB fun w hw=>h w (List.mem_cons_of_mem _ hw)]
  split
  ·have:x ≠ n:=by rintro rfl;exact h v List.mem_cons_self
   simp [this]
  ·rfl
theorem wW {kindOf:Str->Option NameKind} {x:Str}:∀ {binds:List (Str×Value)} {m:Y6},(∀v,(x,v) ∉ binds)->bindC kindOf binds m x=m x
 | [],_,_=>rfl
 | (n,v)::r,m,h=>by
  unfold bindC
  rw [wW fun w hw=>h w (List.mem_cons_of_mem _ hw)]
  split
  ·rfl
  ·have:x ≠ n:=by rintro rfl;exact h v List.mem_cons_self
   simp [this]
theorem xZ {kindOf:Str->Option NameKind} {x:Str} {v:Value}:∀ {P:List Str} {vs:Y1} {i:Nat} {m:Y6},P.Nodup->P[i]?=some x->vs[i]?=some v->kindOf x=some .local ->
  bindL kindOf (P.zip vs) m x=some v
 | [],_,_,_,_,h,_,_=>by simp at h
 | _::_,[],_,_,_,_,h,_=>by simp at h
 | p::P,w::vs,0,m,nd,h1,h2,hk=>by
  simp at h1 h2;subst h1;subst h2
  show bindL kindOf ((p,w)::P.zip vs) m p=_
  unfold bindL
  rw [yB fun v hv=>(List.nodup_cons.mp nd).1 (List.of_mem_zip hv).1,if_pos hk]
  simp
 | p::P,w::vs,i+1,m,nd,h1,h2,hk=>by
  show bindL kindOf ((p,w)::P.zip vs) m x=_
  unfold bindL
  exact xZ (i:=i) (List.nodup_cons.mp nd).2 (by simpa using h1) (by simpa using h2) hk
theorem xK {kindOf:Str->Option NameKind} {x:Str} {v:Value}:∀ {P:List Str} {vs:Y1} {i:Nat} {m:Y6},P.Nodup->P[i]?=some x->vs[i]?=some v->kindOf x ≠ some .local ->
  bindC kindOf (P.zip vs) m x=some v
 | [],_,_,_,_,h,_,_=>by simp at h
 | _::_,[],_,_,_,_,h,_=>by simp at h
 | p::P,w::vs,0,m,nd,h1,h2,hk=>by
  simp at h1 h2;subst h1;subst h2
  show bindC kindOf ((p,w)::P.zip vs) m p=_
  unfold bindC
  rw [wW fun v hv=>(List.nodup_cons.mp nd).1 (List.of_mem_zip hv).1,if_neg hk]
  simp
 | p::P,w::vs,i+1,m,nd,h1,h2,hk=>by
  show bindC kindOf ((p,w)::P.zip vs) m x=_
  unfold bindC
  exact xK (i:=i) (List.nodup_cons.mp nd).2 (by simpa using h1) (by simpa using h2) hk
def start (N:List Str) (vs:List V):St:=vs.map some++List.replicate (N.length - vs.length) none
def nN (CX:CXT) (P:Program) (w:World) (K:FG) (mg:Y6) (base:Heap) (N:List Str) (qual:Str) (scope:Scope) (f:Addr) (cd:Value) (A:Around) (outer:List Env) (s:Shared) (H:Hp) (E:XK):Cx where
 prog:=P
 w:=w
 K:=K
 mg:=mg
 base:=base
 A:=A.deeper (envOfC qual scope s.heap.objs.size f cd)
 N:=N
 s₀:=s
 H₀:=H
 env:=envOfC qual scope s.heap.objs.size f cd
 outer:=outer
 stack:=envOfC qual scope s.heap.objs.size f cd::outer
 ex:=[]
 calm:=true
 fn:=fun _=>true
 pn:=[]
 xe:=fun e s'=>wpAny (model P w) (A.deeper (envOfC qual scope s.heap.objs.size f cd)) (leaving (envOfC qual scope s.heap.objs.size f cd) e) (fun _ s''=>CX outer H s E e s'') (fun e' s''=>CX outer H s E e' s'') s'
theorem aAw {sc:Scope} {n:Nat} {x:Str} (h:sc.names.lookup x=some .cell):∃c,(cellsFrom n sc.names []).lookup x=some c:=by
 have q:=PySem.W.cellsFrom_some sc.names n [] (.inl h)
 exact Option.isSome_iff_exists.mp q
theorem aFi {CX:CXT} {P:Program} {w:World} {K:FG} {mg:Y6} {base:Heap} {N ps:List Str} {qual:Str} {scope:Scope} {f:Addr} {cd:Value} {A:Around} {outer:List Env} {s s1:Shared} {H:Hp} {E:XK} {us:Y1} {vs:List V}
  (S:FnScope N ps scope) (hd:A.handled=none) (e0:Env0 P w K mg base A outer s H) (hl:vs.length=ps.length) (r:Vals vs us)
  (x:InCallC s s.heap.objs.size (bindL (envOfC qual scope s.heap.objs.size f cd).kindOf (ps.zip us) fun _=>none) (cellsFrom (s.heap.objs.size+1) scope.names []) (bindC (envOfC qual scope s.heap.objs.size f cd).kindOf (ps.zip us) fun _=>none) s1) :
  Inv (nN CX P w K mg base N qual scope f cd A outer s H E) [] (start N vs) H s1:=by
 have hpl:ps.length<=N.length:=by have:=congrArg List.length S.pre;rw [List.length_take] at this;omega
 obtain ⟨h1,tk,rfl,hk⟩:=x.done
 have noA:∀b:Addr,b ∉ (nN CX P w K mg base N qual scope f cd A outer s H E).ex:=fun b z=>absurd (show b∈([]:Y2) from z) (by simp)
 refine ⟨⟨e0.mod,S.kind,rfl,rfl,Nat.le_refl _,fun y z c h1 h2=>?_,fun y hy=>?_,fun y c _ h=>?_,fun _=>hd,Around.frames_deeper e0.frames,.inr ⟨rfl,rfl⟩,fun b z=>absurd z (noA b),e0.bs,e0.bsz,fun b _ _=>noA b,fun b z=>absurd z (noA b),e0.funs,e0.frf⟩,
  rfl,e0.bare,Un.kept hk,⟨_,x.toInCall.ns,fun i y v h1 h2 h3=>?_⟩,fun y c h=>⟨_,x.cell y c h⟩,e0.hok.fresh (Nat.le_refl _),fun y c h=>?_,fun p hp=>absurd (show p∈([]:Y8) from hp) (by simp),e0.hok.kept hk,?_⟩
 ·exact name_of_addr x.apart (PySem.mem_of_lookup h1) (PySem.mem_of_lookup h2)
 ·have hy:scope.names.lookup y=some .cell\/scope.names.lookup y=some .free:=hy
  rcases hy with hy | hy
  ·exact aAw hy
  ·exact absurd rfl (S.nofree _ (PySem.mem_of_lookup hy))
 ·exact Nat.le_of_lt (x.above y c (PySem.mem_of_lookup h))
 ·have hi:i<vs.length:=by
   unfold start at h2
   by_cases hi:i<vs.length
   ·exact hi
   ·rw [List.getElem?_append_right (by simpa using hi)] at h2
    rw [List.getElem?_replicate] at h2
    split at h2<;>cases h2
  have ha:vs[i]?=some v:=by
   unfold start at h2
   rw [List.getElem?_append_left (by simpa using hi),List.getElem?_map] at h2
   cases e:vs[i]? with
   | none=>rw [e] at h2;cases h2
   | some a=>rw [e] at h2;cases h2;rfl
  obtain ⟨u,hu,rv⟩:=r.get ha
  have hp:ps[i]?=some y:=by
   rw [<- S.pre,List.getElem?_take_of_lt (by omega)];exact h1
  have ndP:ps.Nodup:=by rw [<- S.pre];exact S.nd.sublist (List.take_sublist _ _)
  refine ⟨u,rv,?_⟩
  rcases S.par y (List.mem_of_getElem? hp) with k | k
  ·exact .inl ⟨k,xZ ndP hp hu k⟩
  ·obtain ⟨c,e⟩:=aAw (n:=s.heap.objs.size+1) k
   refine .inr ⟨.inl k,c,e,?_⟩
   have q:=x.cell y c e
   rw [xK ndP hp hu (by show scope.names.lookup y ≠ _;rw [k];decide)] at q
   exact q
 ·exact e0.hok.fresh (Nat.le_of_lt (x.above y c (PySem.mem_of_lookup h)))
 ·unfold start
  show _=N.length
  rw [List.length_append,List.length_map,List.length_replicate]
  omega
theorem aM6 {CX:CXT} {P:Program} {w:World} {K:FG} {mg:Y6} {base:Heap} {k:Nat} {f:Addr} {name qual:Str} {params:Arguments} {body:List Stmt} {scope:Scope} {dV kV doc pm cdv ct oc:Value} {an od:Option Addr}
  {osl:Array (Option Value)} {N ps:List Str} {sp:Sp} (lk:K.lookup f=some ⟨oc,od,.func (PySem.W.fnOf name qual params body scope dV kV doc pm an cdv ct),osl⟩) (hcd:PySem.W.codeIn K cdv qual=true) (S:FnScope N ps scope)
  (len:∀vs H Q E,sp vs H Q E->vs.length=ps.length)
  (hbody:∀(A:Around) (outer:List Env) (s:Shared) (H:Hp) (vs:List V) (Q:VK) (E:XK),Room k (A.deeper (envOfC qual scope s.heap.objs.size f cdv))->sp vs H Q E ->
   ∃t,PSs (nN CX P w K mg base N qual scope f cdv A outer s H E) body t/\t { nx:=fun _ H'=>Q .non H',rt:=Q } (start N vs) H) :
  FnOk P w K mg base CX (k+1) f (PySem.W.fnOf name qual params body scope dV kV doc pm an cdv ct) ps sp:=by
 refine ⟨len,fun A outer s H args us vs Q E hr e0 hb r hsp=>?_⟩
 have hl:=len _ _ _ _ hsp
 have KX:K.In s.heap:=e0.mod.kin.keeps fun b o e=>(e0.bs b o e).1
 have lim:s.heap.NoLimit:=e0.mod.nolimit.keeps fun b o e=>(e0.bs b o e).1
 have hkind:∀y∈ps.zip us,scope.names.lookup y.1=some .local\/(scope.names.lookup y.1=some .cell/\((cellsFrom (s.heap.objs.size+1) scope.names []).lookup y.1).isSome=true):=fun ⟨n,v⟩ hy=>by
  rcases S.par n (List.of_mem_zip hy).1 with q | q
  ·exact .inl q
  ·exact .inr ⟨q,PySem.W.cellsFrom_some _ _ _ (.inl q)⟩
 refine codeAny_call_function hr.depth (KX _ _ lk) rfl S.co S.gen rfl (PySem.W.codeRec_of KX hcd) (hb _ _ _ _ ?_)
 refine wpAny_newFunctionEnv_cells S.kind hkind fun env he s1 x=>?_
 subst he
 refine ⟨lim.keeps x.toInCall.keep,codeAny_func ?_⟩
 obtain ⟨t,ht,hq⟩:=hbody A outer s H vs Q E (hr.deeper _) hsp
 have I:Inv (nN CX P w K mg base N qual scope f cdv A outer s H E) [] (start N vs) H s1:=aFi S hr.hd e0 hl r x
 refine wpAny_mono (ht [] s1 (start N vs) H _ I hq) (fun fl s' hs=>?_) fun e s' hs=>hs
 have fin:∀ {σ':St} {H':Hp} {v:V} {u:Value},Inv (nN CX P w K mg base N qual scope f cdv A outer s H E) [] σ' H' s'->RelV v u->Q v H'->CE outer P w H s Q u s' :=
  fun {σ' H' v u} J rv q=>⟨v,H',J.os,J.bare,J.base,J.hok,rv,q⟩
 cases fl with
 | ret u =>
  obtain ⟨v,σ',H',J,rv,q⟩:=hs
  exact fin J rv q
 | next =>
  obtain ⟨σ',H',J,q⟩:=hs
  exact fin (v:=V.non) (u:=Value.none) J rfl q
 | brk =>
  obtain ⟨_,_,_,q⟩:=hs
  exact False.elim q
 | cont =>
  obtain ⟨_,_,_,q⟩:=hs
  exact False.elim q
end L2
namespace L2
open PySem PySem.Spec PyProof.Rows
section
variable {X:Cx} {x:Str} {p pos:Pos} {e:Expr} {es:List Expr} {t:TA} {id T:String} {r:List V->Hp->VK->Prop}
def tCB (r:List V->Hp->VK->Prop) (t:TA):TE:=fun σ H Q=>t σ H fun vs H1=>r vs H1 Q
theorem zZ (hc:lW X (.builtin id) r) (hg:Gl X x) (hm:X.mg x=none) (hv:bootBuiltins x=some (.builtin id)) (ha:PA X (e::es) t) (hn:x ≠ "__name__" :=by decide) (hdb:(x == ("__debug__" : Str))=false:=by decide)
  (he:starEach (e::es) X.env=(false,eval e X.env)::starEach es X.env:=by rfl) (hpl:(backTo pos (starEach es X.env)).any (·.1)=false:=by rfl):PE X (.Call (.Name x p) (e::es) [] pos) (tCB r t):=by
 intro pins s σ H Q I h
 refine wpAny_Call_Name_kw (mU I hg hm hv ?_ hn hdb)
 exact PyProof.Rows.callWith_builtin1 (thn (ha pos pins s σ H _ I h) fun us s1 ⟨vs,H1,I1,r1,q1⟩=>hc pins s1 σ H1 vs us Q I1 r1 q1) he hpl
theorem aGy (hc:lW X (.type T) r) (hg:Gl X x) (hm:X.mg x=none) (hv:bootBuiltins x=some (.type T)) (ha:PA X (e::es) t) (hn:x ≠ "__name__" :=by decide) (hdb:(x == ("__debug__" : Str))=false:=by decide)
  (he:starEach (e::es) X.env=(false,eval e X.env)::starEach es X.env:=by rfl) (hpl:(backTo pos (starEach es X.env)).any (·.1)=false:=by rfl):PE X (.Call (.Name x p) (e::es) [] pos) (tCB r t):=by
 intro pins s σ H Q I h
 refine wpAny_Call_Name_kw (mU I hg hm hv ?_ hn hdb)
 exact PyProof.Rows.callWith_type1 (thn (ha pos pins s σ H _ I h) fun us s1 ⟨vs,H1,I1,r1,q1⟩=>hc pins s1 σ H1 vs us Q I1 r1 q1) he hpl
end
end L2
namespace HT
open PySem PyProof.Rows
theorem aG8 (A:Around) (s:Shared) (a:Int) (t:Tok) (c:Int) (u:Tok):∃e,SeqAt.EqAt A s (.int a t) (.int c u) e/\(e=true ↔ a=c) :=
 ⟨(a == c),SeqAt.EqAt.int_int a t c u,by simp⟩
section
open PySem.SeqAt
open PySem.AutoSeq1 (wpAny_loadPart')
open PySem.MeetsSeq PySem.MeetsSeq2 PySem.MeetsSeq3
end
section
variable {prog:Program} {w:World} {A:Around} {E:Y9} {s:Shared}
theorem cat_tup {t b:Addr} {vs ws:Y1} {Q:Y9} (ht:IsTup s.heap t vs.toArray) (hb:IsTup s.heap b ws.toArray) (hv:vs ≠ [])
  (h1:ws=[]->Q (.ref t) s) (h2:ws ≠ []->Q (.ref s.heap.objs.size) { s with heap:=s.heap.push { cls:=.type "tuple",data:=.seq (vs++ws).toArray } })
  (hsz:vs.length+ws.length<=sizeLine):wpAny (model prog w) A (binaryOp .Add (.ref t) (.ref b)) Q E s:=by
 obtain ⟨⟨cls,dd,data,sl⟩,ho,hc,n,hd⟩:=id ht
 obtain ⟨⟨cls2,dd2,data2,sl2⟩,ho2,hc2,n2,hd2⟩:=id hb
 simp only at hc hd hc2 hd2
 subst hc hd hc2 hd2
 have e:vs.toArray++ws.toArray=(vs++ws).toArray:=by simp
 by_cases hw:ws=[]
 ·exact concat_meets ⟨_,ho,rfl⟩ ⟨_,ho2,rfl⟩ noFill_tuple_add seq_tuple_add PySem.F.slot_tuple_add PySem.F.entry_tuple_add (PySem.F.args_tuple_add_2 _ _)
   (tuple_addW1 t b vs.toArray ws.toArray n n2 dd dd2 sl sl2 (by simpa using hv) (by simp [hw])) ⟨ho,ho2,h1 hw⟩
 ·refine concat_meets ⟨_,ho,rfl⟩ ⟨_,ho2,rfl⟩ noFill_tuple_add seq_tuple_add PySem.F.slot_tuple_add PySem.F.entry_tuple_add (PySem.F.args_tuple_add_2 _ _)
   (tuple_addW2 t b vs.toArray ws.toArray n n2 dd dd2 sl sl2 (by simpa using hv) (by simpa using hw) (by rw [List.size_toArray,List.size_toArray];exact hsz)) ⟨ho,ho2,?_⟩
  rw [e]
  exact h2 hw
def sIx (n d:Nat):Option Int->Nat
 | none=>d
 | some v=>if v<0 then (v+(n:Int)).toNat else min v.toNat n
theorem sIx_none (n d:Nat):sIx n d none=d:=rfl
theorem sIx_nat (n d k:Nat):sIx n d (some (k:Int))=min k n:=by
 show (if (k:Int)<0 then ((k:Int)+(n:Int)).toNat else min (k:Int).toNat n)=min k n
 rw [if_neg (by omega),Int.toNat_natCast]
end
end HT
namespace L2
open PySem PySem.Spec PyProof.Rows
abbrev TO:=St->Hp->(Option Int->Hp->Prop)->Prop
def PO (X:Cx) (e:Option Expr) (t:TO):Prop :=
 ∀(pins:Y8) (s:Shared) (σ:St) (H:Hp) (Q:Option Int->Hp->Prop),Inv X pins σ H s->t σ H Q ->
  wpAny (model X.prog X.w) X.A (evalPart e X.env) (fun u s'=>∃o H',Inv X pins σ H' s'/\IsPart u o/\Q o H') X.xe s
def aD8:TO:=fun _ H Q=>Q none H
def aNt (t:TE):TO:=fun σ H Q=>t σ H fun x H1=>∃i,x=.int i/\Q (some i) H1
theorem intsAre_of {ns:Y0}:∀ {us:Y1},Vals (ns.map V.int) us->IntsAre us ns:=by
 induction ns with
 | nil=>intro us r;rw [List.map_nil] at r;cases r;exact .nil
 | cons n ns ih =>
  intro us r
  rw [List.map_cons] at r
  cases r with
  | cons r1 r2 =>
   obtain ⟨t,e⟩:=r1
   subst e
   exact .cons n t (ih r2)
section
variable {X:Cx} {e:Expr} {te:TE} {lo hi:Option Expr} {tl th:TO} {pos p2:Pos}
theorem aLu:PO X none aD8:=by
 intro pins s σ H Q I h
 rw [evalPart_none]
 exact wpAny_pure ⟨none,H,I,.none,h⟩
theorem aL3 (h:PE X e te):PO X (some e) (aNt te):=by
 intro pins s σ H Q I hw
 rw [evalPart_some]
 refine thn (h pins s σ H _ I hw) fun u s1 ⟨x,H1,I1,r1,q1⟩=>?_
 obtain ⟨i,rfl,q⟩:=q1
 obtain ⟨t,rfl⟩:=r1
 exact ⟨some i,H1,I1,.int i t,q⟩
def SlR (X:Cx) (r:V->Option Int->Option Int->Hp->VK->Prop):Prop :=
 ∀(pins:Y8) (s:Shared) (σ:St) (H:Hp) (x:V) (v vl vu:Value) (lo hi:Option Int) (sl:Addr) (Q:VK),Inv X pins σ H s->RelV x v->s.heap.IsSliceOf sl vl vu .none->IsPart vl lo->IsPart vu hi->r x lo hi H Q ->
  ∃T id,typeLookup (.type T) "__getitem__" = pure (some (.builtin id))/\s.TypeIs v T/\wpAny (model X.prog X.w) X.A (getItem v (.ref sl)) (EP X pins σ Q) X.xe s
def tSl (r:V->Option Int->Option Int->Hp->VK->Prop) (te:TE) (tl th:TO):TE:=fun σ H Q=>te σ H fun x H1=>tl σ H1 fun l H2=>th σ H2 fun u H3=>r x l u H3 Q
theorem aHt {r:V->Option Int->Option Int->Hp->VK->Prop} (hr:SlR X r) (he:PE X e te) (hl:PO X lo tl) (hu:PO X hi th):PE X (.Subscript e (.Slice lo hi none p2) pos) (tSl r te tl th):=by
 intro pins s σ H Q I h
 refine Subscript_ (thn (he pins s σ H _ I h) fun v s1 ⟨x,H1,I1,r1,q1⟩=>?_)
 refine wpAny_Slice (thn (hl pins s1 σ H1 _ I1 q1) fun vl s2 ⟨l,H2,I2,pl,q2⟩=>thn (hu pins s2 σ H2 _ I2 q2) fun vu s3 ⟨u,H3,I3,pu,q3⟩=>?_)
 rw [evalPart_none]
 refine wpAny_pure ?_
 have I4:Inv X pins σ H3 { s3 with heap:=s3.heap.push { cls:=.type "slice",data:=.fields #[vl,vu,.none] } }:=I3.kept (t':=s3.toks) fun b ob q=>Heap.get?_push_of_some _ q
 obtain ⟨T,id,hT,ht,hg⟩:=hr pins { s3 with heap:=s3.heap.push { cls:=.type "slice",data:=.fields #[vl,vu,.none] } } σ H3 x v vl vu l u s3.heap.objs.size Q I4 r1 (Heap.IsSliceOf.new ..) pl pu q3
 show wpAny (model X.prog X.w) X.A (subscriptTail e (.Slice lo hi none p2) v (.ref s3.heap.objs.size)) (EP X pins σ Q) X.xe { s3 with heap:=s3.heap.push { cls:=.type "slice",data:=.fields #[vl,vu,.none] } }
 exact tail_any (ops:=[.ref s3.heap.objs.size,v]) ht hT hg (by with_unfolding_all rfl)
def aGp (xs:List V) (lo hi:Option Int):List V:=(xs.drop (HT.sIx xs.length 0 lo)).take (HT.sIx xs.length xs.length hi - HT.sIx xs.length 0 lo)
theorem aAq (xs:List V) (lo hi:Option Int):(aGp xs lo hi).length<=xs.length:=by
 unfold aGp
 rw [List.length_take,List.length_drop]
 omega
def aN5 (K:FG):R2:=fun x y H Q=>∃a b xs ys,x=.ref a/\y=.ref b/\SqT K H a xs/\SqT K H b ys/\xs ≠ []/\xs.length+ys.length<=sizeLine /\
 (ys=[]->Q (.ref a) H)/\(ys ≠ []->∀p,H p=none->Q (.ref p) (upd H p (.tup (xs++ys))))
theorem Vals.zW {xs:List V} {us:Y1} (r:Vals xs us):us=[] ↔ xs=[]:=by
 cases r with
 | nil=>simp
 | cons _ _=>simp
theorem aL2:OpR X (binaryOp .Add) (aN5 X.K):=by
 intro pins s σ H x y v u Q I rx ry h
 obtain ⟨a,b,xs,ys,rfl,rfl,ha,hb,hx,hz,q1,q2⟩:=h
 cases rx
 cases ry
 obtain ⟨its,r1,p1,_⟩:=I.tuple ha
 obtain ⟨its2,r2,p2,_⟩:=I.tuple hb
 refine HT.cat_tup p1 p2 (fun z=>hx (r1.zW.mp z)) (fun z=>⟨.ref a,H,I,rfl,q1 (r2.zW.mp z)⟩) (fun z=>?_) (by rw [<- r1.length,<- r2.length];exact hz)
 refine ⟨.ref s.heap.objs.size,_,I.laid (t':=s.toks) (o:=.tup (xs++ys)) (fun b ob q=>Heap.get?_push_of_some _ q) (Nat.le_refl _) ?_,rfl,q2 (fun w=>z (r2.zW.mpr w)) _ (I.hok.fresh (Nat.le_refl _))⟩
 exact ⟨by rw [List.length_append];exact hz,_,r1.append r2,IsTup.new _ _⟩
end
end L2
namespace L2
open PySem PySem.Spec PyProof.Rows
def ixN (n:Nat) (i:Int):Option Nat:=if 0<=i then (if i<n then some i.toNat else none) else if -(n:Int)<=i then some (i+n).toNat else none
def atI {α:Type} (xs:List α) (i:Int):Option α:=(ixN xs.length i).bind fun j=>xs[j]?
theorem aE0 {n:Nat} {i:Int} {j:Nat} (h:ixN n i=some j):seqIndex? i n=some j/\j<n/\-(n:Int)<=i/\i<n:=by
 unfold ixN at h
 by_cases h0:0<=i
 ·rw [if_pos h0] at h
  by_cases h1:i<n
  ·rw [if_pos h1] at h
   have e:i.toNat=j:=Option.some.inj h
   exact ⟨by rw [seqIndex_of h0 h1,e],by omega,by omega,h1⟩
  ·rw [if_neg h1] at h;cases h
 ·rw [if_neg h0] at h
  by_cases h1:-(n:Int)<=i
  ·rw [if_pos h1] at h
   have e:(i+n).toNat=j:=Option.some.inj h
   exact ⟨by rw [seqIndex_neg (by omega) h1,e],by omega,h1,by omega⟩
  ·rw [if_neg h1] at h;cases h
theorem aE1 {α:Type} {xs:List α} {i:Int} {v:α} (h:atI xs i=some v):∃j,seqIndex? i xs.length=some j/\xs[j]?=some v/\j<xs.length/\-(xs.length:Int)<=i/\i<xs.length:=by
 unfold atI at h
 cases e:ixN xs.length i with
 | none=>rw [e] at h;cases h
 | some j =>
  rw [e] at h
  obtain ⟨h1,h2,h3,h4⟩:=aE0 e
  exact ⟨j,h1,h,h2,h3,h4⟩
def yP (b:Expr):Prop:=∀o i,subscripted b false o i=operate [o,i] (getItem o i)
def IxR (X:Cx) (r:R2):Prop :=
 ∀(value slice:Expr) (pins:Y8) (s:Shared) (σ:St) (H:Hp) (x y:V) (v u:Value) (Q:VK),Inv X pins σ H s->RelV x v->RelV y u->r x y H Q ->
  subscripted slice false v u=operate [v,u] (getItem v u)->wpAny (model X.prog X.w) X.A (subscriptTail value slice v u) (EP X pins σ Q) X.xe s
def MtR (X:Cx) (id:String) (r:V->List V->Hp->VK->Prop):Prop :=
 ∀(pins:Y8) (s:Shared) (σ:St) (H:Hp) (x:V) (xs:List V) (v:Value) (us:Y1) (Q:VK),Inv X pins σ H s->RelV x v->Vals xs us->r x xs H Q ->
  wpAny (model X.prog X.w) X.A (call (.builtin id) (v::us)) (EP X pins σ Q) X.xe s
section
variable {X:Cx} {a b:Expr} {ta tb:TE} {pos:Pos}
theorem IxR.or {r r':R2} (h:IxR X r) (h':IxR X r'):IxR X (fun x y H Q=>r x y H Q\/r' x y H Q):=by
 intro value slice pins s σ H x y v u Q I rx ry q hs
 rcases q with q | q
 ·exact h value slice pins s σ H x y v u Q I rx ry q hs
 ·exact h' value slice pins s σ H x y v u Q I rx ry q hs
theorem aNf {r:R2} (hr:IxR X r) (ha:PE X a ta) (hb:PE X b tb) (hs:yP b):PE X (.Subscript a b pos) (tOp r ta tb):=by
 intro pins s σ H Q I h
 exact Subscript_ (aR1 ha hb I h fun v u s2 x y H2 I2 rx ry q=>hr a b pins s2 σ H2 x y v u Q I2 rx ry q (hs _ _))
def aP8 (K:FG):R2:=fun x y H Q=>∃p xs i v,x=.ref p/\y=.int i/\SqL K H p xs/\atI xs i=some v/\Q v H
def aTa (K:FG):R2:=fun x y H Q=>∃p xs i v,x=.ref p/\y=.int i/\SqT K H p xs/\atI xs i=some v/\Q v H
theorem aEe:IxR X (aP8 X.K):=by
 intro value slice pins s σ H x y v u Q I rx ry h hs
 obtain ⟨p,xs,i,z,rfl,rfl,hq,he,q⟩:=h
 cases rx
 obtain ⟨t,rfl⟩:=ry
 obtain ⟨its,r,pl,hz⟩:=I.list hq
 obtain ⟨j,h1,h2,h3,h4,h5⟩:=aE1 he
 obtain ⟨w,ew,rw'⟩:=r.get h2
 have hl:=r.length
 have hn:=uK
 have fin:EP X pins σ Q w s:=⟨z,H,I,rw',q⟩
 by_cases h0:0<=i
 ·have hj:i.toNat=j:=by
   rw [seqIndex_of h0 h5] at h1
   exact Option.some.inj h1
  exact item_listR pl.isList h0 (by omega) (by rw [hj];simpa using ew) fin hs
 ·have hj:(i+(its.toArray.size:Int)).toNat=j:=by
   rw [seqIndex_neg (by omega) h4] at h1
   rw [List.size_toArray,<- hl]
   exact Option.some.inj h1
  exact subscriptTail_builtinR (x:=w) pl.isList.typeIs slot_list_getitem.lookup
   (wpAny_getItem_list_neg (Q:=fun r s'=>r=w/\EP X pins σ Q r s') pl.isList (by omega) (by rw [List.size_toArray]<;>omega) (by omega) (by rw [hj];simpa using ew) ⟨rfl,fin⟩) hs
theorem aP0:IxR X (aTa X.K):=by
 intro value slice pins s σ H x y v u Q I rx ry h hs
 obtain ⟨p,xs,i,z,rfl,rfl,hq,he,q⟩:=h
 cases rx
 obtain ⟨t,rfl⟩:=ry
 obtain ⟨its,r,pl,hz⟩:=I.tuple hq
 obtain ⟨j,h1,h2,h3,h4,h5⟩:=aE1 he
 obtain ⟨w,ew,rw'⟩:=r.get h2
 have hl:=r.length
 have hn:=uK
 have fin:EP X pins σ Q w s:=⟨z,H,I,rw',q⟩
 exact subscriptTail_builtinR (x:=w) pl.typeIs slot_tuple_getitem.lookup
  (getItem_tuple (j:=j) (Q:=fun r s'=>r=w/\EP X pins σ Q r s') pl (by omega) (by omega) (by rw [List.size_toArray,<- hl];exact h1) (by simpa using ew) ⟨rfl,fin⟩) hs
theorem aC9 (its:Y1) (n j:Nat) (u:Value):Obj.mapSeq (·.setIfInBounds j u) { cls:=.type "list",data:=.seq its.toArray n }={ cls:=.type "list",data:=.seq (its.set j u).toArray n }:=by
 simp [Obj.mapSeq]
theorem Inv.lst {pins:Y8} {σ:St} {H:Hp} {s:Shared} {p:Addr} {xs:List V} (I:Inv X pins σ H s) (h:H p=some (.lst xs)) :
  ∃(its:Y1) (n:Nat),Vals xs its/\s.heap.get? p=some { cls:=.type "list",data:=.seq its.toArray n }/\xs.length<=sizeLine:=by
 obtain ⟨z,its,n,r,e⟩:=I.hok p _ h
 exact ⟨its,n,r,e,z⟩
theorem Inv.aR9 {pins:Y8} {σ:St} {H:Hp} {s:Shared} {p:Addr} {xs ys:List V} {its its':Y1} {n n':Nat} {f:Obj->Obj} (I:Inv X pins σ H s) (h:H p=some (.lst xs))
  (ho:s.heap.get? p=some { cls:=.type "list",data:=.seq its.toArray n }) (hf:f { cls:=.type "list",data:=.seq its.toArray n }={ cls:=.type "list",data:=.seq its'.toArray n' }) (r:Vals ys its') (hz:ys.length<=sizeLine) (t:Nat) :
  Inv X pins σ (upd H p (.lst ys)) { s with heap:=s.heap.update p f,toks:=t }:=by
 have e:(s.heap.update p f).get? p=some { cls:=.type "list",data:=.seq its'.toArray n' }:=by
  rw [Heap.get?_update_self f ho (by rw [hf]<;>rfl),hf]
 refine I.write (x:=p) (e:=p) (by rw [h];trivial) (.inl rfl) (fun b u hb q=>(Heap.get?_update_other _ _ (Ne.symm hb)).trans q) ⟨_,e⟩ ?_
 exact ⟨hz,its',n',r,e⟩
def aNn:V->V->V->Hp->(Hp->Prop)->Prop:=fun o i v H Q=>∃p xs k j,o=.ref p/\i=.int k/\H p=some (.lst xs)/\ixN xs.length k=some j/\Q (upd H p (.lst (xs.set j v)))
theorem set_list:aTx X aNn:=by
 intro pins s σ H o i v ov iv u Q I ro ri rv h
 obtain ⟨p,xs,k,j,rfl,rfl,hp,hj,q⟩:=h
 cases ro
 obtain ⟨t,rfl⟩:=ri
 obtain ⟨its,n,r,ho,hz⟩:=I.lst hp
 obtain ⟨h1,h2,h3,h4⟩:=aE0 hj
 have hl:=r.length
 have hn:=uK
 have I':Inv X pins σ (upd H p (.lst (xs.set j v))) { s with heap:=s.heap.update p (Obj.mapSeq (·.setIfInBounds j u)) } :=
  I.aR9 hp ho (aC9 its n j u) (r.set rv j) (by rw [List.length_set];exact hz) s.toks
 by_cases h0:0<=k
 ·have hk:k.toNat=j:=by
   rw [seqIndex_of h0 h4] at h1
   exact Option.some.inj h1
  exact PySem.W.ki_setAt ho h0 (by omega) (by rw [List.size_toArray,<- hl];exact h4) (by rw [hk];exact ⟨_,I',q⟩)
 ·have hk:(k+(its.toArray.size:Int)).toNat=j:=by
   rw [seqIndex_neg (by omega) h3] at h1
   rw [List.size_toArray,<- hl]
   exact Option.some.inj h1
  exact PySem.W.ki_setBack ho (by omega) (by rw [List.size_toArray,<- hl];exact h3) (by omega) (by rw [hk];exact ⟨_,I',q⟩)
theorem yO (lo hi:Option Int) (n:Nat):(sliceBounds lo hi none n).1=((HT.sIx n 0 lo:Nat):Int)/\(sliceBounds lo hi none n).2.1=((HT.sIx n n hi:Nat):Int)/\(sliceBounds lo hi none n).2.2=1:=by
 refine ⟨?_,?_,rfl⟩
 ·cases lo with
  | none=>simp [sliceBounds,HT.sIx]
  | some i =>
   simp only [sliceBounds,HT.sIx,Option.getD_none,show (1:Int) > 0 by decide,if_true]
   by_cases h:i<0
   ·simp only [h,if_true]<;>omega
   ·simp only [h,if_false]<;>omega
 ·cases hi with
  | none=>simp [sliceBounds,HT.sIx]
  | some i =>
   simp only [sliceBounds,HT.sIx,Option.getD_none,show (1:Int) > 0 by decide,if_true]
   by_cases h:i<0
   ·simp only [h,if_true]<;>omega
   ·simp only [h,if_false]<;>omega
theorem wD (its:Y1) (lo hi:Option Int):slicePick its.toArray lo hi none=((its.drop (HT.sIx its.length 0 lo)).take (HT.sIx its.length its.length hi - HT.sIx its.length 0 lo)).toArray:=by
 obtain ⟨h1,h2,h3⟩:=yO lo hi its.toArray.size
 unfold slicePick
 rw [h1,h2,h3]
 simp only [sliceRange_one,pick_run,List.size_toArray]<;>rfl
def aTy (K:FG):V->Option Int->Option Int->Hp->VK->Prop:=fun x lo hi H Q=>∃a xs,x=.ref a/\SqL K H a xs/\∀p,H p=none->Q (.ref p) (upd H p (.lst (aGp xs lo hi)))
theorem aMb:SlR X (aTy X.K):=by
 intro pins s σ H x v vl vu lo hi sl Q I rx hs pl pu h
 obtain ⟨a,xs,rfl,hx,q⟩:=h
 cases rx
 obtain ⟨its,r,ht,hz⟩:=I.list hx
 have hlen:=r.length
 refine ⟨"list",_,slot_list_getitem.lookup,ht.isList.typeIs,?_⟩
 refine wpAny_getItem_list_slice ht.isList hs pl pu .none (by simp) ?_ (by rw [List.size_toArray]<;>omega)
 rw [wD,<- hlen]
 refine ⟨.ref s.heap.objs.size,_,I.laid (t':=s.toks) (o:=.lst (aGp xs lo hi)) (fun b ob q=>Heap.get?_push_of_some _ q) (Nat.le_refl _) ?_,rfl,q _ (I.hok.fresh (Nat.le_refl _))⟩
 exact ⟨Nat.le_trans (aAq xs lo hi) hz,_,0,(r.drop (HT.sIx xs.length 0 lo)).take (HT.sIx xs.length xs.length hi - HT.sIx xs.length 0 lo),Heap.get?_push_size _ rfl⟩
theorem zE:lW X (.builtin "len") (fun xs H Q=>∃p ys,xs=[.ref p]/\(SqL X.K H p ys\/SqT X.K H p ys)/\Q (.int ys.length) H):=by
 intro pins s σ H xs us Q I r h
 obtain ⟨p,ys,rfl,hq,q⟩:=h
 obtain ⟨u,rfl,rx⟩:=vals1 r
 cases rx
 have hn:=uK
 rcases hq with hq | hq
 ·obtain ⟨its,r',pl,hz⟩:=I.list hq
  have hlen:=r'.length
  exact Calls.call_len_list pl.isList (by simp only [List.size_toArray]<;>omega) ⟨.int ys.length,H,I.tok _,⟨s.toks+1,by rw [List.size_toArray,hlen]⟩,q⟩
 ·obtain ⟨its,r',pl,hz⟩:=I.tuple hq
  have hlen:=r'.length
  exact len_tuple pl (by simp only [List.size_toArray]<;>omega) ⟨.int ys.length,H,I.tok _,⟨s.toks+1,by rw [List.size_toArray,hlen]⟩,q⟩
theorem zP:lW X (.type "list") (fun xs H Q=>∃p ys,xs=[.ref p]/\(SqL X.K H p ys\/SqT X.K H p ys)/\∀l,H l=none->Q (.ref l) (upd H l (.lst ys))):=by
 intro pins s σ H xs us Q I r h
 obtain ⟨p,ys,rfl,hq,q⟩:=h
 obtain ⟨u,rfl,rx⟩:=vals1 r
 cases rx
 have fin:∀(its:Y1),Vals ys its->ys.length<=sizeLine->∀(h':Heap) (c':Nat),(∀b o',s.heap.get? b=some o'->h'.get? b=some o') ->
   h'.get? s.heap.objs.size=some { cls:=.type "list",dict:=none,data:=.seq its.toArray c',slots:=#[] }->EP X pins σ Q (.ref s.heap.objs.size) { s with heap:=h' }:=fun its r' hz h' c' kp e =>
  ⟨.ref s.heap.objs.size,_,I.laid (t':=s.toks) kp (Nat.le_refl _) (show dA X.prog X.w _ h' _ (.lst ys) from ⟨hz,its,c',r',e⟩),rfl,q _ (I.hok.fresh (Nat.le_refl _))⟩
 rcases hq with hq | hq
 ·obtain ⟨its,r',pl,hz⟩:=I.list hq
  have hlen:=r'.length
  obtain ⟨o,ho,hc,n,hd⟩:=pl.isList
  exact call_list_seq p (.inl rfl) ho hc hd (fun h' c' kp e=>fin its r' hz h' c' kp e) (by simp only [List.size_toArray]<;>omega)
 ·obtain ⟨its,r',pl,hz⟩:=I.tuple hq
  have hlen:=r'.length
  obtain ⟨o,ho,hc,n,hd⟩:=pl
  exact call_list_seq p (.inr rfl) ho hc hd (fun h' c' kp e=>fin its r' hz h' c' kp e) (by simp only [List.size_toArray]<;>omega)
def tyV (K:FG) (T:String) (x:V) (H:Hp):Prop:=match x with
 | .str _=>T = "str"
 | .int _=>T = "int"
 | .ref p=>(T = "list" /\∃xs,SqL K H p xs)\/(T = "tuple" /\∃o,K.lookup p=some o/\o.cls=.type "tuple" /\o.dict=none) \/
   (T = "dict" /\((∃kvs,H p=some (.dK kvs))\/∃kvs,H p=some (.dT kvs)))\/(T = "set" /\∃S n,H p=some (.set S n))
 | _=>False
theorem aJi {pins:Y8} {σ:St} {H:Hp} {s:Shared} {T:String} {x:V} {v:Value} (I:Inv X pins σ H s) (r:RelV x v) (ty:tyV X.K T x H) :
  s.TypeIs v T/\∀a,v=.ref a->∃ob,s.heap.get? a=some ob/\ob.dict=none:=by
 cases x with
 | str z =>
  obtain ⟨t,rfl⟩:=r
  cases (show T = "str" from ty)
  exact ⟨typeIs_str s z t,fun _ e=>nomatch e⟩
 | int i =>
  obtain ⟨t,rfl⟩:=r
  cases (show T = "int" from ty)
  exact ⟨typeIs_int s i t,fun _ e=>nomatch e⟩
 | ref p =>
  cases r
  rcases ty with ⟨rfl,xs,hq⟩ | ⟨rfl,o,hk,hc,hd⟩ | ⟨rfl,hk⟩ | ⟨rfl,S,n,hk⟩
  ·obtain ⟨its,_,pl,_⟩:=I.list hq
   refine ⟨pl.isList.typeIs,fun a e=>?_⟩
   cases e
   obtain ⟨o,n,e,c,hd,_⟩:=pl
   exact ⟨o,e,hd⟩
  ·refine ⟨⟨o,I.kIn p o hk,hc⟩,fun a e=>?_⟩
   cases e
   exact ⟨o,I.kIn _ o hk,hd⟩
  ·have z:∃o,s.heap.get? p=some o/\o.ExactDict:=by
    rcases hk with ⟨kvs,hk⟩ | ⟨kvs,hk⟩
    ·obtain ⟨_,_,_,_,o,_,_,e,ex,_⟩:=I.hok p _ hk
     exact ⟨o,e,ex⟩
    ·obtain ⟨_,_,_,_,o,_,_,e,ex,_⟩:=I.hok p _ hk
     exact ⟨o,e,ex⟩
   obtain ⟨o,e,ex⟩:=z
   refine ⟨⟨o,e,ex.1⟩,fun a e2=>?_⟩
   cases e2
   exact ⟨o,e,ex.2.1⟩
  ·obtain ⟨o,_,_,_,e,ex,_⟩:=I.hok p _ hk
   refine ⟨⟨o,e,ex.1⟩,fun a e2=>?_⟩
   cases e2
   exact ⟨o,e,ex.2.1⟩
 | _=>exact False.elim ty
def aUl (K:FG) (T:String) (r:V->List V->Hp->VK->Prop) (to:TE):TE:=fun σ H Q=>to σ H fun x H1=>tyV K T x H1/\r x [] H1 Q
def tBM (K:FG) (T:String) (r:V->List V->Hp->VK->Prop) (to:TE) (t:TA):TE:=fun σ H Q=>to σ H fun x H1=>tyV K T x H1/\t σ H1 fun xs H2=>r x xs H2 Q
variable {o e:Expr} {es:List Expr} {to:TE} {t:TA} {name:Str} {apos cpos:Pos} {T id:String} {r:V->List V->Hp->VK->Prop}
theorem aQu (pa:PlainAttrs T) (slot:Slot T name id) (hty:typeOf (.builtin id)=pure (.type "method_descriptor")) (hm:MtR X id r) (ho:PE X o to)
  (hbase:attributeBase o name X.env (eval o X.env)=eval o X.env:=by rfl) (hline:(apos.endLine == cpos.line)=true:=by rfl):PE X (.Call (.Attribute o name apos) [] [] cpos) (aUl X.K T r to):=by
 intro pins s σ H Q I h
 refine wpAny_Call_method0_late hbase hline (thn (ho pins s σ H _ I h) fun v s1 ⟨x,H1,I1,r1,ty,q1⟩=>?_)
 obtain ⟨h1,h2⟩:=aJi I1 r1 ty
 exact ⟨T,id,pa,slot,hty,h1,h2,Calls.callWith_builtin rfl (PySem.evalArgs_none (hm pins s1 σ H1 x [] v [] Q I1 r1 .nil q1))⟩
theorem aN2 (pa:PlainAttrs T) (slot:Slot T name id) (hty:typeOf (.builtin id)=pure (.type "method_descriptor")) (hm:MtR X id r) (ho:PE X o to) (ha:PA X (e::es) t)
  (hbase:attributeBase o name X.env (eval o X.env)=eval o X.env:=by rfl)
  (hfew:((backTo cpos (starEach (e::es) X.env)).all (fun x=>!x.1) && (backToKw cpos (keywordEach [] X.env)).all (fun x=>x.1.isSome)
   && decide ((e::es).length+([]:List Keyword).length+(if ([]:List Keyword).isEmpty then 0 else 1)<30))=true:=by rfl)
  (hline:(apos.endLine == cpos.line)=true:=by rfl) (hs:starEach (e::es) X.env=(false,eval e X.env)::starEach es X.env:=by rfl) (hplain:(backTo cpos (starEach es X.env)).any (·.1)=false:=by rfl) :
  PE X (.Call (.Attribute o name apos) (e::es) [] cpos) (tBM X.K T r to t):=by
 intro pins s σ H Q I h
 refine wpAny_Call_method_late hbase hfew hline rfl (thn (ho pins s σ H _ I h) fun v s1 ⟨x,H1,I1,r1,ty,q1⟩=>?_)
 obtain ⟨h1,h2⟩:=aJi I1 r1 ty
 refine ⟨T,id,pa,slot,hty,h1,h2,?_⟩
 have hA:=ha cpos pins s1 σ H1 _ I1 q1
 rw [hs] at hA ⊢
 refine Calls.callWith_builtin (by show (false || (backTo cpos (starEach es X.env)).any (·.1))=false;rw [hplain]<;>rfl) (Calls.evalArgs_plain ?_)
 exact thn hA fun us s2 ⟨vs,H2,I2,r2,q2⟩=>hm pins s2 σ H2 x vs v us Q I2 r1 r2 q2
end
end L2
namespace L2
open PySem PySem.Spec PyProof.Rows
def MtM (X:Cx) (id:String) (r:V->List V->Hp->VK->Prop):Prop :=
 ∀(pins:Y8) (s:Shared) (σ:St) (H:Hp) (x:V) (xs:List V) (v:Value) (us:Y1) (Q:VK),Inv X pins σ H s->RelV x v->Vals xs us->r x xs H Q ->
  wpAny (model X.prog X.w) X.A (call (.builtin id) (v::us)) (EP X pins σ Q) X.xe s
theorem Vals.one:∀ {x:V} {us:Y1},Vals [x] us->∃u,us=[u]/\RelV x u
 | _,_,.cons r .nil=>⟨_,rfl,r⟩
theorem Vals.two:∀ {x y:V} {us:Y1},Vals [x,y] us->∃u v,us=[u,v]/\RelV x u/\RelV y v
 | _,_,_,.cons r (.cons q .nil)=>⟨_,_,rfl,r,q⟩
theorem Vals.zero:∀ {us:Y1},Vals [] us->us=[]
 | _,.nil=>rfl
theorem Vals.reverse {xs:List V} {us:Y1} (h:Vals xs us):Vals xs.reverse us.reverse:=by
 induction h with
 | nil=>exact .nil
 | cons r t ih=>rw [List.reverse_cons,List.reverse_cons];exact Vals.append ih (.cons r .nil)
theorem Vals.rep {xs:List V} {us:Y1} (h:Vals xs us):∀k:Nat,Vals (List.replicate k xs).flatten (List.replicate k us).flatten
 | 0=>.nil
 | k+1=>by
  rw [List.replicate_succ,List.replicate_succ,List.flatten_cons,List.flatten_cons]
  exact Vals.append h (Vals.rep h k)
theorem foldl_rep (its:Y1):∀(k:Nat) (acc:Y1),
  List.foldl (fun x1 x2=>x1++x2) acc.toArray (List.replicate k its.toArray)=(acc++(List.replicate k its).flatten).toArray
 | 0,acc=>by simp
 | k+1,acc=>by
  have e:acc.toArray++its.toArray=(acc++its).toArray:=by simp
  have e2:(acc++its)++(List.replicate k its).flatten=acc++(List.replicate (k+1) its).flatten:=by
   rw [List.replicate_succ,List.flatten_cons,List.append_assoc]
  rw [<- e2,<- foldl_rep its k (acc++its),<- e,List.replicate_succ,List.foldl_cons]
section
variable {X:Cx} {pins:Y8} {σ:St} {H:Hp} {s:Shared} {l b:Addr} {xs ys zs:List V}
theorem Inv.aUu {its its':Y1} {n:Nat} {f:Array Value->Array Value} {t':Nat} (I:Inv X pins σ H s) (hH:H l=some (.lst xs))
  (e:s.heap.get? l=some { cls:=.type "list",data:=.seq its.toArray n }) (hf:f its.toArray=its'.toArray) (hv:Vals ys its') (hz:ys.length<=sizeLine) :
  Inv X pins σ (upd H l (.lst ys)) { s with heap:=s.heap.update l (Obj.mapSeq f),toks:=t' }:=by
 have q:=PySem.IsL.update e f
 rw [hf] at q
 refine I.write (x:=l) (e:=l) (by rw [hH];exact trivial) (.inl rfl) (fun b' u hb hu=>(Heap.get?_update_other s.heap (Obj.mapSeq f) (Ne.symm hb)).trans hu) ⟨_,q⟩ ?_
 exact ⟨hz,its',_,hv,q⟩
theorem Inv.aR6 {its:Y1} {t':Nat} (I:Inv X pins σ H s) (hv:Vals ys its) (hz:ys.length<=sizeLine) :
  Inv X pins σ (upd H s.heap.objs.size (.lst ys)) { s with heap:=s.heap.push { cls:=.type "list",data:=.seq its.toArray },toks:=t' } :=
 I.laid (fun _ _ q=>Heap.get?_push_of_some _ q) (Nat.le_refl _) ⟨hz,its,0,hv,Heap.get?_push_size _ rfl⟩
theorem Inv.fresh (I:Inv X pins σ H s):H s.heap.objs.size=none:=I.hok.fresh (Nat.le_refl _)
theorem Inv.aR7 (I:Inv X pins σ H s) (hH:H l=some (.lst xs)):xs.length<=sizeLine/\∃(its:Y1) (n:Nat),Vals xs its/\xs.length=its.length/\s.heap.get? l=some { cls:=.type "list",data:=.seq its.toArray n }:=by
 obtain ⟨z,its,n,r,e⟩:=I.hok l _ hH
 exact ⟨z,its,n,r,r.length,e⟩
theorem aJt {n:Nat} (h:n<=sizeLine):Builtin.List.listTooLong n=false:=by
 unfold Builtin.List.listTooLong
 exact decide_eq_false (by omega)
end
section
variable {X:Cx}
def zT:V->List V->Hp->VK->Prop:=fun x vs H Q=>∃l xs y,x=.ref l/\vs=[y]/\H l=some (.lst xs)/\xs.length<sizeLine/\Q .non (upd H l (.lst (xs ++ [y])))
theorem qK:MtM X "list.append" zT:=by
 intro pins s σ H x vs v us Q I rx rv h
 obtain ⟨l,xs,y,rfl,rfl,hH,hz,q⟩:=h
 cases rx
 obtain ⟨u,rfl,ru⟩:=rv.one
 obtain ⟨z,its,n,r,hl,e⟩:=I.aR7 hH
 refine call_meets F.slot_list_append ⟨_,e,rfl⟩ F.entry_list_append (F.args_list_append_2 _ _) (PySem.list_append l its.toArray n u (by rw [List.size_toArray];omega)) ⟨e,?_⟩
 refine ⟨.non,_,I.aUu (its':=its ++ [u]) hH e (by simp) (r.append (.cons ru .nil)) ?_,rfl,q⟩
 rw [List.length_append,List.length_singleton]
 omega
def aBp:V->List V->Hp->VK->Prop:=fun x vs H Q=>∃l xs,x=.ref l/\vs=[]/\H l=some (.lst xs)/\Q .non (upd H l (.lst xs.reverse))
theorem aCr:MtM X "list.reverse" aBp:=by
 intro pins s σ H x vs v us Q I rx rv h
 obtain ⟨l,xs,rfl,rfl,hH,q⟩:=h
 cases rx
 have hus:=rv.zero
 subst hus
 obtain ⟨z,its,n,r,hl,e⟩:=I.aR7 hH
 refine call_meets F.slot_list_reverse ⟨_,e,rfl⟩ F.entry_list_reverse (F.args_list_reverse_1 _) (AutoSeq1.list_reverse_list_0 l its.toArray n (by rw [List.size_toArray];omega)) ⟨e,?_⟩
 refine ⟨.non,_,I.aUu (its':=its.reverse) hH e (by simp) r.reverse ?_,rfl,q⟩
 rw [List.length_reverse]
 omega
def aSv:R2:=fun x y H Q=>∃l k xs,x=.ref l/\y=.int k/\H l=some (.lst xs)/\-(2 ^ 63)<=k/\k<2 ^ 63/\xs.length * k.toNat<=sizeLine /\
 ∀p,H p=none->Q (.ref p) (upd H p (.lst (List.replicate k.toNat xs).flatten))
theorem len_rep {α:Type} (xs:List α) (k:Nat):(List.replicate k xs).flatten.length=k * xs.length:=by
 induction k with
 | zero=>simp
 | succ k ih=>rw [List.replicate_succ,List.flatten_cons,List.length_append,ih,Nat.succ_mul,Nat.add_comm]
theorem aQ2:OpR X (binaryOp .Mult) aSv:=by
 intro pins s σ H x y v u Q I rx ry h
 obtain ⟨l,k,xs,rfl,rfl,hH,h1,h2,hz,q⟩:=h
 cases rx
 obtain ⟨t,rfl⟩:=ry
 obtain ⟨z,its,n,r,hl,e⟩:=I.aR7 hH
 have hlen:its.toArray.size * k.toNat<=sizeLine:=by rw [List.size_toArray,<- hl];exact hz
 have hcap:¬ its.toArray.size * k.toNat > (2 ^ 63 - 1) / 8:=by
  have:(sizeLine:Nat)<=(2 ^ 63 - 1) / 8:=by decide
  omega
 have hfit:¬ (!Builtin.List.listFitsIndex k)=true:=by
  rw [fitsIndex_both h1 h2]
  exact Bool.false_ne_true
 have hlong:¬ Builtin.List.listTooLong (its.toArray.size * k.toNat)=true:=by
  rw [aJt hlen]
  exact Bool.false_ne_true
 have hnew:List.foldl (fun x1 x2=>x1++x2) #[] (List.replicate (if its.toArray.isEmpty=true then 0 else k.toNat) its.toArray)=(List.replicate k.toNat its).flatten.toArray:=by
  have f0:∀m:Nat,List.foldl (fun x1 x2=>x1++x2) #[] (List.replicate m its.toArray)=(List.replicate m its).flatten.toArray:=fun m=>by
   have:=foldl_rep its m []
   rw [List.nil_append] at this
   exact this
  rw [f0]
  cases its with
  | nil=>simp
  | cons a r'=>rw [if_neg (by simp)]
 refine wpAny_binaryOp_repeat_ref (T := "list") (U := "int") (by decide) ⟨_,e,rfl⟩ (fun s'=>typeIs_int s' k t) noFill_list_mul F.fills_int_mul F.slot_int_rmul repeat_list F.slot_int_index.lookup
  (call_meets F.slot_int_rmul (typeIs_int s k t) F.entry_int_rmul (F.args_int_rmul_2 _ _) (int___rmul___int_list k t l its.toArray n)
   ⟨e,rfl,⟨_,e,rfl⟩,call_meets F.slot_list_mul ⟨_,e,rfl⟩ F.entry_list_mul (F.args_list_mul_2 _ _) (AutoListH.list___mul___list_int_3 l its.toArray n k t hfit hcap hlong) ⟨e,?_⟩⟩)
 rw [hnew]
 exact ⟨.ref _,_,I.aR6 (t':=s.toks) (r.rep k.toNat) (by rw [len_rep,Nat.mul_comm];exact hz),rfl,q _ I.fresh⟩
end
section
variable {prog:Program} {w:World} {A:Around} {E:Y9} {s:Shared}
set_option maxRecDepth 100000 in
end
section
variable {X:Cx}
end
end L2
namespace Att
open PySem PySem.W PySem.Calls PyProof.Rows
theorem sD {P:Params} {h:Heap}:∀(ns:Y0) (vs:Y1),WellAll P h vs (ns.map WData.int)->IntsAre vs ns:=by
 intro ns
 induction ns with
 | nil =>
  intro vs w
  rw [List.map_nil] at w
  cases w
  exact .nil
 | cons n ns ih =>
  intro vs w
  rw [List.map_cons] at w
  cases w with
  | cons a b =>
   cases a
   exact .cons _ _ (ih _ b)
theorem aGt {l:OpenLaw} {n:Nat} (hn:l.most=some n) {P:Params} {h:Heap} {args:List WData} {vals:Y1}
  (hpre:l.row.toRowW.claim.pre args=true) (hwl:WellAll P h vals args) :
  ∃a vs ns,vals=[Value.ref a]/\args=[WData.list (ns.map WData.int)]/\h.get? a=some { cls:=.type "list",data:=.seq vs.toArray }/\IntsAre vs ns/\ns.length<=n:=by
 have hsh:WShape.hasAll [] args [.list .int]=true:=(pre_splitW hpre).1
 have hc:l.pre.holds [] { args:=args }=true:=(pre_splitW hpre).2
 obtain ⟨d,r,rfl,h1,h2⟩:=hasAllW_cons hsh
 obtain rfl:=hasAllW_nil h2
 obtain ⟨xs,rfl,h3⟩:=hasW_list h1
 obtain ⟨ns,rfl⟩:=items_int h3
 have hlen:ns.length<=n:=by
  unfold OpenLaw.pre at hc
  have h4:(WTm.not (.lt (.lit (.int (n:Int))) (.len (.arg 0)))).holds [] { args:=[.list (ns.map .int)] }=true:=by
   have h4:=(holds_andW hc).1
   rw [hn] at h4
   exact h4
  have h5:=condW_of h4 (w_not (w_lt w_lit (w_len_list (w_arg rfl))))
  rw [List.length_map] at h5
  refine Nat.le_of_not_lt fun q=>?_
  have q':(n:Int)<((ns.length:Nat):Int):=by omega
  first
   | (rw [decide_eq_true q'] at h5;exact absurd h5 (by decide))
   | (simp at h5;omega)
 cases hwl with
 | cons w1 w2 =>
  cases w2
  cases w1 with
  | list ho hall=>exact ⟨_,_,ns,rfl,rfl,ho,sD ns _ hall,hlen⟩
theorem aFp (l:OpenLaw) (args:List WData):l.row.toRowW.claim.post args (.bool true) args=true :=
 postW_of (r:=l.row.toRowW) (X:=(true == true))
  (show WShape.has [] (.bool true) .bool=true by first | rfl | decide | simp [WShape.has,WShape.arms,WShape.armsAll])
  (show (WTm.eq .res (.lit (.bool true))).value [] { args:=args,res:=some (.bool true),after:=args }=some (.bool (true == true)) from w_eq_bool (w_res rfl) w_lit) rfl
theorem attach_call {l:OpenLaw} {n:Nat} {q:Program} {loose:List Str} {XP:(Str->Option Value)->Heap->Prop} {YP:World->Heap->Prop} {d:DefRec}
  (hn:l.most=some n) (hdf:d.params.defaults=[])
  (call:∀(w:World) (s₀ s₁:Shared) (mg mb:Y6) (fa:Addr) (o:Obj) (pm cd doc:Value) (a:Addr) (vs:Y1) (ns:Y0),
   Ground q loose [] XP w s₀ mg mb s₁.heap->YP w s₁.heap ->
   s₁.heap.get? fa=some o->o.data=.func (docDef d.name d.params d.body d.scope pm cd doc)->s₁.heap.CodeRec cd d.name->mg d.name=some (.ref fa) ->
   s₁.heap.get? a=some { cls:=.type "list",data:=.seq vs.toArray }->IntsAre vs ns->ns.length<=n->s₁.gens = #[] ->
   codeAny (model l.prog w) callerA (.call (.ref fa) ⟨[.ref a],[]⟩) (fun r s'=>r=.ok (.ret (.bool true))/\OldK s₁.heap s'.heap/\s'.os=s₁.os/\AllBare s'.gens) s₁) :
  WalkO q loose XP YP l.row.toRowW d [] (fun f vs=>PySem.call f vs):=by
 intro w s₀ s₁ mg mb G Y fa o pm cd doc dV kV ho hd hcd hD hmg hg args vals as hpre hlay hrd hwl hlo
 obtain rfl:dV=.none:=Dflts.none hD hdf
 obtain rfl:kV=.none:=Dflts.noKw hD
 obtain ⟨a,vs,ns,rfl,rfl,hobj,hints,hlen⟩:=aGt hn hpre hwl
 refine enter_call (codeAny_mono (call w s₀ s₁ mg mb fa o pm cd doc a vs ns G Y ho (fd_plain hd) hcd hmg hobj hints hlen hg) fun r s' hq=>?_)
 obtain ⟨rfl,h2,h3,h4⟩:=hq
 exact ⟨.inl ⟨.bool true,.bool true,[],rfl,fun _=>rfl,.bool true,aFp l _,fun _=>⟨List.Pairwise.nil,fun _ hm=>(nomatch hm)⟩⟩,h2,h3,h4⟩
section
variable {prog:Program} {w:World} {A:Around} {E:Y9} {s:Shared} {K:Frag}
end
end Att
namespace L2
open PySem PySem.Spec PyProof.Rows
theorem rD:∀ {vs:Y1} {ns:Y0},IntsAre vs ns->Vals (ns.map V.int) vs
 | _,_,.nil=>.nil
 | _,_,.cons n t h=>.cons ⟨t,rfl⟩ (rD h)
def aO5 (H:Hp):Prop:=∀b,H b=none\/∃o xs,H b=some (.frz o (.lst xs))
theorem aG6 {P:Program} {w:World} {K:FG} {mg mb:Y6} {CX:CXT} {k:Nat} {fa a:Addr} {fd:FuncData} {x:Str} {sp:Sp} {s₁:Shared} {vs:Y1} {ns:Y0}
  (KX:K.In s₁.heap) (hns:s₁.heap.Ns mainGlobals mg) (hb:s₁.heap.Ns builtinsNs mb) (hbb:∀x:Str,x ≠ "__name__" ->mb x=bootBuiltins x) (hlim:s₁.heap.NoLimit) (hg:s₁.gens = #[])
  (ha:s₁.heap.get? a=some { cls:=.type "list",data:=.seq vs.toArray }) (hi:IntsAre vs ns) (hl:ns.length<=sizeLine) (hr:Room k callerA)
  (F:∀base:Heap,K.In base->base.Ns mainGlobals mg->FnOk P w K mg base CX k fa fd [x] sp) (hbind:∀(s:Shared) (u:Value),BindsTo s fd ⟨[u],[]⟩ [(x,u)])
  (hsp:∀H:Hp,aO5 H->SqL K H a (ns.map V.int)->sp [.ref a] H (fun v _=>v=.bl true) fun _ _ _=>False)
  (hCX:∀H e s',CX [] H s₁ (fun _ _ _=>False) e s'->False) :
  codeAny (model P w) callerA (.call (.ref fa) ⟨[.ref a],[]⟩) (fun r s'=>r=.ok (.ret (.bool true))/\OldK s₁.heap s'.heap/\s'.os=s₁.os/\AllBare s'.gens) s₁:=by
 have rv:=rD hi
 have lenV:=hi.length
 have core:∀H:Hp,aO5 H->SqL K H a (ns.map V.int)->HOk P w H s₁.heap->(∀b,H b ≠ none->b=a)->(H a ≠ none->K.lookup a=none) ->
   codeAny (model P w) callerA (.call (.ref fa) ⟨[.ref a],[]⟩) (fun r s'=>r=.ok (.ret (.bool true))/\OldK s₁.heap s'.heap/\s'.os=s₁.os/\AllBare s'.gens) s₁:=by
  intro H hO hS hok hA hK
  have base_of:∀ {b:Addr} {o:Obj},s₁.heap.get? b=some o->H b=none->(zM s₁.heap H).get? b=some o:=fun e n=>aI9 e n
  have noA:∀ {b:Addr} {o:Obj} {es:Array DictEntry} {ep:Nat},s₁.heap.get? b=some o->o.data=.dict es ep->H b=none:=fun {b o es ep} e d=>by
   cases q:H b with
   | none=>rfl
   | some u =>
    have e':b=a:=hA b (by rw [q];simp)
    subst e'
    rw [ha] at e;cases e
    have d':Data.seq vs.toArray _=Data.dict es ep:=d
    cases d'
  have nsK:∀ {b:Addr} {m:Y6},s₁.heap.Ns b m->(zM s₁.heap H).Ns b m:=fun {b m} ⟨o,es,ep,e,d,r⟩=>⟨o,es,ep,base_of e (noA e d),d,r⟩
  have hKb:K.In (zM s₁.heap H):=fun b o e=>base_of (KX b o e) (by
   cases q:H b with
   | none=>rfl
   | some u =>
    have e':b=a:=hA b (by rw [q];simp)
    subst e'
    rw [hK (by rw [q];simp)] at e;cases e)
  have hM:Mod K mg (zM s₁.heap H):=⟨hKb,nsK hns,⟨mb,nsK hb,hbb⟩,let ⟨mc,h1,h2⟩:=hlim;⟨mc,nsK h1,h2⟩⟩
  have e0:Env0 P w K mg (zM s₁.heap H) callerA [] s₁ H:=⟨rfl,hM,fun b o e=>aMh e,Nat.le_of_eq (aF0 _ _),trivial,fun b hb=>absurd (show b∈([]:Y2) from hb) (by simp),hok,.of_eq hg⟩
  refine codeAny_mono ((F _ hKb (nsK hns)).run callerA [] s₁ H ⟨[.ref a],[]⟩ [.ref a] [.ref a] _ _ hr e0 (hbind s₁ (.ref a)) (.cons rfl .nil) (hsp H hO hS)) fun r s' h=>?_
  cases r with
  | error e=>exact (hCX H e s' h).elim
  | ok fl =>
   cases fl with
   | next=>exact False.elim h
   | brk=>exact False.elim h
   | cont=>exact False.elim h
   | ret u =>
    obtain ⟨v,H',os,bare,un,hok',r',q⟩:=h
    have q':v=.bl true:=q
    subst q'
    obtain rfl:u=Value.bool true:=r'
    refine ⟨rfl,OldK.of_keep fun b o e=>?_,os,bare⟩
    cases q:H b with
    | none=>exact un.keep b o e q (by intro z;exact absurd (show b∈([]:Y2) from z) (by simp)) (by simp)
    | some u =>
     rcases hO b with z | ⟨ob,xs,z⟩
     ·rw [q] at z;cases z
     ·have z2:=un.frzs b ob _ z
      obtain ⟨e1,_⟩:=hok b _ z
      obtain ⟨e2,_⟩:=hok' b _ z2
      rw [e] at e1;cases e1
      exact e2
 cases hk:K.lookup a with
 | some o =>
  have e:=KX a o hk
  rw [ha] at e
  cases e
  refine core (fun _=>none) (fun _=>.inl rfl) (.inr ⟨_,vs.toArray,_,hk,rfl,rfl,rfl,by rw [List.size_toArray,lenV];exact hl,by simpa using rv⟩) (fun b u z=>by have z':(none:Option HO)=some u:=z;cases z') (fun b z=>absurd rfl z) fun z=>absurd rfl z
 | none =>
  refine core (fun b=>if b=a then some (.frz { cls:=.type "list",data:=.seq vs.toArray } (.lst (ns.map V.int))) else none) (fun b=>?_) (.inl (.inr ⟨{ cls:=.type "list",data:=.seq vs.toArray },if_pos rfl⟩)) (fun b u z=>?_) (fun b z=>?_) fun _=>hk
  ·by_cases hb:b=a
   ·exact .inr ⟨_,_,if_pos hb⟩
   ·exact .inl (if_neg hb)
  ·by_cases hb:b=a
   ·have z':=(if_pos hb).symm.trans z
    cases z'
    subst hb
    exact ⟨ha,by rw [List.length_map];exact hl,vs,_,rv,ha⟩
   ·have z':=(if_neg hb).symm.trans z
    cases z'
  ·by_cases hb:b=a
   ·exact hb
   ·exact absurd (if_neg hb) z
end L2
namespace L2
open PySem PySem.Spec PyProof.Rows
theorem walk_of {l:PySem.W.OpenLaw} {n k:Nat} {q:Program} {loose:List Str} {XP:(Str->Option Value)->Heap->Prop} {YP:World->Heap->Prop} {d:DefRec} {K:Params->FG} {CX:World->CXT} {sp:World->Sp} {x:Str}
  (hn:l.most=some n) (hn2:n<=sizeLine) (hdf:d.params.defaults=[]) (hr:Room k callerA)
  (hY:∀(w:World) (h:Heap),YP w h->(K w.params).In h)
  (F:∀(w:World) (mg:Y6) (fa:Addr) (h:Heap),(K w.params).In h->h.Ns mainGlobals mg->mg d.name=some (.ref fa) ->
   ∃fd:FuncData,(∀(s:Shared) (u:Value),BindsTo s fd ⟨[u],[]⟩ [(x,u)]) /\
    ∀base:Heap,(K w.params).In base->base.Ns mainGlobals mg->FnOk l.prog w (K w.params) mg base (CX w) k fa fd [x] (sp w))
  (hsp:∀(w:World) (H:Hp) (a:Addr) (ns:Y0),ns.length<=n->aO5 H->SqL (K w.params) H a (ns.map V.int)->sp w [.ref a] H (fun v _=>v=.bl true) fun _ _ _=>False)
  (hCX:∀(w:World) (H:Hp) (s:Shared) (e:Value) (s':Shared),CX w [] H s (fun _ _ _=>False) e s'->False) :
  PySem.W.WalkO q loose XP YP l.row.toRowW d [] (fun f vs=>PySem.call f vs):=by
 refine Att.attach_call hn hdf fun w s₀ s₁ mg mb fa o pm cd doc a vs ns G Y ho hd hcd hmg hobj hints hlen hg=>?_
 have KX:=hY w _ Y
 obtain ⟨fd,hb,hF⟩:=F w mg fa _ KX G.T.g hmg
 exact aG6 KX G.T.g G.T.b G.T.builtins G.T.nolimit hg hobj hints (Nat.le_trans hlen hn2) hr hF hb (fun H hO hS=>hsp w H a ns hlen hO hS) fun H e s'=>hCX w H s₁ e s'
end L2
namespace L2
open PySem PySem.Spec PyProof.Rows
def jK (s:Stmt):Arguments:=match s with
 | .FunctionDef _ a _ _ _ _ _ _ _ _=>a
 | _=>{ posonlyargs:=[],args:=[],vararg:=none,kwonlyargs:=[],kw_defaults:=[],kwarg:=none,defaults:=[] }
def fR (s:Stmt):List Stmt:=match s with
 | .FunctionDef _ _ b _ _ _ _ _ _ _=>b
 | _=>[]
def aI (s:Stmt):Scope:=match s with
 | .FunctionDef _ _ _ _ _ _ sc _ _ _=>sc
 | _=>{ kind:=.function,names:=[],isGenerator:=false,isCoroutine:=false }
abbrev E0:XK:=fun _ _ _=>False
structure Fun (K:FG) (x qual:Str) (st:Stmt) (f:Addr) (fd:FuncData):Prop where
 ex:∃(oc:Value) (od:Option Addr) (kV doc pm:Value) (an:Option Addr) (cdv ct:Value) (osl:Array (Option Value)),
  fd=PySem.W.fnOf x qual (jK st) (fR st) (aI st) .none kV doc pm an cdv ct/\K.lookup f=some ⟨oc,od,.func fd,osl⟩/\PySem.W.codeIn K cdv qual=true
 kp:PySem.W.keepIn K (.ref f)=true
section
variable {P:Program} {w:World} {K:FG} {mg:Y6} {base:Heap}
theorem Fun.binds {x qual:Str} {st:Stmt} {f:Addr} {fd:FuncData} {ps:List Str} (F:Fun K x qual st f fd)
  (h:∀(kV doc pm:Value) (an:Option Addr) (cdv ct:Value) (us:Y1),us.length=ps.length->bindArgs (PySem.W.fnOf x qual (jK st) (fR st) (aI st) .none kV doc pm an cdv ct) ⟨us,[]⟩=pure (ps.zip us)):Binds K fd ps []:=by
 obtain ⟨oc,od,kV,doc,pm,an,cdv,ct,osl,rfl,lk,hcd⟩:=F.ex
 exact .all (h kV doc pm an cdv ct)
theorem aO0 {x qual:Str} {st:Stmt} {f:Addr} {oc:Value} {od an:Option Addr} {osl:Array (Option Value)} {kV doc pm cdv ct:Value} (l:K.lookup f=some ⟨oc,od,.func (PySem.W.fnOf x qual (jK st) (fR st) (aI st) .none kV doc pm an cdv ct),osl⟩)
  (c:PySem.W.codeIn K cdv qual=true) (k:PySem.W.keepIn K (.ref f)=true):Fun K x qual st f (PySem.W.fnOf x qual (jK st) (fR st) (aI st) .none kV doc pm an cdv ct):=⟨⟨oc,od,kV,doc,pm,an,cdv,ct,osl,rfl,l,c⟩,k⟩
end
section
variable {X:Cx}
end
def bD (H H':Hp):Prop:=∀b o,H b=some o->H' b=some o
theorem bD.refl (H:Hp):bD H H:=fun _ _ h=>h
theorem bD.trans {H H1 H2:Hp} (a:bD H H1) (b:bD H1 H2):bD H H2:=fun c o h=>b c o (a c o h)
theorem bD.free {H H':Hp} (e:bD H H') {l:Addr} (h:H' l=Option.none):H l=Option.none:=by
 cases q:H l with
 | none=>rfl
 | some o =>
  rw [e l o q] at h
  cases h
theorem bD.seq {K:FG} {H H':Hp} {a:Addr} {xs:List V} (e:bD H H') (h:SqL K H a xs):SqL K H' a xs:=by
 rcases h with (h | ⟨o,h⟩) | h
 ·exact .inl (.inl (e _ _ h))
 ·exact .inl (.inr ⟨o,e _ _ h⟩)
 ·exact .inr h
end L2
end
section
namespace L2
open PySem PySem.Spec PyProof.Rows
section
variable {κ:Type} [DecidableEq κ]
def oO (kvs:List (κ×V)) (k:κ):Option V:=(kvs.find? fun kv=>decide (kv.1=k)).map (·.2)
def putK (kvs:List (κ×V)) (k:κ) (v:V):List (κ×V) :=
 if (kvs.any fun kv=>decide (kv.1=k))=true then kvs.map (fun kv=>if kv.1=k then (kv.1,v) else kv) else kvs ++ [(k,v)]
theorem uA {p:κ×V} {r:List (κ×V)} {k:κ} (e:p.1=k):oO (p::r) k=some p.2:=by simp [oO,List.find?_cons,e]
theorem vA {p:κ×V} {r:List (κ×V)} {k:κ} (e:¬ p.1=k):oO (p::r) k=oO r k:=by simp [oO,List.find?_cons,e]
theorem aBr (k:κ):∀kvs:List (κ×V),(kvs.any fun kv=>decide (kv.1=k))=(oO kvs k).isSome
 | []=>rfl
 | p::r=>by
  rw [List.any_cons]
  by_cases e:p.1=k
  ·simp only [uA e,decide_eq_true e,Bool.true_or,Option.isSome_some]
  ·rw [vA e,decide_eq_false e,Bool.false_or];exact aBr k r
theorem mQ (kvs:List (κ×V)) (k:κ) (v:V):(putK kvs k v).length<=kvs.length+1:=by
 unfold putK
 split
 ·rw [List.length_map];omega
 ·rw [List.length_append,List.length_cons,List.length_nil];omega
theorem tV.isSome_eq {o:Option V} {u:Option Value} (r:tV o u):o.isSome=u.isSome:=by
 cases o with
 | none=>cases u with
  | none=>rfl
  | some _=>exact (show False from r).elim
 | some _=>cases u with
  | none=>exact (show False from r).elim
  | some _=>rfl
theorem KV.val {kvs:List (κ×V)} {vs:List (κ×Value)} (r:KV kvs vs) (k:κ):tV (oO kvs k) (valueAt vs k):=by
 unfold KV at r
 induction r with
 | nil=>exact True.intro
 | @cons p q ps qs h t ih =>
  obtain ⟨h1,h2⟩:=h
  by_cases e:p.1=k
  ·have e':q.1=k:=h1.symm.trans e
   have b:valueAt (q::qs) k=some q.2:=by simp [valueAt,List.find?_cons,e']
   rw [uA e,b];exact h2
  ·have e':¬ q.1=k:=fun z=>e (h1.trans z)
   have b:valueAt (q::qs) k=valueAt qs k:=by simp [valueAt,List.find?_cons,e']
   rw [vA e,b];exact ih
theorem KV.any {kvs:List (κ×V)} {vs:List (κ×Value)} (r:KV kvs vs) (k:κ):(kvs.any fun kv=>decide (kv.1=k))=vs.any fun kv=>decide (kv.1=k):=by
 unfold KV at r
 induction r with
 | nil=>rfl
 | cons h t ih=>rw [List.any_cons,List.any_cons,ih,h.1]
theorem KV.aR4 {kvs:List (κ×V)} {vs:List (κ×Value)} (r:KV kvs vs) (k:κ) {y:V} {u:Value} (ry:RelV y u) :
  KV (kvs.map fun kv=>if kv.1=k then (kv.1,y) else kv) (vs.map fun kv=>if kv.1=k then (kv.1,u) else kv):=by
 unfold KV at r ⊢
 induction r with
 | nil=>exact .nil
 | @cons p q ps qs h t ih =>
  rw [List.map_cons,List.map_cons]
  refine .cons ?_ ih
  obtain ⟨h1,h2⟩:=h
  by_cases e:p.1=k
  ·rw [if_pos e,if_pos (h1.symm.trans e)];exact ⟨h1,ry⟩
  ·rw [if_neg e,if_neg (fun z=>e (h1.trans z))];exact ⟨h1,h2⟩
theorem KV.put {kvs:List (κ×V)} {vs:List (κ×Value)} (r:KV kvs vs) (k:κ) {y:V} {u:Value} (ry:RelV y u):KV (putK kvs k y) (stored vs k u):=by
 unfold putK stored
 rw [r.any k]
 by_cases e:(vs.any fun kv=>decide (kv.1=k))=true
 ·rw [if_pos e,if_pos e];exact r.aR4 k ry
 ·rw [if_neg e,if_neg e];exact Paired.snoc r ⟨rfl,ry⟩
theorem KV.length {kvs:List (κ×V)} {vs:List (κ×Value)} (r:KV kvs vs):kvs.length=vs.length:=Paired.length r
end
theorem aAl {P:Program} {w:World} {k:Key} {u:Value} (r:RelV (kV k) u):(dF P w).is k u=true:=by
 cases k with
 | inl i=>obtain ⟨t,e⟩:=(show ∃t,u=Value.int i t from r);subst e;exact aAd P w i t
 | inr x=>obtain ⟨t,e⟩:=(show ∃t,u=Value.str x t from r);subst e;exact aAe P w x t
theorem xW {P:Program} {w:World}:∀ {ks:List Key} {us:Y1},Vals (ks.map kV) us->ItemsAre (dF P w) ks us
 | [],_,r=>by rw [List.map_nil] at r;cases r;exact .nil
 | k::ks,_,r=>by
  rw [List.map_cons] at r
  cases r with
  | cons h t=>exact .cons (aAl h) (xW t)
abbrev KT (H:Hp):List (List Key×V)->List (List Key×Addr×Value)->Prop:=Paired fun p q=>p.1=q.1/\H q.2.1=some (.tup (p.1.map kV))/\RelV p.2 q.2.2
theorem KT.val {H:Hp} {kvs:List (List Key×V)} {xs:List (List Key×Addr×Value)} (r:KT H kvs xs) (k:List Key):tV (oO kvs k) ((atKey xs k).map (·.2)):=by
 induction r with
 | nil=>exact True.intro
 | @cons p q ps qs h t ih =>
  obtain ⟨h1,_,h2⟩:=h
  by_cases e:p.1=k
  ·have e':q.1=k:=h1.symm.trans e
   have b:atKey (q::qs) k=some q.2:=by simp [atKey,List.find?_cons,e']
   rw [uA e,b];exact h2
  ·have e':¬ q.1=k:=fun z=>e (h1.trans z)
   have b:atKey (q::qs) k=atKey qs k:=by simp [atKey,List.find?_cons,e']
   rw [vA e,b];exact ih
theorem KT.aR4 {H:Hp} {kvs:List (List Key×V)} {xs:List (List Key×Addr×Value)} (r:KT H kvs xs) (k:List Key) {y:V} {u:Value} (ry:RelV y u) :
  KT H (kvs.map fun kv=>if kv.1=k then (kv.1,y) else kv) (xs.map (putAt k u)):=by
 induction r with
 | nil=>exact .nil
 | @cons p q ps qs h t ih =>
  rw [List.map_cons,List.map_cons]
  refine .cons ?_ ih
  obtain ⟨h1,h2,h3⟩:=h
  unfold putAt
  by_cases e:p.1=k
  ·rw [if_pos e,if_pos (h1.symm.trans e)];exact ⟨h1,h2,ry⟩
  ·rw [if_neg e,if_neg (fun z=>e (h1.trans z))];exact ⟨h1,h2,h3⟩
theorem KT.put {H:Hp} {kvs:List (List Key×V)} {xs:List (List Key×Addr×Value)} (r:KT H kvs xs) (k:List Key) {b:Addr} {y:V} {u:Value} (hb:H b=some (.tup (k.map kV))) (ry:RelV y u) :
  KT H (putK kvs k y) (storedH xs k b u):=by
 have e:(kvs.any fun kv=>decide (kv.1=k))=(atKey xs k).isSome:=by
  rw [aBr,(r.val k).isSome_eq,Option.isSome_map]
 unfold putK storedH
 rw [e]
 by_cases q:(atKey xs k).isSome=true
 ·rw [if_pos q,if_pos q];exact r.aR4 k ry
 ·rw [if_neg q,if_neg q];exact Paired.snoc r ⟨rfl,hb,ry⟩
theorem KT.keeps {H H':Hp} {kvs:List (List Key×V)} {xs:List (List Key×Addr×Value)} (r:KT H kvs xs) (ht:∀b ys,H b=some (.tup ys)->H' b=some (.tup ys)):KT H' kvs xs :=
 Paired.aR5 r fun _ _ z=>⟨z.1,ht _ _ z.2.1,z.2.2⟩
section
variable {P:Program} {w:World} {H:Hp} {h:Heap} {a:Addr}
theorem aOd {u:HO} (ok:HOk P w H h) (e:Rd H a u):dA P w H h a u:=e.ok ok
theorem aDq {kvs:List (Key×V)} (ok:HOk P w H h) (e:Rd H a (.dK kvs)):kvs.length<=sizeLine/\(a == sysModules)=false/\∃vs,KV kvs vs/\h.DictOf (dF P w) a vs :=
 show dA P w H h a (.dK kvs) from aOd ok e
theorem aNk {kvs:List (Key×V)} (ok:HOk P w H h) (e:H a=some (.dK kvs)):kvs.length<=sizeLine/\(a == sysModules)=false/\∃vs,KV kvs vs/\h.DictOf (dF P w) a vs:=aDq ok (.inl e)
theorem yH {ks:List Key} (ok:HOk P w H h) (e:H a=some (.tup (ks.map kV))):(tupleKind (dF P w)).is h ks a:=by
 obtain ⟨_,its,r,o,h1,h2,n,h3⟩:=(show dA P w H h a (.tup (ks.map kV)) from ok a _ e)
 exact ⟨o,its.toArray,n,h1,h2,h3,by simpa using xW r⟩
theorem aEn {kvs:List (List Key×V)} (ok:HOk P w H h) (e:Rd H a (.dT kvs)):kvs.length<=sizeLine/\(a == sysModules)=false /\
  ∃xs,KT H kvs xs/\h.DictOfH (tupleKind (dF P w)) a xs:=by
 obtain ⟨z,y,xs,r,o,es,ep,h1,h2,h3,h4,h5⟩:=(show dA P w H h a (.dT kvs) from aOd ok e)
 refine ⟨z,y,xs,r,o,es,ep,h1,h2,h3,h4,fun x hx=>?_,h5⟩
 have all:∀ {l:List (List Key×V)} {m:List (List Key×Addr×Value)},KT H l m->∀x∈m,(tupleKind (dF P w)).is h x.1 x.2.1:=by
  intro l m q
  induction q with
  | nil=>intro x hx;exact nomatch hx
  | @cons p q ps qs hq t ih =>
   intro x hx
   rcases List.mem_cons.mp hx with e | hx
   ·subst e
    exact yH ok (by rw [<- hq.1];exact hq.2.1)
   ·exact ih x hx
 exact all r x hx
theorem aSo {kvs:List (List Key×V)} (ok:HOk P w H h) (e:H a=some (.dT kvs)):kvs.length<=sizeLine/\(a == sysModules)=false /\
  ∃xs,KT H kvs xs/\h.DictOfH (tupleKind (dF P w)) a xs:=aEn ok (.inl e)
end
def yZ (H:Hp) (a:Addr) (y:V) (r:Option V):Prop :=
 (∃kvs k,Rd H a (.dK kvs)/\y=kV k/\r=oO kvs k)\/∃kvs k b,Rd H a (.dT kvs)/\y=.ref b/\H b=some (.tup (k.map kV))/\r=oO kvs k
def aHc (H:Hp) (a:Addr) (y v:V) (H':Hp):Prop :=
 (∃kvs k,H a=some (.dK kvs)/\y=kV k/\kvs.length<sizeLine/\H'=upd H a (.dK (putK kvs k v))) \/
 ∃kvs k b,H a=some (.dT kvs)/\y=.ref b/\H b=some (.tup (k.map kV))/\kvs.length<sizeLine/\H'=upd H a (.dT (putK kvs k v))
theorem yZ.k {H:Hp} {a:Addr} {kvs:List (Key×V)} {k:Key} (e:H a=some (.dK kvs)):yZ H a (kV k) (oO kvs k):=.inl ⟨kvs,k,.inl e,rfl,rfl⟩
theorem aHc.k {H:Hp} {a:Addr} {kvs:List (Key×V)} {k:Key} {v:V} (e:H a=some (.dK kvs)) (hl:kvs.length<sizeLine):aHc H a (kV k) v (upd H a (.dK (putK kvs k v))):=.inl ⟨kvs,k,e,rfl,hl,rfl⟩
section
variable {X:Cx} {pins:Y8} {σ:St} {H:Hp} {s:Shared} {a:Addr} {y v:V} {u r:Value} {o:Option V} {A:Around} {E:Y9}
theorem Inv.big (I:Inv X pins σ H s):sysModules<s.heap.objs.size:=by
 have h:mainGlobals<s.heap.objs.size:=(I.mod.glob.keeps I.bk).lt
 exact Nat.lt_trans (by decide) h
theorem aFw {Q:Y9} (hu:A.units+1<cLine) (I:Inv X pins σ H s) (g:yZ H a y (some v)) (ry:RelV y u) (h:∀w' s',Inv X pins σ H s'->RelV v w'->Q w' s') :
  wpAny (model X.prog X.w) A (getItem (.ref a) u) Q E s:=by
 rcases g with ⟨kvs,k,e,ey,l⟩ | ⟨kvs,k,b,e,ey,eb,l⟩
 ·subst ey
  obtain ⟨z,hd,vs,rel,dd⟩:=aDq I.hok e
  obtain ⟨w',hw,rw'⟩:=tV.some_of (v:=v) (o:=valueAt vs k) (by rw [l];exact rel.val k)
  exact wpAny_getItem_of (aAl ry) dd.mapOf hw (h w' _ (I.tok _) rw')
 ·subst ey
  cases (show u=Value.ref b from ry)
  obtain ⟨z,hd,xs,rel,dd⟩:=aEn I.hok e
  obtain ⟨w',hw,rw'⟩:=tV.some_of (v:=v) (o:=(atKey xs k).map (·.2)) (by rw [l];exact rel.val k)
  obtain ⟨p,hp,hp2⟩:=Option.map_eq_some_iff.mp hw
  refine wpAny_getItem_heap (tupleKind_room_in1 hu) (yH I.hok eb) dd hp ?_
  rw [hp2]
  exact h w' _ (I.tok _) rw'
theorem aWk {Q:Y9} (hu:A.units+1<cLine) (I:Inv X pins σ H s) (g:yZ H a y o) (ry:RelV y u) (h:∀s',Inv X pins σ H s'->Q (.bool o.isSome) s') :
  wpAny (model X.prog X.w) A (compareOp .In u (.ref a)) Q E s:=by
 rcases g with ⟨kvs,k,e,ey,l⟩ | ⟨kvs,k,b,e,ey,eb,l⟩
 ·subst ey
  obtain ⟨z,hd,vs,rel,dd⟩:=aDq I.hok e
  refine wpAny_in_of (aAl ry) hd dd.mapOf ?_
  rw [<- (rel.val k).isSome_eq,<- l]
  exact h _ (I.tok _)
 ·subst ey
  cases (show u=Value.ref b from ry)
  obtain ⟨z,hd,xs,rel,dd⟩:=aEn I.hok e
  refine wpAny_in_heap (tupleKind_room_in1 hu) (yH I.hok eb) hd dd ?_
  have q:=(rel.val k).isSome_eq
  rw [Option.isSome_map] at q
  rw [<- q,<- l]
  exact h _ (I.tok _)
theorem yU {h':Heap} {t':Nat} {ob:HO} (I:Inv X pins σ H s) (mu:Mut (H a)) (hs:Heap.SameBut a s.heap h') (he:∃q,h'.get? a=some q) (new:dA X.prog X.w (upd H a ob) h' a ob) :
  Inv X pins σ (upd H a ob) { s with heap:=h',toks:=t' } :=
 I.write (x:=a) (e:=a) mu (.inl rfl) (fun b q hb z=>(hs.2 b hb).trans z) he new
theorem aIe {P:Program} {w:World} {H':Hp} {h':Heap} {kvs:List (Key×V)} {vs:List (Key×Value)} (z:kvs.length<=sizeLine) (hd:(a == sysModules)=false) (rel:KV kvs vs) (dd:h'.DictOf (dF P w) a vs) :
  dA P w H' h' a (.dK kvs):=⟨z,hd,vs,rel,dd⟩
theorem aGu {H':Hp} {Q:Unit->Shared->Prop} (hu:A.units+1<cLine) (I:Inv X pins σ H s) (g:aHc H a y v H') (ry:RelV y u) (rv:RelV v r) (h:∀s',Inv X pins σ H' s'->Q () s') :
  wpAny (model X.prog X.w) A (setItem (.ref a) u r) Q E s:=by
 rcases g with ⟨kvs,k,e,ey,l,eH⟩ | ⟨kvs,k,b,e,ey,eb,l,eH⟩
 ·subst ey eH
  obtain ⟨z,hd,vs,rel,dd⟩:=aNk I.hok e
  have hz:vs.length<=sizeLine:=by rw [<- rel.length];exact z
  have hl:(putK kvs k v).length<=sizeLine:=by have:=mQ kvs k v;omega
  refine wpAny_setItem_pairs (hsz:=hz) (aAl ry) dd fun h' dd' hs=>h _ ?_
  have he:∃q,h'.get? a=some q:=let ⟨q,_,_,hq,_⟩:=dd';⟨q,hq⟩
  exact yU I (by rw [e];exact True.intro) hs he (aIe hl hd (rel.put k rv) dd')
 ·subst ey eH
  cases (show u=Value.ref b from ry)
  obtain ⟨z,hd,xs,rel,dd⟩:=aSo I.hok e
  have hz:xs.length<=sizeLine:=by rw [<- Paired.length rel];exact z
  have hl:(putK kvs k v).length<=sizeLine:=by have:=mQ kvs k v;omega
  refine wpAny_setItem_heap (hsz:=hz) (tupleKind_room_in1 hu) (yH I.hok eb) dd fun h' dd' hs=>h _ ?_
  obtain ⟨q,es,ep,hq,h2,h3,h4,_,h5⟩:=dd'
  refine yU I (by rw [e];exact True.intro) hs ⟨q,hq⟩ ⟨hl,hd,_,(rel.put k eb rv).keeps fun c ys ec=>?_,q,es,ep,hq,h2,h3,h4,h5⟩
  rw [bF (aSy ec e (fun z=>nomatch z))]
  exact ec
end
section
variable {X:Cx} {pins:Y8} {σ:St} {H:Hp} {s:Shared} {a:Addr} {kvs:List (Key×V)} {k:Key} {u:Value} {A:Around} {E:Y9}
end
def aO6 (i:Expr):Prop:=∀ov iv,subscripted i false ov iv=operate [ov,iv] (getItem ov iv)
theorem aMg {prog:Program} {w:World} {A:Around} {E:Y9} {s:Shared} {env:Env} {value slice:Expr} {pos:Pos} {T id:String} {Q:Y9}
  (hl:typeLookup (.type T) "__getitem__" = pure (some (.builtin id))) (hs:aO6 slice)
  (h:wpAny (model prog w) A (eval value env) (fun o s₁=>wpAny (model prog w) A (eval slice env) (fun i s₂=>s₂.TypeIs o T/\wpAny (model prog w) A (getItem o i) Q E s₂) E s₁) E s) :
  wpAny (model prog w) A (eval (.Subscript value slice pos) env) Q E s:=by
 refine Subscript_ (wpAny_mono h (fun o s₁ h₁=>wpAny_mono h₁ (fun i s₂ h₂=>?_) fun _ _ x=>x) fun _ _ x=>x)
 obtain ⟨hT,h₂⟩:=h₂
 unfold subscriptTail
 refine wpAny_bind ?_
 rw [getitemInPython_of_ne hT.not_modules]
 refine wpAny_bind (wpAny_specialOf hT hl ?_)
 have fin:wpAny (model prog w) A (subscripted slice false o i) (fun r s₃=>wpAny (model prog w) A (letTemporaryGo value o r >>= fun _=>pure r) Q E s₃) E s₂:=by
  rw [hs o i]
  exact wpAny_operating (wpAny_mono h₂ (fun r s₃ h₃=>wpAny_bind (wpAny_letTemporaryGo (wpAny_pure h₃))) fun _ _ x=>x)
 first
  | exact wpAny_pure (wpAny_bind fin)
  | exact wpAny_bind (wpAny_pure (wpAny_bind fin))
  | exact wpAny_bind fin
theorem aAc {X:Cx} {pins:Y8} {σ:St} {H:Hp} {s:Shared} {a:Addr} {y:V} {o:Option V} (I:Inv X pins σ H s) (g:yZ H a y o):s.TypeIs (.ref a) "dict" :=by
 rcases g with ⟨kvs,k,e,_,_⟩ | ⟨kvs,k,b,e,_,_,_⟩
 ·obtain ⟨_,_,vs,_,dd⟩:=aDq I.hok e
  exact dd.typeIs
 ·obtain ⟨_,_,xs,_,dd⟩:=aEn I.hok e
  exact dd.typeIs
def aOa (td ty:TE):TE:=fun σ H Q=>td σ H fun x H1=>ty σ H1 fun y H2=>∃a v,x=.ref a/\yZ H2 a y (some v)/\Q v H2
def aTu (ty td:TE):TE:=fun σ H Q=>ty σ H fun y H1=>td σ H1 fun x H2=>∃a o,x=.ref a/\yZ H2 a y o/\Q (.bl o.isSome) H2
def aOe (td ty tv:TE):TS:=fun D σ H=>tv σ H fun v H1=>td σ H1 fun x H2=>ty σ H2 fun y H3=>∃a H4,x=.ref a/\aHc H3 a y v H4/\D.nx σ H4
section
variable {X:Cx} {o i e value:Expr} {pos pos' tpos:Pos} {td ty tv:TE}
theorem aLp (hu:X.A.units+1<cLine) (ho:PE X o td) (hi:PE X i ty) (hs:aO6 i):PE X (.Subscript o i pos) (aOa td ty):=by
 intro pins s σ H Q I h
 refine aMg PySem.F.slot_dict_getitem.lookup hs (thn (ho pins s σ H _ I h) fun u s1 ⟨x,H1,I1,rx,q1⟩=>thn (hi pins s1 σ H1 _ I1 q1) fun iv s2 ⟨y,H2,I2,ry,a,v,ex,g,q2⟩=>?_)
 subst ex
 obtain rfl:u=Value.ref a:=rx
 exact ⟨aAc I2 g,aFw hu I2 g ry fun w' s3 I3 rw'=>⟨v,H2,I3,rw',q2⟩⟩
theorem aP6 (hu:X.A.units+1<cLine) (hi:PE X i ty) (ho:PE X o td):PC X .In i o (aTu ty td):=by
 intro pins s σ H Q I h
 refine thn (hi pins s σ H _ I h) fun iv s1 ⟨y,H1,I1,ry,q1⟩=>thn (ho pins s1 σ H1 _ I1 q1) fun u s2 ⟨x,H2,I2,rx,a,ov,ex,g,q2⟩=>?_
 subst ex
 obtain rfl:u=Value.ref a:=rx
 exact aWk hu I2 g ry fun s3 I3=>⟨.bl ov.isSome,H2,I3,rfl,q2⟩
theorem aKn (hu:X.A.units+1<cLine) (ho:PE X o td) (hi:PE X i ty) (hv:PE X value tv) (hs:swapsWith value (some (.Subscript o i pos')) pos.line X.env=pure false) :
  PS X (.Assign [.Subscript o i pos'] value pos) (aOe td ty tv):=by
 intro pins s σ H D I h
 refine wpAny_Assign_Subscript (thn (hv pins s σ H _ I h) fun r s1 ⟨v,H1,I1,rv,q1⟩=>thn (ho pins s1 σ H1 _ I1 q1) fun u s2 ⟨x,H2,I2,rx,q2⟩=>thn (hi pins s2 σ H2 _ I2 q2) fun iv s3 ⟨y,H3,I3,ry,a,H4,ex,g,q3⟩=>?_) hs
 subst ex
 obtain rfl:u=Value.ref a:=rx
 exact aGu hu I3 g ry rv fun s4 I4=>⟨σ,H4,I4,q3⟩
end
theorem aHs {P:Program} {w:World} {H:Hp} (h:Heap) (hb:sysModules<h.objs.size):dA P w H (h.push { cls:=.type "dict",data:=.dict #[] }) h.objs.size (.dK []) :=
 ⟨Nat.zero_le _,beq_eq_false_iff_ne.mpr (Ne.symm (Nat.ne_of_lt hb)),[],.nil,Heap.DictOf.new h⟩
section
variable {X:Cx} {pos:Pos}
end
def aC6:List (TE×TE)->St->Hp->(List (V×V)->Hp->Prop)->Prop
 | [],_,H,Q=>Q [] H
 | (tk,tv)::r,σ,H,Q=>tk σ H fun x H1=>tv σ H1 fun y H2=>aC6 r σ H2 fun ps H3=>Q ((x,y)::ps) H3
abbrev VV:List (V×V)->List (Value×Value)->Prop:=Paired fun p q=>RelV p.1 q.1/\RelV p.2 q.2
def PPs (X:Cx) (pos:Pos) (keys:List (Option Expr)) (values:List Expr) (trs:List (TE×TE)):Prop :=
 ∀(pins:Y8) (s:Shared) (σ:St) (H:Hp) (Q:List (V×V)->Hp->Prop),Inv X pins σ H s->aC6 trs σ H Q ->
  wpAny (model X.prog X.w) X.A (evalPairs (pairTrees keys values X.env pos)) (fun vs s'=>∃ps H',Inv X pins σ H' s'/\VV ps vs/\Q ps H') X.xe s
theorem aMc {X:Cx} {pos:Pos}:PPs X pos [] [] []:=fun pins s σ H Q I h=>pairTrees_nil_walk ⟨[],H,I,.nil,h⟩
theorem aJ4 {X:Cx} {pos:Pos} {k v:Expr} {ks:List (Option Expr)} {vs:List Expr} {tk tv:TE} {trs:List (TE×TE)} (hk:PE X k tk) (hv:PE X v tv) (hr:PPs X pos ks vs trs) :
  PPs X pos (some k::ks) (v::vs) ((tk,tv)::trs):=fun pins s σ H Q I h =>
 pairTrees_cons_walk (thn (hk pins s σ H _ I h) fun u s1 ⟨x,H1,I1,rx,q1⟩=>thn (hv pins s1 σ H1 _ I1 q1) fun w2 s2 ⟨y,H2,I2,ry,q2⟩ =>
  thn (hr pins s2 σ H2 _ I2 q2) fun ws s3 ⟨ps,H3,I3,rel,q3⟩=>⟨(x,y)::ps,H3,I3,.cons ⟨rx,ry⟩ rel,q3⟩)
def vD (kvs more:List (Key×V)):List (Key×V):=more.foldl (fun acc kv=>putK acc kv.1 kv.2) kvs
theorem KV.merge:∀ {more:List (Key×V)} {rs:List (Key×Value)} {kvs:List (Key×V)} {vs:List (Key×Value)},KV more rs->KV kvs vs->KV (vD kvs more) (merged vs rs):=by
 intro more rs kvs vs r
 unfold KV at r
 induction r generalizing kvs vs with
 | nil=>intro q;exact q
 | @cons p q ps qs h t ih =>
  intro r0
  have e:KV (putK kvs p.1 p.2) (stored vs q.1 q.2):=by
   have:=r0.put p.1 h.2
   rw [<- h.1];exact this
  exact ih e
theorem nQ:∀(more kvs:List (Key×V)),(vD kvs more).length<=kvs.length+more.length
 | [],kvs=>by show kvs.length<=kvs.length+0;omega
 | p::r,kvs=>by
  have h1:=nQ r (putK kvs p.1 p.2)
  have h2:=mQ kvs p.1 p.2
  show (vD (putK kvs p.1 p.2) r).length<=_
  rw [List.length_cons];omega
theorem uR {P:Program} {w:World}:∀ {kvs:List (Key×V)} {ws:List (Value×Value)},VV (kvs.map fun kv=>(kV kv.1,kv.2)) ws->∃rs,Carries (dF P w) ws rs/\KV kvs rs
 | [],_,r=>by rw [List.map_nil] at r;cases r;exact ⟨[],True.intro,.nil⟩
 | p::kvs,_,r=>by
  rw [List.map_cons] at r
  cases r with
  | @cons a b as bs h t =>
   obtain ⟨rs,c,q⟩:=uR (P:=P) (w:=w) t
   obtain ⟨b1,b2⟩:=b
   exact ⟨(p.1,b2)::rs,⟨aAl h.1,rfl,c⟩,.cons ⟨rfl,h.2⟩ q⟩
def aNh (trs:List (TE×TE)):TE:=fun σ H Q=>∀p,H p=none->aC6 trs σ (upd H p (.dK [])) fun ps H2=>H2 p=some (.dK [])/\∃kvs:List (Key×V),ps=kvs.map (fun kv=>(kV kv.1,kv.2))/\kvs.length<=15/\Q (.ref p) (upd H2 p (.dK (vD [] kvs)))
theorem aKz {X:Cx} {pos:Pos} {keys:List (Option Expr)} {values:List Expr} {trs:List (TE×TE)} (h:PPs X pos keys values trs) (hall:keys.all (·.isSome)=true) (hl:keys.length=values.length) (h0:keys ≠ [])
  (h15:keys.length<=15):PE X (.Dict keys values pos) (aNh trs):=by
 intro pins s σ H Q I q
 have hn:=I.hok.fresh (Nat.le_refl s.heap.objs.size)
 have I1:=I.laid (a:=s.heap.objs.size) (o:=.dK []) (h':=s.heap.push { cls:=.type "dict",data:=.dict #[] }) (t':=s.toks) (fun _ _ q=>Heap.get?_push_of_some _ q) (Nat.le_refl _) (aHs s.heap I.big)
 refine wpAny_Dict_walk (knd:=dF X.prog X.w) hall hl h0 h15 (thn (h pins _ σ _ _ I1 (q _ hn)) fun ws s2 ⟨ps,H2,I2,rel,e,kvs,ep,lk,q2⟩=>?_)
 subst ep
 obtain ⟨rs,c,rk⟩:=uR (P:=X.prog) (w:=X.w) rel
 obtain ⟨z,hd,vs0,r0,dd⟩:=aNk I2.hok e
 cases r0
 refine ⟨rs,c,dd,fun h' dd' hs=>⟨.ref s.heap.objs.size,_,?_,rfl,q2⟩⟩
 have hz:(vD [] kvs).length<=sizeLine:=by
  have h1:=nQ kvs []
  rw [List.length_nil] at h1
  rw [sizeLine_eq];omega
 have he:∃q,h'.get? s.heap.objs.size=some q:=let ⟨q,_,_,hq,_⟩:=dd';⟨q,hq⟩
 exact yU I2 (by rw [e];exact True.intro) hs he (aIe hz hd (rk.merge .nil) dd')
end L2
end
section
namespace VL
open PySem PySem.Spec PyProof.Rows L2
theorem nX (env:Env):∀(l:List (Str×NameKind)) (acc:List (Str×Addr)),(∀y∈l,y.2=.free->∃c,env.cells.lookup y.1=some c)->(∀x c,acc.lookup x=some c->env.cells.lookup x=some c) ->
  ∃cl,(forIn l acc (fun (x:Str×NameKind) (cs:List (Str×Addr))=>(if x.2 == NameKind.free then (do let a <- cellOf env x.1;pure (ForInStep.yield ((x.1,a)::cs))) else pure (ForInStep.yield cs):Sem (ForInStep (List (Str×Addr))))):Sem (List (Str×Addr)))=pure cl /\
   (∀x c,cl.lookup x=some c->env.cells.lookup x=some c)/\(∀x c,acc.lookup x=some c->cl.lookup x=some c)/\∀y∈l,y.2=.free->cl.lookup y.1=env.cells.lookup y.1
 | [],acc,_,ha=>⟨acc,by simp,ha,fun _ _ h=>h,fun y hy=>by cases hy⟩
 | (n,k)::l,acc,hl,ha=>by
  by_cases hk:k=.free
  ·subst hk
   obtain ⟨c,hc⟩:=hl (n,.free) List.mem_cons_self rfl
   have ha':∀x d,((n,c)::acc).lookup x=some d->env.cells.lookup x=some d:=fun x d e=>by
    rw [List.lookup_cons] at e
    cases q:x == n with
    | true =>
     rw [q] at e
     have:x=n:=by simpa using q
     subst this;cases e;exact hc
    | false=>rw [q] at e;exact ha x d e
   obtain ⟨cl,e1,e2,e3,e4⟩:=nX env l ((n,c)::acc) (fun y hy=>hl y (List.mem_cons_of_mem _ hy)) ha'
   have up:∀x d,acc.lookup x=some d->((n,c)::acc).lookup x=some d:=fun x d e=>by
    rw [List.lookup_cons]
    cases q:x == n with
    | true =>
     have:x=n:=by simpa using q
     subst this
     have:=ha _ _ e
     rw [hc] at this;exact this
    | false=>exact e
   refine ⟨cl,?_,e2,fun x d e=>e3 x d (up x d e),fun y hy hf=>?_⟩
   ·rw [List.forIn_cons]
    have:cellOf env n=pure c:=by unfold cellOf;rw [hc]
    simp only [this,beq_self_eq_true,if_true,pure_bind]
    exact e1
   ·rcases List.mem_cons.mp hy with rfl | hy
    ·rw [hc]
     exact e3 n c (by rw [List.lookup_cons,beq_self_eq_true])
    ·exact e4 y hy hf
  ·obtain ⟨cl,e1,e2,e3,e4⟩:=nX env l acc (fun y hy=>hl y (List.mem_cons_of_mem _ hy)) ha
   refine ⟨cl,?_,e2,e3,fun y hy hf=>?_⟩
   ·rw [List.forIn_cons]
    have:(k == NameKind.free)=false:=by simpa using hk
    simp only [this,Bool.false_eq_true,if_false,pure_bind]
    exact e1
   ·rcases List.mem_cons.mp hy with rfl | hy
    ·exact absurd hf hk
    ·exact e4 y hy hf
theorem aDe (scope:Scope) (env:Env) (h:∀y∈scope.names,y.2=.free->∃c,env.cells.lookup y.1=some c) :
  ∃cl,closureFor scope env=pure cl/\(∀x c,cl.lookup x=some c->env.cells.lookup x=some c)/\∀y∈scope.names,y.2=.free->cl.lookup y.1=env.cells.lookup y.1:=by
 obtain ⟨cl,e1,e2,_,e4⟩:=nX env scope.names [] h (fun x c e=>by simp at e)
 refine ⟨cl,?_,e2,e4⟩
 unfold closureFor
 have:(forIn scope.names ([]:List (Str×Addr)) fun (x:Str×NameKind) (r:List (Str×Addr))=>(match x with
   | (name,kind)=>if (kind == NameKind.free)=true then (do let a <- cellOf env name;pure (ForInStep.yield ((name,a)::r))) else pure (ForInStep.yield r):Sem (ForInStep (List (Str×Addr)))))=pure cl:=e1
 first
  | (simp only [this,pure_bind])
  | (rw [this];rfl)
  | (show (forIn _ _ _ >>= _)=_;rw [this];rfl)
theorem gR {env:Env}:∀ {names:List (Str×NameKind)} {x:Str},names.lookup x=some .free ->
  (names.map fun (n,k)=>if (k == NameKind.free && env.scope.kind == .function && env.kindOf n == some .cell) then (n,NameKind.cell) else (n,k)).lookup x=some .cell \/
  (names.map fun (n,k)=>if (k == NameKind.free && env.scope.kind == .function && env.kindOf n == some .cell) then (n,NameKind.cell) else (n,k)).lookup x=some .free
 | [],_,h=>by simp at h
 | (n,k)::r,x,h=>by
  have ih:=@gR env r x
  rw [List.map_cons]
  cases hx:x == n with
  | true =>
   simp only [List.lookup_cons,hx] at h
   cases h
   by_cases hc:(NameKind.free == NameKind.free && env.scope.kind == .function && env.kindOf n == some .cell)=true
   ·left;simp only [hc,if_true,List.lookup_cons,hx]
   ·right;simp only [hc,Bool.false_eq_true,if_false,List.lookup_cons,hx]
  | false =>
   simp only [List.lookup_cons,hx] at h
   by_cases hc:(k == NameKind.free && env.scope.kind == .function && env.kindOf n == some .cell)=true
   ·simp only [hc,if_true,List.lookup_cons,hx];exact ih h
   ·simp only [hc,Bool.false_eq_true,if_false,List.lookup_cons,hx];exact ih h
theorem lV {env:Env}:∀ {names:List (Str×NameKind)} {x:Str} {k:NameKind},(names.map fun (n,k)=>if (k == NameKind.free && env.scope.kind == .function && env.kindOf n == some .cell) then (n,NameKind.cell) else (n,k)).lookup x=some k->k=.cell\/k=.free ->
  ∃y∈names,y.1=x/\(y.2=.free\/y.2=.cell)
 | [],_,_,h,_=>by simp at h
 | (n,k)::r,x,k',h,hk=>by
  rw [List.map_cons] at h
  cases hx:x == n with
  | true =>
   have e:x=n:=by simpa using hx
   subst e
   by_cases hc:(k == NameKind.free && env.scope.kind == .function && env.kindOf x == some .cell)=true
   ·refine ⟨(x,k),List.mem_cons_self,rfl,.inl ?_⟩
    simp only [Bool.and_eq_true] at hc
    simpa using hc.1.1
   ·simp only [hc,Bool.false_eq_true,if_false,List.lookup_cons,hx] at h
    cases h
    exact ⟨(x,k),List.mem_cons_self,rfl,hk.symm⟩
  | false =>
   have h':(r.map fun (n,k)=>if (k == NameKind.free && env.scope.kind == .function && env.kindOf n == some .cell) then (n,NameKind.cell) else (n,k)).lookup x=some k':=by
    by_cases hc:(k == NameKind.free && env.scope.kind == .function && env.kindOf n == some .cell)=true
    ·simp only [hc,if_true,List.lookup_cons,hx] at h;exact h
    ·simp only [hc,Bool.false_eq_true,if_false,List.lookup_cons,hx] at h;exact h
   obtain ⟨y,hy,e⟩:=lV h' hk
   exact ⟨y,List.mem_cons_of_mem _ hy,e⟩
def blk (X:Cx) (scope:Scope) (cl:List (Str×Addr)) (N:List Str) (s3:Shared) (H3:Hp) (fp:Y2):Cx :=
 { X with N:=N,s₀:=s3,H₀:=H3,env:=compEnvC scope cl s3.heap.objs.size X.env,outer:=X.stack,ex:=fp,fn:=fun _=>false,pn:=[],xe:=fun _ _=>False }
def PTs (Y:Cx) (ifs:List Expr) (t:TT):Prop :=
 ∀(pins:Y8) (s:Shared) (σ:L2.St) (H:Hp) (Q:Bool->Hp->Prop),L2.Inv Y pins σ H s->t σ H Q ->
  wpAny (model Y.prog Y.w) Y.A (forIn ifs true fun c r=>if r=true then do let ok <- isTrue c Y.env (eval c Y.env);pure (ForInStep.yield ok) else pure (ForInStep.yield r)) (TP Y pins σ Q) Y.xe s
theorem aK5 {Y:Cx}:PTs Y [] (fun _ H Q=>Q true H):=fun _ _ _ H _ I h=>wpAny_tests_nil ⟨H,I,h⟩
theorem aM2 {Y:Cx} {c:Expr} {t:TT} (h:PT Y c t):PTs Y [c] t:=fun pins s σ H Q I q=>wpAny_tests_one (h pins s σ H Q I q)
def aE5 (wi:TI) (nt:Nat) (js:T0) (g:TG) (tc:TT) (te:TE):TE:=fun σ H Q=>wi σ H fun J H1=>∀acc,H1 acc=none->∃W:Nat->Nat->L2.St->Hp->Prop,
 (∃m,W 0 m (List.replicate nt none++js.map fun j=>(σ[j]?).join) (upd H1 acc (.lst [])))/\∀i m σ' H',W i m σ' H' ->
  (J.stop i H'/\Q (.ref acc) H')\/(J.go i H'/\∀x H2,J.yld i H' x H2->g x σ' H2 fun σ2 H3=>tc σ2 H3 fun b H4 =>
   if b=true then te σ2 H4 fun y H5=>∃xs,H5 acc=some (.lst xs)/\xs.length<sizeLine/\∃m',m'<m/\W (i+1) m' σ2 (upd H5 acc (.lst (xs ++ [y])))
   else ∃m',m'<m/\W (i+1) m' σ2 H4)
section
variable {prog:Program} {w:World} {A:Around} {R:Result->Shared->Prop} {s:Shared}
theorem aB0 {elt target iter:Expr} {ifs:List Expr} {scope:Scope} {pos:Pos} {it acc:Value} {env:Env} (I:Nat->Shared->Prop)
  (turn:∀n s,I n s->wpAny (model prog w) A (pyNext it) (fun r s₁=>match r with
   | none=>R (.ok .next) s₁
   | some v=>wpAny (model prog w) A (letOwnedTupleGo target it v) (fun _ s₁=>wpAny (model prog w) A (assign target env v) (fun _ s₂ =>
     wpAny (model prog w) A (forIn ifs true fun c r=>if r=true then do let ok <- isTrue c env (eval c env);pure (ForInStep.yield ok) else pure (ForInStep.yield r)) (fun ok s₃ =>
      if ok=true then wpAny (model prog w) A (eval elt env) (fun x s₄ =>
       wpAny (model prog w) A (call (.builtin "list.append") [acc,x]) (fun _ s₅=>∃m,m<n/\I m s₅) (fun _ _=>False) s₄) (fun _ _=>False) s₃
      else ∃m,m<n/\I m s₃) (fun _ _=>False) s₂) (fun _ _=>False) s₁) (fun _ _=>False) s₁) (fun _ _=>False) s)
  (n:Nat) (h:I n s):codeAny (model prog w) A (.compLoop (.ListComp elt [⟨target,iter,ifs,0⟩] scope pos) 0 it acc env) R s:=by
 refine codeAny_loop rfl I (fun n s hI=>?_) n h
 show wpAny _ A ((compTurn (.ListComp elt [⟨target,iter,ifs,0⟩] scope pos) 0 it acc env).onRaise (fun x=>do noteFrame x env;theTreesLotGoes x)) _ _ s
 refine wpAny_noted ?_
 rw [compTurn_list]
 refine wpAny_bind (wpAny_standAt (wpAny_bind (wpAny_mono (turn n s hI) (fun r s₁ h₁=>?_) fun _ _ h'=>h'.elim)))
 cases r with
 | none=>exact wpAny_pure h₁
 | some v =>
  refine wpAny_bind (wpAny_mono h₁ (fun _ s₁' h₁'=>?_) fun _ _ h'=>h'.elim)
  refine wpAny_bind (wpAny_mono h₁' (fun _ s₂ h₂=>wpAny_bind (wpAny_mono h₂ (fun ok s₃ h₃=>?_) fun _ _ h'=>h'.elim)) fun _ _ h'=>h'.elim)
  cases ok with
  | false=>exact wpAny_pure ⟨rfl,h₃⟩
  | true =>
   exact wpAny_bind (wpAny_bind (wpAny_mono h₃ (fun x s₄ h₄=>wpAny_bind (wpAny_mono h₄ (fun _ s₅ h₅=>wpAny_pure (wpAny_pure ⟨rfl,h₅⟩)) fun _ _ h'=>h'.elim)) fun _ _ h'=>h'.elim))
end
section
variable {X:Cx} {pos:Pos}
theorem yC {elt iter tg:Expr} {ifs:List Expr} {scope:Scope} {wi:TI} {N:List Str} {nt:Nat} {js:T0} {g:TG} {tc:TT} {te:TE}
  (hc:X.calm=true) (hi:PI X tg iter wi) (hkind:scope.kind=.function) (hcell:∀y∈scope.names,y.2 ≠ .cell) (hnames:∀y∈scope.names,y.2=.local->scope.names.lookup y.1=some .local)
  (hfr:∀y∈scope.names,y.2=.free->X.env.kindOf y.1=some .cell\/X.env.kindOf y.1=some .free)
  (hlen:nt+js.length=N.length)
  (hjs:∀(k:Nat) (j:Nat),js[k]?=some j->∃x,N[nt+k]?=some x/\X.N[j]?=some x/\scope.names.lookup x=some .free)
  (hb:∀cl s3 H3 fp,PG (blk X scope cl N s3 H3 fp) tg g/\PTs (blk X scope cl N s3 H3 fp) ifs tc/\PE (blk X scope cl N s3 H3 fp) elt te)
  (hs:∀x,foldedSetIterable iter X.env x=pure x) {pins:Y8} {s:Shared} {σ:L2.St} {H:Hp} {Q:VK} {use:Option (Value->Sem Unit)} {QQ:Y9} (p0:Pos) (I:L2.Inv X pins σ H s) (h:aE5 wi nt js g tc te σ H Q)
  (fin:∀(a C:Addr) (s6:Shared) (H5:Hp) (m:Y6),L2.Inv X pins σ H5 s6->s6.heap.Ns C m->tK X pins H5 C->Q (.ref a) H5->compPost (model X.prog X.w) X.A X.xe use QQ (.ref a) C (.ok .next) s6) :
  wpAny (model X.prog X.w) X.A (comprehension (.ListComp elt [⟨tg,iter,ifs,0⟩] scope pos) scope X.env p0 (newList []) false (eval iter X.env) use) QQ X.xe s:=by
 obtain ⟨cl,hcl,cl1,cl2⟩:=aDe scope X.env fun y hy hf=>I.ok.has y.1 (hfr y hy hf)
 refine wpAny_comprehension_free (use:=use) rfl hs hcl hkind hnames (wpAny_mono (hi pins s σ H _ I h) (fun xv s1 h1=>wpAny_mono h1 (fun itv s2 h2=>?_) fun _ _ z=>z) fun _ _ z=>z)
 obtain ⟨it,fp,tn,J,H2,rfl,I2,T,st2,hfp,h2⟩:=h2
 obtain ⟨W,⟨m0,w0⟩,turn⟩:=h2 s2.heap.objs.size I2.fresh
 refine wpAny_newObj_type (wpAny_newFunctionEnv hcell (by intro y hy;simp at hy) (fun h₁ hns₁ hsb₁=>?_) hkind)
 dsimp only at hns₁ hsb₁ ⊢
 have I3:L2.Inv X pins σ (upd H2 s2.heap.objs.size (.lst [])) { s2 with heap:=s2.heap.push { cls:=.type "list",data:=.seq ([]:Y1).toArray } }:=I2.aR6 (its:=[]) (t':=s2.toks) .nil (Nat.zero_le _)
 generalize hs3:({ s2 with heap:=s2.heap.push { cls:=.type "list",data:=.seq ([]:Y1).toArray } }:Shared)=s3 at I3
 have e3:s3.heap=s2.heap.push { cls:=.type "list",dict:=none,data:=.seq ([]:Y1).toArray }:=by rw [<- hs3]
 rw [<- e3] at hns₁ hsb₁
 have hH3:∃H3,H3=upd H2 s2.heap.objs.size (.lst []):=⟨_,rfl⟩
 obtain ⟨H3,eH3⟩:=hH3
 rw [<- eH3] at I3 w0
 have hC:s3.heap.objs.size=s2.heap.objs.size+1:=by rw [e3,Heap.size_push]
 have k1:∀b u,s3.heap.get? b=some u->h₁.get? b=some u:=fun b u e=>hsb₁.extBut b u (Nat.ne_of_lt (Heap.lt_size e)) (Heap.get?_push_of_some _ e)
 have k2:∀b u,s2.heap.get? b=some u->s3.heap.get? b=some u:=fun b u e=>by rw [e3];exact Heap.get?_push_of_some _ e
 have hfpo:∀b∈fp,∃o,s2.heap.get? b=some o:=fun b hb=>let ⟨o,e,_⟩:=T.obj 0 _ st2 b hb;⟨o,e⟩
 have hfplt:∀b∈fp,b<s2.heap.objs.size:=fun b hb=>let ⟨o,e⟩:=hfpo b hb;Heap.lt_size e
 have hfn:∀b∈fp,b ∉ frs X.stack:=fun b hb z=>(List.mem_cons.mp (I2.zY b z)).elim (hfp b hb).2.1 (hfp b hb).2.2.1
 have hH3fp:∀b∈fp,H3 b=none:=fun b hb=>by rw [eH3,bF (Nat.ne_of_lt (hfplt b hb))];exact (hfp b hb).1
 let Y:=blk X scope cl N s3 H3 fp
 obtain ⟨pg,pt,pe⟩:=hb cl s3 H3 fp
 have okY:Y.Ok:=by
  refine ⟨I3.ok.mod,by show (relabel scope X.env).kind=_;exact hkind,I3.ok.glob,I3.ok.blt,Nat.le_refl _,fun x y c a b=>I3.ok.inj x y c (cl1 x c a) (cl1 y c b),fun x hx=>?_,(fun x c z=>by cases z),I3.ok.hd,I3.ok.frames,.inl rfl,fun b hb=>⟨?_,fun x c e=>(hfp b hb).2.2.2.2.1 x c (cl1 x c e)⟩,I3.bs,Nat.le_trans I3.ok.bsz I3.sz,fun b o e hb=>?_,hfn,I3.stack,I3.zX⟩
  ·have hx':(relabel scope X.env).names.lookup x=some .cell\/(relabel scope X.env).names.lookup x=some .free:=hx
   obtain ⟨y,hy,e1,e2⟩:∃y∈scope.names,y.1=x/\(y.2=.free\/y.2=.cell):=by
    rcases hx' with z | z
    ·exact lV z (.inl rfl)
    ·exact lV z (.inr rfl)
   have e2:y.2=.free:=e2.elim id fun z=>absurd z (hcell y hy)
   obtain ⟨c,ec⟩:=I3.ok.has y.1 (hfr y hy e2)
   exact ⟨c,by subst e1;exact (cl2 y hy e2).trans ec⟩
  ·exact Nat.ne_of_lt (by show b<s3.heap.objs.size;rw [hC];exact Nat.lt_succ_of_lt (hfplt b hb))
  ·rcases (hfp b hb).2.2.2.1 with z | z
   ·exact I3.ok.noex b o e z
   ·exact absurd (Nat.lt_of_lt_of_le (Heap.lt_size e) (Nat.le_trans I3.ok.bsz z)) (Nat.lt_irrefl _)
 have vals:∀(i:Nat) (x:Str) (v:V),N[i]?=some x->(List.replicate nt none++js.map fun j=>(σ[j]?).join)[i]?=some (some v)->∃u c,RelV v u/\X.env.cells.lookup x=some c/\s3.heap.IsCell c (some u)/\scope.names.lookup x=some .free:=by
  intro i x v a1 a2
  have hi:nt<=i:=by
   rcases Nat.lt_or_ge i nt with z | z
   ·rw [List.getElem?_append_left (by simpa using z),List.getElem?_replicate,if_pos z] at a2;cases a2
   ·exact z
  obtain ⟨k,rfl⟩:=Nat.exists_eq_add_of_le hi
  rw [List.getElem?_append_right (by simp)] at a2
  rw [List.length_replicate,Nat.add_sub_cancel_left,List.getElem?_map] at a2
  cases ej:js[k]? with
  | none=>rw [ej] at a2;cases a2
  | some j =>
   rw [ej] at a2
   have hv:σ[j]?=some (some v):=by
    have a2:(σ[j]?).join=some v:=Option.some.inj a2
    cases q:σ[j]? with
    | none=>rw [q] at a2;cases a2
    | some o=>rw [q] at a2;exact congrArg some a2
   obtain ⟨y,n1,n2,n3⟩:=hjs k j ej
   have ey:y=x:=by rw [n1] at a1;exact Option.some.inj a1
   subst ey
   have mem:(y,NameKind.free)∈scope.names:=PySem.mem_of_lookup n3
   have kd:=hfr _ mem rfl
   have vis:Vis X.env.scope y:=by
    rcases kd with z | z
    ·exact .inr (.inl z)
    ·exact .inr (.inr z)
   obtain ⟨m,hn,hl⟩:=I3.loc
   obtain ⟨u,ru,look⟩:=hl j y v n2 hv vis
   rcases look with ⟨kk,_⟩ | ⟨kk,c,ec,hce⟩
   ·rcases kd with z | z
    ·rw [z] at kk;cases kk
    ·rw [z] at kk;cases kk
   ·exact ⟨u,c,ru,ec,hce,n3⟩
 have IY:L2.Inv Y [] (List.replicate nt none++js.map fun j=>(σ[j]?).join) H3 { s3 with heap:=h₁,toks:=s3.toks+([]:List (Str×Value)).length }:=by
  refine ⟨okY,rfl,I3.bare,Un.kept k1,⟨_,hns₁,fun i x v a1 a2 a3=>?_⟩,fun x c e=>?_,I3.hok.fresh (Nat.le_refl _),fun x c e=>I3.freeC x c (cl1 x c e),(fun p hp=>by cases hp),I3.hok.kept k1,?_⟩
  ·obtain ⟨u,c,ru,ec,⟨o,ho,hd⟩,n3⟩:=vals i x v a1 a2
   exact ⟨u,ru,.inr ⟨gR n3,c,(cl2 (x,.free) (PySem.mem_of_lookup n3) rfl).trans ec,o,k1 c o ho,hd⟩⟩
  ·obtain ⟨v,o,ho,hd⟩:=I3.cell x c (cl1 x c e)
   exact ⟨v,o,k1 c o ho,hd⟩
  ·show _=N.length
   simp;omega
 have hfY:∀ {H':Hp},(∀b∈fp,H' b=none)->∀b∈fp,tK Y [] H' b:=fun hn b hb =>
  ⟨hn b hb,Nat.ne_of_lt (by show b<s3.heap.objs.size;rw [hC];exact Nat.lt_succ_of_lt (hfplt b hb)),hfn b hb,.inl hb,fun x c e=>(hfp b hb).2.2.2.2.1 x c (cl1 x c e),fun p hp=>by cases hp⟩
 have st1:tn 0 h₁:=T.keep 0 _ _ st2 fun b hb o e=>k1 b o (k2 b o e)
 have loop:∀s4:Shared,s4={ s3 with heap:=h₁,toks:=s3.toks+([]:List (Str×Value)).length }->codeAny (model X.prog X.w) X.A (.compLoop (.ListComp elt [⟨tg,iter,ifs,0⟩] scope pos) 0 (.ref it) (.ref s2.heap.objs.size) (compEnvC scope cl s3.heap.objs.size X.env))
   (compPost (model X.prog X.w) X.A X.xe use QQ (.ref s2.heap.objs.size) s3.heap.objs.size) s4:=by
  rintro s4 rfl
  refine aB0 (fun n s'=>∃i σ' H',L2.Inv Y [] σ' H' s'/\tn i s'.heap/\(∀b∈fp,H' b=none)/\W i n σ' H') ?_ m0 ⟨0,_,H3,IY,st1,hH3fp,w0⟩
  rintro n s5 ⟨i,σ5,H5,I5,st5,fr5,w5⟩
  rcases turn i n σ5 H5 w5 with ⟨stop,qn⟩ | ⟨go,step⟩
  ·refine wpAny_mono (T.done Y rfl rfl rfl hc i [] s5 σ5 H5 (fun _ _=>False) I5 (hfY fr5) st5 stop) (fun r s6 ⟨hr,I6⟩=>?_) fun _ _ z=>z
   subst hr
   obtain ⟨m,hn,_⟩:=I6.loc
   have U6:Un (frs X.stack) fp H3 H5 s3.heap s6.heap:=I6.base
   have U2:Un (frs X.stack) fp H2 H3 s2.heap s3.heap:=by rw [eH3];exact Un.laid k2 (Nat.le_refl _) I2.fresh
   have IX:L2.Inv X pins σ H5 s6:=by
    refine I2.aFd (s':=s6) ?_ (U2.trans U6) I6.hok I6.bare fun b hb=>⟨(hfp b hb).2.2.2.1,(hfp b hb).2.1,(hfp b hb).2.2.2.2.1,(hfp b hb).2.2.2.2.2⟩
    rw [I6.os]
    show s3.os=s2.os
    rw [<- hs3]
   exact fin _ _ s6 H5 m IX hn (I2.aKk (by rw [hC];exact Nat.le_succ _) I6.free) qn
  ·refine wpAny_mono (T.item Y rfl rfl rfl hc i [] s5 σ5 H5 (fun _ _=>False) I5 (hfY fr5) st5 go) (fun r s6 ⟨u,hr,h6⟩=>?_) fun _ _ z=>z
   subst hr
   refine wpAny_mono h6 (fun _ s7 ⟨x,H7,I7,r7,y7,st7,fr7⟩=>?_) fun _ _ z=>z
   have I7':=I7.pinned (hfY fr7) (T.obj _ _ st7)
   refine wpAny_mono (pg _ s7 σ5 H7 x u _ I7' r7 (step x H7 y7)) (fun _ s8 ⟨σ8,H8,I8,q8⟩=>?_) fun _ _ z=>z
   refine wpAny_mono (pt _ s8 σ8 H8 _ I8 q8) (fun ok s9 ⟨H9,I9,q9⟩=>?_) fun _ _ z=>z
   have again:∀ {s':Shared} {H':Hp} {m':Nat},L2.Inv Y ([]++uG fp s7.heap) σ8 H' s'->m'<n->W (i+1) m' σ8 H'->∃m,m<n/\∃i σ' H',L2.Inv Y [] σ' H' s'/\tn i s'.heap/\(∀b∈fp,H' b=none)/\W i m σ' H':=fun {s' H' m'} I' hm w'=>by
    refine ⟨m',hm,i+1,σ8,H',I'.qF,T.keep _ _ _ st7 fun b hb o e=>(I'.pin (b,o) (List.mem_append_right _ (List.mem_append_right _ (lB hb e)))).1,fun b hb=>?_,w'⟩
    obtain ⟨o,e,d⟩:=T.obj _ _ st7 b hb
    exact (I'.pin (b,o) (List.mem_append_right _ (List.mem_append_right _ (lB hb e)))).2.1
   cases ok with
   | false =>
    rw [if_neg Bool.false_ne_true] at q9 ⊢
    obtain ⟨m',hm,w'⟩:=q9
    exact again I9 hm w'
   | true =>
    rw [if_pos rfl] at q9 ⊢
    refine wpAny_mono (pe _ s9 σ8 H9 _ I9 q9) (fun yv s10 ⟨y,H10,I10,r10,xs,hacc,hz,m',hm,w'⟩=>?_) fun _ _ z=>z
    refine wpAny_mono (qK (X:=blk X scope cl N s3 H3 fp) _ s10 σ8 H10 (.ref s2.heap.objs.size) [y] (.ref s2.heap.objs.size) [yv] (fun _ H'=>H'=upd H10 s2.heap.objs.size (.lst (xs ++ [y]))) I10 rfl (.cons r10 .nil) ⟨s2.heap.objs.size,xs,y,rfl,rfl,hacc,hz,rfl⟩) (fun _ s11 ⟨_,H11,I11,_,e11⟩=>?_) fun _ _ z=>z
    subst e11
    exact again I11 hm w'
 subst hs3
 exact codeAny_compStart_list (loop _ rfl) (T.self _ 0 _ _ _ st1 (loop _ rfl))
theorem Inv.aOn {pins:Y8} {s:Shared} {σ:L2.St} {H:Hp} {C:Addr} {m:Y6} {h':Heap} (I:L2.Inv X pins σ H s) (n:s.heap.Ns C m) (f:tK X pins H C) (hs:Heap.SameBut C s.heap h'):L2.Inv X pins σ H { s with heap:=h' }:=by
 have hne:∀b,b ∉ [C]->b ≠ C:=fun b hb z=>hb (by rw [z];exact List.mem_cons_self)
 refine I.aFd (s':={ s with heap:=h' }) (ch:=[C]) rfl ?_ ?_ I.bare fun b hb=>?_
 ·exact ⟨fun b o e _ _ hx=>(hs.2 b (hne b hx)).trans e,fun b o e _ _ hx=>⟨o.slots,(hs.2 b (hne b hx)).trans e⟩,fun b o _ q _=>q,fun b o e hx=>⟨o,(hs.2 b (hne b hx)).trans e⟩,fun _ _ q=>q,fun _ _ _ q=>q,fun _ ps q=>⟨#[],by simpa using q⟩⟩
 ·intro b u e
  have hbC:∀c,(c=b\/H c=some (.own b))->c ≠ C:=fun c hcb z=>by
   rcases hcb with q | q
   ·rw [<- q,z,f.1] at e;cases e
   ·rw [z,f.1] at q;cases q
  exact (I.hok b u e).stay (fun c w' hcb q=>(hs.2 c (hbC c hcb)).trans q) (fun _ q=>q) fun _ _ q=>q
 ·have:b=C:=by simpa using hb
  subst this
  exact ⟨f.2.2.2.1,f.2.1,f.2.2.2.2.1,f.2.2.2.2.2⟩
theorem aLx {elt iter tg:Expr} {ifs:List Expr} {scope:Scope} {wi:TI} {N:List Str} {nt:Nat} {js:T0} {g:TG} {tc:TT} {te:TE}
  (hc:X.calm=true) (hi:PI X tg iter wi) (hkind:scope.kind=.function) (hcell:∀y∈scope.names,y.2 ≠ .cell) (hnames:∀y∈scope.names,y.2=.local->scope.names.lookup y.1=some .local)
  (hfr:∀y∈scope.names,y.2=.free->X.env.kindOf y.1=some .cell\/X.env.kindOf y.1=some .free)
  (hlen:nt+js.length=N.length)
  (hjs:∀(k:Nat) (j:Nat),js[k]?=some j->∃x,N[nt+k]?=some x/\X.N[j]?=some x/\scope.names.lookup x=some .free)
  (hb:∀cl s3 H3 fp,PG (blk X scope cl N s3 H3 fp) tg g/\PTs (blk X scope cl N s3 H3 fp) ifs tc/\PE (blk X scope cl N s3 H3 fp) elt te)
  (hs:∀x,foldedSetIterable iter X.env x=pure x:=by intro _;rfl) :
  PE X (.ListComp elt [⟨tg,iter,ifs,0⟩] scope pos) (aE5 wi nt js g tc te):=by
 intro pins s σ H Q I h
 rw [eval_ListComp]
 exact yC hc hi hkind hcell hnames hfr hlen hjs hb hs _ I h fun a C s6 H5 m IX hn hf q=>⟨m,hn,fun h' hs'=>⟨.ref a,H5,Inv.aOn IX hn hf hs',rfl,q⟩⟩
theorem aCg {i:Nat} {y:Str} {py spos:Pos} {elt iter tg:Expr} {ifs:List Expr} {scope:Scope} {wi:TI} {N:List Str} {nt:Nat} {js:T0} {g:TG} {tc:TT} {te:TE}
  (hN:X.N.Nodup) (hi0:X.N[i]?=some y) (hx:X.env.scope.names.lookup y=some .local) (hsw:swapsWith (.ListComp elt [⟨tg,iter,ifs,0⟩] scope pos) (some (.Name y py)) spos.line X.env=pure true) (hc:X.calm=true) (hi:PI X tg iter wi) (hkind:scope.kind=.function) (hcell:∀y∈scope.names,y.2 ≠ .cell) (hnames:∀y∈scope.names,y.2=.local->scope.names.lookup y.1=some .local)
  (hfr:∀y∈scope.names,y.2=.free->X.env.kindOf y.1=some .cell\/X.env.kindOf y.1=some .free)
  (hlen:nt+js.length=N.length)
  (hjs:∀(k:Nat) (j:Nat),js[k]?=some j->∃x,N[nt+k]?=some x/\X.N[j]?=some x/\scope.names.lookup x=some .free)
  (hb:∀cl s3 H3 fp,PG (blk X scope cl N s3 H3 fp) tg g/\PTs (blk X scope cl N s3 H3 fp) ifs tc/\PE (blk X scope cl N s3 H3 fp) elt te)
  (hs:∀x,foldedSetIterable iter X.env x=pure x:=by intro _;rfl):PS X (.Assign [.Name y py] (.ListComp elt [⟨tg,iter,ifs,0⟩] scope pos) spos) (aFv (aE5 wi nt js g tc te) (rV i)):=by
 intro pins s σ H D I h
 rw [exec_Assign_Name_used _ _ _ _ hsw]
 refine wpAny_bind (wpAny_standAt (wpAny_bind ?_))
 show wpAny _ X.A (do let _ <- comprehension (.ListComp elt [⟨tg,iter,ifs,0⟩] scope pos) scope X.env _ (newList []) false (eval iter X.env) (some (assign (.Name y py) X.env))) _ _ s
 refine wpAny_bind (wpAny_mono (yC (QQ:=fun _ s'=>(SP X pins D) .next s') hc hi hkind hcell hnames hfr hlen hjs hb hs _ I h fun a C s6 H5 m IX hn hf q=>?_) (fun _ s' hq=>wpAny_pure (wpAny_pure hq)) fun _ _ e=>e)
 show wpAny _ X.A (assign (.Name y py) X.env (.ref a)) _ _ _
 refine wpAny_assign_Name (wN (v:=.ref a) IX hN hi0 (.inl hx) rfl (fun s7 I7 ⟨a0,sb,ha⟩=>?_) (.inr hx))
 have hne:C ≠ a0:=fun z=>by
  rcases ha with q | q
  ·exact hf.2.1 (z.trans q)
  ·exact hf.2.2.2.2.1 y a0 q z.symm
 exact ⟨m,hn.sameBut sb hne,fun h' hs'=>⟨_,H5,Inv.aOn I7 (hn.sameBut sb hne) hf hs',q⟩⟩
end
end VL
end
section
namespace VL
open PySem L2
inductive Tg where
 | exc (c:Str) | dK (kvs:List (Key×Int)) | dT (kvs:List (List Key×Int))
 deriving Inhabited
inductive D where
 | non | bl (b:Bool) | int (i:Int) | str (x:Str) | tup (ds:List D) | lst (own:Bool) (ds:List D) | ext (own:Bool) (t:Tg)
 deriving Inhabited
def ExcAt (a C:Addr):HO:=.ext fun h=>∃o vs,h.get? a=some o/\o.cls=.ref C/\o.data=.fields vs
def TgO (K:FG) (a:Addr):Tg->HO->Prop
 | .exc c,u=>∃C,PySem.W.nsIn K mainGlobals c=some (some (.ref C))/\u=ExcAt a C
 | .dK kvs,u=>u=.dK (kvs.map fun p=>(p.1,V.int p.2))
 | .dT kvs,u=>u=.dT (kvs.map fun p=>(p.1,V.int p.2))
mutual
def D.calm:D->Bool
 | .non=>true | .bl _=>true | .int _=>true | .str _=>true
 | .tup ds=>D.bL ds
 | .lst o ds=>!o && D.bL ds
 | .ext o _=>!o
def D.bL:List D->Bool
 | []=>true
 | d::ds=>d.calm && D.bL ds
end
mutual
def D.frz:D->D
 | .non=>.non | .bl b=>.bl b | .int i=>.int i | .str x=>.str x
 | .tup ds=>.tup (D.frzs ds)
 | .lst _ ds=>.lst false (D.frzs ds)
 | .ext _ t=>.ext false t
def D.frzs:List D->List D
 | []=>[]
 | d::ds=>d.frz::D.frzs ds
end
theorem D.aFc:∀ds:List D,D.frzs ds=ds.map D.frz
 | []=>rfl
 | d::ds=>by rw [D.frzs,D.aFc ds];rfl
theorem D.aB3:∀ds:List D,D.bL ds=ds.all D.calm
 | []=>rfl
 | d::ds=>by rw [D.bL,D.aB3 ds];rfl
inductive R (α:Type) where
 | ok (a:α) | exc (c:Str) | bad
def R.bind {α β:Type} (x:R α) (f:α->R β):R β:=match x with
 | .ok a=>f a | .exc c=>.exc c | .bad=>.bad
def R.of {α:Type}:Option α->R α
 | some a=>.ok a | none=>.bad
mutual
def Own (K:FG) (F H:Hp):D->V->Y2->Prop
 | .non,v,fp=>v=.non/\fp=[]
 | .bl b,v,fp=>v=.bl b/\fp=[]
 | .int i,v,fp=>v=.int i/\fp=[]
 | .str x,v,fp=>v=.str x/\fp=[]
 | .tup ds,v,fp=>fp=[]/\∃a xs,v=.ref a/\SqT K F a xs/\aH K F H ds xs []
 | .lst o ds,v,fp=>∃a xs fq,v=.ref a/\aH K F H ds xs fq/\((o=true/\F a=none/\H a=some (.lst xs)/\fp=a::fq)\/(o=false/\Rd F a (.lst xs)/\fq=[]/\fp=[]))
 | .ext o t,v,fp=>∃a u,v=.ref a/\TgO K a t u/\((o=true/\F a=none/\H a=some u/\fp=[a])\/(o=false/\F a=some u/\fp=[]))
def aH (K:FG) (F H:Hp):List D->List V->Y2->Prop
 | [],vs,fp=>vs=[]/\fp=[]
 | d::ds,vs,fp=>∃v r f1 f2,vs=v::r/\Own K F H d v f1/\aH K F H ds r f2/\fp=f1++f2
end
section
variable {K:FG} {F H F' H':Hp}
theorem bD.wL {a:Addr} {xs:List V} (e:bD F F') (h:SqT K F a xs):SqT K F' a xs:=by
 rcases h with (h | ⟨o,h⟩) | h
 ·exact .inl (.inl (e _ _ h))
 ·exact .inl (.inr ⟨o,e _ _ h⟩)
 ·exact .inr h
theorem bD.rd {a:Addr} {u:HO} (e:bD F F') (h:Rd F a u):Rd F' a u:=by
 rcases h with h | ⟨o,h⟩
 ·exact .inl (e _ _ h)
 ·exact .inr ⟨o,e _ _ h⟩
mutual
theorem Own.keep (hf:bD F F'):∀(d:D) {v:V} {fp:Y2},(∀a∈fp,F' a=none/\H' a=H a)->Own K F H d v fp->Own K F' H' d v fp
 | .non,_,_,_,h=>h
 | .bl _,_,_,_,h=>h
 | .int _,_,_,_,h=>h
 | .str _,_,_,_,h=>h
 | .tup ds,v,fp,_,h=>by
  unfold Own at h ⊢
  obtain ⟨e,a,xs,e1,q,r⟩:=h
  exact ⟨e,a,xs,e1,bD.wL hf q,aH.keep hf ds (by simp) r⟩
 | .lst o ds,v,fp,k,h=>by
  unfold Own at h ⊢
  obtain ⟨a,xs,fq,e1,r,h⟩:=h
  rcases h with ⟨o1,h1,h2,h3⟩ | ⟨o1,h1,h2,h3⟩
  ·subst h3
   obtain ⟨k1,k2⟩:=k a List.mem_cons_self
   exact ⟨a,xs,fq,e1,aH.keep hf ds (fun b hb=>k b (List.mem_cons_of_mem _ hb)) r,.inl ⟨o1,k1,k2.trans h2,rfl⟩⟩
  ·subst h2
   exact ⟨a,xs,[],e1,aH.keep hf ds (by simp) r,.inr ⟨o1,bD.rd hf h1,rfl,h3⟩⟩
 | .ext o t,v,fp,k,h=>by
  unfold Own at h ⊢
  obtain ⟨a,u,e1,tg,h⟩:=h
  rcases h with ⟨o1,h1,h2,h3⟩ | ⟨o1,h1,h3⟩
  ·subst h3
   obtain ⟨k1,k2⟩:=k a List.mem_cons_self
   exact ⟨a,u,e1,tg,.inl ⟨o1,k1,k2.trans h2,rfl⟩⟩
  ·exact ⟨a,u,e1,tg,.inr ⟨o1,hf _ _ h1,h3⟩⟩
theorem aH.keep (hf:bD F F'):∀(ds:List D) {vs:List V} {fp:Y2},(∀a∈fp,F' a=none/\H' a=H a)->aH K F H ds vs fp->aH K F' H' ds vs fp
 | [],_,_,_,h=>h
 | d::ds,vs,fp,k,h=>by
  unfold aH at h ⊢
  obtain ⟨v,r,f1,f2,e,h1,h2,e2⟩:=h
  subst e2
  exact ⟨v,r,f1,f2,e,Own.keep hf d (fun b hb=>k b (List.mem_append_left _ hb)) h1,aH.keep hf ds (fun b hb=>k b (List.mem_append_right _ hb)) h2,rfl⟩
end
mutual
theorem Own.zone:∀(d:D) {v:V} {fp:Y2},Own K F H d v fp->∀a∈fp,F a=none/\∃u,H a=some u
 | .non,_,_,h,a,ha=>by unfold Own at h;rw [h.2] at ha;cases ha
 | .bl _,_,_,h,a,ha=>by unfold Own at h;rw [h.2] at ha;cases ha
 | .int _,_,_,h,a,ha=>by unfold Own at h;rw [h.2] at ha;cases ha
 | .str _,_,_,h,a,ha=>by unfold Own at h;rw [h.2] at ha;cases ha
 | .tup _,_,_,h,a,ha=>by unfold Own at h;rw [h.1] at ha;cases ha
 | .lst o ds,v,fp,h,a,ha=>by
  unfold Own at h
  obtain ⟨b,xs,fq,e1,r,h⟩:=h
  rcases h with ⟨o1,h1,h2,h3⟩ | ⟨o1,h1,h2,h3⟩
  ·subst h3
   rcases List.mem_cons.mp ha with rfl | ha
   ·exact ⟨h1,_,h2⟩
   ·exact aH.zone ds r a ha
  ·rw [h3] at ha;cases ha
 | .ext o t,v,fp,h,a,ha=>by
  unfold Own at h
  obtain ⟨b,u,e1,tg,h⟩:=h
  rcases h with ⟨o1,h1,h2,h3⟩ | ⟨o1,h1,h3⟩
  ·subst h3
   have:a=b:=by simpa using ha
   subst this
   exact ⟨h1,u,h2⟩
  ·rw [h3] at ha;cases ha
theorem aH.zone:∀(ds:List D) {vs:List V} {fp:Y2},aH K F H ds vs fp->∀a∈fp,F a=none/\∃u,H a=some u
 | [],_,_,h,a,ha=>by unfold aH at h;rw [h.2] at ha;cases ha
 | d::ds,vs,fp,h,a,ha=>by
  unfold aH at h
  obtain ⟨v,r,f1,f2,e,h1,h2,e2⟩:=h
  subst e2
  rcases List.mem_append.mp ha with ha | ha
  ·exact Own.zone d h1 a ha
  ·exact aH.zone ds h2 a ha
end
mutual
theorem Own.eD:∀(d:D) {v:V} {fp:Y2},d.calm=true->Own K F H d v fp->fp=[]
 | .non,_,_,_,h=>by unfold Own at h;exact h.2
 | .bl _,_,_,_,h=>by unfold Own at h;exact h.2
 | .int _,_,_,_,h=>by unfold Own at h;exact h.2
 | .str _,_,_,_,h=>by unfold Own at h;exact h.2
 | .tup _,_,_,_,h=>by unfold Own at h;exact h.1
 | .lst o ds,_,_,hc,h=>by
  unfold Own at h
  obtain ⟨a,xs,fq,e1,r,h⟩:=h
  rcases h with ⟨o1,_⟩ | ⟨_,_,_,h3⟩
  ·subst o1;simp [D.calm] at hc
  ·exact h3
 | .ext o t,_,_,hc,h=>by
  unfold Own at h
  obtain ⟨b,u,e1,tg,h⟩:=h
  rcases h with ⟨o1,_⟩ | ⟨_,_,h3⟩
  ·subst o1;simp [D.calm] at hc
  ·exact h3
end
theorem aH.eD:∀(ds:List D) {vs:List V} {fp:Y2},D.bL ds=true->aH K F H ds vs fp->fp=[]
 | [],_,_,_,h=>by unfold aH at h;exact h.2
 | d::ds,vs,fp,hc,h=>by
  unfold aH at h
  obtain ⟨v,r,f1,f2,e,h1,h2,e2⟩:=h
  simp only [D.bL,Bool.and_eq_true] at hc
  rw [e2,Own.eD d hc.1 h1,aH.eD ds hc.2 h2];rfl
theorem aH.length:∀(ds:List D) {vs:List V} {fp:Y2},aH K F H ds vs fp->ds.length=vs.length
 | [],_,_,h=>by unfold aH at h;rw [h.1];rfl
 | d::ds,vs,fp,h=>by
  unfold aH at h
  obtain ⟨v,r,f1,f2,e,h1,h2,e2⟩:=h
  rw [e,List.length_cons,List.length_cons,aH.length ds h2]
theorem aH.get:∀(ds:List D) {vs:List V} {fp:Y2} {i:Nat} {d:D},aH K F H ds vs fp->ds[i]?=some d->∃v f,vs[i]?=some v/\Own K F H d v f/\f.Sublist fp
 | [],_,_,_,_,_,e=>by simp at e
 | c::ds,vs,fp,0,d,h,e=>by
  unfold aH at h
  obtain ⟨v,r,f1,f2,e1,h1,h2,e2⟩:=h
  simp at e;subst e;subst e1;subst e2
  exact ⟨v,f1,rfl,h1,List.sublist_append_left _ _⟩
 | c::ds,vs,fp,i+1,d,h,e=>by
  unfold aH at h
  obtain ⟨v,r,f1,f2,e1,h1,h2,e2⟩:=h
  subst e1;subst e2
  obtain ⟨u,f,q1,q2,q3⟩:=aH.get ds (i:=i) h2 (by simpa using e)
  exact ⟨u,f,by simpa using q1,q2,q3.trans (List.sublist_append_right _ _)⟩
theorem aH.append:∀(ds:List D) {es:List D} {vs us:List V} {f g:Y2},aH K F H ds vs f->aH K F H es us g->aH K F H (ds++es) (vs++us) (f++g)
 | [],es,vs,us,f,g,h,k=>by unfold aH at h;rw [h.1,h.2];exact k
 | d::ds,es,vs,us,f,g,h,k=>by
  unfold aH at h
  obtain ⟨v,r,f1,f2,e1,h1,h2,e2⟩:=h
  subst e1;subst e2
  show aH K F H (d::(ds++es)) _ _
  unfold aH
  exact ⟨v,r++us,f1,f2++g,rfl,h1,aH.append ds h2 k,by rw [List.append_assoc]⟩
theorem aH.one {d:D} {v:V} {f:Y2} (h:Own K F H d v f):aH K F H [d] [v] f:=by
 unfold aH
 exact ⟨v,[],f,[],rfl,h,by unfold aH;exact ⟨rfl,rfl⟩,by simp⟩
theorem aH.nil:aH K F H [] [] []:=by unfold aH;exact ⟨rfl,rfl⟩
theorem aH.cons {d:D} {v:V} {f:Y2} {ds:List D} {vs:List V} {g:Y2} (h:Own K F H d v f) (k:aH K F H ds vs g):aH K F H (d::ds) (v::vs) (f++g):=by
 unfold aH;exact ⟨v,vs,f,g,rfl,h,k,rfl⟩
theorem aH.of_get:∀(ds:List D) {vs:List V},ds.length=vs.length->(∀(i:Nat) (d:D) (v:V),ds[i]?=some d->vs[i]?=some v->Own K F H d v [])->aH K F H ds vs []
 | [],vs,hl,_=>by
  have:vs=[]:=List.length_eq_zero_iff.mp (by simpa using hl.symm)
  subst this;exact aH.nil
 | d::ds,[],hl,_=>by simp at hl
 | d::ds,v::vs,hl,h=>by
  have h1:=h 0 d v rfl rfl
  have h2:=aH.of_get ds (vs:=vs) (by simpa using hl) fun i d' v' e1 e2=>h (i+1) d' v' (by simpa using e1) (by simpa using e2)
  exact aH.cons h1 h2
theorem aH.aR3 {ds:List D} {vs:List V} {i:Nat} {d:D} {v:V} (h:aH K F H ds vs []) (e:ds[i]?=some d) (e2:vs[i]?=some v):Own K F H d v []:=by
 obtain ⟨u,f,q1,q2,q3⟩:=aH.get ds h e
 rw [e2] at q1;cases q1
 have:f=[]:=List.sublist_nil.mp q3
 subst this;exact q2
structure Grow (F H F' H':Hp):Prop where
 fr:bD F F'
 all:bD H H'
 inn:bD F' H'
 new:∀b o,F' b=some o->F b=some o\/H b=none
theorem Grow.refl (h:bD F H):Grow F H F H:=⟨bD.refl _,bD.refl _,h,fun _ _ e=>.inl e⟩
theorem Grow.trans {F1 H1 F2 H2:Hp} (a:Grow F H F1 H1) (b:Grow F1 H1 F2 H2):Grow F H F2 H2 :=
 ⟨a.fr.trans b.fr,a.all.trans b.all,b.inn,fun c o e=>by
  rcases b.new c o e with h | h
  ·exact a.new c o h
  ·exact .inr (a.all.free h)⟩
theorem Own.grow {d:D} {v:V} {fp:Y2} (g:Grow F H F' H') (h:Own K F H d v fp):Own K F' H' d v fp:=by
 refine Own.keep g.fr d (fun a ha=>?_) h
 obtain ⟨h1,xs,h2⟩:=Own.zone d h a ha
 refine ⟨?_,(g.all a _ h2).trans h2.symm⟩
 cases e:F' a with
 | none=>rfl
 | some o =>
  rcases g.new a o e with q | q
  ·rw [h1] at q;cases q
  ·rw [h2] at q;cases q
theorem aH.grow {ds:List D} {vs:List V} {fp:Y2} (g:Grow F H F' H') (h:aH K F H ds vs fp):aH K F' H' ds vs fp:=by
 refine aH.keep g.fr ds (fun a ha=>?_) h
 obtain ⟨h1,xs,h2⟩:=aH.zone ds h a ha
 refine ⟨?_,(g.all a _ h2).trans h2.symm⟩
 cases e:F' a with
 | none=>rfl
 | some o =>
  rcases g.new a o e with q | q
  ·rw [h1] at q;cases q
  ·rw [h2] at q;cases q
theorem bD.upd {p:Addr} {o:HO} (h:H p=none):bD H (upd H p o):=fun b u e=>by
 rw [bF (bO e h)];exact e
theorem Grow.both {p:Addr} {o:HO} (hs:bD F H) (h:H p=none):Grow F H (upd F p o) (upd H p o):=by
 refine ⟨bD.upd (hs.free h),bD.upd h,fun b u e=>?_,fun b u e=>?_⟩
 ·by_cases hb:b=p
  ·subst hb;rw [bU] at e ⊢;exact e
  ·rw [bF hb] at e ⊢;exact hs b u e
 ·by_cases hb:b=p
  ·subst hb;exact .inr h
  ·rw [bF hb] at e;exact .inl e
theorem Grow.one {p:Addr} {o:HO} (hs:bD F H) (h:H p=none):Grow F H F (upd H p o) :=
 ⟨bD.refl _,bD.upd h,fun b u e=>by rw [bF (bO (hs b u e) h)];exact hs b u e,fun _ _ e=>.inl e⟩
def fK (F H:Hp) (fp:Y2):Hp:=fun b=>if b∈fp then H b else F b
theorem fM {fp:Y2} (h:∀a∈fp,F a=none):bD F (fK F H fp):=fun b o e=>by
 unfold fK
 rw [if_neg fun hb=>by rw [h b hb] at e;cases e];exact e
theorem pB {fp:Y2} (hs:bD F H):bD (fK F H fp) H:=fun b o e=>by
 unfold fK at e
 split at e
 ·exact e
 ·exact hs b o e
mutual
theorem Own.freeze {fp:Y2} (hz:∀a∈fp,F a=none):∀(d:D) {v:V} {f:Y2},(∀a∈f,a∈fp)->Own K F H d v f->Own K (fK F H fp) H d.frz v []
 | .non,_,_,_,h=>by unfold Own at h;unfold D.frz Own;exact ⟨h.1,rfl⟩
 | .bl _,_,_,_,h=>by unfold Own at h;unfold D.frz Own;exact ⟨h.1,rfl⟩
 | .int _,_,_,_,h=>by unfold Own at h;unfold D.frz Own;exact ⟨h.1,rfl⟩
 | .str _,_,_,_,h=>by unfold Own at h;unfold D.frz Own;exact ⟨h.1,rfl⟩
 | .tup ds,_,_,_,h=>by
  unfold Own at h;unfold D.frz Own
  obtain ⟨e,a,xs,e1,q,r⟩:=h
  exact ⟨rfl,a,xs,e1,bD.wL (fM hz) q,aH.freeze hz ds (by simp) r⟩
 | .lst o ds,v,f,hf,h=>by
  unfold Own at h;unfold D.frz Own
  obtain ⟨a,xs,fq,e1,r,h⟩:=h
  rcases h with ⟨o1,h1,h2,h3⟩ | ⟨o1,h1,h2,h3⟩
  ·subst h3
   refine ⟨a,xs,[],e1,aH.freeze hz ds (fun b hb=>hf b (List.mem_cons_of_mem _ hb)) r,.inr ⟨rfl,.inl ?_,rfl,rfl⟩⟩
   unfold fK;rw [if_pos (hf a List.mem_cons_self)];exact h2
  ·subst h2
   exact ⟨a,xs,[],e1,aH.freeze hz ds (by simp) r,.inr ⟨rfl,bD.rd (fM hz) h1,rfl,rfl⟩⟩
 | .ext o t,v,f,hf,h=>by
  unfold Own at h;unfold D.frz Own
  obtain ⟨a,u,e1,tg,h⟩:=h
  rcases h with ⟨o1,h1,h2,h3⟩ | ⟨o1,h1,h3⟩
  ·subst h3
   refine ⟨a,u,e1,tg,.inr ⟨rfl,?_,rfl⟩⟩
   unfold fK;rw [if_pos (hf a List.mem_cons_self)];exact h2
  ·exact ⟨a,u,e1,tg,.inr ⟨rfl,fM hz _ _ h1,rfl⟩⟩
theorem aH.freeze {fp:Y2} (hz:∀a∈fp,F a=none):∀(ds:List D) {vs:List V} {f:Y2},(∀a∈f,a∈fp)->aH K F H ds vs f->aH K (fK F H fp) H (D.frzs ds) vs []
 | [],_,_,_,h=>by unfold aH at h;unfold D.frzs aH;exact ⟨h.1,rfl⟩
 | d::ds,vs,f,hf,h=>by
  unfold aH at h;unfold D.frzs aH
  obtain ⟨v,r,f1,f2,e,h1,h2,e2⟩:=h
  subst e2
  exact ⟨v,r,[],[],e,Own.freeze hz d (fun b hb=>hf b (List.mem_append_left _ hb)) h1,aH.freeze hz ds (fun b hb=>hf b (List.mem_append_right _ hb)) h2,rfl⟩
end
mutual
theorem D.frz_calm:∀d:D,d.calm=true->d.frz=d
 | .non,_=>rfl | .bl _,_=>rfl | .int _,_=>rfl | .str _,_=>rfl
 | .tup ds,h=>by unfold D.frz;rw [D.frzs_calm ds (by simpa [D.calm] using h)]
 | .lst o ds,h=>by
  simp only [D.calm,Bool.and_eq_true,Bool.not_eq_true'] at h
  unfold D.frz;rw [D.frzs_calm ds h.2,h.1]
 | .ext o t,h=>by
  simp only [D.calm,Bool.not_eq_true'] at h
  unfold D.frz;rw [h]
theorem D.frzs_calm:∀ds:List D,D.bL ds=true->D.frzs ds=ds
 | [],_=>rfl
 | d::ds,h=>by
  simp only [D.bL,Bool.and_eq_true] at h
  unfold D.frzs;rw [D.frz_calm d h.1,D.frzs_calm ds h.2]
end
end
inductive Slot where
 | un | val (d:D) | pin (d:D)
 deriving Inhabited
def Slot.d?:Slot->Option D
 | .un=>none | .val d=>some d | .pin d=>some d
abbrev Env:=List Slot
structure Sim (K:FG) (F H:Hp) (σ:St) (ρ:Env) (fps:Y5):Prop where
 same:bD F H
 ls:σ.length=ρ.length
 lf:fps.length=ρ.length
 at_:∀(i:Nat) (s:Slot) (d:D),ρ[i]?=some s->s.d?=some d->∃v fp,σ[i]?=some (some v)/\fps[i]?=some fp/\Own K F H d v fp
 nd:fps.flatten.Nodup
 zone:∀a∈fps.flatten,F a=none/\H a ≠ none
section
variable {K:FG} {F H F' H':Hp} {σ:St} {ρ:Env} {fps:Y5}
theorem Sim.grow (S:Sim K F H σ ρ fps) (g:Grow F H F' H'):Sim K F' H' σ ρ fps:=by
 refine ⟨g.inn,S.ls,S.lf,fun i s d e1 e2=>?_,S.nd,fun a ha=>?_⟩
 ·obtain ⟨v,fp,h1,h2,h3⟩:=S.at_ i s d e1 e2
  exact ⟨v,fp,h1,h2,h3.grow g⟩
 ·obtain ⟨h1,h2⟩:=S.zone a ha
  constructor
  ·cases e:F' a with
   | none=>rfl
   | some o =>
    rcases g.new a o e with q | q
    ·rw [h1] at q;cases q
    ·exact absurd q h2
  ·intro e
   exact h2 (g.all.free e)
end
structure Evo (F H:Hp) (Z:Y2) (F' H':Hp) (Z':Y2):Prop where
 fr:bD F F'
 keep:∀b o,H b=some o->b ∉ Z->H' b=some o
 dom:∀b,H' b=none->H b=none
 new:∀b o,F' b=some o->F b=some o\/H b=none\/b∈Z
 zone:∀b∈Z',b∈Z\/H b=none
section
variable {F H F' H' F1 H1:Hp} {Z Z' Z1:Y2}
theorem Evo.refl:Evo F H Z F H Z:=⟨bD.refl _,fun _ _ e _=>e,fun _ e=>e,fun _ _ e=>.inl e,fun _ h=>.inl h⟩
theorem Evo.trans (a:Evo F H Z F1 H1 Z1) (b:Evo F1 H1 Z1 F' H' Z'):Evo F H Z F' H' Z':=by
 refine ⟨a.fr.trans b.fr,fun c o e hc=>?_,fun c e=>a.dom c (b.dom c e),fun c o e=>?_,fun c hc=>?_⟩
 ·refine b.keep c o (a.keep c o e hc) fun hz=>?_
  rcases a.zone c hz with h | h
  ·exact hc h
  ·rw [h] at e;cases e
 ·rcases b.new c o e with h | h | h
  ·exact a.new c o h
  ·exact .inr (.inl (a.dom c h))
  ·rcases a.zone c h with h | h
   ·exact .inr (.inr h)
   ·exact .inr (.inl h)
 ·rcases b.zone c hc with h | h
  ·exact a.zone c h
  ·exact .inr (a.dom c h)
theorem Grow.evo (g:Grow F H F' H'):Evo F H Z F' H' Z :=
 ⟨g.fr,fun b o e _=>g.all b o e,fun _ e=>g.all.free e,fun b o e=>(g.new b o e).elim .inl fun h=>.inr (.inl h),fun _ h=>.inl h⟩
end
end VL
end
section
namespace VL
open PySem L2
def R.holds {α:Type} (x:R α) (P:α->Prop):Prop:=match x with
 | .ok a=>P a | _=>False
theorem R.aO {α β:Type} {x:R α} {f:α->R β} {P:β->Prop}:(x.bind f).holds P ↔ x.holds fun a=>(f a).holds P:=by
 cases x<;>exact Iff.rfl
theorem R.aM {α:Type} {x:R α} {P Q:α->Prop} (h:x.holds P) (k:∀a,P a->Q a):x.holds Q:=by
 cases x with
 | ok a=>exact k a h
 | exc _=>exact h.elim
 | bad=>exact h.elim
theorem R.holds_of {α:Type} {x:Option α} {P:α->Prop} (h:(R.of x).holds P):∃a,x=some a/\P a:=by
 cases x with
 | none=>exact h.elim
 | some a=>exact ⟨a,rfl,h⟩
def R.hx {α:Type} (x:R α) (P:α->Prop) (W:Str->Prop):Prop:=match x with
 | .ok a=>P a | .exc c=>W c | .bad=>False
theorem R.aOm {α:Type} {x:R α} {P:α->Prop} {W:Str->Prop} (h:x.holds P):x.hx P W:=by
 cases x with
 | ok a=>exact h
 | exc _=>exact h.elim
 | bad=>exact h.elim
abbrev aQ:=Env->R (D×Bool)
abbrev cG:=Env->R Bool
abbrev dI:=Env->R (List (D×Bool))
def EPost (K:FG) (F H:Hp) (Q:VK) (x:D×Bool):Prop :=
 ∀v F' H' fp,Grow F H F' H'->Own K F' H' x.1 v fp->fp.Nodup->(x.2=true->∀b∈fp,H b=none)->Q v H'
def aDp (F H:Hp) (Q:Bool->Hp->Prop) (x:Bool):Prop:=∀F' H',Grow F H F' H'->Q x H'
def Args (K:FG) (F H:Hp):List (D×Bool)->List V->Y2->Prop
 | [],vs,fa=>vs=[]/\fa=[]
 | x::xs,vs,fa=>∃v r fp f2,vs=v::r/\Own K F H x.1 v fp/\fp.Nodup/\Args K F H xs r f2/\((x.2=true/\fa=fp++f2)\/(x.2=false/\fa=f2))
def aNi (K:FG) (F H:Hp) (Q:List V->Hp->Prop) (xs:List (D×Bool)):Prop :=
 ∀vs F' H' fa,Grow F H F' H'->Args K F' H' xs vs fa->fa.Nodup->(∀b∈fa,H b=none)->Q vs H'
def tv (K:FG) (f:aQ):TE:=fun σ H Q=>∃ρ F fps,Sim K F H σ ρ fps/\(f ρ).holds (EPost K F H Q)
def tvT (K:FG) (f:cG):TT:=fun σ H Q=>∃ρ F fps,Sim K F H σ ρ fps/\(f ρ).holds (aDp F H Q)
def tvA (K:FG) (f:dI):TA:=fun σ H Q=>∃ρ F fps,Sim K F H σ ρ fps/\(f ρ).holds (aNi K F H Q)
section
variable {K:FG} {F H F' H':Hp} {σ:St} {Q:VK}
theorem EPost.lift {x:D×Bool} (g:Grow F H F' H') (h:EPost K F H Q x):EPost K F' H' Q x:=fun v F2 H2 fp g2 o n k =>
 h v F2 H2 fp (g.trans g2) o n fun e b hb=>g.all.free (k e b hb)
theorem aDp.lift {Q:Bool->Hp->Prop} {x:Bool} (g:Grow F H F' H') (h:aDp F H Q x):aDp F' H' Q x:=fun F2 H2 g2=>h F2 H2 (g.trans g2)
def aB (i:Nat):aQ:=fun ρ=>match ρ[i]? with
 | some (.val d)=>.ok (d,false) | some (.pin d)=>.ok (d,false) | _=>.bad
theorem Sim.sub {ρ:Env} {fps:Y5} (S:Sim K F H σ ρ fps) {i:Nat} {fp:Y2} (e:fps[i]?=some fp):fp.Nodup:=by
 have:fp∈fps:=List.mem_of_getElem? e
 exact (List.sublist_flatten_of_mem this).nodup S.nd
theorem aPx {i:Nat} (h:tv K (aB i) σ H Q):yK i σ H Q:=by
 obtain ⟨ρ,F,fps,S,h⟩:=h
 unfold aB at h
 cases e:ρ[i]? with
 | none=>rw [e] at h;exact h.elim
 | some s =>
  rw [e] at h
  cases s with
  | un=>exact h.elim
  | val d =>
   obtain ⟨v,fp,h1,h2,h3⟩:=S.at_ i _ d e rfl
   exact ⟨v,h1,h v F H fp (Grow.refl S.same) h3 (S.sub h2) (fun z=>by cases z)⟩
  | pin d =>
   obtain ⟨v,fp,h1,h2,h3⟩:=S.at_ i _ d e rfl
   exact ⟨v,h1,h v F H fp (Grow.refl S.same) h3 (S.sub h2) (fun z=>by cases z)⟩
def vC (d:D):aQ:=fun _=>.ok (d,true)
def iX:D->Option V
 | .non=>some .non | .bl b=>some (.bl b) | .int i=>some (.int i) | .str x=>some (.str x) | _=>none
theorem eO {d:D} {v:V} (e:iX d=some v):Own K F H d v []:=by
 cases d<;>simp [iX] at e<;>subst e<;>unfold Own<;>exact ⟨rfl,rfl⟩
theorem yY {d:D} {v u:V} {fp:Y2} (e:iX d=some v) (o:Own K F H d u fp):u=v/\fp=[]:=by
 cases d<;>simp [iX] at e<;>subst e<;>unfold Own at o<;>exact o
theorem EPost.aWw {d:D} {v:V} {b:Bool} (hs:bD F H) (h:EPost K F H Q (d,b)) (e:iX d=some v):Q v H :=
 h v F H [] (Grow.refl hs) (eO e) List.nodup_nil fun _ _ hb=>by cases hb
theorem EPost.eL {F0 H0:Hp} {d:D} {v:V} {b:Bool} (g:Grow F0 H0 F H) (h:EPost K F0 H0 Q (d,b)) (e:iX d=some v):Q v H :=
 h v F H [] g (eO e) List.nodup_nil fun _ _ hb=>by cases hb
theorem aMx {d:D} {v:V} (e:iX d=some v) (h:tv K (vC d) σ H Q):tC v σ H Q:=by
 obtain ⟨ρ,F,fps,S,h⟩:=h
 exact EPost.aWw S.same h e
def v2 (k:D×Bool->D×Bool->R (D×Bool)) (f h:aQ):aQ:=fun ρ=>(f ρ).bind fun x=>(h ρ).bind fun y=>k x y
def Op2 (K:FG) (k:D×Bool->D×Bool->R (D×Bool)) (r:R2):Prop :=
 ∀(F0 H0 F H:Hp) (x y:D×Bool) (v u:V) (fx fy:Y2) (Q:VK),Grow F0 H0 F H->Own K F H x.1 v fx->fx.Nodup->(x.2=true->∀b∈fx,H0 b=none) ->
  Own K F H y.1 u fy->fy.Nodup->(y.2=true->∀b∈fy,H0 b=none)->(k x y).holds (EPost K F0 H0 Q)->r v u H Q
theorem aE7 {k:D×Bool->D×Bool->R (D×Bool)} {r:R2} (hr:Op2 K k r) {f g:aQ} (h:tv K (v2 k f g) σ H Q):tOp r (tv K f) (tv K g) σ H Q:=by
 obtain ⟨ρ,F,fps,S,h⟩:=h
 refine ⟨ρ,F,fps,S,R.aM (R.aO.mp h) fun x hx v F1 H1 fx g1 o1 n1 k1=>?_⟩
 refine ⟨ρ,F1,fps,S.grow g1,R.aM (R.aO.mp hx) fun y hy u F2 H2 fy g2 o2 n2 k2=>?_⟩
 exact hr F H F2 H2 x y v u fx fy Q (g1.trans g2) (o1.grow g2) n1 k1 o2 n2 (fun e b hb=>g1.all.free (k2 e b hb)) hy
def v1 (k:D×Bool->R (D×Bool)) (f:aQ):aQ:=fun ρ=>(f ρ).bind k
def Op1 (K:FG) (k:D×Bool->R (D×Bool)) (r:V->Hp->VK->Prop):Prop :=
 ∀(F0 H0 F H:Hp) (x:D×Bool) (v:V) (fx:Y2) (Q:VK),Grow F0 H0 F H->Own K F H x.1 v fx->fx.Nodup->(x.2=true->∀b∈fx,H0 b=none) ->
  (k x).holds (EPost K F0 H0 Q)->r v H Q
theorem aTd {k:D×Bool->R (D×Bool)} {r:V->Hp->VK->Prop} (hr:Op1 K k r) {f:aQ} (h:tv K (v1 k f) σ H Q):tUn r (tv K f) σ H Q:=by
 obtain ⟨ρ,F,fps,S,h⟩:=h
 exact ⟨ρ,F,fps,S,R.aM (R.aO.mp h) fun x hx v F1 H1 fx g1 o1 n1 k1=>hr F H F1 H1 x v fx Q g1 o1 n1 k1 hx⟩
def kI (g:Int->Int->D):D×Bool->D×Bool->R (D×Bool):=fun x y=>match x.1,y.1 with
 | .int i,.int j=>.ok (g i j,true) | _,_=>.bad
def kIc (c:Int->Int->Bool) (g:Int->Int->D):D×Bool->D×Bool->R (D×Bool):=fun x y=>match x.1,y.1 with
 | .int i,.int j=>if c i j=true then .ok (g i j,true) else .bad | _,_=>.bad
theorem aBh {g:Int->Int->D} {g':Int->Int->V} (e:∀i j,iX (g i j)=some (g' i j)):Op2 K (kI g) (rI0 g'):=by
 intro F0 H0 F H x y v u fx fy Q gr o1 n1 k1 o2 n2 k2 h
 obtain ⟨x,bx⟩:=x
 obtain ⟨y,by'⟩:=y
 cases x<;>try exact h.elim
 cases y<;>try exact h.elim
 rename_i i j
 unfold Own at o1 o2
 exact ⟨i,j,o1.1,o2.1,EPost.eL gr h (e i j)⟩
theorem aCj {c:Int->Int->Bool} {C:Int->Int->Prop} {g:Int->Int->D} {g':Int->Int->V} (e:∀i j,iX (g i j)=some (g' i j)) (hc:∀i j,c i j=true->C i j):Op2 K (kIc c g) (rI C g'):=by
 intro F0 H0 F H x y v u fx fy Q gr o1 n1 k1 o2 n2 k2 h
 obtain ⟨x,bx⟩:=x
 obtain ⟨y,by'⟩:=y
 cases x<;>try exact h.elim
 cases y<;>try exact h.elim
 rename_i i j
 unfold Own at o1 o2
 have h:(if c i j=true then R.ok (g i j,true) else R.bad).holds (EPost K F0 H0 Q):=h
 by_cases hcc:c i j=true
 ·rw [if_pos hcc] at h
  exact ⟨i,j,o1.1,o2.1,hc i j hcc,EPost.eL gr h (e i j)⟩
 ·rw [if_neg hcc] at h;exact h.elim
def kU (g:Int->D):D×Bool->R (D×Bool):=fun x=>match x.1 with
 | .int i=>.ok (g i,true) | _=>.bad
theorem aTc {g:Int->D} {g':Int->V} (e:∀i,iX (g i)=some (g' i)):Op1 K (kU g) (rU g'):=by
 intro F0 H0 F H x v fx Q gr o1 n1 k1 h
 obtain ⟨x,bx⟩:=x
 cases x<;>try exact h.elim
 rename_i i
 unfold Own at o1
 exact ⟨i,o1.1,EPost.eL gr h (e i)⟩
theorem Own.aM3 {o:Bool} {ds:List D} {v:V} {fp:Y2} (g:bD F H) (h:Own K F H (.lst o ds) v fp):∃a xs fq,v=.ref a/\Rd H a (.lst xs)/\aH K F H ds xs fq/\fq.Sublist fp:=by
 unfold Own at h
 obtain ⟨a,xs,fq,e1,r,h⟩:=h
 rcases h with ⟨o1,h1,h2,h3⟩ | ⟨o1,h1,h2,h3⟩
 ·subst h3
  exact ⟨a,xs,fq,e1,.inl h2,r,List.sublist_cons_self _ _⟩
 ·subst h2;subst h3
  exact ⟨a,xs,[],e1,bD.rd g h1,r,List.Sublist.refl _⟩
theorem Own.lst {o:Bool} {ds:List D} {v:V} {fp:Y2} (g:bD F H) (h:Own K F H (.lst o ds) v fp):∃a xs fq,v=.ref a/\SqL K H a xs/\aH K F H ds xs fq/\fq.Sublist fp:=by
 obtain ⟨a,xs,fq,e,q,r⟩:=Own.aM3 g h
 exact ⟨a,xs,fq,e,.inl q,r⟩
theorem Own.tup {ds:List D} {v:V} {fp:Y2} (g:bD F H) (h:Own K F H (.tup ds) v fp):∃a xs,v=.ref a/\SqT K H a xs/\aH K F H ds xs []/\fp=[]:=by
 unfold Own at h
 obtain ⟨e,a,xs,e1,q,r⟩:=h
 exact ⟨a,xs,e1,bD.wL g q,r,e⟩
theorem aH.atI {ds:List D} {vs:List V} {fp:Y2} {i:Int} {d:D} (h:aH K F H ds vs fp) (e:L2.atI ds i=some d):∃v f,L2.atI vs i=some v/\Own K F H d v f/\f.Sublist fp:=by
 unfold L2.atI at e ⊢
 rw [<- aH.length ds h]
 cases q:ixN ds.length i with
 | none=>rw [q] at e;cases e
 | some j =>
  rw [q] at e
  exact aH.get ds h e
def kIx:D×Bool->D×Bool->R (D×Bool):=fun x y=>match x.1,y.1 with
 | .lst _ ds,.int i=>R.of ((atI ds i).map (·,x.2)) | .tup ds,.int i=>R.of ((atI ds i).map (·,x.2)) | _,_=>.bad
theorem aRw:Op2 K kIx (fun v u H Q=>aP8 K v u H Q\/aTa K v u H Q):=by
 intro F0 H0 F H x y v u fx fy Q gr o1 n1 k1 o2 n2 k2 h
 obtain ⟨x,bx⟩:=x
 obtain ⟨y,by'⟩:=y
 cases x<;>try exact h.elim
 ·rename_i ds
  cases y<;>try exact h.elim
  rename_i i
  obtain ⟨a,xs,e1,q,r,e2⟩:=Own.tup gr.inn o1
  unfold Own at o2
  obtain ⟨z,ez,h⟩:=R.holds_of h
  cases ed:atI ds i with
  | none=>rw [ed] at ez;cases ez
  | some d =>
   rw [ed] at ez;cases ez
   obtain ⟨w,f,q1,q2,q3⟩:=aH.atI r ed
   have:f=[]:=List.sublist_nil.mp q3
   subst this
   exact .inr ⟨a,xs,i,w,e1,o2.1,q,q1,h w F H [] gr q2 List.nodup_nil fun _ _ hb=>by cases hb⟩
 ·rename_i o ds
  cases y<;>try exact h.elim
  rename_i i
  obtain ⟨a,xs,fq,e1,q,r,e2⟩:=Own.lst gr.inn o1
  unfold Own at o2
  obtain ⟨z,ez,h⟩:=R.holds_of h
  cases ed:atI ds i with
  | none=>rw [ed] at ez;cases ez
  | some d =>
   rw [ed] at ez;cases ez
   obtain ⟨w,f,q1,q2,q3⟩:=aH.atI r ed
   have hs:f.Sublist fx:=q3.trans e2
   exact .inl ⟨a,xs,i,w,e1,o2.1,q,q1,h w F H f gr q2 (hs.nodup n1) fun e b hb=>k1 e b (hs.subset hb)⟩
def aN:dI:=fun _=>.ok []
def aE (f:aQ) (g:dI):dI:=fun ρ=>(f ρ).bind fun x=>(g ρ).bind fun xs=>.ok (x::xs)
theorem aMn {Q:List V->Hp->Prop} (h:tvA K aN σ H Q):aDg σ H Q:=by
 obtain ⟨ρ,F,fps,S,h⟩:=h
 exact h [] F H [] (Grow.refl S.same) (by unfold Args;exact ⟨rfl,rfl⟩) List.nodup_nil fun _ hb=>by cases hb
theorem aIv {f:aQ} {g:dI} {Q:List V->Hp->Prop} (h:tvA K (aE f g) σ H Q):rS (tv K f) (tvA K g) σ H Q:=by
 obtain ⟨ρ,F,fps,S,h⟩:=h
 refine ⟨ρ,F,fps,S,R.aM (R.aO.mp h) fun x hx v F1 H1 fx g1 o1 n1 k1=>?_⟩
 refine ⟨ρ,F1,fps,S.grow g1,R.aM (R.aO.mp hx) fun xs hy vs F2 H2 fa g2 o2 n2 k2=>?_⟩
 have hy:aNi K F H Q (x::xs):=hy
 have zo:=Own.zone x.1 o1
 cases e:x.2 with
 | true =>
  refine hy (v::vs) F2 H2 (fx++fa) (g1.trans g2) ?_ ?_ ?_
  ·unfold Args
   exact ⟨v,vs,fx,fa,rfl,o1.grow g2,n1,o2,.inl ⟨e,rfl⟩⟩
  ·refine List.nodup_append.mpr ⟨n1,n2,fun a ha b hb z=>?_⟩
   subst z
   obtain ⟨_,ys,q⟩:=zo a ha
   rw [k2 a hb] at q;cases q
  ·intro b hb
   rcases List.mem_append.mp hb with hb | hb
   ·exact k1 e b hb
   ·exact g1.all.free (k2 b hb)
 | false =>
  refine hy (v::vs) F2 H2 fa (g1.trans g2) ?_ n2 fun b hb=>g1.all.free (k2 b hb)
  unfold Args
  exact ⟨v,vs,fx,fa,rfl,o1.grow g2,n1,o2,.inr ⟨e,rfl⟩⟩
def aU (x:D×Bool):Bool:=x.2 || x.1.calm
theorem Args.aM4:∀(xs:List (D×Bool)) {vs:List V} {fa:Y2},xs.all aU=true->Args K F H xs vs fa->aH K F H (xs.map (·.1)) vs fa
 | [],_,_,_,h=>by unfold Args at h;rw [h.1,h.2];exact aH.nil
 | x::xs,vs,fa,hk,h=>by
  unfold Args at h
  obtain ⟨v,r,fp,f2,e,o,n,t,w⟩:=h
  rw [List.all_cons,Bool.and_eq_true] at hk
  subst e
  rw [List.map_cons]
  rcases w with ⟨_,w⟩ | ⟨e,w⟩
  ·subst w;exact aH.cons o (Args.aM4 xs hk.2 t)
  ·subst w
   have hc:x.1.calm=true:=by have:=hk.1;unfold aU at this;rw [e] at this;exact this
   have:fp=[]:=Own.eD x.1 hc o
   subst this
   exact aH.cons o (Args.aM4 xs hk.2 t)
theorem Args.length:∀(xs:List (D×Bool)) {vs:List V} {fa:Y2},Args K F H xs vs fa->xs.length=vs.length
 | [],_,_,h=>by unfold Args at h;rw [h.1];rfl
 | x::xs,vs,fa,h=>by
  unfold Args at h
  obtain ⟨v,r,fp,f2,e,o,n,t,w⟩:=h
  rw [e,List.length_cons,List.length_cons,Args.length xs t]
def pN (g:dI):aQ:=fun ρ=>(g ρ).bind fun xs=>if xs.all aU && decide (xs.length<=1000000) then .ok (.lst true (xs.map (·.1)),true) else .bad
def nP (g:dI):aQ:=fun ρ=>(g ρ).bind fun xs=>if xs.all aU && decide (xs.length<=1000000) then .ok (.tup (D.frzs (xs.map (·.1))),true) else .bad
theorem gX {n:Nat} (h:n<=1000000):n<=sizeLine:=Nat.le_trans h (by decide)
theorem aEb {ds:List D} {xs:List V} {fa:Y2} {p:Addr} (hs:bD F H) (h:H p=none) (o:aH K F H ds xs fa):Own K F (upd H p (.lst xs)) (.lst true ds) (.ref p) (p::fa):=by
 unfold Own
 exact ⟨p,xs,fa,rfl,o.grow (Grow.one hs h),.inl ⟨rfl,hs.free h,bU,rfl⟩⟩
theorem aGn {ds:List D} {xs:List V} {fa:Y2} {p:Addr} (h:H p=none) (o:aH K F H ds xs fa) (n:fa.Nodup):(p::fa).Nodup:=by
 refine List.nodup_cons.mpr ⟨fun hp=>?_,n⟩
 obtain ⟨_,ys,q⟩:=aH.zone ds o p hp
 rw [h] at q;cases q
theorem aRy {g:dI} (h:tv K (pN g) σ H Q):aS3 (tvA K g) σ H Q:=by
 obtain ⟨ρ,F,fps,S,h⟩:=h
 refine ⟨ρ,F,fps,S,R.aM (R.aO.mp h) fun xs hx vs F1 H1 fa g1 o1 n1 k1=>?_⟩
 by_cases hc:(xs.all aU && decide (xs.length<=1000000))=true
 ·rw [if_pos hc] at hx
  rw [Bool.and_eq_true,decide_eq_true_iff] at hc
  have o2:=Args.aM4 xs hc.1 o1
  refine ⟨gX (by rw [<- Args.length xs o1];exact hc.2),fun p hp=>?_⟩
  refine hx (.ref p) F1 _ (p::fa) (g1.trans (Grow.one g1.inn hp)) (aEb g1.inn hp o2) (aGn hp o2 n1) fun _ b hb=>?_
  rcases List.mem_cons.mp hb with rfl | hb
  ·exact g1.all.free hp
  ·exact k1 b hb
 ·rw [if_neg hc] at hx;exact hx.elim
theorem Grow.frz {fa:Y2} (g:Grow F H F' H') (k:∀b∈fa,H b=none) (z:∀b∈fa,F' b=none):Grow F H (fK F' H' fa) H' :=
 ⟨g.fr.trans (fM z),g.all,pB g.inn,fun b o e=>by
  unfold fK at e
  split at e
  ·rename_i hb;exact .inr (k b hb)
  ·exact g.new b o e⟩
theorem aRe {g:dI} (h:tv K (nP g) σ H Q):aUh (tvA K g) σ H Q:=by
 obtain ⟨ρ,F,fps,S,h⟩:=h
 refine ⟨ρ,F,fps,S,R.aM (R.aO.mp h) fun xs hx vs F1 H1 fa g1 o1 n1 k1=>?_⟩
 by_cases hc:(xs.all aU && decide (xs.length<=1000000))=true
 ·rw [if_pos hc] at hx
  rw [Bool.and_eq_true,decide_eq_true_iff] at hc
  have o2:=Args.aM4 xs hc.1 o1
  have z:∀b∈fa,F1 b=none:=fun b hb=>(aH.zone _ o2 b hb).1
  have g2:=g1.frz k1 z
  have o3:aH K (fK F1 H1 fa) H1 (D.frzs (xs.map (·.1))) vs []:=aH.freeze z _ (fun a ha=>ha) o2
  refine ⟨gX (by rw [<- Args.length xs o1];exact hc.2),fun p hp=>?_⟩
  have g3:Grow (fK F1 H1 fa) H1 (upd (fK F1 H1 fa) p (.tup vs)) (upd H1 p (.tup vs)):=Grow.both g2.inn hp
  refine hx (.ref p) _ _ [] (g2.trans g3) ?_ List.nodup_nil fun _ b hb=>by cases hb
  unfold Own
  exact ⟨rfl,p,vs,rfl,SqT.of bU,o3.grow g3⟩
 ·rw [if_neg hc] at hx;exact hx.elim
def aZ (f:aQ):cG:=fun ρ=>(f ρ).bind fun x=>match x.1 with | .bl b=>.ok b | _=>.bad
theorem aAj {f:aQ} {Q:Bool->Hp->Prop} (h:tvT K (aZ f) σ H Q):aE9 (tv K f) σ H Q:=by
 obtain ⟨ρ,F,fps,S,h⟩:=h
 refine ⟨ρ,F,fps,S,R.aM (R.aO.mp h) fun x hx v F1 H1 fx g1 o1 n1 k1=>?_⟩
 obtain ⟨x,b⟩:=x
 cases x<;>try exact hx.elim
 rename_i c
 unfold Own at o1
 exact ⟨c,o1.1,hx F1 H1 g1⟩
def lK (f g:cG):cG:=fun ρ=>(f ρ).bind fun c=>if c=true then g ρ else .ok false
def gP (f g:cG):cG:=fun ρ=>(f ρ).bind fun c=>if c=true then .ok true else g ρ
def cW (f:cG):cG:=fun ρ=>(f ρ).bind fun c=>.ok (!c)
theorem aMp {f g:cG} {Q:Bool->Hp->Prop} (h:tvT K (lK f g) σ H Q):aTj (tvT K f) (tvT K g) σ H Q:=by
 obtain ⟨ρ,F,fps,S,h⟩:=h
 refine ⟨ρ,F,fps,S,R.aM (R.aO.mp h) fun c hx F1 H1 g1=>?_⟩
 cases c with
 | true=>rw [if_pos rfl] at hx ⊢;exact ⟨ρ,F1,fps,S.grow g1,R.aM hx fun b hb=>hb.lift g1⟩
 | false=>rw [if_neg Bool.false_ne_true] at hx ⊢;exact hx F1 H1 g1
theorem aPz {f g:cG} {Q:Bool->Hp->Prop} (h:tvT K (gP f g) σ H Q):tOr (tvT K f) (tvT K g) σ H Q:=by
 obtain ⟨ρ,F,fps,S,h⟩:=h
 refine ⟨ρ,F,fps,S,R.aM (R.aO.mp h) fun c hx F1 H1 g1=>?_⟩
 cases c with
 | false=>rw [if_neg Bool.false_ne_true] at hx ⊢;exact ⟨ρ,F1,fps,S.grow g1,R.aM hx fun b hb=>hb.lift g1⟩
 | true=>rw [if_pos rfl] at hx ⊢;exact hx F1 H1 g1
theorem aLd {f:cG} {Q:Bool->Hp->Prop} (h:tvT K (cW f) σ H Q):aUd (tvT K f) σ H Q:=by
 obtain ⟨ρ,F,fps,S,h⟩:=h
 exact ⟨ρ,F,fps,S,R.aM (R.aO.mp h) fun c hx F1 H1 g1=>hx F1 H1 g1⟩
def vIf (c:cG) (f g:aQ):aQ:=fun ρ=>(c ρ).bind fun b=>if b=true then f ρ else g ρ
theorem aT8 {c:cG} {f g:aQ} (h:tv K (vIf c f g) σ H Q):tIf (tvT K c) (tv K f) (tv K g) σ H Q:=by
 obtain ⟨ρ,F,fps,S,h⟩:=h
 refine ⟨ρ,F,fps,S,R.aM (R.aO.mp h) fun c hx F1 H1 g1=>?_⟩
 cases c with
 | true=>rw [if_pos rfl] at hx ⊢;exact ⟨ρ,F1,fps,S.grow g1,R.aM hx fun b hb=>hb.lift g1⟩
 | false=>rw [if_neg Bool.false_ne_true] at hx ⊢;exact ⟨ρ,F1,fps,S.grow g1,R.aM hx fun b hb=>hb.lift g1⟩
def oW (f g:aQ):aQ:=fun ρ=>(f ρ).bind fun x=>match x.1 with | .bl true=>g ρ | .bl false=>.ok (.bl false,true) | _=>.bad
def vOr (f g:aQ):aQ:=fun ρ=>(f ρ).bind fun x=>match x.1 with | .bl false=>g ρ | .bl true=>.ok (.bl true,true) | _=>.bad
def aIc:D×Bool->R (D×Bool):=fun x=>match x.1 with | .bl b=>.ok (.bl (!b),true) | _=>.bad
theorem aPg {f g:aQ} (h:tv K (oW f g) σ H Q):aOl (tv K f) (tv K g) σ H Q:=by
 obtain ⟨ρ,F,fps,S,h⟩:=h
 refine ⟨ρ,F,fps,S,R.aM (R.aO.mp h) fun x hx v F1 H1 fx g1 o1 n1 k1=>?_⟩
 obtain ⟨x,b⟩:=x
 cases x<;>try exact hx.elim
 rename_i c
 unfold Own at o1
 refine ⟨c,o1.1,?_⟩
 cases c with
 | true=>rw [if_pos rfl];exact ⟨ρ,F1,fps,S.grow g1,R.aM hx fun b hb=>hb.lift g1⟩
 | false=>rw [if_neg Bool.false_ne_true];exact EPost.eL g1 hx rfl
theorem aTk {f g:aQ} (h:tv K (vOr f g) σ H Q):aSl (tv K f) (tv K g) σ H Q:=by
 obtain ⟨ρ,F,fps,S,h⟩:=h
 refine ⟨ρ,F,fps,S,R.aM (R.aO.mp h) fun x hx v F1 H1 fx g1 o1 n1 k1=>?_⟩
 obtain ⟨x,b⟩:=x
 cases x<;>try exact hx.elim
 rename_i c
 unfold Own at o1
 refine ⟨c,o1.1,?_⟩
 cases c with
 | false=>rw [if_neg Bool.false_ne_true];exact ⟨ρ,F1,fps,S.grow g1,R.aM hx fun b hb=>hb.lift g1⟩
 | true=>rw [if_pos rfl];exact EPost.eL g1 hx rfl
theorem aQj {f:aQ} (h:tv K (v1 aIc f) σ H Q):aNr (tv K f) σ H Q:=by
 obtain ⟨ρ,F,fps,S,h⟩:=h
 refine ⟨ρ,F,fps,S,R.aM (R.aO.mp h) fun x hx v F1 H1 fx g1 o1 n1 k1=>?_⟩
 obtain ⟨x,b⟩:=x
 cases x<;>try exact hx.elim
 rename_i c
 unfold Own at o1
 exact ⟨c,o1.1,EPost.eL g1 hx rfl⟩
def vCB (k:List (D×Bool)->R (D×Bool)) (g:dI):aQ:=fun ρ=>(g ρ).bind k
def OpA (K:FG) (k:List (D×Bool)->R (D×Bool)) (r:List V->Hp->VK->Prop):Prop :=
 ∀(F0 H0 F H:Hp) (xs:List (D×Bool)) (vs:List V) (fa:Y2) (Q:VK),Grow F0 H0 F H->Args K F H xs vs fa->fa.Nodup->(∀b∈fa,H0 b=none)->(k xs).holds (EPost K F0 H0 Q)->r vs H Q
theorem aJa {k:List (D×Bool)->R (D×Bool)} {r:List V->Hp->VK->Prop} (hr:OpA K k r) {g:dI} (h:tv K (vCB k g) σ H Q):tCB r (tvA K g) σ H Q:=by
 obtain ⟨ρ,F,fps,S,h⟩:=h
 exact ⟨ρ,F,fps,S,R.aM (R.aO.mp h) fun xs hx vs F1 H1 fa g1 o1 n1 k1=>hr F H F1 H1 xs vs fa Q g1 o1 n1 k1 hx⟩
end
end VL
end
section
namespace VL
open PySem L2
inductive Out where
 | next (ρ:Env) | ret (d:D) (ρ:Env) | brk (ρ:Env) | cont (ρ:Env) | exc (c:Str) (ρ:Env) | bad
abbrev aX:=Env->Out
abbrev mP:=Env->R (D×Bool×Env)
def lR (ρ ρ':Env):Prop:=∀(i:Nat) (d:D),ρ[i]?=some (.pin d)->∃d',ρ'[i]?=some (.pin d')
def fX (ρ:Env) (σ:St) (ρ':Env) (σ':St):Prop:=∀(i:Nat) (d:D),ρ[i]?=some (.pin d)->(∃d',ρ'[i]?=some (.pin d'))/\σ'[i]?=σ[i]?
theorem lR.refl (ρ:Env):lR ρ ρ:=fun _ d h=>⟨d,h⟩
theorem lR.trans {ρ ρ1 ρ2:Env} (a:lR ρ ρ1) (b:lR ρ1 ρ2):lR ρ ρ2:=fun i d h=>by
 obtain ⟨d1,h1⟩:=a i d h
 exact b i d1 h1
theorem lR.pins {ρ ρ':Env} {σ:St} (a:lR ρ ρ'):fX ρ σ ρ' σ:=fun i d h=>⟨a i d h,rfl⟩
theorem fX.refl (ρ:Env) (σ:St):fX ρ σ ρ σ:=(lR.refl ρ).pins
theorem fX.trans {ρ ρ1 ρ2:Env} {σ σ1 σ2:St} (a:fX ρ σ ρ1 σ1) (b:fX ρ1 σ1 ρ2 σ2):fX ρ σ ρ2 σ2:=fun i d h=>by
 obtain ⟨⟨d1,h1⟩,e1⟩:=a i d h
 obtain ⟨h2,e2⟩:=b i d1 h1
 exact ⟨h2,e2.trans e1⟩
def eE (K:FG) (F H:Hp) (Z:Y2) (ρ:Env) (σ:St) (P:St->Hp->Prop) (ρ':Env):Prop :=
 ∀σ' F' H' fps',Evo F H Z F' H' fps'.flatten->Sim K F' H' σ' ρ' fps'->fX ρ σ ρ' σ'->P σ' H'
def aAu (K:FG) (F H:Hp) (Z:Y2) (ρ:Env) (σ:St) (P:VK) (d:D) (ρ':Env):Prop :=
 ∀r σ' F' H' fps' fr,Evo F H Z F' H' fps'.flatten->Sim K F' H' σ' ρ' fps'->fX ρ σ ρ' σ'->Own K F' H' d r fr->fr.Nodup->(∀b∈fr,b ∉ fps'.flatten/\(b∈Z\/H b=none))->P r H'
abbrev XW:=Str->St->Hp->Prop
def cT (K:FG) (W:XW) (F H:Hp) (Z:Y2) (ρ:Env) (σ:St) (D:Ends):Out->Prop
 | .next ρ'=>eE K F H Z ρ σ D.nx ρ'
 | .ret d ρ'=>aAu K F H Z ρ σ D.rt d ρ'
 | .brk ρ'=>eE K F H Z ρ σ D.bk ρ'
 | .cont ρ'=>eE K F H Z ρ σ D.ct ρ'
 | .exc c ρ'=>eE K F H Z ρ σ (W c) ρ'
 | .bad=>False
def sv (K:FG) (W:XW) (g:aX):TS:=fun D σ H=>∃ρ F fps,Sim K F H σ ρ fps/\cT K W F H fps.flatten ρ σ D (g ρ)
def tU (K:FG) (F H:Hp) (Z:Y2) (ρ:Env) (σ:St) (Q:VK) (x:D×Bool×Env):Prop :=
 ∀v F' H' fps' fp,Evo F H Z F' H' fps'.flatten->Sim K F' H' σ x.2.2 fps'->lR ρ x.2.2->Own K F' H' x.1 v fp->fp.Nodup->(x.2.1=true->∀b∈fp,b ∉ fps'.flatten/\(b∈Z\/H b=none))->Q v H'
def tx (K:FG) (W:XW) (g:mP):TE:=fun σ H Q=>∃ρ F fps,Sim K F H σ ρ fps/\(g ρ).hx (tU K F H fps.flatten ρ σ Q) fun c=>eE K F H fps.flatten ρ σ (W c) ρ
section
variable {K:FG} {W:XW} {F H F' H' F1 H1:Hp} {Z Z' Z1:Y2} {σ σ1:St} {ρ ρ1:Env} {D':Ends}
theorem eE.lift {P:St->Hp->Prop} {ρ':Env} (e:Evo F H Z F1 H1 Z1) (p:fX ρ σ ρ1 σ1) (h:eE K F H Z ρ σ P ρ'):eE K F1 H1 Z1 ρ1 σ1 P ρ' :=
 fun σ' F' H' fps' e' S' p'=>h σ' F' H' fps' (e.trans e') S' (p.trans p')
theorem aAu.lift {P:VK} {d:D} {ρ':Env} (e:Evo F H Z F1 H1 Z1) (p:fX ρ σ ρ1 σ1) (h:aAu K F H Z ρ σ P d ρ'):aAu K F1 H1 Z1 ρ1 σ1 P d ρ' :=
 fun r σ' F' H' fps' fr e' S' p' o n k=>h r σ' F' H' fps' fr (e.trans e') S' (p.trans p') o n fun b hb=>⟨(k b hb).1,by
  rcases (k b hb).2 with q | q
  ·exact e.zone b q
  ·exact .inr (e.dom b q)⟩
theorem cT.lift {o:Out} (e:Evo F H Z F1 H1 Z1) (p:fX ρ σ ρ1 σ1) (h:cT K W F H Z ρ σ D' o):cT K W F1 H1 Z1 ρ1 σ1 D' o:=by
 cases o with
 | next ρ'=>exact eE.lift e p h
 | ret d ρ'=>exact aAu.lift e p h
 | brk ρ'=>exact eE.lift e p h
 | cont ρ'=>exact eE.lift e p h
 | exc c ρ'=>exact eE.lift e p h
 | bad=>exact h
def bJ:aX:=fun ρ=>.next ρ
def Out.andThen (o:Out) (g:aX):Out:=match o with | .next ρ=>g ρ | o=>o
def aS (f g:aX):aX:=fun ρ=>(f ρ).andThen g
theorem aLv (h:sv K W bJ D' σ H):aNp D' σ H:=by
 obtain ⟨ρ,F,fps,S,h⟩:=h
 exact h σ F H fps .refl S (fX.refl _ _)
theorem aP7 {f g:aX} (h:sv K W (aS f g) D' σ H):aUp (sv K W f) (sv K W g) D' σ H:=by
 obtain ⟨ρ,F,fps,S,h⟩:=h
 refine ⟨ρ,F,fps,S,?_⟩
 unfold aS at h
 cases e:f ρ with
 | next ρ1 =>
  rw [e] at h
  have h:cT K W F H fps.flatten ρ σ D' (g ρ1):=h
  exact fun σ1 F1 H1 fps1 e1 S1 p1=>⟨ρ1,F1,fps1,S1,cT.lift e1 p1 h⟩
 | ret d ρ'=>rw [e] at h;exact h
 | brk ρ'=>rw [e] at h;exact h
 | cont ρ'=>rw [e] at h;exact h
 | exc _ _=>rw [e] at h;exact h
 | bad=>rw [e] at h;exact h
def sIf (c:cG) (f g:aX):aX:=fun ρ=>match c ρ with
 | .ok true=>f ρ | .ok false=>g ρ | .exc _=>.bad | .bad=>.bad
theorem aSw {c:cG} {f g:aX} (h:sv K W (sIf c f g) D' σ H):aT0 (tvT K c) (sv K W f) (sv K W g) D' σ H:=by
 obtain ⟨ρ,F,fps,S,h⟩:=h
 refine ⟨ρ,F,fps,S,?_⟩
 unfold sIf at h
 cases e:c ρ with
 | ok b =>
  rw [e] at h
  intro F1 H1 g1
  cases b with
  | true=>rw [if_pos rfl];exact ⟨ρ,F1,fps,S.grow g1,cT.lift g1.evo (fX.refl _ _) h⟩
  | false=>rw [if_neg Bool.false_ne_true];exact ⟨ρ,F1,fps,S.grow g1,cT.lift g1.evo (fX.refl _ _) h⟩
 | exc _=>rw [e] at h;exact h.elim
 | bad=>rw [e] at h;exact h.elim
def xOf (f:aQ):mP:=fun ρ=>match f ρ with | .ok x=>.ok (x.1,x.2,ρ) | _=>.bad
theorem aNc {f:aQ} {Q:VK} (h:tx K W (xOf f) σ H Q):tv K f σ H Q:=by
 obtain ⟨ρ,F,fps,S,h⟩:=h
 refine ⟨ρ,F,fps,S,?_⟩
 unfold xOf at h
 cases ef:f ρ with
 | exc _=>rw [ef] at h;exact h.elim
 | bad=>rw [ef] at h;exact h.elim
 | ok x =>
  rw [ef] at h
  have hx:tU K F H fps.flatten ρ σ Q (x.1,x.2,ρ):=h
  intro v F1 H1 fx g1 o1 n1 k1
  refine hx v F1 H1 fps fx g1.evo (S.grow g1) (lR.refl _) o1 n1 fun e b hb=>⟨fun hz=>?_,.inr (k1 e b hb)⟩
  exact (S.zone b hz).2 (k1 e b hb)
def nR (g:mP):aX:=fun ρ=>match g ρ with | .ok (_,_,ρ')=>.next ρ' | .exc c=>.exc c ρ | .bad=>.bad
theorem aMu {g:mP} (h:sv K W (nR g) D' σ H):aBa (tx K W g) D' σ H:=by
 obtain ⟨ρ,F,fps,S,h⟩:=h
 refine ⟨ρ,F,fps,S,?_⟩
 unfold nR at h
 cases e:g ρ with
 | ok x =>
  rw [e] at h
  exact fun v F1 H1 fps1 fp e1 S1 p1 o1 n1 k1=>h σ F1 H1 fps1 e1 S1 p1.pins
 | exc c=>rw [e] at h;exact h
 | bad=>rw [e] at h;exact h.elim
def bX (g:mP):aX:=fun ρ=>match g ρ with
 | .ok (d,fr,ρ')=>if fr || d.calm then .ret d ρ' else .bad
 | .exc c=>.exc c ρ | .bad=>.bad
theorem aQk {g:mP} (h:sv K W (bX g) D' σ H):aRr (tx K W g) D' σ H:=by
 obtain ⟨ρ,F,fps,S,h⟩:=h
 refine ⟨ρ,F,fps,S,?_⟩
 unfold bX at h
 cases e:g ρ with
 | ok x =>
  obtain ⟨d,fr,ρ'⟩:=x
  rw [e] at h
  intro v F1 H1 fps1 fp e1 S1 p1 o1 n1 k1
  have h:cT K W F H fps.flatten ρ σ D' (if (fr || d.calm)=true then .ret d ρ' else .bad):=h
  by_cases hc:(fr || d.calm)=true
  ·rw [if_pos hc] at h
   refine h v σ F1 H1 fps1 fp e1 S1 p1.pins o1 n1 fun b hb=>?_
   cases ef:fr with
   | true=>exact k1 ef b hb
   | false =>
    rw [ef,Bool.false_or] at hc
    rw [Own.eD d hc o1] at hb;cases hb
  ·rw [if_neg hc] at h;exact h.elim
 | exc c=>rw [e] at h;exact h
 | bad=>rw [e] at h;exact h.elim
theorem pY {fps:Y5} {i:Nat} {fp:Y2} (n:fps.flatten.Nodup) (nf:fp.Nodup) (dj:∀b∈fp,b ∉ fps.flatten):(fps.set i fp).flatten.Nodup:=by
 induction fps generalizing i with
 | nil=>simp
 | cons f r ih =>
  rw [List.flatten_cons] at n dj
  obtain ⟨n1,n2,n3⟩:=List.nodup_append.mp n
  cases i with
  | zero =>
   rw [List.set_cons_zero,List.flatten_cons]
   exact List.nodup_append.mpr ⟨nf,n2,fun a ha b hb z=>dj a ha (List.mem_append_right _ (z ▸ hb))⟩
  | succ i =>
   rw [List.set_cons_succ,List.flatten_cons]
   refine List.nodup_append.mpr ⟨n1,ih n2 fun b hb hr=>dj b hb (List.mem_append_right _ hr),fun a ha b hb z=>?_⟩
   subst z
   obtain ⟨l,hl,hal⟩:=List.mem_flatten.mp hb
   rcases List.mem_or_eq_of_mem_set hl with hl | rfl
   ·exact n3 a ha a (List.mem_flatten.mpr ⟨l,hl,hal⟩) rfl
   ·exact dj a hal (List.mem_append_left _ ha)
theorem bM {fps:Y5} {i:Nat} {fp:Y2} {b:Addr} (h:b∈(fps.set i fp).flatten):b∈fps.flatten\/b∈fp:=by
 obtain ⟨l,hl,hb⟩:=List.mem_flatten.mp h
 rcases List.mem_or_eq_of_mem_set hl with hl | rfl
 ·exact .inl (List.mem_flatten.mpr ⟨l,hl,hb⟩)
 ·exact .inr hb
theorem Sim.store {fps:Y5} {i:Nat} {d:D} {v:V} {fp:Y2} (S:Sim K F H σ ρ fps) (o:Own K F H d v fp) (n:fp.Nodup) (dj:∀b∈fp,b ∉ fps.flatten):Sim K F H (σ.set i (some v)) (ρ.set i (.val d)) (fps.set i fp):=by
 refine ⟨S.same,by simp [S.ls],by simp [S.lf],fun j s c e1 e2=>?_,pY S.nd n dj,fun a ha=>?_⟩
 ·by_cases hj:i=j
  ·subst hj
   have hi:i < ρ.length:=by
    rcases Nat.lt_or_ge i ρ.length with h | h
    ·exact h
    ·rw [List.getElem?_eq_none_iff.mpr (by simpa using h)] at e1;cases e1
   rw [List.getElem?_set_self (by exact hi)] at e1
   cases e1;cases e2
   refine ⟨v,fp,List.getElem?_set_self (by rw [S.ls];exact hi),List.getElem?_set_self (by rw [S.lf];exact hi),o⟩
  ·rw [List.getElem?_set_ne hj] at e1
   obtain ⟨w,f,h1,h2,h3⟩:=S.at_ j s c e1 e2
   exact ⟨w,f,by rw [List.getElem?_set_ne hj];exact h1,by rw [List.getElem?_set_ne hj];exact h2,h3⟩
 ·rcases bM ha with h | h
  ·exact S.zone a h
  ·obtain ⟨h1,xs,h2⟩:=Own.zone d o a h
   exact ⟨h1,by rw [h2];simp⟩
def free (ρ:Env) (i:Nat):Bool:=match ρ[i]? with | some (.pin _)=>false | some _=>true | none=>false
theorem kE {i:Nat} {d:D} {x:Option V} (h:free ρ i=true):fX ρ σ (ρ.set i (.val d)) (σ.set i x):=fun j c e=>by
 have hj:i ≠ j:=by
  rintro rfl
  unfold free at h
  rw [e] at h;cases h
 exact ⟨⟨c,by rw [List.getElem?_set_ne hj];exact e⟩,by rw [List.getElem?_set_ne hj]⟩
def bA (i:Nat) (d:D) (ρ:Env):Option Env:=if free ρ i then some (ρ.set i (.val d)) else none
def aY (i:Nat) (g:mP):aX:=fun ρ=>match g ρ with
 | .ok (d,fr,ρ')=>if (fr || d.calm) && free ρ' i then .next (ρ'.set i (.val d)) else .bad
 | .exc c=>.exc c ρ | .bad=>.bad
theorem sT {fps1:Y5} {i:Nat} {fp:Y2} (e:Evo F H Z F' H' fps1.flatten) (k:∀b∈fp,b∈Z\/H b=none):Evo F H Z F' H' (fps1.set i fp).flatten :=
 ⟨e.fr,e.keep,e.dom,e.new,fun b hb=>(bM hb).elim (e.zone b) (k b)⟩
theorem aHf {i:Nat} {g:mP} (h:sv K W (aY i g) D' σ H):aFv (tx K W g) (rV i) D' σ H:=by
 obtain ⟨ρ,F,fps,S,h⟩:=h
 refine ⟨ρ,F,fps,S,?_⟩
 unfold aY at h
 cases e:g ρ with
 | ok x =>
  obtain ⟨d,fr,ρ'⟩:=x
  rw [e] at h
  intro v F1 H1 fps1 fp e1 S1 p1 o1 n1 k1
  have h:cT K W F H fps.flatten ρ σ D' (if ((fr || d.calm) && free ρ' i)=true then .next (ρ'.set i (.val d)) else .bad):=h
  by_cases hc:((fr || d.calm) && free ρ' i)=true
  ·rw [if_pos hc] at h
   rw [Bool.and_eq_true] at hc
   have k2:∀b∈fp,b ∉ fps1.flatten/\(b∈fps.flatten\/H b=none):=fun b hb=>by
    cases ef:fr with
    | true=>exact k1 ef b hb
    | false =>
     have:=hc.1
     rw [ef,Bool.false_or] at this
     rw [Own.eD d this o1] at hb;cases hb
   exact h _ F1 H1 _ (sT e1 fun b hb=>(k2 b hb).2) (S1.store o1 n1 fun b hb=>(k2 b hb).1) (p1.pins.trans (kE hc.2))
  ·rw [if_neg hc] at h;exact h.elim
 | exc c=>rw [e] at h;exact h
 | bad=>rw [e] at h;exact h.elim
def cX:T0->List D->Env->Option Env
 | [],[],ρ=>some ρ
 | i::is,d::ds,ρ=>if d.calm then (bA i d ρ).bind (cX is ds) else none
 | _,_,_=>none
def lX:T0->TGs
 | []=>aSn
 | i::is=>aN3 (rV i) (lX is)
theorem oH:∀(is:T0) {ds:List D} {vs:List V} {ρ ρ':Env} {σ:St} {fps:Y5} {P:St->Hp->Prop},cX is ds ρ=some ρ'->Sim K F H σ ρ fps->aH K F H ds vs [] ->
  (∀σ' fps',Sim K F H σ' ρ' fps'->fX ρ σ ρ' σ'->(∀b∈fps'.flatten,b∈fps.flatten)->P σ' H)->lX is vs σ H P
 | [],[],vs,ρ,ρ',σ,fps,P,e,S,o,h=>by
  unfold cX at e;cases e
  unfold aH at o
  exact ⟨o.1,h σ fps S (fX.refl _ _) fun _ hb=>hb⟩
 | i::is,d::ds,vs,ρ,ρ',σ,fps,P,e,S,o,h=>by
  unfold cX at e
  by_cases hc:d.calm=true
  ·rw [if_pos hc] at e
   unfold bA at e
   by_cases hf:free ρ i=true
   ·rw [if_pos hf] at e
    have e:cX is ds (ρ.set i (.val d))=some ρ':=e
    unfold aH at o
    obtain ⟨v,r,f1,f2,e1,o1,o2,e2⟩:=o
    have ef:=List.append_eq_nil_iff.mp e2.symm
    rw [ef.1] at o1;rw [ef.2] at o2
    refine ⟨v,r,e1,?_⟩
    refine oH is e (S.store (i:=i) o1 List.nodup_nil fun b hb=>by cases hb) o2 fun σ' fps' S' p' k'=>?_
    refine h σ' fps' S' ((kE hf).trans p') fun b hb=>?_
    rcases bM (k' b hb) with q | q
    ·exact q
    ·cases q
   ·rw [if_neg hf] at e;cases e
  ·rw [if_neg hc] at e;cases e
 | [],d::ds,vs,ρ,ρ',σ,fps,P,e,S,o,h=>by unfold cX at e;cases e
 | i::is,[],vs,ρ,ρ',σ,fps,P,e,S,o,h=>by unfold cX at e;cases e
def kO (is:T0) (g:mP):aX:=fun ρ=>match g ρ with
 | .ok (.tup ds,_,ρ')=>(match cX is ds ρ' with | some ρ2=>.next ρ2 | none=>.bad)
 | .ok _=>.bad | .exc c=>.exc c ρ | .bad=>.bad
theorem oM:∀(is:T0) {ds:List D} {ρ ρ':Env},cX is ds ρ=some ρ'->ds.length=is.length
 | [],[],_,_,_=>rfl
 | i::is,d::ds,ρ,ρ',e=>by
  unfold cX at e
  by_cases hc:d.calm=true
  ·rw [if_pos hc] at e
   cases q:bA i d ρ with
   | none=>rw [q] at e;cases e
   | some ρ1 =>
    rw [q] at e
    rw [List.length_cons,List.length_cons,oM is (show cX is ds ρ1=some ρ' from e)]
  ·rw [if_neg hc] at e;cases e
 | [],_::_,_,_,e=>by unfold cX at e;cases e
 | _::_,[],_,_,e=>by unfold cX at e;cases e
theorem aFf {is:T0} {g:mP} {n:Nat} (hn:is.length=n) (h:sv K W (kO is g) D' σ H):aFv (tx K W g) (aOv K n (lX is)) D' σ H:=by
 obtain ⟨ρ,F,fps,S,h⟩:=h
 refine ⟨ρ,F,fps,S,?_⟩
 unfold kO at h
 cases e:g ρ with
 | ok x =>
  obtain ⟨d,fr,ρ'⟩:=x
  rw [e] at h
  intro v F1 H1 fps1 fp e1 S1 p1 o1 n1 k1
  cases d<;>try exact h.elim
  rename_i ds
  obtain ⟨a,xs,ev,q,o2,e2⟩:=Own.tup S1.same o1
  have h:cT K W F H fps.flatten ρ σ D' (match cX is ds ρ' with | some ρ2=>.next ρ2 | none=>.bad):=h
  cases eb:cX is ds ρ' with
  | none=>rw [eb] at h;exact h.elim
  | some ρ2 =>
   rw [eb] at h
   refine ⟨a,xs,ev,q,?_,?_⟩
   ·rw [<- aH.length ds o2,oM is eb,hn]
   ·refine oH is eb S1 o2 fun σ' fps' S' p' k'=>?_
    exact h σ' F1 H1 fps' ⟨e1.fr,e1.keep,e1.dom,e1.new,fun b hb=>e1.zone b (k' b hb)⟩ S' (p1.pins.trans p')
 | exc c=>rw [e] at h;exact h
 | bad=>rw [e] at h;exact h.elim
def iA (o:Out) (again:Env->Out):Out:=match o with
 | .next ρ=>again ρ | .cont ρ=>again ρ | .brk ρ=>.next ρ | o=>o
def bS (c:cG) (b:aX):Nat->aX
 | 0,_=>.bad
 | n+1,ρ=>match c ρ with
  | .ok true=>iA (b ρ) (bS c b n)
  | .ok false=>.next ρ
  | .exc _=>.bad | .bad=>.bad
theorem aG7 {n:Nat} {c:cG} {b:aX} (h:sv K W (bS c b n) D' σ H):aG2 (tvT K c) (sv K W b) D' σ H:=by
 refine ⟨fun m σ H=>sv K W (bS c b m) D' σ H,⟨n,h⟩,?_⟩
 rintro m σ H ⟨ρ,F,fps,S,h⟩
 refine ⟨ρ,F,fps,S,?_⟩
 cases m with
 | zero=>exact h.elim
 | succ m =>
  unfold bS at h
  cases e:c ρ with
  | exc _=>rw [e] at h;exact h.elim
  | bad=>rw [e] at h;exact h.elim
  | ok k =>
   rw [e] at h
   intro F1 H1 g1
   cases k with
   | false =>
    rw [if_neg Bool.false_ne_true]
    exact h σ F1 H1 fps g1.evo (S.grow g1) (fX.refl _ _)
   | true =>
    rw [if_pos rfl]
    refine ⟨fun σ' H'=>sv K W (bS c b m) D' σ' H',fun σ' H' q=>⟨m,Nat.lt_succ_self m,q⟩,ρ,F1,fps,S.grow g1,?_⟩
    have h:cT K W F H fps.flatten ρ σ D' (iA (b ρ) (bS c b m)):=h
    have h:=cT.lift (g1.evo (Z:=fps.flatten)) (fX.refl ρ σ) h
    cases eb:b ρ with
    | next ρ' =>
     rw [eb] at h
     exact fun σ' F' H' fps' e' S' p'=>⟨ρ',F',fps',S',cT.lift e' p' h⟩
    | cont ρ' =>
     rw [eb] at h
     exact fun σ' F' H' fps' e' S' p'=>⟨ρ',F',fps',S',cT.lift e' p' h⟩
    | brk ρ'=>rw [eb] at h;exact h
    | ret d ρ'=>rw [eb] at h;exact h
    | exc _ _=>rw [eb] at h;exact h
    | bad=>rw [eb] at h;exact h
abbrev jQ:=Env->R (List D)
def zS (K:FG) (F:Hp) (ds:List D) (J:It):Prop :=
 (∀i H',bD F H'->ds.length<=i->J.stop i H') /\
 ∀i d,ds[i]?=some d->∀F' H',bD F F'->bD F' H'->J.go i H'/\∀x H2,J.yld i H' x H2->∃F2,Grow F' H' F2 H2/\Own K F2 H2 d x []
def aJz (K:FG) (F H:Hp) (R':It->Hp->Prop) (ds:List D):Prop:=∀J F' H',Grow F H F' H'->zS K F' ds J->R' J H'
def iv (K:FG) (f:jQ):TI:=fun σ H R'=>∃ρ F fps,Sim K F H σ ρ fps/\(f ρ).holds (aJz K F H R')
def forL (set:D->Env->Option Env) (b:aX):List D->aX
 | [],ρ=>.next ρ
 | d::ds,ρ=>match set d ρ with
  | none=>.bad
  | some ρ1=>iA (b ρ1) (forL set b ds)
def Tgt (K:FG) (set:D->Env->Option Env) (g:TG):Prop :=
 ∀(F H:Hp) (d:D) (v:V) (ρ ρ':Env) (σ:St) (fps:Y5) (P:St->Hp->Prop),Sim K F H σ ρ fps->Own K F H d v []->set d ρ=some ρ' ->
  (∀σ' fps',Sim K F H σ' ρ' fps'->fX ρ σ ρ' σ'->(∀b∈fps'.flatten,b∈fps.flatten)->P σ' H)->g v σ H P
theorem bG {i:Nat}:Tgt K (bA i) (rV i):=by
 intro F H d v ρ ρ' σ fps P S o e h
 unfold bA at e
 by_cases hf:free ρ i=true
 ·rw [if_pos hf] at e;cases e
  refine h _ _ (S.store o List.nodup_nil fun b hb=>by cases hb) (kE hf) fun b hb=>?_
  rcases bM hb with q | q
  ·exact q
  ·cases q
 ·rw [if_neg hf] at e;cases e
def dH (is:T0):D->Env->Option Env:=fun d ρ=>match d with | .tup ds=>cX is ds ρ | _=>none
theorem kQ {is:T0} {n:Nat} (hn:is.length=n):Tgt K (dH is) (aOv K n (lX is)):=by
 intro F H d v ρ ρ' σ fps P S o e h
 unfold dH at e
 cases d<;>try cases e
 rename_i ds
 obtain ⟨a,xs,ev,q,o2,e2⟩:=Own.tup S.same o
 refine ⟨a,xs,ev,q,?_,oH is e S o2 h⟩
 rw [<- aH.length ds o2,oM is e,hn]
def fW (f:jQ) (set:D->Env->Option Env) (b:aX):aX:=fun ρ=>match f ρ with
 | .ok ds=>forL set b ds ρ | .exc _=>.bad | .bad=>.bad
theorem aQy {f:jQ} {set:D->Env->Option Env} {g:TG} {b:aX} (ht:Tgt K set g) (h:sv K W (fW f set b) D' σ H):aSp (iv K f) g (sv K W b) D' σ H:=by
 obtain ⟨ρ,F,fps,S,h⟩:=h
 refine ⟨ρ,F,fps,S,?_⟩
 unfold fW at h
 cases e:f ρ with
 | exc _=>rw [e] at h;exact h.elim
 | bad=>rw [e] at h;exact h.elim
 | ok ds =>
  rw [e] at h
  intro J F0 H0 g0 hJ
  have h:=cT.lift (g0.evo (Z:=fps.flatten)) (fX.refl ρ σ) h
  refine ⟨fun i m σ' H'=>i<=ds.length/\m=ds.length - i/\∃ρ' F' fps',bD F0 F'/\Sim K F' H' σ' ρ' fps'/\cT K W F' H' fps'.flatten ρ' σ' D' (forL set b (ds.drop i) ρ'),
   ⟨ds.length,Nat.zero_le _,rfl,ρ,F0,fps,bD.refl _,S.grow g0,h⟩,?_⟩
  rintro i m σ1 H1 ⟨hi,rfl,ρ1,F1,fps1,s1,S1,h1⟩
  by_cases hlt:i<ds.length
  ·refine .inr ?_
   obtain ⟨d,hd⟩:∃d,ds[i]?=some d:=⟨ds[i],by simp [hlt]⟩
   have hdrop:ds.drop i=d::ds.drop (i+1):=by
    rw [List.drop_eq_getElem_cons hlt]
    congr 1
    rw [List.getElem?_eq_getElem hlt] at hd;exact Option.some.inj hd
   rw [hdrop] at h1
   obtain ⟨go,yl⟩:=hJ.2 i d hd F1 H1 s1 S1.same
   refine ⟨go,fun σ' H'=>∃ρ' F' fps',bD F0 F'/\Sim K F' H' σ' ρ' fps'/\cT K W F' H' fps'.flatten ρ' σ' D' (forL set b (ds.drop (i+1)) ρ'),fun σ' H' q=>⟨ds.length - (i+1),by omega,by omega,rfl,q⟩,fun x H2 hy=>?_⟩
   obtain ⟨F2,g2,o2⟩:=yl x H2 hy
   have h1:cT K W F1 H1 fps1.flatten ρ1 σ1 D' (match set d ρ1 with | none=>.bad | some ρ2=>iA (b ρ2) (forL set b (ds.drop (i+1)))):=h1
   have h1:=cT.lift (g2.evo (Z:=fps1.flatten)) (fX.refl ρ1 σ1) h1
   cases es:set d ρ1 with
   | none=>rw [es] at h1;exact h1.elim
   | some ρ2 =>
    rw [es] at h1
    refine ht F2 H2 d x ρ1 ρ2 σ1 fps1 _ (S1.grow g2) o2 es fun σ2 fps2 S2 p2 k2=>?_
    have ev2:Evo F2 H2 fps1.flatten F2 H2 fps2.flatten:=⟨bD.refl _,fun _ _ e _=>e,fun _ e=>e,fun _ _ e=>.inl e,fun b hb=>.inl (k2 b hb)⟩
    have h2:cT K W F2 H2 fps2.flatten ρ2 σ2 D' (iA (b ρ2) (forL set b (ds.drop (i+1)))):=cT.lift ev2 p2 h1
    refine ⟨ρ2,F2,fps2,S2,?_⟩
    have s2:bD F0 F2:=s1.trans g2.fr
    cases eb:b ρ2 with
    | next ρ3 =>
     rw [eb] at h2
     exact fun σ' F' H' fps' e' S' p'=>⟨ρ3,F',fps',s2.trans e'.fr,S',cT.lift e' p' h2⟩
    | cont ρ3 =>
     rw [eb] at h2
     exact fun σ' F' H' fps' e' S' p'=>⟨ρ3,F',fps',s2.trans e'.fr,S',cT.lift e' p' h2⟩
    | brk ρ3=>rw [eb] at h2;exact h2
    | ret d ρ3=>rw [eb] at h2;exact h2
    | exc _ _=>rw [eb] at h2;exact h2
    | bad=>rw [eb] at h2;exact h2
  ·refine .inl ⟨hJ.1 i H1 (s1.trans S1.same) (by omega),?_⟩
   rw [List.drop_eq_nil_of_le (by omega)] at h1
   exact h1 σ1 F1 H1 fps1 .refl S1 (fX.refl _ _)
def aM8 (f:aQ):jQ:=fun ρ=>(f ρ).bind fun x=>match x.1 with
 | .tup ds=>.ok ds | _=>.bad
theorem aOw {f:aQ} {R':It->Hp->Prop} (h:iv K (aM8 f) σ H R'):aO3 K (tv K f) σ H R':=by
 obtain ⟨ρ,F,fps,S,h⟩:=h
 refine ⟨ρ,F,fps,S,R.aM (R.aO.mp h) fun x hx v F1 H1 fx g1 o1 n1 k1=>?_⟩
 obtain ⟨x,b⟩:=x
 cases x<;>try exact hx.elim
 rename_i ds
 unfold Own at o1
 obtain ⟨_,a,xs,ev,q,r⟩:=o1
 refine ⟨a,ev,⟨xs,bD.wL g1.inn q⟩,hx _ F1 H1 g1 ⟨fun i H' hs hl=>?_,fun i d hd F' H' s1 s2=>?_⟩⟩
 ·exact ⟨xs,bD.wL hs q,by rw [<- aH.length ds r];exact hl⟩
 ·obtain ⟨u,f,q1,q2,q3⟩:=aH.get ds r hd
  refine ⟨⟨xs,u,bD.wL (s1.trans s2) q,q1⟩,fun y H2 hy=>?_⟩
  obtain ⟨e,hy⟩:=hy
  subst e
  have ey:=hy xs (bD.wL (s1.trans s2) q)
  rw [q1] at ey;cases ey
  have:f=[]:=List.sublist_nil.mp q3
  subst this
  exact ⟨F',Grow.refl s2,Own.keep s1 d (fun a ha=>by cases ha) q2⟩
def fS (lo:Int) (n:Nat):List D:=(List.range n).map fun (i:Nat)=>D.int (lo+(i:Int))
def cK (i:Int):Bool:=decide (-(2 ^ 62)<=i) && decide (i<2 ^ 62)
def iR1 (g:dI):jQ:=fun ρ=>(g ρ).bind fun xs=>match xs with
 | [(.int j,_)]=>if cK j then .ok (fS 0 j.toNat) else .bad | _=>.bad
def iR2 (g:dI):jQ:=fun ρ=>(g ρ).bind fun xs=>match xs with
 | [(.int i,_),(.int j,_)]=>if cK i && cK j then .ok (fS i (j - i).toNat) else .bad | _=>.bad
theorem uS {lo:Int} {n:Nat}:zS K F (fS lo n) (Itr lo n):=by
 refine ⟨fun i H' _ hl=>?_,fun i d hd F' H' s1 s2=>?_⟩
 ·unfold fS at hl
  show n<=i
  simpa using hl
 ·unfold fS at hd
  rw [List.getElem?_map] at hd
  have hi:i<n:=by
   rcases Nat.lt_or_ge i n with h | h
   ·exact h
   ·rw [List.getElem?_eq_none_iff.mpr (by simpa using h)] at hd;cases hd
  rw [List.getElem?_range hi] at hd
  cases hd
  refine ⟨hi,fun y H2 hy=>?_⟩
  obtain ⟨e1,e2⟩:=hy
  subst e1;subst e2
  exact ⟨F',Grow.refl s2,eO rfl⟩
theorem aFl {g:dI} {R':It->Hp->Prop} (h:iv K (iR1 g) σ H R'):aNz (tvA K g) σ H R':=by
 obtain ⟨ρ,F,fps,S,h⟩:=h
 refine ⟨ρ,F,fps,S,R.aM (R.aO.mp h) fun xs hx vs F1 H1 fa g1 o1 n1 k1=>?_⟩
 match xs,hx,o1 with
 | [(.int j,b)],hx,o1 =>
  have hx:(if cK j=true then R.ok (fS 0 j.toNat) else R.bad).holds (aJz K F H R'):=hx
  by_cases hc:cK j=true
  ·rw [if_pos hc] at hx
   unfold cK at hc
   rw [Bool.and_eq_true,decide_eq_true_iff,decide_eq_true_iff] at hc
   unfold Args at o1
   obtain ⟨v,r,fp,f2,e,o,n,t,w⟩:=o1
   unfold Args at t;unfold Own at o
   rw [e,t.1,o.1]
   exact ⟨j,rfl,hc.1,hc.2,hx _ F1 H1 g1 uS⟩
  ·rw [if_neg hc] at hx;exact hx.elim
theorem aGr {g:dI} {R':It->Hp->Prop} (h:iv K (iR2 g) σ H R'):aNl (tvA K g) σ H R':=by
 obtain ⟨ρ,F,fps,S,h⟩:=h
 refine ⟨ρ,F,fps,S,R.aM (R.aO.mp h) fun xs hx vs F1 H1 fa g1 o1 n1 k1=>?_⟩
 match xs,hx,o1 with
 | [(.int i,b),(.int j,b')],hx,o1 =>
  have hx:(if (cK i && cK j)=true then R.ok (fS i (j - i).toNat) else R.bad).holds (aJz K F H R'):=hx
  by_cases hc:(cK i && cK j)=true
  ·rw [if_pos hc] at hx
   unfold cK at hc
   simp only [Bool.and_eq_true,decide_eq_true_iff] at hc
   unfold Args at o1
   obtain ⟨v,r,fp,f2,e,o,n,t,w⟩:=o1
   unfold Args at t
   obtain ⟨v',r',fp',f2',e',o',n',t',w'⟩:=t
   unfold Args at t';unfold Own at o o'
   rw [e,e',t'.1,o.1,o'.1]
   exact ⟨i,j,rfl,⟨hc.1.1,hc.1.2,hc.2.1,hc.2.2⟩,hx _ F1 H1 g1 uS⟩
  ·rw [if_neg hc] at hx;exact hx.elim
end
end VL
end
section
namespace VL
open PySem L2
section
variable {K:FG} {W:XW} {F H F' H' F1 H1:Hp} {Z Z' Z1:Y2} {σ σ1:St} {ρ ρ1:Env} {D':Ends}
theorem eB {fps:Y5} {i:Nat} {fp f:Y2} (n:fps.flatten.Nodup) (e:fps[i]?=some f) (nf:fp.Nodup) (dj:∀b∈fp,b∈f\/b ∉ fps.flatten):(fps.set i fp).flatten.Nodup:=by
 induction fps generalizing i with
 | nil=>simp
 | cons g r ih =>
  rw [List.flatten_cons] at n dj
  obtain ⟨n1,n2,n3⟩:=List.nodup_append.mp n
  cases i with
  | zero =>
   simp at e;subst e
   rw [List.set_cons_zero,List.flatten_cons]
   refine List.nodup_append.mpr ⟨nf,n2,fun a ha b hb z=>?_⟩
   subst z
   rcases dj a ha with h | h
   ·exact n3 a h a hb rfl
   ·exact h (List.mem_append_right _ hb)
  | succ i =>
   have e:r[i]?=some f:=by simpa using e
   rw [List.set_cons_succ,List.flatten_cons]
   refine List.nodup_append.mpr ⟨n1,ih n2 e fun b hb=>(dj b hb).imp_right fun h hr=>h (List.mem_append_right _ hr),fun a ha b hb z=>?_⟩
   subst z
   rcases bM hb with h | h
   ·exact n3 a ha a h rfl
   ·rcases dj a h with q | q
    ·exact n3 a ha a (List.mem_flatten.mpr ⟨f,List.mem_of_getElem? e,q⟩) rfl
    ·exact q (List.mem_append_left _ ha)
theorem apart {fps:Y5} {i j:Nat} {f g:Y2} {a:Addr} (n:fps.flatten.Nodup) (hi:fps[i]?=some f) (hj:fps[j]?=some g) (ne:i ≠ j) (ha:a∈f):a ∉ g:=by
 induction fps generalizing i j with
 | nil=>simp at hi
 | cons h r ih =>
  rw [List.flatten_cons] at n
  obtain ⟨n1,n2,n3⟩:=List.nodup_append.mp n
  cases i with
  | zero =>
   simp at hi;subst hi
   cases j with
   | zero=>exact absurd rfl ne
   | succ j =>
    have hj:r[j]?=some g:=by simpa using hj
    exact fun hb=>n3 a ha a (List.mem_flatten.mpr ⟨g,List.mem_of_getElem? hj,hb⟩) rfl
  | succ i =>
   have hi:r[i]?=some f:=by simpa using hi
   cases j with
   | zero =>
    simp at hj;subst hj
    exact fun hb=>n3 a hb a (List.mem_flatten.mpr ⟨f,List.mem_of_getElem? hi,ha⟩) rfl
   | succ j=>exact ih n2 hi (by simpa using hj) fun z=>ne (by rw [z])
theorem Own.other {d:D} {v:V} {f:Y2} {a:Addr} {o:HO} (h:Own K F H d v f) (ha:a ∉ f):Own K F (upd H a o) d v f:=by
 refine Own.keep (bD.refl _) d (fun b hb=>⟨(Own.zone d h b hb).1,?_⟩) h
 exact bF fun z=>ha (z ▸ hb)
theorem aH.other {d:List D} {v:List V} {f:Y2} {a:Addr} {o:HO} (h:aH K F H d v f) (ha:a ∉ f):aH K F (upd H a o) d v f:=by
 refine aH.keep (bD.refl _) d (fun b hb=>⟨(aH.zone d h b hb).1,?_⟩) h
 exact bF fun z=>ha (z ▸ hb)
def getD (ρ:Env) (i:Nat):Option D:=(ρ[i]?).bind Slot.d?
def putD (ρ:Env) (i:Nat) (d:D):Env:=match ρ[i]? with
 | some (.pin _)=>ρ.set i (.pin d) | some (.val _)=>ρ.set i (.val d) | _=>ρ
theorem Sim.get {fps:Y5} (S:Sim K F H σ ρ fps) {i:Nat} {d:D} (e:getD ρ i=some d):∃v fp,σ[i]?=some (some v)/\fps[i]?=some fp/\Own K F H d v fp:=by
 unfold getD at e
 cases q:ρ[i]? with
 | none=>rw [q] at e;cases e
 | some s=>rw [q] at e;exact S.at_ i s d q e
theorem tJ {i j:Nat} {d:D} {s:Slot} {c:D} (e:(putD ρ i d)[j]?=some s) (e2:s.d?=some c) (hi:(getD ρ i).isSome=true):(i=j/\c=d)\/(i ≠ j/\ρ[j]?=some s):=by
 unfold getD at hi
 unfold putD at e
 cases q:ρ[i]? with
 | none=>rw [q] at hi;cases hi
 | some t =>
  have hlt:i < ρ.length:=(List.getElem?_eq_some_iff.mp q).1
  rw [q] at e hi
  cases t with
  | un=>cases hi
  | val _ =>
   by_cases hj:i=j
   ·subst hj
    have e:(ρ.set i (.val d))[i]?=some s:=e
    rw [List.getElem?_set_self hlt] at e;cases e;cases e2;exact .inl ⟨rfl,rfl⟩
   ·have e:(ρ.set i (.val d))[j]?=some s:=e
    rw [List.getElem?_set_ne hj] at e;exact .inr ⟨hj,e⟩
  | pin _ =>
   by_cases hj:i=j
   ·subst hj
    have e:(ρ.set i (.pin d))[i]?=some s:=e
    rw [List.getElem?_set_self hlt] at e;cases e;cases e2;exact .inl ⟨rfl,rfl⟩
   ·have e:(ρ.set i (.pin d))[j]?=some s:=e
    rw [List.getElem?_set_ne hj] at e;exact .inr ⟨hj,e⟩
theorem gK {i:Nat} {d:D}:(putD ρ i d).length=ρ.length:=by
 unfold putD
 split<;>simp
theorem vE {i:Nat} {d:D}:lR ρ (putD ρ i d):=fun j c e=>by
 unfold putD
 cases q:ρ[i]? with
 | none=>exact ⟨c,e⟩
 | some t =>
  have hlt:i < ρ.length:=(List.getElem?_eq_some_iff.mp q).1
  cases t with
  | un=>exact ⟨c,e⟩
  | val _ =>
   refine ⟨c,?_⟩
   show (ρ.set i (.val d))[j]?=_
   have hj:i ≠ j:=by rintro rfl;rw [q] at e;cases e
   rw [List.getElem?_set_ne hj];exact e
  | pin _ =>
   by_cases hj:i=j
   ·subst hj
    exact ⟨d,by show (ρ.set i (.pin d))[i]?=_;rw [List.getElem?_set_self hlt]⟩
   ·exact ⟨c,by show (ρ.set i (.pin d))[j]?=_;rw [List.getElem?_set_ne hj];exact e⟩
theorem Sim.mutate {fps:Y5} (S:Sim K F H σ ρ fps) {i:Nat} {d d':D} {v:V} {fp fp':Y2} {a:Addr} {xs:List V} (e:getD ρ i=some d) (es:σ[i]?=some (some v)) (ef:fps[i]?=some fp)
  (ha:a∈fp) (o:Own K F (upd H a (.lst xs)) d' v fp') (n:fp'.Nodup) (dj:∀b∈fp',b∈fp\/(b ∉ fps.flatten)) :
  Sim K F (upd H a (.lst xs)) σ (putD ρ i d') (fps.set i fp'):=by
 have hz:a∈fps.flatten:=List.mem_flatten.mpr ⟨fp,List.mem_of_getElem? ef,ha⟩
 have fa:=(S.zone a hz).1
 refine ⟨fun b u q=>?_,by rw [gK];exact S.ls,by rw [gK,List.length_set];exact S.lf,fun j s c e1 e2=>?_,eB S.nd ef n dj,fun b hb=>?_⟩
 ·rw [bF (bO q fa)];exact S.same b u q
 ·rcases tJ e1 e2 (by rw [e];rfl) with ⟨rfl,rfl⟩ | ⟨hj,e3⟩
  ·exact ⟨v,fp',es,List.getElem?_set_self (List.getElem?_eq_some_iff.mp ef).1,o⟩
  ·obtain ⟨w,f,h1,h2,h3⟩:=S.at_ j s c e3 e2
   exact ⟨w,f,h1,by rw [List.getElem?_set_ne hj];exact h2,h3.other (apart S.nd ef h2 hj ha)⟩
 ·rcases bM hb with h | h
  ·refine ⟨(S.zone b h).1,?_⟩
   by_cases hba:b=a
   ·subst hba;rw [bU];simp
   ·rw [bF hba];exact (S.zone b h).2
  ·obtain ⟨q1,ys,q2⟩:=Own.zone d' o b h
   exact ⟨q1,by rw [q2];simp⟩
theorem aDt {a:Addr} {o:HO} (ha:a∈Z) (k:∀b∈Z',b∈Z):Evo F H Z F (upd H a o) Z':=by
 refine ⟨bD.refl _,fun b u e hb=>?_,fun b e=>?_,fun _ _ e=>.inl e,fun b hb=>.inl (k b hb)⟩
 ·exact (bF (fun z:b=a=>hb (by rw [z];exact ha))).trans e
 ·by_cases hba:b=a
  ·subst hba;rw [bU] at e;cases e
  ·rw [bF hba] at e;exact e
theorem Grow.aUt (g:Grow F H F' H') (k:∀b∈Z',b∈Z\/H b=none):Evo F H Z F' H' Z' :=
 ⟨g.fr,fun b o e _=>g.all b o e,fun _ e=>g.all.free e,fun b o e=>(g.new b o e).elim .inl fun h=>.inr (.inl h),k⟩
theorem aH.replace:∀(ds:List D) {xs:List V} {fq:Y2} {j:Nat} {dj:D},aH K F H ds xs fq->fq.Nodup->ds[j]?=some dj->∃vj fj,xs[j]?=some vj/\Own K F H dj vj fj/\(∀b∈fj,b∈fq)/\fj.Nodup /\
  ∀(H':Hp) (dj':D) (vj':V) (fj':Y2),(∀b∈fq,b ∉ fj->H' b=H b)->Own K F H' dj' vj' fj'->∃fq',aH K F H' (ds.set j dj') (xs.set j vj') fq'/\(∀b∈fq',b∈fj'\/(b∈fq/\b ∉ fj))/\(fj'.Nodup->(∀b∈fj',b∈fj\/b ∉ fq)->fq'.Nodup)
 | [],_,_,_,_,_,_,e=>by simp at e
 | c::ds,xs,fq,0,dj,h,n,e=>by
  unfold aH at h
  obtain ⟨v,r,f1,f2,e1,h1,h2,e2⟩:=h
  simp at e;subst e;subst e1;subst e2
  obtain ⟨n1,n2,n3⟩:=List.nodup_append.mp n
  refine ⟨v,f1,rfl,h1,fun b hb=>List.mem_append_left _ hb,n1,fun H' dj' vj' fj' k o=>?_⟩
  have h2':aH K F H' ds r f2:=aH.keep (bD.refl _) ds (fun b hb=>⟨(aH.zone ds h2 b hb).1,k b (List.mem_append_right _ hb) fun z=>n3 b z b hb rfl⟩) h2
  refine ⟨fj'++f2,aH.cons o h2',fun b hb=>?_,fun n4 k4=>?_⟩
  ·rcases List.mem_append.mp hb with hb | hb
   ·exact .inl hb
   ·exact .inr ⟨List.mem_append_right _ hb,fun z=>n3 b z b hb rfl⟩
  ·refine List.nodup_append.mpr ⟨n4,n2,fun a ha b hb z=>?_⟩
   subst z
   rcases k4 a ha with q | q
   ·exact n3 a q a hb rfl
   ·exact q (List.mem_append_right _ hb)
 | c::ds,xs,fq,j+1,dj,h,n,e=>by
  unfold aH at h
  obtain ⟨v,r,f1,f2,e1,h1,h2,e2⟩:=h
  subst e1;subst e2
  obtain ⟨n1,n2,n3⟩:=List.nodup_append.mp n
  obtain ⟨vj,fj,q1,q2,q3,q5,q4⟩:=aH.replace ds (j:=j) h2 n2 (by simpa using e)
  refine ⟨vj,fj,by simpa using q1,q2,fun b hb=>List.mem_append_right _ (q3 b hb),q5,fun H' dj' vj' fj' k o=>?_⟩
  obtain ⟨fq',p1,p2,p3⟩:=q4 H' dj' vj' fj' (fun b hb hn=>k b (List.mem_append_right _ hb) hn) o
  have h1':Own K F H' c v f1:=Own.keep (bD.refl _) c (fun b hb=>⟨(Own.zone c h1 b hb).1,k b (List.mem_append_left _ hb) fun z=>n3 b hb b (q3 b z) rfl⟩) h1
  refine ⟨f1++fq',aH.cons h1' p1,fun b hb=>?_,fun n4 k4=>?_⟩
  ·rcases List.mem_append.mp hb with hb | hb
   ·exact .inr ⟨List.mem_append_left _ hb,fun z=>n3 b hb b (q3 b z) rfl⟩
   ·exact (p2 b hb).imp_right fun z=>⟨List.mem_append_right _ z.1,z.2⟩
  ·refine List.nodup_append.mpr ⟨n1,p3 n4 fun b hb=>(k4 b hb).imp_right fun z y=>z (List.mem_append_right _ y),fun a ha b hb z=>?_⟩
   subst z
   rcases p2 a hb with q | q
   ·rcases k4 a q with q | q
    ·exact n3 a ha a (q3 a q) rfl
    ·exact q (List.mem_append_left _ ha)
   ·exact n3 a ha a q.1 rfl
theorem Own.opened {ds:List D} {v:V} {fp:Y2} (h:Own K F H (.lst true ds) v fp):∃a xs fq,v=.ref a/\aH K F H ds xs fq/\F a=none/\H a=some (.lst xs)/\fp=a::fq:=by
 unfold Own at h
 obtain ⟨a,xs,fq,e,r,w⟩:=h
 rcases w with ⟨_,w1,w2,w3⟩ | ⟨w,_⟩
 ·exact ⟨a,xs,fq,e,r,w1,w2,w3⟩
 ·cases w
theorem Own.closed {ds:List D} {a:Addr} {xs:List V} {fq:Y2} (r:aH K F H ds xs fq) (h1:F a=none) (h2:H a=some (.lst xs)):Own K F H (.lst true ds) (.ref a) (a::fq):=by
 unfold Own
 exact ⟨a,xs,fq,rfl,r,.inl ⟨rfl,h1,h2,rfl⟩⟩
theorem Sim.zone1 {fps:Y5} {i:Nat} {fp:Y2} {a:Addr} (S:Sim K F H σ ρ fps) (h2:fps[i]?=some fp) (ha:a∈fp):F a=none :=
 (S.zone a (List.mem_flatten.mpr ⟨_,List.mem_of_getElem? h2,ha⟩)).1
theorem Sim.aB2 {fps:Y5} {fu:Y2} (S:Sim K F H σ ρ fps) (k3:∀b∈fu,H b=none):∀b∈fu,b ∉ fps.flatten:=fun b hb hz=>(S.zone b hz).2 (k3 b hb)
theorem eE.mut {fps:Y5} {P:St->Hp->Prop} {i:Nat} {d d':D} {v:V} {fp fp' fu:Y2} {a:Addr} {xs:List V} (h:eE K F H fps.flatten ρ σ P (putD ρ i d')) (S:Sim K F H σ ρ fps) (g2:Grow F H F1 H1) (k3:∀b∈fu,H b=none)
  (eg:getD ρ i=some d) (h1:σ[i]?=some (some v)) (h2:fps[i]?=some fp) (ha:a∈fp) (o:Own K F1 (upd H1 a (.lst xs)) d' v fp') (n:fp'.Nodup) (dj:∀b∈fp',b∈fp\/b∈fu):P σ (upd H1 a (.lst xs)):=by
 have S3:=(S.grow g2).mutate eg h1 h2 ha o n fun b hb=>(dj b hb).imp_right (S.aB2 k3 b)
 have ez:Evo F H fps.flatten F1 H1 (fps.flatten++fu):=g2.aUt fun b hb=>(List.mem_append.mp hb).imp_right (k3 b)
 have hz:∀b∈fp,b∈fps.flatten:=fun b hb=>List.mem_flatten.mpr ⟨_,List.mem_of_getElem? h2,hb⟩
 refine h σ F1 _ _ (ez.trans (aDt (List.mem_append_left _ (hz a ha)) fun b hb=>?_)) S3 (vE.pins)
 rcases bM hb with q | q
 ·exact List.mem_append_left _ q
 ·rcases dj b q with q | q
  ·exact List.mem_append_left _ (hz b q)
  ·exact List.mem_append_right _ q
def rX (d0:D) (x:D×Bool):Option D:=match d0 with
 | .lst true ds=>if aU x && decide (ds.length<1000000) then some (.lst true (ds ++ [x.1])) else none | _=>none
def eK (i:Nat) (f:aQ):aX:=fun ρ=>match f ρ with
 | .ok x=>(match (getD ρ i).bind fun d=>rX d x with | some d=>.next (putD ρ i d) | none=>.bad)
 | .exc _=>.bad | .bad=>.bad
theorem sM {n:Nat} (h:n<1000000):n<sizeLine:=Nat.lt_of_lt_of_le h (by decide)
theorem qA {x:D×Bool} {v:V} {fp:Y2} (k:aU x=true) (o:Own K F H x.1 v fp) (h:x.2=true->∀b∈fp,H1 b=none):∀b∈fp,H1 b=none:=fun b hb=>by
 unfold aU at k
 cases e:x.2 with
 | true=>exact h e b hb
 | false =>
  rw [e,Bool.false_or] at k
  rw [Own.eD x.1 k o] at hb;cases hb
theorem aFn {i:Nat} {f:aQ} (h:sv K W (eK i f) D' σ H):aBa (tBM K "list" zT (yK i) (rS (tv K f) aDg)) D' σ H:=by
 obtain ⟨ρ,F,fps,S,h⟩:=h
 unfold eK at h
 cases ef:f ρ with
 | exc _=>rw [ef] at h;exact h.elim
 | bad=>rw [ef] at h;exact h.elim
 | ok x =>
  rw [ef] at h
  have h:cT K W F H fps.flatten ρ σ D' (match (getD ρ i).bind fun d=>rX d x with | some d=>.next (putD ρ i d) | none=>.bad):=h
  cases eg:getD ρ i with
  | none=>rw [eg] at h;exact h.elim
  | some d0 =>
   rw [eg] at h
   have h:cT K W F H fps.flatten ρ σ D' (match rX d0 x with | some d=>.next (putD ρ i d) | none=>.bad):=h
   cases ek:rX d0 x with
   | none=>rw [ek] at h;exact h.elim
   | some d1 =>
    rw [ek] at h
    unfold rX at ek
    split at ek<;>try cases ek
    rename_i ds
    by_cases hc:(aU x && decide (ds.length<1000000))=true
    ·rw [if_pos hc] at ek;cases ek
     rw [Bool.and_eq_true,decide_eq_true_iff] at hc
     obtain ⟨v,fp,h1,h2,h3⟩:=S.get eg
     obtain ⟨a,xs,fq,ev,r,w1,w2,w3⟩:=Own.opened h3
     subst ev;subst w3
     have nfp:=S.sub h2
     refine ⟨.ref a,h1,.inl ⟨rfl,xs,SqL.of w2⟩,ρ,F,fps,S,?_⟩
     rw [ef]
     intro u F2 H2 fu g2 o2 n2 k2
     have k3:=qA hc.1 o2 k2
     have S2:=S.grow g2
     have w2':=g2.all a _ w2
     refine ⟨a,xs,u,rfl,rfl,w2',sM (by rw [<- aH.length ds r];exact hc.2),?_⟩
     have w1':=S2.zone1 h2 List.mem_cons_self
     have hau:a ∉ fu:=fun z=>by have:=k3 a z;rw [w2] at this;cases this
     have haq:a ∉ fq:=(List.nodup_cons.mp nfp).1
     have r2:aH K F2 (upd H2 a (.lst (xs ++ [u]))) (ds ++ [x.1]) (xs ++ [u]) (fq++fu):=aH.append ds ((r.grow g2).other haq) (aH.one (o2.other hau))
     have hn:(a::(fq++fu)).Nodup:=by
      refine List.nodup_cons.mpr ⟨fun z=>(List.mem_append.mp z).elim haq hau,List.nodup_append.mpr ⟨(List.nodup_cons.mp nfp).2,n2,fun p hp q hq z=>?_⟩⟩
      subst z
      exact S.aB2 k3 p hq (List.mem_flatten.mpr ⟨_,List.mem_of_getElem? h2,List.mem_cons_of_mem _ hp⟩)
     refine eE.mut h S g2 k3 eg h1 h2 List.mem_cons_self (Own.closed r2 w1' bU) hn fun b hb=>?_
     rcases List.mem_cons.mp hb with rfl | hb
     ·exact .inl List.mem_cons_self
     ·exact (List.mem_append.mp hb).imp_left fun z=>List.mem_cons_of_mem _ z
    ·rw [if_neg hc] at ek;cases ek
def aA5 (d0:D) (k:Int) (x:D×Bool):Option D:=match d0 with
 | .lst true ds=>if aU x then (ixN ds.length k).map fun j=>.lst true (ds.set j x.1) else none | _=>none
def dQ (i:Nat) (h f:aQ):aX:=fun ρ=>match f ρ with
 | .ok x=>(match h ρ with
  | .ok (.int k,_)=>(match (getD ρ i).bind fun d=>aA5 d k x with | some d=>.next (putD ρ i d) | none=>.bad)
  | .ok _=>.bad | .exc _=>.bad | .bad=>.bad)
 | .exc _=>.bad | .bad=>.bad
theorem aPa {n:Nat} {k:Int} {j:Nat} (e:ixN n k=some j):j<n:=by
 unfold ixN at e
 split at e
 ·split at e
  ·cases e;omega
  ·cases e
 ·split at e
  ·cases e;omega
  ·cases e
theorem set_own {ds:List D} {xs:List V} {fq fu:Y2} {a:Addr} {j:Nat} {d:D} {u:V} (r:aH K F H ds xs fq) (n:(a::fq).Nodup) (hj:j<ds.length) (w1:F a=none) (o:Own K F H d u fu) (nu:fu.Nodup) (hau:a ∉ fu) (dju:∀b∈fu,b ∉ fq) :
  ∃fq',Own K F (upd H a (.lst (xs.set j u))) (.lst true (ds.set j d)) (.ref a) (a::fq')/\(a::fq').Nodup/\∀b∈fq',b∈fq\/b∈fu:=by
 obtain ⟨na,nq⟩:=List.nodup_cons.mp n
 obtain ⟨dj,hdj⟩:∃dj,ds[j]?=some dj:=⟨ds[j],by simp [hj]⟩
 obtain ⟨vj,fj,q1,q2,q3,_,q4⟩:=aH.replace ds (r.other (a:=a) (o:=.lst (xs.set j u)) na) nq hdj
 obtain ⟨fq',p1,p2,p3⟩:=q4 _ d u fu (fun b _ _=>rfl) (o.other hau)
 have k:∀b∈fq',b∈fq\/b∈fu:=fun b hb=>(p2 b hb).elim .inr fun z=>.inl z.1
 refine ⟨fq',Own.closed p1 w1 bU,List.nodup_cons.mpr ⟨fun z=>(k a z).elim na hau,p3 nu fun b hb=>.inr (dju b hb)⟩,k⟩
theorem aCb {i:Nat} {h f:aQ} (hh:sv K W (dQ i h f) D' σ H):aFv (tv K f) (aSq (yK i) (tv K h) aNn) D' σ H:=by
 obtain ⟨ρ,F,fps,S,hh⟩:=hh
 unfold dQ at hh
 cases ef:f ρ with
 | exc _=>rw [ef] at hh;exact hh.elim
 | bad=>rw [ef] at hh;exact hh.elim
 | ok x =>
  rw [ef] at hh
  dsimp only at hh
  cases eh:h ρ with
  | exc _=>rw [eh] at hh;exact hh.elim
  | bad=>rw [eh] at hh;exact hh.elim
  | ok y =>
   rw [eh] at hh
   obtain ⟨y,by'⟩:=y
   cases y<;>try exact hh.elim
   rename_i k
   dsimp only at hh
   cases eg:getD ρ i with
   | none=>rw [eg] at hh;exact hh.elim
   | some d0 =>
    rw [eg] at hh
    dsimp only [Option.bind] at hh
    cases ek:aA5 d0 k x with
    | none=>rw [ek] at hh;exact hh.elim
    | some d1 =>
     rw [ek] at hh
     unfold aA5 at ek
     split at ek<;>try cases ek
     rename_i ds
     by_cases hc:aU x=true
     ·rw [if_pos hc] at ek
      cases ej:ixN ds.length k with
      | none=>rw [ej] at ek;cases ek
      | some j =>
       rw [ej] at ek;cases ek
       refine ⟨ρ,F,fps,S,?_⟩
       rw [ef]
       intro u F2 H2 fu g2 o2 n2 k2
       have k3:=qA hc o2 k2
       have S2:=S.grow g2
       obtain ⟨v,fp,h1,h2,h3⟩:=S2.get eg
       refine ⟨v,h1,ρ,F2,fps,S2,?_⟩
       rw [eh]
       intro w F3 H3 fw g3 o3 n3 k4
       unfold Own at o3
       obtain ⟨a,xs,fq,ev,r,w1,w2,w3⟩:=Own.opened (h3.grow g3)
       subst ev;subst w3
       have nfp:=S.sub h2
       refine ⟨a,xs,k,j,rfl,o3.1,w2,by rw [<- aH.length ds r];exact ej,?_⟩
       have hz:∀b∈a::fq,b∈fps.flatten:=fun b hb=>List.mem_flatten.mpr ⟨_,List.mem_of_getElem? h2,hb⟩
       have nf:=S.aB2 k3
       obtain ⟨fq',p1,p2,p3⟩:=set_own r nfp (aPa ej) w1 (o2.grow g3) n2 (fun z=>nf a z (hz a List.mem_cons_self)) fun b hb z=>nf b hb (hz b (List.mem_cons_of_mem _ z))
       refine eE.mut hh S (g2.trans g3) k3 eg h1 h2 List.mem_cons_self p1 p2 fun b hb=>?_
       rcases List.mem_cons.mp hb with rfl | hb
       ·exact .inl List.mem_cons_self
       ·exact (p3 b hb).imp_left fun z=>List.mem_cons_of_mem _ z
     ·rw [if_neg hc] at ek;cases ek
def aAn (d0:D) (k:Int) (x:D×Bool):Option D:=match d0 with
 | .lst true ds=>(ixN ds.length k).bind fun j=>(ds[j]?).bind fun dj=>(rX dj x).map fun d=>.lst true (ds.set j d)
 | _=>none
def iF (i:Nat) (h f:aQ):aX:=fun ρ=>match h ρ with
 | .ok (.int k,_)=>(match f ρ with
  | .ok x=>(match (getD ρ i).bind fun d=>aAn d k x with | some d=>.next (putD ρ i d) | none=>.bad)
  | .exc _=>.bad | .bad=>.bad)
 | .ok _=>.bad | .exc _=>.bad | .bad=>.bad
theorem aJ3 {ds:List D} {xs:List V} {fq:Y2} {a:Addr} {j:Nat} {dj:D} (r:aH K F H ds xs fq) (n:(a::fq).Nodup) (w1:F a=none) (w2:H a=some (.lst xs)) (hdj:ds[j]?=some dj) :
  ∃vj fj,xs[j]?=some vj/\Own K F H dj vj fj/\(∀b∈fj,b∈fq)/\fj.Nodup/\∀(b:Addr) (ys:List V) (dj':D) (fj' fu:Y2),b∈fj->Own K F (upd H b (.lst ys)) dj' vj fj'->fj'.Nodup->(∀c∈fj',c∈fj\/c∈fu)->(∀c∈fu,c ∉ a::fq) ->
   ∃fq',Own K F (upd H b (.lst ys)) (.lst true (ds.set j dj')) (.ref a) (a::fq')/\(a::fq').Nodup/\∀c∈fq',c∈fq\/c∈fu:=by
 obtain ⟨na,nq⟩:=List.nodup_cons.mp n
 obtain ⟨vj,fj,q1,q2,q3,q5,q4⟩:=aH.replace ds r nq hdj
 refine ⟨vj,fj,q1,q2,q3,q5,?_⟩
 ·intro b ys dj' fj' fu hb o nj k1 k2
  obtain ⟨fq',p1,p2,p3⟩:=q4 _ dj' vj fj' (fun c hc hn=>bF fun z=>hn (z ▸ hb)) o
  have hx:xs.set j vj=xs:=by
   apply List.ext_getElem?
   intro m
   by_cases hm:j=m
   ·subst hm;rw [q1,List.getElem?_set_self (List.getElem?_eq_some_iff.mp q1).1]
   ·rw [List.getElem?_set_ne hm]
  rw [hx] at p1
  have hab:a ≠ b:=fun z=>na (q3 a (z ▸ hb))
  have k:∀c∈fq',c∈fq\/c∈fu:=fun c hc=>by
   rcases p2 c hc with q | q
   ·exact (k1 c q).imp_left (q3 c)
   ·exact .inl q.1
  refine ⟨fq',Own.closed p1 w1 (by rw [bF hab];exact w2),List.nodup_cons.mpr ⟨fun z=>?_,p3 nj fun c hc=>(k1 c hc).imp_right fun q z=>k2 c q (List.mem_cons_of_mem _ z)⟩,k⟩
  rcases k a z with q | q
  ·exact na q
  ·exact k2 a q List.mem_cons_self
theorem aK8 {α:Type} {xs:List α} {k:Int} {j:Nat} {v:α} (e:ixN xs.length k=some j) (h:xs[j]?=some v):atI xs k=some v:=by
 unfold atI;rw [e];exact h
theorem aBu {i:Nat} {h f:aQ} (hh:sv K W (iF i h f) D' σ H):aBa (tBM K "list" zT (tOp (aP8 K) (yK i) (tv K h)) (rS (tv K f) aDg)) D' σ H:=by
 obtain ⟨ρ,F,fps,S,hh⟩:=hh
 unfold iF at hh
 cases eh:h ρ with
 | exc _=>rw [eh] at hh;exact hh.elim
 | bad=>rw [eh] at hh;exact hh.elim
 | ok y =>
  rw [eh] at hh
  obtain ⟨y,by'⟩:=y
  cases y<;>try exact hh.elim
  rename_i k
  dsimp only at hh
  cases ef:f ρ with
  | exc _=>rw [ef] at hh;exact hh.elim
  | bad=>rw [ef] at hh;exact hh.elim
  | ok x =>
   rw [ef] at hh
   dsimp only at hh
   cases eg:getD ρ i with
   | none=>rw [eg] at hh;exact hh.elim
   | some d0 =>
    rw [eg] at hh
    dsimp only [Option.bind] at hh
    cases ek:aAn d0 k x with
    | none=>rw [ek] at hh;exact hh.elim
    | some d1 =>
     rw [ek] at hh
     unfold aAn at ek
     split at ek<;>try cases ek
     rename_i ds
     cases ej:ixN ds.length k with
     | none=>rw [ej] at ek;cases ek
     | some j =>
      rw [ej] at ek
      dsimp only [Option.bind] at ek
      cases edj:ds[j]? with
      | none=>rw [edj] at ek;cases ek
      | some dj =>
       rw [edj] at ek
       dsimp only at ek
       cases ea:rX dj x with
       | none=>rw [ea] at ek;cases ek
       | some dn =>
        rw [ea] at ek;cases ek
        unfold rX at ea
        split at ea<;>try cases ea
        rename_i es
        by_cases hc:(aU x && decide (es.length<1000000))=true
        ·rw [if_pos hc] at ea;cases ea
         rw [Bool.and_eq_true,decide_eq_true_iff] at hc
         obtain ⟨v,fp,h1,h2,h3⟩:=S.get eg
         refine ⟨v,h1,ρ,F,fps,S,?_⟩
         rw [eh]
         intro w F2 H2 fw g2 o2 n2 k2
         unfold Own at o2
         obtain ⟨a,xs,fq,ev,r,w1,w2,w3⟩:=Own.opened (h3.grow g2)
         subst ev;subst w3
         have nfp:=S.sub h2
         have S2:=S.grow g2
         obtain ⟨vj,fj,q1,q2,q3,q5,q4⟩:=aJ3 r nfp w1 w2 edj
         obtain ⟨b,ys,fr,eb,rb,b1,b2,b3⟩:=Own.opened q2
         subst eb;subst b3
         refine ⟨a,xs,k,.ref b,rfl,o2.1,SqL.of w2,aK8 (by rw [<- aH.length ds r];exact ej) q1,.inl ⟨rfl,ys,SqL.of b2⟩,ρ,F2,fps,S2,?_⟩
         rw [ef]
         intro u F3 H3 fu g3 o3 n3 k3
         have k3:=qA hc.1 o3 k3
         have nf:=S2.aB2 k3
         have hz:∀c∈a::fq,c∈fps.flatten:=fun c hb=>List.mem_flatten.mpr ⟨_,List.mem_of_getElem? h2,hb⟩
         obtain ⟨vj',fj',p1,p2,p3,p5,p4⟩:=aJ3 (r.grow g3) nfp ((S2.grow g3).zone1 h2 List.mem_cons_self) (g3.all _ _ w2) edj
         have evj:vj'=.ref b:=by rw [q1] at p1;exact (Option.some.inj p1).symm
         subst evj
         obtain ⟨b',ys',fr',eb',rb',b1',b2',b3'⟩:=Own.opened p2
         cases eb'
         subst b3'
         have eys:ys'=ys:=by
          have:=g3.all _ _ b2
          rw [b2'] at this
          cases this;rfl
         subst eys
         have nfj:=List.nodup_cons.mp p5
         have hb0:b∈fq:=p3 b List.mem_cons_self
         have hbu:b ∉ fu:=fun z=>nf b z (hz b (List.mem_cons_of_mem _ hb0))
         refine ⟨b,ys',u,rfl,rfl,b2',sM (by rw [<- aH.length es rb'];exact hc.2),?_⟩
         have rb2:aH K F3 (upd H3 b (.lst (ys' ++ [u]))) (es ++ [x.1]) (ys' ++ [u]) (fr'++fu):=aH.append es (rb'.other nfj.1) (aH.one (o3.other hbu))
         have hn:(b::(fr'++fu)).Nodup:=by
          refine List.nodup_cons.mpr ⟨fun z=>(List.mem_append.mp z).elim nfj.1 hbu,List.nodup_append.mpr ⟨nfj.2,n3,fun p hp q hq z=>?_⟩⟩
          subst z
          exact nf p hq (hz p (List.mem_cons_of_mem _ (p3 p (List.mem_cons_of_mem _ hp))))
         obtain ⟨fq',s1,s2,s3⟩:=p4 b (ys' ++ [u]) (.lst true (es ++ [x.1])) (b::(fr'++fu)) fu List.mem_cons_self (Own.closed rb2 b1' bU) hn (fun c hc=>by
          rcases List.mem_cons.mp hc with rfl | hc
          ·exact .inl List.mem_cons_self
          ·exact (List.mem_append.mp hc).imp_left fun z=>List.mem_cons_of_mem _ z) fun c hc z=>nf c hc (hz c z)
         refine eE.mut (fu:=fu) hh S (g2.trans g3) (fun c hc=>g2.all.free (k3 c hc)) eg h1 h2 (List.mem_cons_of_mem _ hb0) s1 s2 fun c hc=>?_
         rcases List.mem_cons.mp hc with rfl | hc
         ·exact .inl List.mem_cons_self
         ·exact (s3 c hc).imp_left fun z=>List.mem_cons_of_mem _ z
        ·rw [if_neg hc] at ea;cases ea
def frz1 (ρ:Env) (i:Nat):Env:=match getD ρ i with | some d=>putD ρ i d.frz | none=>ρ
def nO (is:T0) (g:aX):aX:=fun ρ=>g (is.foldl frz1 ρ)
theorem Sim.frz1 {fps:Y5} (S:Sim K F H σ ρ fps) (i:Nat):∃F' fps',Sim K F' H σ (VL.frz1 ρ i) fps'/\Evo F H fps.flatten F' H fps'.flatten/\lR ρ (VL.frz1 ρ i):=by
 unfold VL.frz1
 cases e:getD ρ i with
 | none=>exact ⟨F,fps,S,.refl,lR.refl _⟩
 | some d =>
  obtain ⟨v,fp,h1,h2,h3⟩:=S.get e
  have hz:∀b∈fp,b∈fps.flatten:=fun b hb=>List.mem_flatten.mpr ⟨_,List.mem_of_getElem? h2,hb⟩
  have z:∀b∈fp,F b=none:=fun b hb=>(S.zone b (hz b hb)).1
  have hsub:∀b∈(fps.set i []).flatten,b∈fps.flatten/\b ∉ fp:=by
   intro b hb
   refine ⟨(bM hb).elim id (fun q=>by cases q),fun q=>?_⟩
   obtain ⟨l,hl,hbl⟩:=List.mem_flatten.mp hb
   obtain ⟨j,hj⟩:=List.mem_iff_getElem?.mp hl
   by_cases hij:i=j
   ·subst hij
    rw [List.getElem?_set_self (List.getElem?_eq_some_iff.mp h2).1] at hj;cases hj;cases hbl
   ·rw [List.getElem?_set_ne hij] at hj
    exact apart S.nd h2 hj hij q hbl
  refine ⟨fK F H fp,fps.set i [],⟨pB S.same,by rw [gK];exact S.ls,by rw [gK,List.length_set];exact S.lf,fun j s c e1 e2=>?_,eB S.nd h2 List.nodup_nil (fun b hb=>by cases hb),fun b hb=>?_⟩,⟨fM z,fun _ _ e _=>e,fun _ e=>e,fun b o e=>?_,fun b hb=>.inl (hsub b hb).1⟩,vE⟩
  ·rcases tJ e1 e2 (by rw [e];rfl) with ⟨rfl,rfl⟩ | ⟨hj,e3⟩
   ·exact ⟨v,[],h1,List.getElem?_set_self (List.getElem?_eq_some_iff.mp h2).1,Own.freeze z d (fun a ha=>ha) h3⟩
   ·obtain ⟨w,f,q1,q2,q3⟩:=S.at_ j s c e3 e2
    refine ⟨w,f,q1,by rw [List.getElem?_set_ne hj];exact q2,Own.keep (fM z) c (fun a ha=>⟨?_,rfl⟩) q3⟩
    unfold fK
    rw [if_neg fun q=>apart S.nd h2 q2 hj q ha]
    exact (Own.zone c q3 a ha).1
  ·obtain ⟨q1,q2⟩:=hsub b hb
   refine ⟨?_,(S.zone b q1).2⟩
   unfold fK;rw [if_neg q2];exact (S.zone b q1).1
  ·unfold fK at e
   split at e
   ·rename_i hb;exact .inr (.inr (hz b hb))
   ·exact .inl e
theorem Sim.frzs (is:T0):∀ {ρ:Env} {F:Hp} {fps:Y5},Sim K F H σ ρ fps->∃F' fps',Sim K F' H σ (is.foldl VL.frz1 ρ) fps'/\Evo F H fps.flatten F' H fps'.flatten/\lR ρ (is.foldl VL.frz1 ρ):=by
 induction is with
 | nil=>intro ρ F fps S;exact ⟨F,fps,S,.refl,lR.refl _⟩
 | cons i is ih =>
  intro ρ F fps S
  obtain ⟨F1,fps1,S1,e1,p1⟩:=S.frz1 i
  obtain ⟨F2,fps2,S2,e2,p2⟩:=ih S1
  exact ⟨F2,fps2,S2,e1.trans e2,p1.trans p2⟩
theorem aRt {is:T0} {g:aX} (h:sv K W (nO is g) D' σ H):sv K W g D' σ H:=by
 obtain ⟨ρ,F,fps,S,h⟩:=h
 obtain ⟨F1,fps1,S1,e1,p1⟩:=Sim.frzs is S
 exact ⟨_,F1,fps1,S1,cT.lift e1 p1.pins h⟩
def gT (i:Nat):aX:=fun ρ=>match ρ[i]? with
 | some (.val d)=>.ret d (ρ.set i .un) | some (.pin d)=>if d.calm then .ret d ρ else .bad | _=>.bad
theorem aLr {i:Nat} (h:sv K W (gT i) D' σ H):aRr (yK i) D' σ H:=by
 obtain ⟨ρ,F,fps,S,h⟩:=h
 unfold gT at h
 cases e:ρ[i]? with
 | none=>rw [e] at h;exact h.elim
 | some s =>
  rw [e] at h
  cases s with
  | un=>exact h.elim
  | pin d =>
   have h:cT K W F H fps.flatten ρ σ D' (if d.calm=true then .ret d ρ else .bad):=h
   by_cases hc:d.calm=true
   ·rw [if_pos hc] at h
    obtain ⟨v,fp,h1,h2,h3⟩:=S.at_ i _ d e rfl
    have:=Own.eD d hc h3
    subst this
    exact ⟨v,h1,h v σ F H fps [] .refl S (fX.refl _ _) h3 List.nodup_nil fun b hb=>by cases hb⟩
   ·rw [if_neg hc] at h;exact h.elim
  | val d =>
   obtain ⟨v,fp,h1,h2,h3⟩:=S.at_ i _ d e rfl
   have hz:∀b∈fp,b∈fps.flatten:=fun b hb=>List.mem_flatten.mpr ⟨_,List.mem_of_getElem? h2,hb⟩
   have hlt:i < ρ.length:=(List.getElem?_eq_some_iff.mp e).1
   have hsub:∀b∈(fps.set i []).flatten,b∈fps.flatten/\b ∉ fp:=by
    intro b hb
    refine ⟨(bM hb).elim id (fun q=>by cases q),fun q=>?_⟩
    obtain ⟨l,hl,hbl⟩:=List.mem_flatten.mp hb
    obtain ⟨j,hj⟩:=List.mem_iff_getElem?.mp hl
    by_cases hij:i=j
    ·subst hij
     rw [List.getElem?_set_self (List.getElem?_eq_some_iff.mp h2).1] at hj;cases hj;cases hbl
    ·rw [List.getElem?_set_ne hij] at hj
     exact apart S.nd h2 hj hij q hbl
   refine ⟨v,h1,h v σ F H (fps.set i []) fp ⟨bD.refl _,fun _ _ e _=>e,fun _ e=>e,fun _ _ e=>.inl e,fun b hb=>.inl (hsub b hb).1⟩ ⟨S.same,by simp [S.ls],by simp [S.lf],fun j s c e1 e2=>?_,eB S.nd h2 List.nodup_nil (fun b hb=>by cases hb),fun b hb=>S.zone b (hsub b hb).1⟩ (fun j c e1=>?_) h3 (S.sub h2) fun b hb=>⟨fun q=>(hsub b q).2 hb,.inl (hz b hb)⟩⟩
   ·by_cases hij:i=j
    ·subst hij
     rw [List.getElem?_set_self hlt] at e1;cases e1;cases e2
    ·rw [List.getElem?_set_ne hij] at e1
     obtain ⟨w,f,q1,q2,q3⟩:=S.at_ j s c e1 e2
     exact ⟨w,f,q1,by rw [List.getElem?_set_ne hij];exact q2,q3⟩
   ·have hij:i ≠ j:=by rintro rfl;rw [e] at e1;cases e1
    exact ⟨⟨c,by rw [List.getElem?_set_ne hij];exact e1⟩,rfl⟩
def uH (i:Nat) (op:Int->Int->Int) (f:aQ):aX:=fun ρ=>match getD ρ i with
 | some (.int a)=>(match f ρ with
  | .ok (.int b,_)=>if free ρ i then .next (ρ.set i (.val (.int (op a b)))) else .bad
  | .ok _=>.bad | .exc _=>.bad | .bad=>.bad)
 | _=>.bad
theorem aO4 {i:Nat} {op:Int->Int->Int} {f:aQ} (h:sv K W (uH i op f) D' σ H):aTr i (tv K f) (ipI op) D' σ H:=by
 obtain ⟨ρ,F,fps,S,h⟩:=h
 unfold uH at h
 cases eg:getD ρ i with
 | none=>rw [eg] at h;exact h.elim
 | some d =>
  rw [eg] at h
  cases d<;>try exact h.elim
  rename_i a
  obtain ⟨v,fp,h1,h2,h3⟩:=S.get eg
  unfold Own at h3
  refine ⟨v,h1,ρ,F,fps,S,?_⟩
  dsimp only at h
  cases ef:f ρ with
  | exc _=>rw [ef] at h;exact h.elim
  | bad=>rw [ef] at h;exact h.elim
  | ok y =>
   rw [ef] at h
   obtain ⟨y,by'⟩:=y
   cases y<;>try exact h.elim
   rename_i b
   intro u F1 H1 fu g1 o1 n1 k1
   unfold Own at o1
   refine ⟨a,b,h3.1,o1.1,?_⟩
   have h:cT K W F H fps.flatten ρ σ D' (if free ρ i=true then .next (ρ.set i (.val (.int (op a b)))) else .bad):=h
   by_cases hc:free ρ i=true
   ·rw [if_pos hc] at h
    have S1:=(S.grow g1).store (i:=i) (eO (K:=K) (F:=F1) (H:=H1) (d:=.int (op a b)) rfl) List.nodup_nil fun b hb=>by cases hb
    exact h _ F1 H1 _ (sT (g1.evo (Z:=fps.flatten)) fun b hb=>by cases hb) S1 (kE hc)
   ·rw [if_neg hc] at h;exact h.elim
end
end VL
end
section
namespace VL
open PySem L2
section
variable {K:FG} {W:XW} {F H F' H' F1 H1:Hp} {Z Z' Z1:Y2} {σ σ1:St} {ρ ρ1:Env} {D':Ends}
abbrev Fn:=List D->R (D×List D)
def aCp (K:FG) (F H:Hp) (ds:List D) (vs:List V) (fps:Y5):Prop :=
 ds.length=vs.length/\fps.length=ds.length/\∀(i:Nat) (d:D),ds[i]?=some d->∃v fp,vs[i]?=some v/\fps[i]?=some fp/\Own K F H d v fp
def aT9 (K:FG) (F H:Hp) (vs:List V) (Z:Y2) (Q:VK) (x:D×List D):Prop :=
 ∀r F' H' fps' fr,Evo F H Z F' H' fps'.flatten->bD F' H'->aCp K F' H' x.2 vs fps'->fps'.flatten.Nodup->Own K F' H' x.1 r fr->fr.Nodup->(∀b∈fr,b ∉ fps'.flatten/\(b∈Z\/H b=none))->Q r H'
def xR (K:FG) (c:Str) (C:Addr):Prop:=PySem.W.nsIn K mainGlobals c=some (some (.ref C))
def FX (K:FG) (F H:Hp) (Z:Y2) (E:XK) (c:Str):Prop :=
 ∀F' H' Z',Evo F H Z F' H' Z'->bD F' H'->∀C,xR K c C->E (.ref C) none H'
def wOf (K:FG) (E:XK):XW:=fun c _ H'=>∀C,xR K c C->E (.ref C) none H'
def spV (K:FG) (n:Nat) (fn:Fn):Sp:=fun vs H Q E=>vs.length=n/\∃F ds fps,bD F H/\aCp K F H ds vs fps/\fps.flatten.Nodup/\(∀b∈fps.flatten,F b=none/\H b ≠ none)/\(fn ds).hx (aT9 K F H vs fps.flatten Q) (FX K F H fps.flatten E)
def entry (n:Nat) (ds:List D):Env:=ds.map (fun d=>if d.calm then Slot.val d else .pin d)++List.replicate (n - ds.length) .un
def outs:List D->Env->List D
 | [],_=>[]
 | d::ds,s::ρ=>(if d.calm then d else match s with | .pin d'=>d' | _=>d)::outs ds ρ
 | d::ds,[]=>d::outs ds []
def fnOf (n:Nat) (body:aX):Fn:=fun ds=>match body (entry n ds) with
 | .ret d ρ'=>.ok (d,outs ds ρ') | .next ρ'=>.ok (.non,outs ds ρ') | .exc c _=>.exc c | _=>.bad
theorem tN:∀(ds:List D) (ρ:Env) (i:Nat) (d:D),(outs ds ρ)[i]?=some d->∃c,ds[i]?=some c/\d=(if c.calm then c else match ρ[i]? with | some (.pin d')=>d' | _=>c)
 | [],_,_,_,e=>by simp [outs] at e
 | c::ds,s::ρ,0,d,e=>by
  simp [outs] at e
  refine ⟨c,rfl,?_⟩
  subst e
  cases c.calm<;>cases s<;>rfl
 | c::ds,s::ρ,i+1,d,e=>by
  simp [outs] at e
  obtain ⟨c',h1,h2⟩:=tN ds ρ i d e
  exact ⟨c',by simpa using h1,by simpa using h2⟩
 | c::ds,[],0,d,e=>by
  simp [outs] at e
  refine ⟨c,rfl,?_⟩
  subst e
  cases c.calm<;>rfl
 | c::ds,[],i+1,d,e=>by
  simp [outs] at e
  obtain ⟨c',h1,h2⟩:=tN ds [] i d e
  exact ⟨c',by simpa using h1,by simpa using h2⟩
theorem oZ:∀(ds:List D) (ρ:Env),(outs ds ρ).length=ds.length
 | [],_=>rfl
 | d::ds,s::ρ=>by simp [outs,oZ ds ρ]
 | d::ds,[]=>by simp [outs,oZ ds []]
theorem entry_get {n:Nat} {ds:List D} {i:Nat} {s:Slot} {d:D} (e:(entry n ds)[i]?=some s) (e2:s.d?=some d):ds[i]?=some d/\(s=if d.calm then Slot.val d else .pin d):=by
 unfold entry at e
 by_cases hi:i<ds.length
 ·rw [List.getElem?_append_left (by simpa using hi),List.getElem?_map] at e
  rw [List.getElem?_eq_getElem hi] at e ⊢
  have e:(if (ds[i]).calm=true then Slot.val ds[i] else .pin ds[i])=s:=Option.some.inj e
  subst e
  cases hc:(ds[i]).calm
  ·rw [hc] at e2;cases e2;exact ⟨rfl,by rw [hc]⟩
  ·rw [hc] at e2;cases e2;exact ⟨rfl,by rw [hc]⟩
 ·rw [List.getElem?_append_right (by simpa using hi),List.getElem?_replicate] at e
  split at e
  ·cases e;cases e2
  ·cases e
theorem aCp.sim {n:Nat} {N:List Str} {ds:List D} {vs:List V} {fps:Y5} (hN:N.length=n) (hn:vs.length<=n) (hs:bD F H) (o:aCp K F H ds vs fps) (nd:fps.flatten.Nodup) (zo:∀b∈fps.flatten,F b=none/\H b ≠ none) :
  Sim K F H (L2.start N vs) (entry n ds) (fps++List.replicate (n - ds.length) []):=by
 obtain ⟨l1,l2,h⟩:=o
 have hfl:(fps++List.replicate (n - ds.length) ([]:Y2)).flatten=fps.flatten:=by simp
 refine ⟨hs,?_,?_,fun i s d e1 e2=>?_,by rw [hfl];exact nd,fun b hb=>by rw [hfl] at hb;exact zo b hb⟩
 ·unfold L2.start entry;simp;omega
 ·unfold entry;simp;omega
 ·obtain ⟨e3,_⟩:=entry_get e1 e2
  obtain ⟨v,fp,q1,q2,q3⟩:=h i d e3
  have hi:i<vs.length:=(List.getElem?_eq_some_iff.mp q1).1
  refine ⟨v,fp,?_,?_,q3⟩
  ·unfold L2.start
   rw [List.getElem?_append_left (by simpa using hi),List.getElem?_map,q1];rfl
  ·rw [List.getElem?_append_left (by omega)];exact q2
theorem aIj {n:Nat} {N:List Str} {ds:List D} {vs:List V} {fps fps':Y5} {σ':St} {ρ':Env} (hn:vs.length<=n) (o:aCp K F H ds vs fps)
  (ev:Evo F H fps.flatten F' H' fps'.flatten) (S:Sim K F' H' σ' ρ' fps') (p:fX (entry n ds) (L2.start N vs) ρ' σ') :
  ∃fps2,aCp K F' H' (outs ds ρ') vs fps2/\fps2.flatten.Sublist fps'.flatten:=by
 obtain ⟨l1,l2,h⟩:=o
 have pick:∀(k:Nat),k<=ds.length->∃fps2:Y5,fps2.length=k/\fps2.flatten.Sublist (fps'.take k).flatten/\∀(i:Nat) (c:D),i<k->ds[i]?=some c->fps2[i]?=some (if c.calm then [] else (fps'[i]?).getD []):=by
  intro k
  induction k with
  | zero=>intro _;exact ⟨[],rfl,by simp,fun i c hi=>by omega⟩
  | succ k ih =>
   intro hk
   obtain ⟨f2,e1,e2,e3⟩:=ih (by omega)
   obtain ⟨c,hc⟩:∃c,ds[k]?=some c:=⟨ds[k],by simp⟩
   refine ⟨f2 ++ [if c.calm then [] else (fps'[k]?).getD []],by simp [e1],?_,fun i c' hi hc'=>?_⟩
   ·rw [List.flatten_append,List.take_add_one,List.flatten_append]
    refine List.Sublist.append e2 ?_
    cases hcc:c.calm
    ·cases q:fps'[k]?<;>simp
    ·simp
   ·by_cases hik:i<k
    ·rw [List.getElem?_append_left (by omega)];exact e3 i c' hik hc'
    ·have:i=k:=by omega
     subst this
     rw [hc] at hc';cases hc'
     rw [List.getElem?_append_right (by omega),e1];simp
 obtain ⟨f2,e1,e2,e3⟩:=pick ds.length (Nat.le_refl _)
 refine ⟨f2,⟨by rw [oZ];exact l1,by rw [oZ];exact e1,fun i d hd=>?_⟩,e2.trans ?_⟩
 ·obtain ⟨c,hc,hd2⟩:=tN ds ρ' i d hd
  obtain ⟨v,fp,q1,q2,q3⟩:=h i c hc
  have hi:i<ds.length:=(List.getElem?_eq_some_iff.mp hc).1
  refine ⟨v,_,q1,e3 i c hi hc,?_⟩
  cases hcc:c.calm with
  | true =>
   rw [hcc] at hd2
   simp only [if_true] at hd2 ⊢
   subst hd2
   have:=Own.eD d hcc q3
   subst this
   exact Own.keep ev.fr d (fun a ha=>by cases ha) q3
  | false =>
   rw [hcc] at hd2
   have en:(entry n ds)[i]?=some (.pin c):=by
    unfold entry
    rw [List.getElem?_append_left (by simpa using hi),List.getElem?_map,hc]
    show some (if c.calm=true then Slot.val c else .pin c)=_
    rw [hcc];rfl
   obtain ⟨⟨d',hp⟩,es⟩:=p i c en
   rw [hp] at hd2
   simp only [Bool.false_eq_true,if_false] at hd2 ⊢
   subst hd2
   obtain ⟨w,f,s1,s2,s3⟩:=S.at_ i _ d hp rfl
   rw [s2]
   have ew:(L2.start N vs)[i]?=some (some v):=by
    unfold L2.start
    have hiv:i<vs.length:=(List.getElem?_eq_some_iff.mp q1).1
    rw [List.getElem?_append_left (by simpa using hiv),List.getElem?_map,q1];rfl
   rw [es,ew] at s1
   cases s1
   exact s3
 ·have e:fps'.flatten=(fps'.take ds.length).flatten++(fps'.drop ds.length).flatten:=by rw [<- List.flatten_append,List.take_append_drop]
  rw [e];exact List.sublist_append_left _ _
theorem aNw {n:Nat} {N:List Str} {body:aX} {vs:List V} {k:Nat} {Q:VK} {E:XK} (hN:N.length=n) (hk:k<=n) (h:spV K k (fnOf n body) vs H Q E):sv K (wOf K E) body { nx:=fun _ H'=>Q .non H',rt:=Q } (L2.start N vs) H:=by
 obtain ⟨lk,F,ds,fps,hs,o,nd,zo,h⟩:=h
 have hn:vs.length<=n:=by omega
 have hfl:(fps++List.replicate (n - ds.length) ([]:Y2)).flatten=fps.flatten:=by simp
 refine ⟨entry n ds,F,_,o.sim hN hn hs nd zo,?_⟩
 rw [hfl]
 unfold fnOf at h
 cases e:body (entry n ds) with
 | next ρ' =>
  rw [e] at h
  intro σ' F' H' fps' ev S p
  obtain ⟨f2,o2,sb⟩:=aIj hn o ev S p
  have hz:∀b∈f2.flatten,b∈fps'.flatten:=fun b hb=>sb.subset hb
  exact h .non F' H' f2 [] ⟨ev.fr,ev.keep,ev.dom,ev.new,fun b hb=>ev.zone b (hz b hb)⟩ S.same o2 (sb.nodup S.nd) (eO rfl) List.nodup_nil fun b hb=>by cases hb
 | ret d ρ' =>
  rw [e] at h
  intro r σ' F' H' fps' fr ev S p od nr kr
  obtain ⟨f2,o2,sb⟩:=aIj hn o ev S p
  have hz:∀b∈f2.flatten,b∈fps'.flatten:=fun b hb=>sb.subset hb
  exact h r F' H' f2 fr ⟨ev.fr,ev.keep,ev.dom,ev.new,fun b hb=>ev.zone b (hz b hb)⟩ S.same o2 (sb.nodup S.nd) od nr fun b hb=>⟨fun z=>(kr b hb).1 (hz b z),(kr b hb).2⟩
 | brk _=>rw [e] at h;exact h.elim
 | cont _=>rw [e] at h;exact h.elim
 | exc c ρ' =>
  rw [e] at h
  exact fun σ' F' H' fps' ev S p=>h F' H' fps'.flatten ev S.same
 | bad=>rw [e] at h;exact h.elim
theorem Args.ice:∀(xs:List (D×Bool)) {vs:List V} {fa:Y2},Args K F H xs vs fa->∃U:Y2,(∀b∈U,F b=none)/\(xs.all aU=true->∀b∈U,b∈fa)/\∀U':Y2,(∀b∈U,b∈U')->(∀b∈U',F b=none)->aH K (fK F H U') H (D.frzs (xs.map (·.1))) vs []
 | [],vs,fa,h=>by
  unfold Args at h
  refine ⟨[],by simp,by simp,fun U' _ _=>?_⟩
  rw [h.1];exact aH.nil
 | x::xs,vs,fa,h=>by
  unfold Args at h
  obtain ⟨v,r,fp,f2,e,o,n,t,w⟩:=h
  obtain ⟨U,u1,u2,u3⟩:=Args.ice xs t
  refine ⟨fp++U,fun b hb=>(List.mem_append.mp hb).elim (fun z=>(Own.zone x.1 o b z).1) (u1 b),fun hk b hb=>?_,fun U' s1 s2=>?_⟩
  ·rw [List.all_cons,Bool.and_eq_true] at hk
   have k2:=u2 hk.2
   rcases w with ⟨_,w⟩ | ⟨e2,w⟩
   ·subst w
    exact (List.mem_append.mp hb).elim (fun z=>List.mem_append_left _ z) fun z=>List.mem_append_right _ (k2 b z)
   ·subst w
    have hc:x.1.calm=true:=by have:=hk.1;unfold aU at this;rw [e2] at this;exact this
    rw [Own.eD x.1 hc o] at hb
    exact k2 b hb
  ·rw [e,List.map_cons,D.frzs]
   have a:=Own.freeze s2 x.1 (fun b hb=>s1 b (List.mem_append_left _ hb)) o
   have b:=u3 U' (fun b hb=>s1 b (List.mem_append_right _ hb)) s2
   exact aH.cons a b
theorem nV {ds:List D} {vs:List V} (o:aH K F H ds vs []):aCp K F H ds vs (List.replicate ds.length []):=by
 refine ⟨aH.length ds o,by simp,fun i d hd=>?_⟩
 obtain ⟨v,f,q1,q2,q3⟩:=aH.get ds o hd
 have:f=[]:=List.sublist_nil.mp q3
 subst this
 exact ⟨v,[],q1,by rw [List.getElem?_replicate,if_pos (List.getElem?_eq_some_iff.mp hd).1],q2⟩
def isScal (d:D):Bool:=(iX d).isSome
def bB (fn:Fn) (g:dI):aQ:=fun ρ=>(g ρ).bind fun xs=>(fn (D.frzs (xs.map (·.1)))).bind fun y=>if xs.all aU || isScal y.1 then .ok (y.1,true) else .bad
theorem aLm {fn:Fn} {g:dI} {n:Nat} {Q:VK} (hl:∀ρ xs,g ρ=.ok xs->xs.length=n) (h:tv K (bB fn g) σ H Q):aH9 (spV K n fn) [] E0 (tvA K g) σ H Q:=by
 obtain ⟨ρ,F,fps,S,h⟩:=h
 unfold bB at h
 refine ⟨ρ,F,fps,S,?_⟩
 cases eg:g ρ with
 | exc _=>rw [eg] at h;exact h.elim
 | bad=>rw [eg] at h;exact h.elim
 | ok xs =>
  rw [eg] at h
  have h:=R.aO.mp h
  have h:=R.aO.mp (show ((fn (D.frzs (xs.map (·.1)))).bind _).holds _ from h)
  intro vs F1 H1 fa g1 a1 n1 k1
  obtain ⟨U,u1,u2,u3⟩:=Args.ice xs a1
  have o:=u3 U (fun b hb=>hb) u1
  have len:vs.length=n:=by rw [<- Args.length xs a1];exact hl ρ xs eg
  rw [List.append_nil]
  refine ⟨len,fK F1 H1 U,_,_,pB g1.inn,nV o,by simp,by simp,R.aOm (R.aM h fun y hy r F2 H2 fps2 fr ev hs2 o2 nd2 or nr kr=>?_)⟩
  have same:bD H1 H2:=fun b o e=>ev.keep b o e (by simp)
  by_cases hk:xs.all aU=true
  ·have hfa:=u2 hk
   rw [hk,Bool.true_or,if_pos rfl] at hy
   have gU:Grow F H (fK F1 H1 U) H1:=g1.frz (fun b hb=>k1 b (hfa b hb)) u1
   have g2:Grow (fK F1 H1 U) H1 F2 H2:=⟨ev.fr,same,hs2,fun b o e=>(ev.new b o e).elim .inl fun q=>q.elim .inr fun q=>by simp at q⟩
   refine hy r F2 H2 fr (gU.trans g2) or nr fun _ b hb=>?_
   rcases (kr b hb).2 with q | q
   ·simp at q
   ·exact g1.all.free q
  ·by_cases hsc:isScal y.1=true
   ·rw [hsc,Bool.or_true,if_pos rfl] at hy
    unfold isScal at hsc
    cases es:iX y.1 with
    | none=>rw [es] at hsc;cases hsc
    | some v =>
     obtain ⟨e1,e2⟩:=yY es or
     subst e1
     have gS:Grow F1 H1 F1 H2:=⟨bD.refl _,same,g1.inn.trans same,fun _ _ e=>.inl e⟩
     exact EPost.eL (g1.trans gS) hy es
   ·have:(xs.all aU || isScal y.1)=false:=by
     rw [Bool.eq_false_iff];intro z
     rcases Bool.or_eq_true _ _ ▸ z with z | z
     ·exact hk z
     ·exact hsc z
    rw [this] at hy;exact hy.elim
def wE (K:FG) (W:XW) (σ:St):XK:=fun v _ H'=>∃c C,v=.ref C/\xR K c C/\W c σ H'
def aIp (sp:Sp) (E:St->XK) (t:TA):TE:=fun σ H Q=>t σ H fun vs H1=>sp (vs ++ []) H1 Q (E σ)
def fY (fn:Fn) (g:dI):mP:=fun ρ=>match g ρ with
 | .ok xs=>(match fn (D.frzs (xs.map (·.1))) with
  | .ok y=>if xs.all aU || isScal y.1 then .ok (y.1,true,ρ) else .bad
  | .exc c=>.exc c | .bad=>.bad)
 | _=>.bad
theorem aLa {fn:Fn} {g:dI} {n:Nat} {Q:VK} (hl:∀ρ xs,g ρ=.ok xs->xs.length=n) (h:tx K W (fY fn g) σ H Q):aIp (spV K n fn) (wE K W) (tvA K g) σ H Q:=by
 obtain ⟨ρ,F,fps,S,h⟩:=h
 unfold fY at h
 refine ⟨ρ,F,fps,S,?_⟩
 cases eg:g ρ with
 | exc _=>rw [eg] at h;exact h.elim
 | bad=>rw [eg] at h;exact h.elim
 | ok xs =>
  rw [eg] at h
  dsimp only at h
  intro vs F1 H1 fa g1 a1 n1 k1
  obtain ⟨U,u1,u2,u3⟩:=Args.ice xs a1
  have o:=u3 U (fun b hb=>hb) u1
  have len:vs.length=n:=by rw [<- Args.length xs a1];exact hl ρ xs eg
  rw [List.append_nil]
  refine ⟨len,fK F1 H1 U,_,_,pB g1.inn,nV o,by simp,by simp,?_⟩
  cases ef:fn (D.frzs (xs.map (·.1))) with
  | bad=>rw [ef] at h;exact h.elim
  | exc c =>
   rw [ef] at h
   have h:eE K F H fps.flatten ρ σ (W c) ρ:=h
   intro F2 H2 Z2 ev hs2 C hC
   have same:bD H1 H2:=fun b o e=>ev.keep b o e (by simp)
   have gS:Grow F1 H1 F1 H2:=⟨bD.refl _,same,g1.inn.trans same,fun _ _ e=>.inl e⟩
   exact ⟨c,C,rfl,hC,h σ F1 H2 fps (g1.trans gS).evo (S.grow (g1.trans gS)) (fX.refl _ _)⟩
  | ok y =>
   rw [ef] at h
   have h:((if (xs.all aU || isScal y.1)=true then R.ok (y.1,true,ρ) else R.bad):R (D×Bool×Env)).hx (tU K F H fps.flatten ρ σ Q) (fun c=>eE K F H fps.flatten ρ σ (W c) ρ):=h
   intro r F2 H2 fps2 fr ev hs2 o2 nd2 or nr kr
   have same:bD H1 H2:=fun b o e=>ev.keep b o e (by simp)
   by_cases hk:xs.all aU=true
   ·have hfa:=u2 hk
    rw [hk,Bool.true_or,if_pos rfl] at h
    have hy:tU K F H fps.flatten ρ σ Q (y.1,true,ρ):=h
    have gU:Grow F H (fK F1 H1 U) H1:=g1.frz (fun b hb=>k1 b (hfa b hb)) u1
    have g2:Grow (fK F1 H1 U) H1 F2 H2:=⟨ev.fr,same,hs2,fun b o e=>(ev.new b o e).elim .inl fun q=>q.elim .inr fun q=>by simp at q⟩
    have g3:=gU.trans g2
    refine hy r F2 H2 fps fr g3.evo (S.grow g3) (lR.refl _) or nr fun _ b hb=>?_
    have hn:H b=none:=by
     rcases (kr b hb).2 with q | q
     ·simp at q
     ·exact g1.all.free q
    exact ⟨fun hz=>(S.zone b hz).2 hn,.inr hn⟩
   ·by_cases hsc:isScal y.1=true
    ·rw [hsc,Bool.or_true,if_pos rfl] at h
     have hy:tU K F H fps.flatten ρ σ Q (y.1,true,ρ):=h
     unfold isScal at hsc
     cases es:iX y.1 with
     | none=>rw [es] at hsc;cases hsc
     | some v =>
      obtain ⟨e1,e2⟩:=yY es or
      subst e1
      have gS:Grow F1 H1 F1 H2:=⟨bD.refl _,same,g1.inn.trans same,fun _ _ e=>.inl e⟩
      exact hy _ F1 H2 fps [] (g1.trans gS).evo (S.grow (g1.trans gS)) (lR.refl _) (eO es) List.nodup_nil fun _ b hb=>by cases hb
    ·have:(xs.all aU || isScal y.1)=false:=by
      rw [Bool.eq_false_iff];intro z
      rcases Bool.or_eq_true _ _ ▸ z with z | z
      ·exact hk z
      ·exact hsc z
     rw [this] at h;exact h.elim
def oK:T0->TA
 | []=>aDg
 | i::is=>rS (yK i) (oK is)
def iK:T0->Env->Option (List D)
 | [],_=>some []
 | i::is,ρ=>(getD ρ i).bind fun d=>(iK is ρ).map (d::·)
def cP:T0->List D->List D->Env->Env
 | i::is,c::cs,d::ds,ρ=>cP is cs ds (if c.calm then ρ else putD ρ i d)
 | _,_,_,ρ=>ρ
def jO:T0->Bool
 | []=>true
 | i::is=>!is.contains i && jO is
def oN (fn:Fn) (is:T0):mP:=fun ρ=>match iK is ρ with
 | some ds=>if jO is then (match fn ds with | .ok y=>.ok (y.1,true,cP is ds y.2 ρ) | _=>.bad) else .bad
 | none=>.bad
theorem nodup_of_apart {L:Y5} (h1:∀(i:Nat) (f:Y2),L[i]?=some f->f.Nodup) (h2:∀(i j:Nat) (f g:Y2) (a:Addr),L[i]?=some f->L[j]?=some g->i ≠ j->a∈f->a ∉ g):L.flatten.Nodup:=by
 induction L with
 | nil=>simp
 | cons f r ih =>
  rw [List.flatten_cons]
  refine List.nodup_append.mpr ⟨h1 0 f rfl,ih (fun i g e=>h1 (i+1) g (by simpa using e)) (fun i j p q a e1 e2 ne=>h2 (i+1) (j+1) p q a (by simpa using e1) (by simpa using e2) (by omega)),fun a ha b hb z=>?_⟩
  subst z
  obtain ⟨l,hl,hal⟩:=List.mem_flatten.mp hb
  obtain ⟨j,hj⟩:=List.mem_iff_getElem?.mp hl
  exact h2 0 (j+1) f l a rfl (by simpa using hj) (by omega) ha hal
def fL:T0->List D->Y5->Y5->Y5
 | i::is,c::cs,f::fs,L=>fL is cs fs (if c.calm then L else L.set i f)
 | _,_,_,L=>L
theorem tM {i:Nat} {is:T0} (h:jO (i::is)=true):i ∉ is/\jO is=true:=by
 unfold jO at h
 rw [Bool.and_eq_true,Bool.not_eq_true'] at h
 refine ⟨fun z=>?_,h.2⟩
 have:=List.contains_iff_mem.mpr z
 rw [h.1] at this;cases this
theorem vN:∀(is:T0) {cs ds:List D} {ρ:Env} {j:Nat},j ∉ is->(cP is cs ds ρ)[j]?=ρ[j]?
 | [],_,_,_,_,_=>by unfold cP;rfl
 | i::is,[],_,_,_,_=>by unfold cP;rfl
 | i::is,c::cs,[],_,_,_=>by unfold cP;rfl
 | i::is,c::cs,d::ds,ρ,j,h=>by
  unfold cP
  rw [vN is fun z=>h (List.mem_cons_of_mem _ z)]
  split
  ·rfl
  ·have hij:i ≠ j:=fun z=>h (by rw [z];exact List.mem_cons_self)
   unfold putD
   split
   ·rw [List.getElem?_set_ne hij]
   ·rw [List.getElem?_set_ne hij]
   ·rfl
theorem xT:∀(is:T0) {cs:List D} {fs L:Y5} {j:Nat},j ∉ is->(fL is cs fs L)[j]?=L[j]?
 | [],_,_,_,_,_=>by unfold fL;rfl
 | i::is,[],_,_,_,_=>by unfold fL;rfl
 | i::is,c::cs,[],_,_,_=>by unfold fL;rfl
 | i::is,c::cs,d::ds,ρ,j,h=>by
  unfold fL
  rw [xT is fun z=>h (List.mem_cons_of_mem _ z)]
  split
  ·rfl
  ·have hij:i ≠ j:=fun z=>h (by rw [z];exact List.mem_cons_self)
   rw [List.getElem?_set_ne hij]
theorem vK:∀(is:T0) {cs ds:List D} {ρ:Env},(cP is cs ds ρ).length=ρ.length
 | [],_,_,_=>by unfold cP;rfl
 | i::is,[],_,_=>by unfold cP;rfl
 | i::is,c::cs,[],_=>by unfold cP;rfl
 | i::is,c::cs,d::ds,ρ=>by
  unfold cP
  rw [vK is]
  split
  ·rfl
  ·exact gK
theorem xF:∀(is:T0) {cs:List D} {fs L:Y5},(fL is cs fs L).length=L.length
 | [],_,_,_=>by unfold fL;rfl
 | i::is,[],_,_=>by unfold fL;rfl
 | i::is,c::cs,[],_=>by unfold fL;rfl
 | i::is,c::cs,d::ds,ρ=>by
  unfold fL
  rw [xF is]
  split
  ·rfl
  ·simp
theorem aBs:∀(is:T0) {cs ds:List D} {fs L:Y5} {ρ:Env} (j:Nat),jO is=true->cs.length=is.length->ds.length=is.length->fs.length=is.length->iK is ρ=some cs->L.length=ρ.length ->
  (∃(k:Nat) (c d:D) (f:Y2) (s:Slot),is[k]?=some j/\cs[k]?=some c/\c.calm=false/\ds[k]?=some d/\fs[k]?=some f/\ρ[j]?=some s/\(cP is cs ds ρ)[j]?=some (match s with | .pin _=>.pin d | _=>.val d)/\(fL is cs fs L)[j]?=some f) \/
  ((∀(k:Nat) (c:D),is[k]?=some j->cs[k]?=some c->c.calm=true)/\(cP is cs ds ρ)[j]?=ρ[j]?/\(fL is cs fs L)[j]?=L[j]?)
 | [],cs,ds,fs,L,ρ,j,_,_,_,_,_,_=>.inr ⟨fun k c e=>by simp at e,by unfold cP;rfl,by unfold fL;rfl⟩
 | i::is,c::cs,d::ds,f::fs,L,ρ,j,hn,h1,h2,h3,hg,hl=>by
  obtain ⟨hi,hn2⟩:=tM hn
  unfold iK at hg
  cases eg:getD ρ i with
  | none=>rw [eg] at hg;cases hg
  | some c' =>
   rw [eg] at hg
   cases eg2:iK is ρ with
   | none=>rw [eg2] at hg;cases hg
   | some cs' =>
    rw [eg2] at hg
    have hg:some (c'::cs')=some (c::cs):=hg
    cases hg
    unfold cP fL
    by_cases hj:i=j
    ·subst hj
     rw [vN is hi,xT is hi]
     cases hc:c.calm with
     | true =>
      refine .inr ⟨fun k b e1 e2=>?_,by simp,by simp⟩
      cases k with
      | zero=>simp at e2;subst e2;exact hc
      | succ k=>exact absurd (List.mem_of_getElem? (by simpa using e1)) hi
     | false =>
      obtain ⟨s,hs⟩:∃s,ρ[i]?=some s:=by
       unfold getD at eg
       cases q:ρ[i]? with
       | none=>rw [q] at eg;cases eg
       | some s=>exact ⟨s,rfl⟩
      have hlt:i < ρ.length:=(List.getElem?_eq_some_iff.mp hs).1
      refine .inl ⟨0,c,d,f,s,rfl,rfl,hc,rfl,rfl,hs,?_,?_⟩
      ·simp only [Bool.false_eq_true,if_false]
       unfold putD
       unfold getD at eg
       rw [hs] at eg ⊢
       cases s with
       | un=>cases eg
       | val _=>exact List.getElem?_set_self hlt
       | pin _=>exact List.getElem?_set_self hlt
      ·simp only [Bool.false_eq_true,if_false]
       exact List.getElem?_set_self (by omega)
    ·have st:∀(ρ2:Env) (L2:Y5),ρ2[j]?=ρ[j]?->L2[j]?=L[j]?->iK is ρ2=some cs->L2.length=ρ2.length ->
       ((∃(k:Nat) (c₁ d₁:D) (f₁:Y2) (s:Slot),(i::is)[k]?=some j/\(c::cs)[k]?=some c₁/\c₁.calm=false/\(d::ds)[k]?=some d₁/\(f::fs)[k]?=some f₁/\ρ[j]?=some s/\(cP is cs ds ρ2)[j]?=some (match s with | .pin _=>.pin d₁ | _=>.val d₁)/\(fL is cs fs L2)[j]?=some f₁) \/
       ((∀(k:Nat) (c₁:D),(i::is)[k]?=some j->(c::cs)[k]?=some c₁->c₁.calm=true)/\(cP is cs ds ρ2)[j]?=ρ[j]?/\(fL is cs fs L2)[j]?=L[j]?)):=by
      intro ρ2 L2 q1 q2 q3 q4
      rcases aBs is (L:=L2) (ds:=ds) (fs:=fs) j hn2 (by simpa using h1) (by simpa using h2) (by simpa using h3) q3 q4 with ⟨k,a1,a2,a3,a4,b1,b2,b3,b4,b5,b6,b7,b8⟩ | ⟨b1,b2,b3⟩
      ·exact .inl ⟨k+1,a1,a2,a3,a4,by simpa using b1,by simpa using b2,b3,by simpa using b4,by simpa using b5,q1 ▸ b6,b7,b8⟩
      ·refine .inr ⟨fun k a e1 e2=>?_,b2.trans q1,b3.trans q2⟩
       cases k with
       | zero=>simp at e1;exact absurd e1 hj
       | succ k=>exact b1 k a (by simpa using e1) (by simpa using e2)
     cases hc:c.calm with
     | true=>simpa only [if_true] using st ρ L rfl rfl eg2 hl
     | false =>
      simp only [Bool.false_eq_true,if_false]
      refine st _ _ ?_ (List.getElem?_set_ne hj) ?_ (by rw [gK,List.length_set];exact hl)
      ·unfold putD
       split
       ·rw [List.getElem?_set_ne hj]
       ·rw [List.getElem?_set_ne hj]
       ·rfl
      ·rw [<- eg2]
       exact getDs_put is hi
 | _::_,[],_,_,_,_,_,_,h,_,_,_,_=>by simp at h
 | _::_,_::_,[],_,_,_,_,_,_,h,_,_,_=>by simp at h
 | _::_,_::_,_::_,[],_,_,_,_,_,_,h,_,_=>by simp at h
where
 getDs_put:∀(is:T0) {ρ:Env} {i:Nat} {d:D},i ∉ is->iK is (putD ρ i d)=iK is ρ
 | [],_,_,_,_=>rfl
 | k::is,ρ,i,d,h=>by
  unfold iK
  rw [getDs_put is fun z=>h (List.mem_cons_of_mem _ z)]
  have hik:i ≠ k:=fun z=>h (by rw [z];exact List.mem_cons_self)
  have:getD (putD ρ i d) k=getD ρ k:=by
   unfold getD putD
   split
   ·rw [List.getElem?_set_ne hik]
   ·rw [List.getElem?_set_ne hik]
   ·rfl
  rw [this]
end
end VL
end
section
namespace VL
open PySem L2
section
variable {K:FG} {W:XW} {F H F' H' F1 H1:Hp} {Z Z' Z1:Y2} {σ σ1:St} {ρ ρ1:Env} {D':Ends}
theorem xP {fps:Y5} (S:Sim K F H σ ρ fps):∀(is:T0) {ds:List D},iK is ρ=some ds->∃vs:List V,(∀P:List V->Hp->Prop,P vs H->oK is σ H P)/\vs.length=is.length/\ds.length=is.length /\
  (∀(k:Nat) (d:D),ds[k]?=some d->∃i v fp,is[k]?=some i/\vs[k]?=some v/\σ[i]?=some (some v)/\fps[i]?=some fp/\Own K F H d v fp)
 | [],ds,e=>by
  unfold iK at e;cases e
  exact ⟨[],fun P h=>h,rfl,rfl,fun k d e=>by simp at e⟩
 | i::is,ds,e=>by
  unfold iK at e
  cases eg:getD ρ i with
  | none=>rw [eg] at e;cases e
  | some d =>
   rw [eg] at e
   cases eg2:iK is ρ with
   | none=>rw [eg2] at e;cases e
   | some ds2 =>
    rw [eg2] at e
    have e:some (d::ds2)=some ds:=e
    cases e
    obtain ⟨vs,h1,h2,h3,h4⟩:=xP S is eg2
    obtain ⟨v,fp,q1,q2,q3⟩:=S.get eg
    refine ⟨v::vs,fun P h=>⟨v,q1,h1 _ h⟩,by simp [h2],by simp [h3],fun k c ec=>?_⟩
    cases k with
    | zero=>simp at ec;subst ec;exact ⟨i,v,fp,rfl,rfl,q1,q2,q3⟩
    | succ k=>simpa using h4 k c (by simpa using ec)
theorem aHu {fn:Fn} {is:T0} {n:Nat} {Q:VK} (hn:is.length=n) (h:tx K W (oN fn is) σ H Q):aH9 (spV K n fn) [] E0 (oK is) σ H Q:=by
 obtain ⟨ρ,F,fps,S,h⟩:=h
 unfold oN at h
 cases eg:iK is ρ with
 | none=>rw [eg] at h;exact h.elim
 | some ds =>
  rw [eg] at h
  have h:(if jO is=true then (match fn ds with | .ok y=>R.ok (y.1,true,cP is ds y.2 ρ) | _=>.bad) else R.bad).hx (tU K F H fps.flatten ρ σ Q) (fun c=>eE K F H fps.flatten ρ σ (W c) ρ):=h
  by_cases hnd:jO is=true
  ·rw [if_pos hnd] at h
   have h:(fn ds).holds fun y=>tU K F H fps.flatten ρ σ Q (y.1,true,cP is ds y.2 ρ):=by
    cases ef:fn ds with
    | ok y=>rw [ef] at h;exact h
    | exc _=>rw [ef] at h;exact h.elim
    | bad=>rw [ef] at h;exact h.elim
   obtain ⟨vs,t1,l1,l2,g⟩:=xP S is eg
   refine t1 _ ?_
   show spV K n fn (vs ++ []) H Q E0
   rw [List.append_nil]
   let fc:Y5:=is.map fun i=>(fps[i]?).getD []
   have fcg:∀(k i:Nat),is[k]?=some i->fc[k]?=some ((fps[i]?).getD []):=fun k i e=>by
    show (is.map _)[k]?=_
    rw [List.getElem?_map,e];rfl
   have isget:∀(k:Nat) (f:Y2),fc[k]?=some f->∃i,is[k]?=some i/\f=(fps[i]?).getD []:=fun k f e=>by
    have e:(is.map fun i=>(fps[i]?).getD [])[k]?=some f:=e
    rw [List.getElem?_map] at e
    cases q:is[k]? with
    | none=>rw [q] at e;cases e
    | some i=>rw [q] at e;exact ⟨i,rfl,(Option.some.inj e).symm⟩
   have nodupget:∀(is:T0),jO is=true->∀(k k' i:Nat),is[k]?=some i->is[k']?=some i->k=k':=by
    intro is
    induction is with
    | nil=>intro _ k k' i e;simp at e
    | cons a r ih =>
     intro hn k k' i e1 e2
     obtain ⟨q1,q2⟩:=tM hn
     cases k with
     | zero =>
      simp at e1;subst e1
      cases k' with
      | zero=>rfl
      | succ k'=>exact absurd (List.mem_of_getElem? (by simpa using e2)) q1
     | succ k =>
      cases k' with
      | zero=>simp at e2;subst e2;exact absurd (List.mem_of_getElem? (by simpa using e1)) q1
      | succ k'=>rw [ih q2 k k' i (by simpa using e1) (by simpa using e2)]
   have infc:∀b∈fc.flatten,∃k i f,is[k]?=some i/\fps[i]?=some f/\b∈f:=fun b hb=>by
    obtain ⟨l,hl,hbl⟩:=List.mem_flatten.mp hb
    obtain ⟨k,hk⟩:=List.mem_iff_getElem?.mp hl
    obtain ⟨i,e1,e2⟩:=isget k l hk
    cases q:fps[i]? with
    | none=>rw [q] at e2;subst e2;cases hbl
    | some f=>rw [q] at e2;subst e2;exact ⟨k,i,_,e1,q,hbl⟩
   have sub:∀b∈fc.flatten,b∈fps.flatten:=fun b hb=>by
    obtain ⟨k,i,f,_,e,hb⟩:=infc b hb
    exact List.mem_flatten.mpr ⟨f,List.mem_of_getElem? e,hb⟩
   have fcn:fc.flatten.Nodup:=by
    refine nodup_of_apart (fun k f e=>?_) fun k k' f f' a e1 e2 ne ha=>?_
    ·obtain ⟨i,_,q⟩:=isget k f e
     cases q2:fps[i]? with
     | none=>rw [q2] at q;subst q;exact List.nodup_nil
     | some g=>rw [q2] at q;subst q;exact S.sub q2
    ·obtain ⟨i,p1,q1⟩:=isget k f e1
     obtain ⟨i',p2,q2⟩:=isget k' f' e2
     have ne2:i ≠ i':=fun z=>ne (nodupget is hnd k k' i p1 (by rw [z];exact p2))
     cases r1:fps[i]? with
     | none=>rw [r1] at q1;subst q1;cases ha
     | some g =>
      rw [r1] at q1;subst q1
      cases r2:fps[i']? with
      | none=>rw [r2] at q2;subst q2;intro z;cases z
      | some g'=>rw [r2] at q2;subst q2;exact apart S.nd r1 r2 ne2 ha
   refine ⟨by omega,F,ds,fc,S.same,⟨by omega,by show (is.map _).length=_;simp [l2],fun k d e=>?_⟩,fcn,fun b hb=>S.zone b (sub b hb),R.aOm (R.aM h fun y hy r F' H' fps' fr ev hs o2 nd2 or nr kr=>?_)⟩
   ·obtain ⟨i,v,fp,q1,q2,q3,q4,q5⟩:=g k d e
    exact ⟨v,fp,q2,by rw [fcg k i q1,q4];rfl,q5⟩
   ·have ly:y.2.length=is.length:=by rw [o2.1,l1]
    have lf':fps'.length=is.length:=by rw [o2.2.1,ly]
    have BG:=fun j=>aBs is (ds:=y.2) (fs:=fps') (L:=fps) j hnd l2 ly lf' eg S.lf
    have away:∀(j:Nat) (f:Y2) (a:Addr),(∀(k:Nat) (c:D),is[k]?=some j->ds[k]?=some c->c.calm=true)->fps[j]?=some f->a∈f->a ∉ fc.flatten:=fun j f a hc hf ha hz=>by
     obtain ⟨k,i,f',e1,e2,hb⟩:=infc a hz
     by_cases hij:i=j
     ·subst hij
      obtain ⟨c,ec⟩:∃c,ds[k]?=some c:=⟨ds[k]'(by rw [l2];exact (List.getElem?_eq_some_iff.mp e1).1),by simp⟩
      obtain ⟨i',v,fp,q1,q2,q3,q4,q5⟩:=g k c ec
      rw [e1] at q1;cases q1
      rw [hf] at q4;cases q4
      rw [Own.eD c (hc k c e1 ec) q5] at ha;cases ha
     ·exact apart S.nd e2 hf hij hb ha
    have still:∀(j:Nat) (f:Y2) (a:Addr),(∀(k:Nat) (c:D),is[k]?=some j->ds[k]?=some c->c.calm=true)->fps[j]?=some f->a∈f->F' a=none/\H' a=H a:=fun j f a hc hf ha=>by
     have hn:=away j f a hc hf ha
     obtain ⟨z1,z2⟩:=S.zone a (List.mem_flatten.mpr ⟨f,List.mem_of_getElem? hf,ha⟩)
     constructor
     ·cases q:F' a with
      | none=>rfl
      | some o =>
       rcases ev.new a o q with w | w | w
       ·rw [z1] at w;cases w
       ·exact absurd w z2
       ·exact absurd w hn
     ·cases q:H a with
      | none=>exact absurd q z2
      | some o=>exact ev.keep a o q hn
    have slotOf:∀(j:Nat) (f:Y2),(fL is ds fps' fps)[j]?=some f->(∃k,is[k]?=some j/\fps'[k]?=some f)\/((∀(k:Nat) (c:D),is[k]?=some j->ds[k]?=some c->c.calm=true)/\fps[j]?=some f):=fun j f e=>by
     rcases BG j with ⟨k,c,d,f',s,b1,b2,b3,b4,b5,b6,b7,b8⟩ | ⟨b1,b2,b3⟩
     ·rw [b8] at e;cases e;exact .inl ⟨k,b1,b5⟩
     ·rw [b3] at e;exact .inr ⟨b1,e⟩
    have inN:∀b∈(fL is ds fps' fps).flatten,b∈fps'.flatten\/∃(j:Nat) (f:Y2),(∀(k:Nat) (c:D),is[k]?=some j->ds[k]?=some c->c.calm=true)/\fps[j]?=some f/\b∈f:=fun b hb=>by
     obtain ⟨l,hl,hbl⟩:=List.mem_flatten.mp hb
     obtain ⟨j,hj⟩:=List.mem_iff_getElem?.mp hl
     rcases slotOf j l hj with ⟨k,_,q⟩ | ⟨q1,q2⟩
     ·exact .inl (List.mem_flatten.mpr ⟨l,List.mem_of_getElem? q,hbl⟩)
     ·exact .inr ⟨j,l,q1,q2,hbl⟩
    have cross:∀(j:Nat) (f:Y2) (a:Addr),(∀(k:Nat) (c:D),is[k]?=some j->ds[k]?=some c->c.calm=true)->fps[j]?=some f->a∈f->(a∈fc.flatten\/H a=none)->False:=fun j f a hc hf ha w=>by
     rcases w with w | w
     ·exact away j f a hc hf ha w
     ·exact (S.zone a (List.mem_flatten.mpr ⟨f,List.mem_of_getElem? hf,ha⟩)).2 w
    refine hy r F' H' (fL is ds fps' fps) fr ⟨ev.fr,fun b o e hb=>ev.keep b o e fun z=>hb (sub b z),ev.dom,fun b o e=>?_,fun b hb=>?_⟩ ⟨hs,by rw [vK];exact S.ls,by rw [xF,vK];exact S.lf,fun j s d e1 e2=>?_,nodup_of_apart (fun j f e=>?_) fun j j' f f' a e1 e2 ne ha=>?_,fun b hb=>?_⟩ (fun j d e=>?_) or nr fun _ b hb=>⟨fun z=>?_,(kr b hb).2.imp_left (sub b)⟩
    ·rcases ev.new b o e with w | w | w
     ·exact .inl w
     ·exact .inr (.inl w)
     ·exact .inr (.inr (sub b w))
    ·rcases inN b hb with w | ⟨j,f,_,w2,w3⟩
     ·exact (ev.zone b w).imp_left (sub b)
     ·exact .inl (List.mem_flatten.mpr ⟨f,List.mem_of_getElem? w2,w3⟩)
    ·rcases BG j with ⟨k,c,d',f',s',b1,b2,b3,b4,b5,b6,b7,b8⟩ | ⟨b1,b2,b3⟩
     ·have e1':(cP is ds y.2 ρ)[j]?=some s:=e1
      rw [b7] at e1'
      have ed:d=d':=by
       have e1':=Option.some.inj e1'
       subst e1'
       cases s'<;>exact (Option.some.inj e2).symm
      subst ed
      obtain ⟨v,fp,q1,q2,q3⟩:=o2.2.2 k d b4
      rw [b5] at q2;cases q2
      obtain ⟨i',v',fp',p1,p2,p3,p4,p5⟩:=g k c b2
      rw [b1] at p1;cases p1
      rw [p2] at q1;cases q1
      exact ⟨_,_,p3,b8,q3⟩
     ·have e1':(cP is ds y.2 ρ)[j]?=some s:=e1
      rw [b2] at e1'
      obtain ⟨v,f,q1,q2,q3⟩:=S.at_ j s d e1' e2
      exact ⟨v,f,q1,by rw [b3];exact q2,Own.keep ev.fr d (fun a ha=>still j f a b1 q2 ha) q3⟩
    ·rcases slotOf j f e with ⟨k,_,q⟩ | ⟨_,q⟩
     ·exact (List.sublist_flatten_of_mem (List.mem_of_getElem? q)).nodup nd2
     ·exact S.sub q
    ·rcases slotOf j f e1 with ⟨k,p,q⟩ | ⟨p,q⟩
     ·rcases slotOf j' f' e2 with ⟨k',p',q'⟩ | ⟨p',q'⟩
      ·have nk:k ≠ k':=fun z=>ne (by subst z;rw [p] at p';exact Option.some.inj p')
       exact apart nd2 q q' nk ha
      ·intro hb
       exact cross j' f' a p' q' hb (ev.zone a (List.mem_flatten.mpr ⟨f,List.mem_of_getElem? q,ha⟩))
     ·rcases slotOf j' f' e2 with ⟨k',p',q'⟩ | ⟨p',q'⟩
      ·intro hb
       exact cross j f a p q ha (ev.zone a (List.mem_flatten.mpr ⟨f',List.mem_of_getElem? q',hb⟩))
      ·exact apart S.nd q q' ne ha
    ·rcases inN b hb with w | ⟨j,f,w1,w2,w3⟩
     ·obtain ⟨l,hl,hbl⟩:=List.mem_flatten.mp w
      obtain ⟨k,hk⟩:=List.mem_iff_getElem?.mp hl
      obtain ⟨d,hd⟩:∃d,y.2[k]?=some d:=⟨y.2[k]'(by rw [<- o2.2.1];exact (List.getElem?_eq_some_iff.mp hk).1),by simp⟩
      obtain ⟨v,fp,q1,q2,q3⟩:=o2.2.2 k d hd
      rw [hk] at q2;cases q2
      obtain ⟨z1,xs,z2⟩:=Own.zone d q3 b hbl
      exact ⟨z1,by rw [z2];simp⟩
     ·obtain ⟨z1,z2⟩:=still j f b w1 w2 w3
      exact ⟨z1,by rw [z2];exact (S.zone b (List.mem_flatten.mpr ⟨f,List.mem_of_getElem? w2,w3⟩)).2⟩
    ·show ∃d',(cP is ds y.2 ρ)[j]?=some (.pin d')
     rcases BG j with ⟨k,c,d',f',s',b1,b2,b3,b4,b5,b6,b7,b8⟩ | ⟨b1,b2,b3⟩
     ·rw [e] at b6;cases b6
      exact ⟨d',b7⟩
     ·exact ⟨d,by rw [b2];exact e⟩
    ·rcases inN b z with w | ⟨j,f,w1,w2,w3⟩
     ·exact (kr b hb).1 w
     ·exact cross j f b w1 w2 w3 (kr b hb).2
  ·rw [if_neg hnd] at h;exact h.elim
end
end VL
end
section
namespace VL
open PySem L2
section
variable {K:FG} {F H F' H' F1 H1:Hp} {σ:St} {Q:VK}
def aNb (K:FG):R2:=fun x y H Q=>∃l b xs zs,x=.ref l/\y=.ref b/\Rd H l (.lst xs)/\Rd H b (.lst zs)/\xs.length+zs.length<=sizeLine/\∀p,H p=none->Q (.ref p) (upd H p (.lst (xs++zs)))
def aQw:D×Bool->D×Bool->R (D×Bool):=fun x y=>match x.1,y.1 with
 | .lst _ ds,.lst _ es=>if D.bL ds && D.bL es && decide (ds.length+es.length<=1000000) then .ok (.lst true (ds++es),true) else .bad
 | _,_=>.bad
theorem EPost.aG0 {F0 H0:Hp} {ds:List D} {xs:List V} {p:Addr} (g:Grow F0 H0 F H) (h:EPost K F0 H0 Q (.lst true ds,true)) (hp:H p=none) (o:aH K F H ds xs []):Q (.ref p) (upd H p (.lst xs)) :=
 h (.ref p) F _ [p] (g.trans (Grow.one g.inn hp)) (aEb g.inn hp o) (by simp) fun _ b hb=>by
  have:b=p:=by simpa using hb
  subst this;exact g.all.free hp
theorem EPost.aWz {F0 H0:Hp} {ds:List D} {xs:List V} {p:Addr} {b:Bool} (g:Grow F0 H0 F H) (h:EPost K F0 H0 Q (.tup ds,b)) (hp:H p=none) (o:aH K F H ds xs []):Q (.ref p) (upd H p (.tup xs)):=by
 have g2:Grow F H (upd F p (.tup xs)) (upd H p (.tup xs)):=Grow.both g.inn hp
 refine h (.ref p) _ _ [] (g.trans g2) ?_ List.nodup_nil fun _ b hb=>by cases hb
 unfold Own
 exact ⟨rfl,p,xs,rfl,SqT.of bU,o.grow g2⟩
theorem aMt:Op2 K aQw (aNb K):=by
 intro F0 H0 F H x y v u fx fy Q gr o1 n1 k1 o2 n2 k2 h
 obtain ⟨x,bx⟩:=x
 obtain ⟨y,by'⟩:=y
 cases x<;>try exact h.elim
 cases y<;>try exact h.elim
 rename_i o ds o' es
 have h:(if (D.bL ds && D.bL es && decide (ds.length+es.length<=1000000))=true then R.ok (D.lst true (ds++es),true) else R.bad).holds (EPost K F0 H0 Q):=h
 by_cases hc:(D.bL ds && D.bL es && decide (ds.length+es.length<=1000000))=true
 ·rw [if_pos hc] at h
  simp only [Bool.and_eq_true,decide_eq_true_iff] at hc
  obtain ⟨a,xs,fq,e1,q1,r1,_⟩:=Own.aM3 gr.inn o1
  obtain ⟨b,zs,fr,e2,q2,r2,_⟩:=Own.aM3 gr.inn o2
  have:=aH.eD ds hc.1.1 r1
  subst this
  have:=aH.eD es hc.1.2 r2
  subst this
  refine ⟨a,b,xs,zs,e1,e2,q1,q2,?_,fun p hp=>EPost.aG0 gr h hp (aH.append ds r1 r2)⟩
  rw [<- aH.length ds r1,<- aH.length es r2];exact gX hc.2
 ·rw [if_neg hc] at h;exact h.elim
def aHg:D×Bool->D×Bool->R (D×Bool):=fun x y=>match x.1,y.1 with
 | .tup (d::ds),.tup es=>if decide (ds.length+1+es.length<=1000000) then .ok (.tup (d::ds++es),true) else .bad
 | _,_=>.bad
theorem aJo:Op2 K aHg (aN5 K):=by
 intro F0 H0 F H x y v u fx fy Q gr o1 n1 k1 o2 n2 k2 h
 obtain ⟨x,bx⟩:=x
 obtain ⟨y,by'⟩:=y
 cases x<;>try exact h.elim
 rename_i ds
 cases ds with
 | nil=>exact h.elim
 | cons d ds =>
  cases y<;>try exact h.elim
  rename_i es
  have h:(if decide (ds.length+1+es.length<=1000000)=true then R.ok (D.tup (d::ds++es),true) else R.bad).holds (EPost K F0 H0 Q):=h
  by_cases hc:decide (ds.length+1+es.length<=1000000)=true
  ·rw [if_pos hc] at h
   rw [decide_eq_true_iff] at hc
   obtain ⟨a,xs,e1,q1,r1,_⟩:=Own.tup gr.inn o1
   obtain ⟨b,zs,e2,q2,r2,_⟩:=Own.tup gr.inn o2
   have l1:=aH.length _ r1
   have l2:=aH.length _ r2
   refine ⟨a,b,xs,zs,e1,e2,q1,q2,fun z=>by rw [z] at l1;simp at l1,?_,fun z=>?_,fun _ p hp=>EPost.aWz gr h hp (aH.append _ r1 r2)⟩
   ·rw [<- l1,<- l2];exact gX (by simpa using hc)
   ·have:es=[]:=by rw [z] at l2;exact List.length_eq_zero_iff.mp l2
    subst this
    have h:EPost K F0 H0 Q (D.tup (d::ds ++ []),true):=h
    rw [List.append_nil] at h
    refine e1 ▸ h v F H [] gr ?_ List.nodup_nil fun _ b hb=>by cases hb
    obtain ⟨_,_,_,_,_,ef⟩:=Own.tup gr.inn o1
    rw [ef] at o1;exact o1
  ·rw [if_neg hc] at h;exact h.elim
theorem aH.rep {ds:List D} {xs:List V} (o:aH K F H ds xs []):∀k:Nat,aH K F H (List.replicate k ds).flatten (List.replicate k xs).flatten []
 | 0=>aH.nil
 | k+1=>by
  rw [List.replicate_succ,List.replicate_succ,List.flatten_cons,List.flatten_cons]
  exact aH.append ds o (aH.rep o k)
def cutD (xs:List D) (lo hi:Option Int):List D:=(xs.drop (HT.sIx xs.length 0 lo)).take (HT.sIx xs.length xs.length hi - HT.sIx xs.length 0 lo)
abbrev aAy:=Env->R (Option Int)
def aTe (F H:Hp) (Q:Option Int->Hp->Prop) (x:Option Int):Prop:=∀F' H',Grow F H F' H'->Q x H'
def tvO (K:FG) (f:aAy):TO:=fun σ H Q=>∃ρ F fps,Sim K F H σ ρ fps/\(f ρ).holds (aTe F H Q)
def aBb:aAy:=fun _=>.ok none
def aIi (f:aQ):aAy:=fun ρ=>(f ρ).bind fun x=>match x.1 with | .int i=>.ok (some i) | _=>.bad
theorem aHz {Q:Option Int->Hp->Prop} (h:tvO K aBb σ H Q):aD8 σ H Q:=by
 obtain ⟨ρ,F,fps,S,h⟩:=h
 exact h F H (Grow.refl S.same)
theorem aL4 {f:aQ} {Q:Option Int->Hp->Prop} (h:tvO K (aIi f) σ H Q):aNt (tv K f) σ H Q:=by
 obtain ⟨ρ,F,fps,S,h⟩:=h
 refine ⟨ρ,F,fps,S,R.aM (R.aO.mp h) fun x hx v F1 H1 fx g1 o1 n1 k1=>?_⟩
 obtain ⟨x,b⟩:=x
 cases x<;>try exact hx.elim
 rename_i i
 unfold Own at o1
 exact ⟨i,o1.1,hx F1 H1 g1⟩
def kSl (x:D×Bool) (lo hi:Option Int):R (D×Bool):=match x.1 with
 | .lst _ ds=>if D.bL ds then .ok (.lst true (cutD ds lo hi),true) else .bad
 | _=>.bad
def vSl (f:aQ) (lo hi:aAy):aQ:=fun ρ=>(f ρ).bind fun x=>(lo ρ).bind fun l=>(hi ρ).bind fun u=>kSl x l u
theorem aH.cut {ds:List D} {xs:List V} (o:aH K F H ds xs []) (lo hi:Option Int):aH K F H (cutD ds lo hi) (aGp xs lo hi) []:=by
 have hl:=aH.length ds o
 unfold cutD aGp
 rw [hl]
 refine aH.of_get _ (by simp [hl]) fun i d v e1 e2=>?_
 rw [List.getElem?_take] at e1 e2
 split at e1
 ·rename_i h
  rw [if_pos h] at e2
  rw [List.getElem?_drop] at e1 e2
  exact aH.aR3 o e1 e2
 ·cases e1
theorem aUe {f:aQ} {lo hi:aAy} (h:tv K (vSl f lo hi) σ H Q):tSl (aTy K) (tv K f) (tvO K lo) (tvO K hi) σ H Q:=by
 obtain ⟨ρ,F,fps,S,h⟩:=h
 refine ⟨ρ,F,fps,S,R.aM (R.aO.mp h) fun x hx v F1 H1 fx g1 o1 n1 k1=>?_⟩
 refine ⟨ρ,F1,fps,S.grow g1,R.aM (R.aO.mp hx) fun l hl F2 H2 g2=>?_⟩
 refine ⟨ρ,F2,fps,(S.grow g1).grow g2,R.aM (R.aO.mp hl) fun u hu F3 H3 g3=>?_⟩
 obtain ⟨x,b⟩:=x
 cases x<;>try exact hu.elim
 rename_i o ds
 have hu:(if D.bL ds=true then R.ok (D.lst true (cutD ds l u),true) else R.bad).holds (EPost K F H Q):=hu
 by_cases hc:D.bL ds=true
 ·rw [if_pos hc] at hu
  have g:=(g1.trans g2).trans g3
  obtain ⟨a,xs,fq,e1,q1,r1,_⟩:=Own.lst g.inn (o1.grow (g2.trans g3))
  have:=aH.eD ds hc r1
  subst this
  exact ⟨a,xs,e1,q1,fun p hp=>EPost.aG0 g hu hp (aH.cut r1 l u)⟩
 ·rw [if_neg hc] at hu;exact hu.elim
def dJ:D->Bool
 | .non=>true | _=>false
def iP (neg:Bool):D×Bool->D×Bool->R (D×Bool):=fun x y=>match y.1 with
 | .non=>.ok (.bl (if neg then !dJ x.1 else dJ x.1),true) | _=>.bad
theorem aBd {d:D} {v:V} {fp:Y2} (o:Own K F H d v fp):decide (v=.non)=dJ d:=by
 cases d<;>unfold Own at o
 ·rw [o.1];rfl
 ·rw [o.1];rfl
 ·rw [o.1];rfl
 ·rw [o.1];rfl
 ·obtain ⟨_,a,xs,e,_⟩:=o;rw [e];rfl
 ·obtain ⟨a,xs,fq,e,_⟩:=o;rw [e];rfl
 ·obtain ⟨a,u,e,_⟩:=o;rw [e];rfl
theorem aKm:Op2 K (iP false) (fun x y H Q=>y=.non/\Q (.bl (decide (x=.non))) H):=by
 intro F0 H0 F H x y v u fx fy Q gr o1 n1 k1 o2 n2 k2 h
 obtain ⟨y,by'⟩:=y
 cases y<;>try exact h.elim
 unfold Own at o2
 rw [aBd o1]
 exact ⟨o2.1,EPost.eL gr h rfl⟩
theorem aA6:Op2 K (iP true) (fun x y H Q=>y=.non/\Q (.bl (!decide (x=.non))) H):=by
 intro F0 H0 F H x y v u fx fy Q gr o1 n1 k1 o2 n2 k2 h
 obtain ⟨y,by'⟩:=y
 cases y<;>try exact h.elim
 unfold Own at o2
 rw [aBd o1]
 exact ⟨o2.1,EPost.eL gr h rfl⟩
def dN:List (D×Bool)->R (D×Bool)
 | [(.lst _ ds,_)]=>.ok (.int ds.length,true) | [(.tup ds,_)]=>.ok (.int ds.length,true) | _=>.bad
theorem aKx:OpA K dN (fun xs H Q=>∃p ys,xs=[.ref p]/\(SqL K H p ys\/SqT K H p ys)/\Q (.int ys.length) H):=by
 intro F0 H0 F H xs vs fa Q gr a n k h
 match xs,h,a with
 | [(.lst o ds,b)],h,a =>
  unfold Args at a
  obtain ⟨v,r,fp,f2,e,o1,n1,t,w⟩:=a
  unfold Args at t
  obtain ⟨p,ys,fq,e1,q1,r1,_⟩:=Own.lst gr.inn o1
  refine ⟨p,ys,by rw [e,t.1,e1],.inl q1,?_⟩
  rw [<- aH.length ds r1];exact EPost.eL gr h rfl
 | [(.tup ds,b)],h,a =>
  unfold Args at a
  obtain ⟨v,r,fp,f2,e,o1,n1,t,w⟩:=a
  unfold Args at t
  obtain ⟨p,ys,e1,q1,r1,_⟩:=Own.tup gr.inn o1
  refine ⟨p,ys,by rw [e,t.1,e1],.inr q1,?_⟩
  rw [<- aH.length ds r1];exact EPost.eL gr h rfl
def pF:List (D×Bool)->R (D×Bool)
 | [(.lst _ ds,_)]=>if D.bL ds then .ok (.lst true ds,true) else .bad | [(.tup ds,_)]=>.ok (.lst true ds,true) | _=>.bad
theorem aI6:OpA K pF (fun xs H Q=>∃p ys,xs=[.ref p]/\(SqL K H p ys\/SqT K H p ys)/\∀l,H l=none->Q (.ref l) (upd H l (.lst ys))):=by
 intro F0 H0 F H xs vs fa Q gr a n k h
 match xs,h,a with
 | [(.lst o ds,b)],h,a =>
  unfold Args at a
  obtain ⟨v,r,fp,f2,e,o1,n1,t,w⟩:=a
  unfold Args at t
  obtain ⟨p,ys,fq,e1,q1,r1,_⟩:=Own.lst gr.inn o1
  have h:(if D.bL ds=true then R.ok (D.lst true ds,true) else R.bad).holds (EPost K F0 H0 Q):=h
  by_cases hc:D.bL ds=true
  ·rw [if_pos hc] at h
   have:=aH.eD ds hc r1
   subst this
   exact ⟨p,ys,by rw [e,t.1,e1],.inl q1,fun l hl=>EPost.aG0 gr h hl r1⟩
  ·rw [if_neg hc] at h;exact h.elim
 | [(.tup ds,b)],h,a =>
  unfold Args at a
  obtain ⟨v,r,fp,f2,e,o1,n1,t,w⟩:=a
  unfold Args at t
  obtain ⟨p,ys,e1,q1,r1,_⟩:=Own.tup gr.inn o1
  exact ⟨p,ys,by rw [e,t.1,e1],.inr q1,fun l hl=>EPost.aG0 gr h hl r1⟩
def eJ:D->Bool
 | .non=>false | .bl b=>b | .int i=>i != 0 | .str _=>false | .tup ds=>!ds.isEmpty | .lst _ ds=>!ds.isEmpty | .ext _ _=>false
def cB:D->Bool
 | .str _=>false | .ext _ _=>false | _=>true
def dC (f:aQ):cG:=fun ρ=>(f ρ).bind fun x=>if cB x.1 then .ok (eJ x.1) else .bad
theorem aH.empty {ds:List D} {xs:List V} {fp:Y2} (o:aH K F H ds xs fp):ds.isEmpty=xs.isEmpty:=by
 have:=aH.length ds o
 cases ds<;>cases xs<;>simp at this ⊢
theorem aKq {f:aQ} {Q:Bool->Hp->Prop} (h:tvT K (dC f) σ H Q):tv K f σ H fun x H'=>∃k,aOz K x H' k/\Q k H':=by
 obtain ⟨ρ,F,fps,S,h⟩:=h
 refine ⟨ρ,F,fps,S,R.aM (R.aO.mp h) fun x hx v F1 H1 fx g1 o1 n1 k1=>?_⟩
 obtain ⟨x,b⟩:=x
 cases x with
 | str z=>exact hx.elim
 | ext _ _=>exact hx.elim
 | non=>unfold Own at o1;rw [o1.1];exact ⟨false,rfl,hx F1 H1 g1⟩
 | bl b=>unfold Own at o1;rw [o1.1];exact ⟨b,rfl,hx F1 H1 g1⟩
 | int i=>unfold Own at o1;rw [o1.1];exact ⟨_,rfl,hx F1 H1 g1⟩
 | tup ds =>
  obtain ⟨a,xs,e1,q1,r1,_⟩:=Own.tup g1.inn o1
  rw [e1]
  exact ⟨!ds.isEmpty,.inr (.inl ⟨xs,q1,by rw [aH.empty r1]⟩),hx F1 H1 g1⟩
 | lst o ds =>
  obtain ⟨a,xs,fq,e1,q1,r1,_⟩:=Own.lst g1.inn o1
  rw [e1]
  exact ⟨!ds.isEmpty,.inl ⟨xs,q1,by rw [aH.empty r1]⟩,hx F1 H1 g1⟩
def yV (p q:Int->Int->Bool) (f g h:aQ):aQ:=fun ρ=>(f ρ).bind fun x=>(g ρ).bind fun y=>match x.1,y.1 with
 | .int i,.int j=>if p i j then (h ρ).bind fun z=>(match z.1 with | .int k=>.ok (.bl (q j k),true) | _=>.bad) else .ok (.bl false,true)
 | _,_=>.bad
theorem aIx {p q:Int->Int->Bool} {f g h:aQ} (hh:tv K (yV p q f g h) σ H Q):aH7 (rI0 fun i j=>.bl (p i j)) (rI0 fun i j=>.bl (q i j)) (tv K f) (tv K g) (tv K h) σ H Q:=by
 obtain ⟨ρ,F,fps,S,hh⟩:=hh
 refine ⟨ρ,F,fps,S,R.aM (R.aO.mp hh) fun x hx v F1 H1 fx g1 o1 n1 k1=>?_⟩
 refine ⟨ρ,F1,fps,S.grow g1,R.aM (R.aO.mp hx) fun y hy u F2 H2 fy g2 o2 n2 k2=>?_⟩
 obtain ⟨x,bx⟩:=x
 obtain ⟨y,by'⟩:=y
 cases x<;>try exact hy.elim
 cases y<;>try exact hy.elim
 rename_i i j
 unfold Own at o1 o2
 refine ⟨i,j,o1.1,o2.1,p i j,rfl,?_⟩
 have hy:(if p i j=true then (h ρ).bind fun z=>(match z.1 with | .int k=>R.ok (D.bl (q j k),true) | _=>.bad) else .ok (.bl false,true)).holds (EPost K F H Q):=hy
 by_cases hc:p i j=true
 ·rw [if_pos hc] at hy ⊢
  refine ⟨ρ,F2,fps,(S.grow g1).grow g2,R.aM (R.aO.mp hy) fun z hz w F3 H3 fz g3 o3 n3 k3=>?_⟩
  obtain ⟨z,bz⟩:=z
  cases z<;>try exact hz.elim
  rename_i k
  unfold Own at o3
  exact ⟨j,k,o2.1,o3.1,EPost.eL ((g1.trans g2).trans g3) hz rfl⟩
 ·rw [if_neg hc] at hy ⊢
  exact EPost.eL (g1.trans g2) hy rfl
end
end VL
end
section
namespace VL
open PySem PySem.Spec PyProof.Rows L2
def CX1 (P:Program) (w:World):CXT:=fun outer H s E v s'=>∃e C H' B a0,v=.ref e/\s'.os=s.os/\AllBare s'.gens/\Un (frs outer) [] H H' s.heap s'.heap/\HOk P w H' s'.heap/\Heap.FlyingW B outer e (.ref C) a0 s'.heap /\
 (∀b o,s.heap.get? b=some o->b ∉ frs outer->∃o',B.get? b=some o')/\(∀b u,H' b=some u->∃o',B.get? b=some o')/\E (.ref C) none H'
section
variable {P:Program} {w:World} {H H':Hp} {h h0 h1 h2 B:Heap} {fs:Y2}
theorem dA.there {a:Addr} {o:HO} (x:dA P w H h a o):∃ob,h.get? a=some ob:=by
 cases o with
 | lst xs=>obtain ⟨_,_,_,_,e⟩:=x;exact ⟨_,e⟩
 | tup xs=>obtain ⟨_,_,_,o,e,_⟩:=x;exact ⟨_,e⟩
 | dK kvs=>obtain ⟨_,_,_,_,o,_,_,e,_⟩:=x;exact ⟨_,e⟩
 | dT kvs=>obtain ⟨_,_,_,_,o,_,_,e,_⟩:=x;exact ⟨_,e⟩
 | set S n=>obtain ⟨o,_,_,_,e,_⟩:=x;exact ⟨_,e⟩
 | ins C dx fs=>obtain ⟨_,_,_,e,_⟩:=x;exact ⟨_,e⟩
 | own y=>obtain ⟨_,e⟩:=x;exact ⟨_,e⟩
 | xd fs=>obtain ⟨_,⟨_,_,_,e,_⟩,_⟩:=x;exact ⟨_,e⟩
 | rng lo hi=>obtain ⟨_,_,_,e⟩:=x;exact ⟨_,e⟩
 | frz ob u=>obtain ⟨e,_⟩:=x;exact ⟨_,e⟩
 | tbl ps=>exact ⟨_,(show h.get? a=some _ from x)⟩
 | met f y=>exact ⟨_,(show h.get? a=some _ from x)⟩
 | ext φ=>obtain ⟨_,⟨_,e⟩,_⟩:=x;exact ⟨_,e⟩
theorem aIu (U:Un fs [] H H' h0 h1) (hok:HOk P w H' h1) (hS:B.StaysIn h1) (hT:B.StaysIn h2) (hin:∀b o,h0.get? b=some o->b ∉ fs->∃o',B.get? b=some o') (trk:∀b u,H' b=some u->∃o',B.get? b=some o')
  (up:h1.UpToSlots h2) (fr:∀b o,h0.get? b=some o->b∈fs->H b=none/\∀vs,o.data ≠ .fields vs):Un fs [] H H' h0 h2/\HOk P w H' h2:=by
 have inn:∀b o,(∃o',B.get? b=some o')->h1.get? b=some o->h2.get? b=some o:=fun b o ⟨o',q⟩ e=>by
  have z:=hS b o' q
  rw [e] at z;cases z
  exact hT b _ q
 have sl:∀b o,h0.get? b=some o->H b=none->b∈fs->∃sl,h2.get? b=some { o with slots:=sl }:=fun b o e n hb=>by
  obtain ⟨sl,q⟩:=U.slot b o e n hb (by simp)
  obtain ⟨sl',q'⟩:=up b _ q (fr b o e hb).2
  exact ⟨sl',q'⟩
 refine ⟨⟨fun b o e n hb hx=>inn b o (hin b o e hb) (U.keep b o e n hb hx),fun b o e n hb _=>sl b o e n hb,U.free,fun b o e hx=>?_,U.tups,U.frzs,U.tbls⟩,fun a o e=>?_⟩
 ·by_cases hb:b∈fs
  ·obtain ⟨s',q⟩:=sl b o e (fr b o e hb).1 hb
   exact ⟨_,q⟩
  ·obtain ⟨o',q⟩:=hin b o e hb
   exact ⟨o',hT b o' q⟩
 ·refine (hok a o e).stay (fun b u hb q=>inn b u ?_ q) (fun _ q=>q) fun _ _ q=>q
  rcases hb with rfl | hb
  ·exact trk _ _ e
  ·exact trk _ _ hb
end
section
variable {X:Cx} {pins:Y8} {σ:L2.St} {H H':Hp} {s s':Shared} {W:XW}
theorem aOg (I:L2.Inv X pins σ H s):∀b o,X.s₀.heap.get? b=some o->b∈X.fs->X.H₀ b=none/\∀vs,o.data ≠ .fields vs:=fun b o e hb=>by
 obtain ⟨_,o',e',d⟩:=I.ok.funs.mem hb
 rw [e] at e';cases e'
 exact ⟨I.ok.frf b hb,d⟩
theorem aNm (I:L2.Inv X pins σ H s) {b:Addr} {o:Obj} (e:X.s₀.heap.get? b=some o) (hb:b ∉ X.fs):b ∉ frs X.stack:=fun z=>by
 rcases List.mem_cons.mp (I.zY b z) with z | z
 ·exact absurd (Nat.lt_of_lt_of_le (Heap.lt_size e) I.ok.above) (by rw [z];exact Nat.lt_irrefl _)
 ·exact hb z
structure Lk (X:Cx) (W:XW):Prop where
 call:∀(pins:Y8) (σ:L2.St) (H:Hp) (s:Shared) (v:Value) (s':Shared),L2.Inv X pins σ H s->CX1 X.prog X.w X.stack H s (wE X.K W σ) v s'->X.xe v s'
 own:PassesOwn (model X.prog X.w) X.A X.env X.xe
structure LkF (X:Cx) (W:XW):Prop where
 fresh:∀(pins:Y8) (σ:L2.St) (H:Hp) (s:Shared) (h':Heap) (e C:Addr) (c:Str) (args:Y1),L2.Inv X pins σ H s->xR X.K c C->Heap.MadeExcOf s.heap h' e (.ref C) args->W c σ H->X.xe (.ref e) { s with heap:=h' }
end
section
variable {P:Program} {w:World} {K:FG} {mg:Y6} {base:Heap} {N:List Str} {qual:Str} {scope:Scope} {f:Addr} {cd:Value} {A:Around} {outer:List PySem.Env} {s0:Shared} {H0:Hp} {E:XK}
theorem qI:LkF (nN (CX1 P w) P w K mg base N qual scope f cd A outer s0 H0 E) (wOf K E):=by
 refine ⟨fun pins σ H s h' e C c args I hC hx hW=>?_⟩
 have hin:∀env∈(nN (CX1 P w) P w K mg base N qual scope f cd A outer s0 H0 E).stack,∀b,env.frame=some b->b∈frs (nN (CX1 P w) P w K mg base N qual scope f cd A outer s0 H0 E).stack:=fun env he b hb=>List.mem_filterMap.mpr ⟨env,he,hb⟩
 show wpAny _ _ (leaving _ (.ref e)) _ _ _
 refine wpAny_leaves_madeW (base:=PySem.W.hideAll s.heap (frs (nN (CX1 P w) P w K mg base N qual scope f cd A outer s0 H0 E).stack)) (h:=s.heap) (L:=s0.heap.objs.size) I.ok.frames rfl (fun b o q=>PySem.W.of_hideAll _ q) (PySem.W.funFrames_hide I.stack hin) hx fun h2 t x1 x2 x3 x4=>?_
 have up:s.heap.UpToSlots h2:=(Heap.UpToSlots.of_keeps hx.keeps).trans x4
 have hin2:∀b o,s0.heap.get? b=some o->b ∉ frs outer->∃o',(PySem.W.hideAll s.heap (frs (nN (CX1 P w) P w K mg base N qual scope f cd A outer s0 H0 E).stack)).get? b=some o':=fun b o q n=>by
  obtain ⟨o',e'⟩:=I.base.there b o q (by intro z;exact absurd (show b∈([]:Y2) from z) (by simp))
  exact ⟨o',PySem.W.hideAll_get _ e' (aNm I q n)⟩
 have trk:∀b u,H b=some u->∃o',(PySem.W.hideAll s.heap (frs (nN (CX1 P w) P w K mg base N qual scope f cd A outer s0 H0 E).stack)).get? b=some o':=fun b u q=>by
  obtain ⟨ob,e'⟩:=dA.there (I.hok b u q)
  exact ⟨ob,PySem.W.hideAll_get _ e' fun z=>by rw [I.zX b z] at q;cases q⟩
 obtain ⟨u,ok⟩:=aIu (fs:=frs outer) (H:=H0) (h0:=s0.heap) I.base I.hok (fun b o q=>PySem.W.of_hideAll _ q) x1.1 hin2 trk up (aOg I)
 exact ⟨e,C,H,_,_,rfl,I.os,I.bare,u,ok,x1,hin2,trk,hW C hC⟩
theorem cQ:Lk (nN (CX1 P w) P w K mg base N qual scope f cd A outer s0 H0 E) (wOf K E):=by
 refine ⟨fun pins σ H s v s' I h=>?_,PassesOwn.leaving⟩
 obtain ⟨e,C,H',B,a0,rfl,os,bare,un,hok,fl,inB,trk,hE⟩:=h
 obtain ⟨c,C',eC,hC,hW⟩:=hE
 cases eC
 have I':L2.Inv (nN (CX1 P w) P w K mg base N qual scope f cd A outer s0 H0 E) pins σ H' s':=I.aFd (ch:=[]) os un hok bare (fun b z=>absurd z (by simp))
 show wpAny _ _ (leaving _ (.ref e)) _ _ _
 refine wpAny_leaves_onW (L:=s0.heap.objs.size) I.ok.frames rfl fl fun h2 x1 x2=>?_
 have hin2:∀b o,s0.heap.get? b=some o->b ∉ frs outer->∃o',B.get? b=some o':=fun b o q n=>by
  obtain ⟨o',e'⟩:=I.base.there b o q (by intro z;exact absurd (show b∈([]:Y2) from z) (by simp))
  exact inB b o' e' (aNm I q n)
 obtain ⟨u,ok⟩:=aIu (fs:=frs outer) (H:=H0) (h0:=s0.heap) I'.base I'.hok fl.1 x1.1 hin2 trk x2 (aOg I)
 exact ⟨e,C,H',B,a0,rfl,I'.os,bare,u,ok,x1,hin2,trk,hW C hC⟩
end
end VL
end
section
namespace VL
open PySem PySem.Spec PyProof.Rows L2
abbrev SE (X:Cx) (e:Expr) (f:aQ):Prop:=PE X e (tv X.K f)
abbrev ST (X:Cx) (e:Expr) (f:cG):Prop:=PT X e (tvT X.K f)
abbrev SW (X:Cx) (e:Expr) (f:cG):Prop:=PW X e (tvT X.K f)
abbrev SA (X:Cx) (es:List Expr) (f:dI):Prop:=PA X es (tvA X.K f)
abbrev SO (X:Cx) (e:Option Expr) (f:aAy):Prop:=PO X e (tvO X.K f)
abbrev SI (X:Cx) (tg it:Expr) (f:jQ):Prop:=PI X tg it (iv X.K f)
abbrev SX (X:Cx) (W:XW) (e:Expr) (f:mP):Prop:=PE X e (tx X.K W f)
abbrev SS (X:Cx) (W:XW) (st:Stmt) (g:aX):Prop:=PS X st (sv X.K W g)
abbrev SSs (X:Cx) (W:XW) (st:List Stmt) (g:aX):Prop:=PSs X st (sv X.K W g)
section
variable {X:Cx} {W:XW} {e a b c:Expr} {es:List Expr} {st:Stmt} {sts:List Stmt} {pos:Pos}
theorem _root_.L2.PE.imp {t t':TE} (h:PE X e t) (k:∀σ H Q,t' σ H Q->t σ H Q):PE X e t':=fun pins s σ H Q I q=>h pins s σ H Q I (k σ H Q q)
theorem _root_.L2.PT.imp {t t':TT} (h:PT X e t) (k:∀σ H Q,t' σ H Q->t σ H Q):PT X e t':=fun pins s σ H Q I q=>h pins s σ H Q I (k σ H Q q)
theorem _root_.L2.PW.imp {t t':TT} (h:PW X e t) (k:∀σ H Q,t' σ H Q->t σ H Q):PW X e t':=fun w pins s σ H Q I q=>h w pins s σ H Q I (k σ H Q q)
theorem _root_.L2.PA.imp {t t':TA} (h:PA X es t) (k:∀σ H Q,t' σ H Q->t σ H Q):PA X es t':=fun p pins s σ H Q I q=>h p pins s σ H Q I (k σ H Q q)
theorem _root_.L2.PO.imp {o:Option Expr} {t t':TO} (h:PO X o t) (k:∀σ H Q,t' σ H Q->t σ H Q):PO X o t':=fun pins s σ H Q I q=>h pins s σ H Q I (k σ H Q q)
theorem _root_.L2.PI.imp {tg it:Expr} {t t':TI} (h:PI X tg it t) (k:∀σ H Q,t' σ H Q->t σ H Q):PI X tg it t':=fun pins s σ H Q I q=>h pins s σ H Q I (k σ H Q q)
theorem _root_.L2.PS.imp {t t':TS} (h:PS X st t) (k:∀D σ H,t' D σ H->t D σ H):PS X st t':=fun pins s σ H D I q=>h pins s σ H D I (k D σ H q)
theorem _root_.L2.PSs.imp {t t':TS} (h:PSs X sts t) (k:∀D σ H,t' D σ H->t D σ H):PSs X sts t':=fun pins s σ H D I q=>h pins s σ H D I (k D σ H q)
theorem aA (i:Nat) {x:Str} (hN:X.N[i]?=some x:=by rfl) (hv:Vis X.env.scope x:=by first | exact Or.inl rfl | exact Or.inr (Or.inl rfl) | exact Or.inr (Or.inr rfl)) (hd:(x == ("__debug__" : Str))=false:=by decide)
  (hcd:(x == ("__classdict__" : Str))=false:=by decide):SE X (.Name x pos) (aB i):=(mL hN hv hd hcd).imp fun _ _ _ h=>aPx h
theorem aD {i j}:SE X (.Constant (.int i) j pos) (vC (.int i)):=aPu.imp fun _ _ _ h=>aMx rfl h
theorem eV {i j}:SE X (.Constant (.bool i) j pos) (vC (.bl i)):=aSt.imp fun _ _ _ h=>aMx rfl h
theorem dD {j}:SE X (.Constant .none j pos) (vC .non):=aPt.imp fun _ _ _ h=>aMx rfl h
theorem aMr {x:Str} {i:Int} {t:Tok} (hm:X.mg x=some (.int i t)) (hg:Gl X x:=by rfl) (hd:(x == ("__debug__" : Str))=false:=by decide):SE X (.Name x pos) (vC (.int i)) :=
 (aEr (v:=.int i) hg hm ⟨t,rfl⟩ hd).imp fun _ _ _ h=>aMx rfl h
theorem aBn {op:Operator} {k:D×Bool->D×Bool->R (D×Bool)} {r:R2} {f g:aQ} (ho:OpR X (binaryOp op) r) (hk:Op2 X.K k r) (ha:SE X a f) (hb:SE X b g):SE X (.BinOp a op b pos) (v2 k f g) :=
 (aUr ho ha hb).imp fun _ _ _ h=>aE7 hk h
abbrev aTv:=kI fun i j=>.int (i+j)
abbrev sI:=kI fun i j=>.int (i - j)
abbrev lH:=kIc (fun _ j=>decide (0<j)) fun i j=>.int (i % j)
theorem jV {f g:aQ} (ha:SE X a f) (hb:SE X b g):SE X (.BinOp a .Sub b pos) (v2 sI f g):=aBn aQ0 (aBh fun _ _=>rfl) ha hb
theorem fJ {f g:aQ} (ha:SE X a f) (hb:SE X b g):SE X (.BinOp a .Mod b pos) (v2 lH f g):=aBn aOs (aCj (fun _ _=>rfl) fun i j h=>by
 rw [decide_eq_true_iff] at h;exact h) ha hb
theorem aKs:OpR X (binaryOp .Add) (aNb X.K):=by
 intro pins s σ H x y v u Q I rx ry h
 obtain ⟨l,b,xs,zs,rfl,rfl,hH,hB,hz,q⟩:=h
 cases rx
 cases ry
 obtain ⟨z,its,n,r,e⟩:=hH.ok I.hok
 obtain ⟨z2,its2,n2,r2,e2⟩:=hB.ok I.hok
 have hl:=r.length
 have hl2:=r2.length
 refine PySem.P.add_list e e2 ?_ (by rw [List.size_toArray,List.size_toArray];omega)
 have ea:its.toArray++its2.toArray=(its++its2).toArray:=by simp
 rw [ea]
 exact ⟨.ref _,_,I.aR6 (t':=s.toks) (r.append r2) (by rw [List.length_append];omega),rfl,q _ I.fresh⟩
theorem tO {f:aQ} (ha:SE X a f):SE X (.UnaryOp .USub a pos) (v1 (kU fun i=>.int (-i)) f):=(aUo aPm ha).imp fun _ _ _ h=>aTd (aTc fun _=>rfl) h
theorem oA {op:CmpOp} {k:D×Bool->D×Bool->R (D×Bool)} {r:R2} {f g:aQ} (ho:OpR X (compareOp op) r) (hk:Op2 X.K k r) (ha:SE X a f) (hb:SE X b g) (hm:behindInMarks op b=false):SE X (.Compare a [op] [b] pos) (v2 k f g) :=
 (aK4 ho ha hb hm).imp fun _ _ _ h=>aE7 hk h
theorem aCq {t t':TE} (k:∀σ H Q,t' σ H Q->t σ H Q) {σ:L2.St} {H:Hp} {Q:Bool->Hp->Prop} (h:aE9 t' σ H Q):aE9 t σ H Q:=k _ _ _ h
theorem kR {op:CmpOp} {k:D×Bool->D×Bool->R (D×Bool)} {r:R2} {f g:aQ} (ho:OpR X (compareOp op) r) (hk:Op2 X.K k r) (ha:SE X a f) (hb:SE X b g) (hm:behindInMarks op b=false):ST X (.Compare a [op] [b] pos) (aZ (v2 k f g)) :=
 (aLs ho ha hb hm).imp fun _ _ _ h=>aCq (fun _ _ _ q=>aE7 hk q) (aAj h)
abbrev kLt:=kI fun i j=>.bl (decide (i<j))
abbrev kGt:=kI fun i j=>.bl (decide (j<i))
abbrev kGe:=kI fun i j=>.bl (decide (j<=i))
theorem aN7 {K:FG}:Op2 K kLt (rI0 fun i j=>.bl (decide (i<j))):=aBh fun _ _=>rfl
theorem aN9 {K:FG}:Op2 K kGt (rI0 fun i j=>.bl (decide (j<i))):=aBh fun _ _=>rfl
theorem aTn {K:FG}:Op2 K kGe (rI0 fun i j=>.bl (decide (j<=i))):=aBh fun _ _=>rfl
theorem aJs {op op':CmpOp} {p q:Int->Int->Bool} {f g h:aQ} (ho:OpR X (compareOp op) (rI0 fun i j=>.bl (p i j))) (ho':OpR X (compareOp op') (rI0 fun i j=>.bl (q i j))) (ha:SE X a f) (hb:SE X b g) (hc:SE X c h)
  (hm:lastMarks [op,op'] [b,c]=false:=by with_unfolding_all rfl):SE X (.Compare a [op,op'] [b,c] pos) (yV p q f g h):=(aI7 ho ho' ha hb hc hm).imp fun _ _ _ h=>aIx h
theorem bT {f:aQ} (ha:SE X a f) (he:∀whole,isTrue a X.env whole=(do let v <- whole;standAt a.pos;holding [v] (truthy v)):=by intro _;rfl):ST X a (dC f):=(aG9 ha he).imp fun _ _ _ h=>aKq h
theorem oU {f:cG} (ha:ST X a f):SW X (.BoolOp .And [a] pos) f:=aMm ha
theorem fF {f:cG} (ha:ST X a f):SW X (.BoolOp .Or [a] pos) f:=aPb ha
theorem tI {f g:cG} {rest:List Expr} (ha:ST X a f) (hb:SW X (.BoolOp .And (b::rest) pos) g):SW X (.BoolOp .And (a::b::rest) pos) (lK f g):=(aQi ha hb).imp fun _ _ _ h=>aMp h
theorem fZ {f g:cG} {rest:List Expr} (ha:ST X a f) (hb:SW X (.BoolOp .Or (b::rest) pos) g):SW X (.BoolOp .Or (a::b::rest) pos) (gP f g):=(aUi ha hb).imp fun _ _ _ h=>aPz h
theorem jZ {f:cG} (h:SW X a f):ST X a f:=h.pt
theorem cS {f:cG} (ha:ST X a f):ST X (.UnaryOp .Not a pos) (cW f):=(aPd ha).imp fun _ _ _ h=>aLd h
theorem kT {f g:aQ} {rest:List Expr} (ha:SE X a f) (hb:SE X (.BoolOp .And (b::rest) pos) g):SE X (.BoolOp .And (a::b::rest) pos) (oW f g):=(aQ7 ha hb).imp fun _ _ _ h=>aPg h
theorem aS2 {f g:aQ} {rest:List Expr} (ha:SE X a f) (hb:SE X (.BoolOp .Or (b::rest) pos) g):SE X (.BoolOp .Or (a::b::rest) pos) (vOr f g):=(aTb ha hb).imp fun _ _ _ h=>aTk h
theorem jP {op} {f:aQ} (ha:SE X a f):SE X (.BoolOp op [a] pos) f:=aO7 ha
theorem aJ8 {f:aQ} (ha:SE X a f):SE X (.UnaryOp .Not a pos) (v1 aIc f):=(aPp ha).imp fun _ _ _ h=>aQj h
theorem aUn {t:cG} {f g:aQ} (hc:ST X c t) (ha:SE X a f) (hb:SE X b g):SE X (.IfExp c a b pos) (vIf t f g):=(aKf hc ha hb).imp fun _ _ _ h=>aT8 h
theorem aJ:SA X [] aN:=qP.imp fun _ _ _ h=>aMn h
theorem aC {f:aQ} {g:dI} (ha:SE X e f) (hr:SA X es g) (hs:starEach (e::es) X.env=(false,eval e X.env)::starEach es X.env:=by rfl):SA X (e::es) (aE f g):=(iC ha hr hs).imp fun _ _ _ h=>aIv h
theorem jN {g:dI} (h:SA X es g):SE X (.List es pos) (pN g):=(aQx h).imp fun _ _ _ h=>aRy h
theorem iV {g:dI} {k} (h:SA X es g):SE X (.Tuple es k pos) (nP g):=(aQp h).imp fun _ _ _ h=>aRe h
theorem aG {f g:aQ} (ha:SE X a f) (hb:SE X b g) (hs:yP b:=by intro _ _;rfl):SE X (.Subscript a b pos) (v2 kIx f g):=(aNf (aEe.or aP0) ha hb hs).imp fun _ _ _ h=>aE7 aRw h
theorem aMa:SO X none aBb:=(aLu).imp fun _ _ _ h=>aHz h
theorem aRd {f:aQ} (ha:SE X a f):SO X (some a) (aIi f):=(aL3 ha).imp fun _ _ _ h=>aL4 h
theorem aSr {f:aQ} {lo hi:Option Expr} {l h:aAy} {p2:Pos} (ha:SE X a f) (hl:SO X lo l) (hh:SO X hi h):SE X (.Subscript a (.Slice lo hi none p2) pos) (vSl f l h):=(aHt aMb ha hl hh).imp fun _ _ _ h=>aUe h
theorem aAs {id:String} {x:Str} {p:Pos} {k:List (D×Bool)->R (D×Bool)} {r:List V->Hp->VK->Prop} {g:dI} (hc:lW X (.builtin id) r) (hk:OpA X.K k r) (hm:X.mg x=none) (hv:bootBuiltins x=some (.builtin id)) (ha:SA X (e::es) g) (hg:Gl X x:=by rfl)
  (hn:x ≠ "__name__" :=by decide) (hdb:(x == ("__debug__" : Str))=false:=by decide) (he:starEach (e::es) X.env=(false,eval e X.env)::starEach es X.env:=by rfl) (hpl:(backTo pos (starEach es X.env)).any (·.1)=false:=by rfl):SE X (.Call (.Name x p) (e::es) [] pos) (vCB k g) :=
 (zZ hc hg hm hv ha hn hdb he hpl).imp fun _ _ _ h=>aJa hk h
theorem aQg {T:String} {x:Str} {p:Pos} {k:List (D×Bool)->R (D×Bool)} {r:List V->Hp->VK->Prop} {g:dI} (hc:lW X (.type T) r) (hk:OpA X.K k r) (hm:X.mg x=none) (hv:bootBuiltins x=some (.type T)) (ha:SA X (e::es) g) (hg:Gl X x:=by rfl)
  (hn:x ≠ "__name__" :=by decide) (hdb:(x == ("__debug__" : Str))=false:=by decide) (he:starEach (e::es) X.env=(false,eval e X.env)::starEach es X.env:=by rfl) (hpl:(backTo pos (starEach es X.env)).any (·.1)=false:=by rfl):SE X (.Call (.Name x p) (e::es) [] pos) (vCB k g) :=
 (aGy hc hg hm hv ha hn hdb he hpl).imp fun _ _ _ h=>aJa hk h
structure Kn (P:Program) (w:World) (K:FG) (mg:Y6) (base:Heap) (k:Nat) (x:Str) (n:Nat) (fn:Fn):Prop where
 ex:∃(f:Addr) (fd:FuncData) (ps:List Str),FnOk P w K mg base (CX1 P w) k f fd ps (spV K n fn)/\mg x=some (.ref f)/\PySem.W.keepIn K (.ref f)=true/\Binds K fd ps []
def zK (n:Nat) (g:dI):Prop:=∀ρ xs,g ρ=.ok xs->xs.length=n
theorem aJh:zK 0 aN:=fun _ _ e=>by cases e;rfl
theorem nJ {n:Nat} {f:aQ} {g:dI} (h:zK n g):zK (n+1) (aE f g):=fun ρ xs e=>by
 unfold aE at e
 cases ef:f ρ with
 | exc _=>rw [ef] at e;cases e
 | bad=>rw [ef] at e;cases e
 | ok x =>
  rw [ef] at e
  cases eg:g ρ with
  | exc _=>rw [eg] at e;cases e
  | bad=>rw [eg] at e;cases e
  | ok ys =>
   rw [eg] at e
   have e:R.ok (x::ys)=R.ok xs:=e
   cases e
   rw [List.length_cons,h ρ ys eg]
theorem aW {k n:Nat} {x:Str} {fn:Fn} {g:dI} {p:Pos} (F:Kn X.prog X.w X.K X.mg X.base k x n fn) (hr:Room k X.A) (ha:SA X (e::es) g) (hl:zK n g) (hg:Gl X x:=by rfl) (hdb:(x == ("__debug__" : Str))=false:=by decide)
  (he:starEach (e::es) X.env=(false,eval e X.env)::starEach es X.env:=by rfl) (hpl:(backTo pos (starEach es X.env)).any (·.1)=false:=by rfl):SE X (.Call (.Name x p) (e::es) [] pos) (bB fn g):=by
 obtain ⟨f,fd,ps,F,hm,hk,hb⟩:=F.ex
 exact (aDs F hr hg hm hk hb .nil (fun _ _ _ _ _ _ _ h=>by obtain ⟨_,_,_,_,_,_,_,_,_,_,_,_,_,z⟩:=h;exact z.elim) ha hdb he hpl).imp fun _ _ _ h=>aLm hl h
theorem aR {f:aQ} (h:SE X e f):SX X W e (xOf f):=L2.PE.imp h fun _ _ _ h=>aNc h
theorem bI:SSs X W [] bJ:=aMj.imp fun _ _ _ h=>aLv h
theorem aF {f g:aX} {rest:List Stmt} (h1:SS X W st f) (h2:SSs X W rest g):SSs X W (st::rest) (aS f g):=(aIs h1 h2).imp fun _ _ _ h=>aP7 h
theorem aL {f:aX} (h1:SS X W st f):SSs X W [st] f:=aK3 h1
theorem iN (is:T0) {f:aX} (h:SS X W st f):SS X W st (nO is f):=L2.PS.imp h fun _ _ _ h=>aRt h
def aV7:aX:=fun _=>.bad
theorem yT {g:mP} (h:SX X W e g) (hs:swapsWith e none pos.line X.env=pure false:=by rfl):SS X W (.Expr e pos) (nR g):=(sR h hs).imp fun _ _ _ h=>aMu h
theorem bC {g:mP} (h:SX X W e g):SS X W (.Return (some e) pos) (bX g):=(aI0 h).imp fun _ _ _ h=>aQk h
theorem fP (i:Nat) {x:Str} {p:Pos} (hN:X.N[i]?=some x:=by rfl) (hv:Vis X.env.scope x:=by first | exact Or.inl rfl | exact Or.inr (Or.inl rfl) | exact Or.inr (Or.inr rfl)) (hd:(x == ("__debug__" : Str))=false:=by decide)
  (hcd:(x == ("__classdict__" : Str))=false:=by decide):SS X W (.Return (some (.Name x p)) pos) (gT i):=(aI0 (mL hN hv hd hcd)).imp fun _ _ _ h=>aLr h
theorem bW {t:cG} {f g:aX} {xs ys:List Stmt} (hc:ST X c t) (ha:SSs X W xs f) (hb:SSs X W ys g):SS X W (.If c xs ys pos) (sIf t f g):=(aUk hc ha hb).imp fun _ _ _ h=>aSw h
theorem aV (i:Nat) {x:Str} {g:mP} {pos':Pos} (nd:X.N.Nodup) (h:SX X W e g) (hi:X.N[i]?=some x:=by rfl) (hx:Loc X.env.scope x:=by first | exact Or.inl rfl | exact Or.inr rfl) (hs:swapsWith e (some (.Name x pos')) pos.line X.env=pure false:=by rfl)
  (hf:X.fn x=true\/X.env.scope.names.lookup x=some .local:=by first | exact .inl rfl | exact .inr rfl):SS X W (.Assign [.Name x pos'] e pos) (aY i g):=(aPj nd hi hx h hs hf).imp fun _ _ _ h=>aHf h
theorem cO (i:Nat) {x:Str} (nd:X.N.Nodup) (hi:X.N[i]?=some x:=by rfl) (hx:Loc X.env.scope x:=by first | exact Or.inl rfl | exact Or.inr rfl) (hf:X.fn x=true\/X.env.scope.names.lookup x=some .local:=by first | exact .inl rfl | exact .inr rfl):PG X (.Name x pos) (rV i):=aLw nd hi hx hf
theorem fA {i:Nat} {is:T0} (h1:PG X e (rV i)) (h2:PGs X es (lX is)) (hs:(assignEach (e::es) X.env).map (·.2)=assign e X.env::(assignEach es X.env).map (·.2):=by rfl):PGs X (e::es) (lX (i::is)):=aG4 h1 h2 hs
theorem rJ:PGs X [] (lX []):=aMe
theorem aF1 {is:T0} {g:mP} {k n:Nat} {tp:Pos} (hc:X.calm=true) (h:SX X W e g) (hg:PGs X es (lX is)) (hn':is.length=n) (hn:(assignEach es X.env).length=n:=by rfl) (hst:(assignEach es X.env).findIdx? (·.1)=none:=by rfl)
  (hs:swapsWithSole [.Tuple es k tp] e pos.line X.env=pure false:=by rfl) (hw:swappedStores [.Tuple es k tp] e X.env=pure none:=by rfl) (h1:(assignEach [.Tuple es k tp] X.env).map (·.2)=[assign (.Tuple es k tp) X.env]:=by rfl) :
  SS X W (.Assign [.Tuple es k tp] e pos) (kO is g):=(aJy h (mW hc hg hn hst) hs hw h1).imp fun _ _ _ h=>aFf hn' h
theorem jA (i:Nat) {x:Str} {f g:aQ} {p tp:Pos} (hi:SE X b g) (he:SE X e f) (hN:X.N[i]?=some x:=by rfl) (hv:Vis X.env.scope x:=by first | exact Or.inl rfl | exact Or.inr (Or.inl rfl) | exact Or.inr (Or.inr rfl)) (hd:(x == ("__debug__" : Str))=false:=by decide)
  (hcd:(x == ("__classdict__" : Str))=false:=by decide)
  (ha:∀v,assign (.Subscript (.Name x p) b tp) X.env v=(do
   let ov <- holding [v] (eval (.Name x p) X.env)
   let iv <- holding [v,ov] (eval b X.env)
   standAt tp
   holding [v,ov,iv] (setItem ov iv v)
   release [v,ov,iv] []):=by intro _;rfl)
  (hs:swapsWithSole [.Subscript (.Name x p) b tp] e pos.line X.env=pure false:=by rfl) (hw:swappedStores [.Subscript (.Name x p) b tp] e X.env=pure none:=by rfl) (h1:(assignEach [.Subscript (.Name x p) b tp] X.env).map (·.2)=[assign (.Subscript (.Name x p) b tp) X.env]:=by rfl) :
  SS X W (.Assign [.Subscript (.Name x p) b tp] e pos) (dQ i g f):=(aJy he (aO1 (mL hN hv hd hcd) hi set_list ha) hs hw h1).imp fun _ _ _ h=>aCb h
theorem aCl (i:Nat) {x:Str} {f:aQ} {op:Operator} {o:Int->Int->Int} {pos':Pos} (nd:X.N.Nodup) (ho:PIp X op (ipI o)) (he:SE X e f) (hi:X.N[i]?=some x:=by rfl) (hx:Loc X.env.scope x:=by first | exact Or.inl rfl | exact Or.inr rfl)
  (hf:X.fn x=true\/X.env.scope.names.lookup x=some .local:=by first | exact .inl rfl | exact .inr rfl):SS X W (.AugAssign (.Name x pos') op e pos) (uH i o f):=(aQl nd hi hx he ho hf).imp fun _ _ _ h=>aO4 h
theorem kH (n:Nat) {t:cG} {f:aX} {xs:List Stmt} (hp:PassesOwn (model X.prog X.w) X.A X.env X.xe) (hc:ST X c t) (hb:SSs X W xs f):SS X W (.While c xs [] pos) (bS t f n):=(aHa hp hc hb).imp fun _ _ _ h=>aG7 h
theorem dW {tg it:Expr} {f:jQ} {set:D->Env->Option Env} {g:TG} {b':aX} {xs:List Stmt} (hp:PassesOwn (model X.prog X.w) X.A X.env X.xe) (hc:X.calm=true) (hi:SI X tg it f) (hg:PG X tg g) (ht:Tgt X.K set g) (hb:SSs X W xs b')
  (hs:∀x,foldedSetIterable it X.env x=pure x:=by intro _;rfl):SS X W (.For tg it xs [] pos) (fW f set b'):=(aO8 hp hc hi hg hb hs).imp fun _ _ _ h=>aQy ht h
theorem cE {tg:Expr} {g:dI} {p:Pos} (hm:X.mg "range" = none) (ha:SA X [a] g) (hg:Gl X "range" :=by rfl) (hs:starEach [a] X.env=[(false,eval a X.env)]:=by rfl):SI X tg (.Call (.Name "range" p) [a] [] pos) (iR1 g) :=
 (aFh hg hm ha hs).imp fun _ _ _ h=>aFl h
theorem aGb {tg:Expr} {g:dI} {p:Pos} (hm:X.mg "range" = none) (ha:SA X [a,b] g) (hg:Gl X "range" :=by rfl) (hs:starEach [a,b] X.env=[(false,eval a X.env),(false,eval b X.env)]:=by rfl) (hs2:starEach [b] X.env=[(false,eval b X.env)]:=by rfl):SI X tg (.Call (.Name "range" p) [a,b] [] pos) (iR2 g) :=
 (aGl hg hm ha hs hs2).imp fun _ _ _ h=>aGr h
end
end VL
end
section
namespace VL
open PySem PySem.Spec PyProof.Rows L2
abbrev oQ:=Env->Option Nat
def aNy (F H:Hp) (Q:VK) (n:Nat):Prop:=∀(z:Str) F' H',Grow F H F' H'->z.length<=n->Q (.str z) H'
def tz (K:FG) (f:oQ):TE:=fun σ H Q=>∃ρ F fps,Sim K F H σ ρ fps/\∃n,f ρ=some n/\aNy F H Q n
abbrev SZ (X:Cx) (e:Expr) (f:oQ):Prop:=PE X e (tz X.K f)
def SZs (X:Cx) (es:List Expr) (f:oQ):Prop:=∀(pins:Y8) (s:Shared) (σ:L2.St) (H:Hp) (acc:Str) (Q:VK),L2.Inv X pins σ H s ->
 (∃ρ F fps,Sim X.K F H σ ρ fps/\∃n,f ρ=some n/\acc.length+n<=1000000/\aNy F H Q (acc.length+n)) ->
 Joins (model X.prog X.w) X.A X.xe (evalEach es X.env) acc (fun out s1=>out.length<=sizeLine/\EP X pins σ Q (.str out s1.toks) { s1 with toks:=s1.toks+1 }) s
section
variable {X:Cx} {W:XW} {e v1 v2:Expr} {es:List Expr} {pos:Pos}
theorem iQ {i j}:SZ X (.Constant (.str i) j pos) (fun _=>some i.length):=aOq.imp fun σ H Q h=>by
 obtain ⟨ρ,F,fps,S,n,en,h⟩:=h
 cases en
 exact h i F H (Grow.refl S.same) (Nat.le_refl _)
def aBj (g:aQ):oQ:=fun ρ=>match g ρ with | .ok (.int a,_)=>if a.natAbs<=100000 then some 100002 else none | _=>none
theorem aGa {a:Int} (h:a.natAbs<=100000):a.natAbs.log2<1920:=by
 by_cases h0:a.natAbs=0
 ·rw [h0];decide
 ·exact (Nat.log2_lt h0).mpr (Nat.lt_of_le_of_lt h (Nat.lt_of_lt_of_le (by decide:100000<2 ^ 17) (Nat.pow_le_pow_right (by decide) (by decide))))
theorem pW {g:aQ} (h:SE X e g):SZ X (.FormattedValue e (-1) none pos) (aBj g):=by
 intro pins s σ H Q I q
 obtain ⟨ρ,F,fps,S,n,en,q⟩:=q
 unfold aBj at en
 refine FormattedValue_plain (thn (h pins s σ H (fun v H'=>∃a,v=.int a/\a.natAbs<=100000/\∀z:Str,z.length<=100002->Q (.str z) H') I ⟨ρ,F,fps,S,?_⟩) fun u s1 ⟨v,H1,I1,r,a,ev,ha,hq⟩=>?_)
 ·cases eg:g ρ with
  | exc _=>rw [eg] at en;cases en
  | bad=>rw [eg] at en;cases en
  | ok x =>
   rw [eg] at en
   obtain ⟨x,b⟩:=x
   cases x<;>try cases en
   rename_i a
   dsimp only at en
   by_cases ha:a.natAbs<=100000
   ·rw [if_pos ha] at en;cases en
    intro v F1 H1 fx g1 o1 n1 k1
    unfold Own at o1
    exact ⟨a,o1.1,ha,fun z hz=>q z F1 H1 g1 hz⟩
   ·rw [if_neg ha] at en;cases en
 ·subst ev
  obtain ⟨t,rfl⟩:=r
  have hl:((Str.ofString (toString a)).length:Int)<=a.natAbs+2:=len_str_of_int a
  exact formatField_int_small (aGa ha) ⟨.str (Str.ofString (toString a)),H1,I1.tok _,⟨_,rfl⟩,hq _ (by omega)⟩
theorem pV:SZs X [] (fun _=>some 0):=by
 intro pins s σ H acc Q I q
 obtain ⟨ρ,F,fps,S,n,en,hn,q⟩:=q
 cases en
 exact ⟨gX hn,.str acc,H,I.tok _,⟨_,rfl⟩,q acc F H (Grow.refl S.same) (Nat.le_refl _)⟩
def lQ (f g:oQ):oQ:=fun ρ=>(f ρ).bind fun a=>(g ρ).map fun b=>a+b
theorem cU {f g:oQ} (h1:SZ X e f) (h2:SZs X es g) (he:evalEach (e::es) X.env=eval e X.env::evalEach es X.env:=by rfl):SZs X (e::es) (lQ f g):=by
 intro pins s σ H acc Q I q
 obtain ⟨ρ,F,fps,S,n,en,hn,q⟩:=q
 unfold lQ at en
 cases ef:f ρ with
 | none=>rw [ef] at en;cases en
 | some a =>
  rw [ef] at en
  cases eg:g ρ with
  | none=>rw [eg] at en;cases en
  | some b =>
   rw [eg] at en
   have en:some (a+b)=some n:=en
   cases en
   rw [he]
   refine thn (h1 pins s σ H (fun v H'=>∃z:Str,v=.str z/\z.length<=a/\∃F',Grow F H F' H') I ⟨ρ,F,fps,S,a,ef,fun z F' H' g1 hz=>⟨z,rfl,hz,F',g1⟩⟩) fun u s1 ⟨v,H1,I1,r,z,ev,hz,F1,g1⟩=>?_
   subst ev
   obtain ⟨t,rfl⟩:=r
   have hl:(acc++z).length=acc.length+z.length:=strLen_append _ _
   refine ⟨z,t,rfl,gX (by omega),h2 pins s1 σ H1 (acc++z) Q I1 ⟨ρ,F1,fps,S.grow g1,b,eg,by omega,fun y F' H' g2 hy=>q y F' H' (g1.trans g2) (by omega)⟩⟩
def zTop (f:oQ):oQ:=fun ρ=>(f ρ).bind fun n=>if n<=1000000 then some n else none
theorem pA {f:oQ} (h:SZs X (v1::v2::es) f):SZ X (.JoinedStr (v1::v2::es) pos) (zTop f):=by
 intro pins s σ H Q I q
 obtain ⟨ρ,F,fps,S,n,en,q⟩:=q
 unfold zTop at en
 cases ef:f ρ with
 | none=>rw [ef] at en;cases en
 | some a =>
  rw [ef] at en
  dsimp only [Option.bind] at en
  by_cases ha:a<=1000000
  ·rw [if_pos ha] at en;cases en
   have e0:(Str.empty).length=0:=rfl
   refine PySem.wpAny_JoinedStr (h pins s σ H Str.empty Q I ⟨ρ,F,fps,S,n,ef,by rw [e0];omega,?_⟩)
   rw [e0,Nat.zero_add];exact q
  ·rw [if_neg ha] at en;cases en
def lD (c:Str) (f:oQ):aX:=fun ρ=>match f ρ with | some _=>.exc c ρ | none=>.bad
def bmV:Y1:=[.type "ValueError",.type "Exception",.type "BaseException",.type "object"]
theorem kJ {c:Str} {C:Addr} {f:oQ} {np cpos:Pos} (L:LkF X W) (hcalm:X.calm=true) (hC:xR X.K c C) (hx:PySem.W.excIn X.K C bmV "ValueError.__new__" = true) (hm:X.mg c=some (.ref C)) (ha:SZ X e f) (hg:Gl X c:=by rfl) (hd:(c == ("__debug__" : Str))=false:=by decide)
  (he:starEach [e] X.env=(false,eval e X.env)::starEach [] X.env:=by rfl) (hpl:(backTo cpos (starEach [e] X.env)).any (·.1)=false:=by rfl) :
  SS X W (.Raise (some (.Call (.Name c np) [e] [] cpos)) none pos) (lD c f):=by
 intro pins s σ H D I h
 obtain ⟨ρ,F,fps,S,h⟩:=h
 unfold lD at h
 cases ef:f ρ with
 | none=>rw [ef] at h;exact h.elim
 | some n =>
  rw [ef] at h
  have h:eE X.K F H fps.flatten ρ σ (W c) ρ:=h
  have O:∃bm N nm q bs hdct sn sub ab col dd k0 k1 k2 k3 k5 mN,X.base.get? C=some (excClassObj nm q C N bs bm hdct sn sub ab col dd k0 k1 k2 k3 k5 "ValueError.__new__")/\X.base.Ns N mN/\mN "__init__" = none/\OwnTail X.base bmV bm:=by
   have KX:=I.ok.mod.kin
   have q:=hx
   unfold PySem.W.excIn at q
   split at q
   ·rename_i dd cd sl ho
    split at q
    ·rename_i C' bm k0 k1 k2 k3 n k5 hm hs
     simp only [Bool.and_eq_true,beq_iff_eq,Bool.not_eq_true'] at q
     obtain ⟨⟨⟨⟨⟨rfl,rfl⟩,hdel⟩,ht⟩,hok⟩,hni⟩:=q
     obtain ⟨nm,bs,mro,ns,qn,hd,sn,sub,ab,col,del⟩:=cd
     dsimp only at hm hdel hok hni
     subst hm hdel
     have hsl:sl = #[k0,k1,k2,k3,some (.builtin "ValueError.__new__"),k5]:=by
      obtain ⟨l⟩:=sl
      simp only at hs
      rw [hs]
     subst hsl
     exact ⟨bm,ns,nm,qn,bs,hd,sn,sub,ab,col,dd,k0,k1,k2,k3,k5,_,KX _ _ ho,.of_isNs (PySem.W.isNs_of_in KX hok),PySem.W.nsMap_none_of_in KX hok hni,PySem.W.tail_of_in KX ht⟩
    ·cases q
   ·cases q
  obtain ⟨bm,Nn,nm,q,bs,hdct,sn,sub,ab,col,dd,k0,k1,k2,k3,k5,mN,o1,o2,o3,o4⟩:=O
  refine wpAny_Raise_call_subT (C:=C) (nm:=nm) (q:=q) (N:=Nn) (bs:=bs) (bm:=bm) (hdct:=hdct) (sn:=sn) (sub:=sub) (ab:=ab) (col:=col) (dd:=dd) (k0:=k0) (k1:=k1) (k2:=k2) (k3:=k3) (k5:=k5)
   PySem.F.excBase_ValueError (mN:=mN) (o4.hasType PySem.F.excBase_ValueError.hasBase) (I.ok.hd hcalm) hpl o3 (sV I hg hm ⟨rfl,?_⟩ hd)
  rw [he]
  show wpAny _ _ (evalArgs _ true ((false,eval e X.env)::backTo cpos (starEach [] X.env)) []) _ _ s
  exact Calls.evalArgs_plain (Calls.spliced_cons (thn (ha pins s σ H (fun v H'=>∃F',Grow F H F' H') I ⟨ρ,F,fps,S,n,ef,fun z F' H' g1 _=>⟨F',g1⟩⟩) fun u s1 ⟨v,H1,I1,r,F1,g1⟩=>Calls.spliced_nil ⟨rfl,by show 1<=sizeLine;decide,I1.bk _ _ o1,o2.keeps I1.bk,o4.keeps I1.bk,fun h' e' hx=>L.fresh pins σ H1 s1 h' e' C c _ I1 hC hx (h σ F1 H1 fps g1.evo (S.grow g1) (fX.refl _ _))⟩))
end
end VL
end
section
namespace VL
open PySem PySem.Spec PyProof.Rows L2
section
variable {X:Cx} {pins pins':Y8} {σ:L2.St} {H H':Hp} {s s':Shared} {W:XW}
end
section
variable {X:Cx} {W:XW} {pos hpos np:Pos}
end
end VL
end
section
namespace VL
open PySem L2
section
variable {K:FG} {F H F' H' F1 H1:Hp} {σ σ1:St} {ρ ρ1:Env} {Q:VK}
def gZ (ρ:Env) (j:Nat):Slot:=match getD ρ j with | some d=>.val d.frz | none=>.un
def mO (ρ:Env) (j:Nat):Bool:=match getD ρ j with | some d=>d.calm | none=>true
def gL (set:D->Env->Option Env) (c:cG) (e:aQ):List D->Env->R (List D)
 | [],_=>.ok []
 | d::ds,ρ=>match set d ρ with
  | none=>.bad
  | some ρ1=>(c ρ1).bind fun b=>if b=true then (e ρ1).bind fun x=>if aU x then (gL set c e ds ρ1).bind fun r=>.ok (x.1::r) else .bad else gL set c e ds ρ1
def bQ (f:jQ) (nt:Nat) (js:T0) (set:D->Env->Option Env) (c:cG) (e:aQ):aQ:=fun ρ=>(f ρ).bind fun ds =>
 if decide (ds.length<=1000000) then (gL set c e ds (List.replicate nt .un++js.map (gZ ρ))).bind fun xs=>if js.all (mO ρ) || xs.all isScal then .ok (.lst true xs,true) else .bad else .bad
theorem cF {fps:Y5} (S:Sim K F H σ ρ fps):∀(js:T0),∃U:Y2,(∀b∈U,F b=none)/\(js.all (mO ρ)=true->U=[]) /\
  ∀U':Y2,(∀b∈U,b∈U')->(∀b∈U',F b=none)->∀(k:Nat) (d:D),(js.map (gZ ρ))[k]?=some (.val d)->∃v,(js.map fun j=>(σ[j]?).join)[k]?=some (some v)/\Own K (fK F H U') H d v []
 | []=>⟨[],by simp,fun _=>rfl,fun _ _ _ k d e=>by simp at e⟩
 | j::js=>by
  obtain ⟨U,u1,u2,u3⟩:=cF S js
  cases eg:getD ρ j with
  | none =>
   refine ⟨U,u1,fun h=>u2 (by rw [List.all_cons,Bool.and_eq_true] at h;exact h.2),fun U' s1 s2 k d e=>?_⟩
   cases k with
   | zero =>
    have e:gZ ρ j=.val d:=by simpa using e
    unfold gZ at e
    rw [eg] at e;cases e
   | succ k=>simpa using u3 U' s1 s2 k d (by simpa using e)
  | some d0 =>
   obtain ⟨v,fp,h1,h2,h3⟩:=S.get eg
   have hz:∀b∈fp,b∈fps.flatten:=fun b hb=>List.mem_flatten.mpr ⟨_,List.mem_of_getElem? h2,hb⟩
   refine ⟨fp++U,fun b hb=>(List.mem_append.mp hb).elim (fun q=>(S.zone b (hz b q)).1) (u1 b),fun h=>?_,fun U' s1 s2 k d e=>?_⟩
   ·rw [List.all_cons,Bool.and_eq_true] at h
    have hc:d0.calm=true:=by have:=h.1;unfold mO at this;rw [eg] at this;exact this
    rw [Own.eD d0 hc h3,u2 h.2];rfl
   ·cases k with
    | zero =>
     have e:gZ ρ j=.val d:=by simpa using e
     unfold gZ at e
     rw [eg] at e;cases e
     exact ⟨v,by simp [h1],Own.freeze s2 d0 (fun b hb=>s1 b (List.mem_append_left _ hb)) h3⟩
    | succ k=>simpa using u3 U' (fun b hb=>s1 b (List.mem_append_right _ hb)) s2 k d (by simpa using e)
theorem Sim.other {fps:Y5} {a:Addr} {o:HO} (S:Sim K F H σ ρ fps) (fa:F a=none) (ha:a ∉ fps.flatten):Sim K F (upd H a o) σ ρ fps:=by
 refine ⟨fun b u e=>?_,S.ls,S.lf,fun i s d e1 e2=>?_,S.nd,fun b hb=>?_⟩
 ·rw [bF (bO e fa)];exact S.same b u e
 ·obtain ⟨v,fp,h1,h2,h3⟩:=S.at_ i s d e1 e2
  exact ⟨v,fp,h1,h2,h3.other fun z=>ha (List.mem_flatten.mpr ⟨fp,List.mem_of_getElem? h2,z⟩)⟩
 ·refine ⟨(S.zone b hb).1,?_⟩
  have hne:b ≠ a:=fun z=>ha (z ▸ hb)
  rw [bF hne];exact (S.zone b hb).2
structure CSt (K:FG) (FB H1:Hp) (acc:Addr) (F' H':Hp) (σ':St) (ρ':Env) (done:List D):Prop where
 fr:bD FB F'
 all:∀b o,H1 b=some o->H' b=some o
 new:∀b o,F' b=some o->FB b=some o\/H1 b=none
 sim:∃fps',Sim K F' H' σ' ρ' fps'/\fps'.flatten=[]
 acc_:F' acc=none
 own:∃xs fa,H' acc=some (.lst xs)/\aH K F' H' done xs fa/\(acc::fa).Nodup/\∀b∈fa,H1 b=none
theorem CSt.grow {FB H1 F2 H2:Hp} {acc:Addr} {σ':St} {ρ':Env} {done:List D} (c:CSt K FB H1 acc F' H' σ' ρ' done) (g:Grow F' H' F2 H2):CSt K FB H1 acc F2 H2 σ' ρ' done:=by
 obtain ⟨fps',S,e⟩:=c.sim
 obtain ⟨xs,fa,a1,a2,a3,a4⟩:=c.own
 refine ⟨c.fr.trans g.fr,fun b o q=>g.all b o (c.all b o q),fun b o q=>?_,⟨fps',S.grow g,e⟩,?_,⟨xs,fa,g.all _ _ a1,a2.grow g,a3,a4⟩⟩
 ·rcases g.new b o q with z | z
  ·exact c.new b o z
  ·refine .inr ?_
   cases q2:H1 b with
   | none=>rfl
   | some u=>rw [c.all b u q2] at z;cases z
 ·cases q:F2 acc with
  | none=>rfl
  | some o =>
   rcases g.new acc o q with z | z
   ·rw [c.acc_] at z;cases z
   ·rw [a1] at z;cases z
theorem CSt.push {FB H1:Hp} {acc:Addr} {σ':St} {ρ':Env} {done:List D} {x:D} {v:V} {fx:Y2} (c:CSt K FB H1 acc F' H' σ' ρ' done) (hacc:H1 acc=none) (o:Own K F' H' x v fx) (n:fx.Nodup) {Hm:Hp} (hm:∀b∈fx,Hm b=none) (hsub:∀b o,H1 b=some o->∃o',Hm b=some o') (hdone:∃xs fa,H' acc=some (.lst xs)/\aH K F' H' done xs fa/\(acc::fa).Nodup/\(∀b∈fa,H1 b=none)/\∀b∈acc::fa,Hm b ≠ none) :
  ∃xs,H' acc=some (.lst xs)/\xs.length=done.length/\CSt K FB H1 acc F' (upd H' acc (.lst (xs ++ [v]))) σ' ρ' (done ++ [x]):=by
 obtain ⟨fps',S,e⟩:=c.sim
 obtain ⟨xs,fa,a1,a2,a3,a4,hd⟩:=hdone
 have nx:∀b∈acc::fa,b ∉ fx:=fun b hb z=>hd b hb (hm b z)
 have nacc:=List.nodup_cons.mp a3
 refine ⟨xs,a1,(aH.length done a2).symm,c.fr,fun b u q=>?_,c.new,⟨fps',S.other c.acc_ (by rw [e];simp),e⟩,c.acc_,⟨xs ++ [v],fa++fx,bU,aH.append done (a2.other nacc.1) (aH.one (o.other (nx acc List.mem_cons_self))),?_,fun b hb=>?_⟩⟩
 ·rw [bF (bO q hacc)];exact c.all b u q
 ·refine List.nodup_cons.mpr ⟨fun z=>(List.mem_append.mp z).elim nacc.1 (nx acc List.mem_cons_self),List.nodup_append.mpr ⟨nacc.2,n,fun p hp q hq z=>?_⟩⟩
  subst z
  exact nx p (List.mem_cons_of_mem _ hp) hq
 ·rcases List.mem_append.mp hb with hb | hb
  ·exact a4 b hb
  ·cases q:H1 b with
   | none=>rfl
   | some u =>
    obtain ⟨o',z⟩:=hsub b u q
    rw [hm b hb] at z;cases z
theorem aD5 {f:jQ} {nt:Nat} {js:T0} {set:D->Env->Option Env} {g:TG} {c:cG} {e:aQ} (ht:Tgt K set g) (h:tv K (bQ f nt js set c e) σ H Q):aE5 (iv K f) nt js g (tvT K c) (tv K e) σ H Q:=by
 obtain ⟨ρ,F,fps,S,h⟩:=h
 refine ⟨ρ,F,fps,S,R.aM (R.aO.mp h) fun ds hds J F1 H1 g1 hJ acc hacc=>?_⟩
 by_cases hsz:decide (ds.length<=1000000)=true
 ·rw [if_pos hsz] at hds
  rw [decide_eq_true_iff] at hsz
  have hds:=R.aO.mp hds
  have S1:=S.grow g1
  obtain ⟨U,u1,u2,u3⟩:=cF S1 js
  have own0:=u3 U (fun b hb=>hb) u1
  let FB:=fK F1 H1 U
  have sB:bD F1 FB:=fM u1
  have inB:bD FB H1:=pB g1.inn
  let H1':=upd H1 acc (.lst [])
  have gB:Grow FB H1 FB H1':=Grow.one inB hacc
  let σ0:St:=List.replicate nt none++js.map fun j=>(σ[j]?).join
  let ρ0:Env:=List.replicate nt .un++js.map (gZ ρ)
  have C0:CSt K FB H1 acc FB H1' σ0 ρ0 []:=by
   refine ⟨bD.refl _,fun b o q=>by show upd H1 acc _ b=_;rw [bF (bO q hacc)];exact q,fun b o q=>.inl q,⟨List.replicate ρ0.length [],⟨gB.inn,?_,by simp,fun i s d e1 e2=>?_,by simp,fun a ha=>by simp at ha⟩,by simp⟩,inB.free hacc,⟨[],[],bU,aH.nil,by simp,fun b hb=>by cases hb⟩⟩
   ·show (List.replicate nt none++js.map _).length=(List.replicate nt Slot.un++js.map _).length
    simp
   ·have e1:(List.replicate nt Slot.un++js.map (gZ ρ))[i]?=some s:=e1
    by_cases hi:i<nt
    ·rw [List.getElem?_append_left (by simpa using hi),List.getElem?_replicate,if_pos hi] at e1
     cases e1;cases e2
    ·rw [List.getElem?_append_right (by simpa using hi),List.length_replicate] at e1
     have es:s=.val d:=by
      rw [List.getElem?_map] at e1
      cases ej:js[i - nt]? with
      | none=>rw [ej] at e1;cases e1
      | some j =>
       rw [ej] at e1
       have e1:gZ ρ j=s:=Option.some.inj e1
       unfold gZ at e1
       cases eg:getD ρ j with
       | none=>rw [eg] at e1;subst e1;cases e2
       | some d0=>rw [eg] at e1;subst e1;cases e2;rfl
     subst es
     obtain ⟨v,q1,q2⟩:=own0 (i - nt) d e1
     refine ⟨v,[],?_,?_,q2.grow gB⟩
     ·show (List.replicate nt none++js.map fun j=>(σ[j]?).join)[i]?=_
      rw [List.getElem?_append_right (by simpa using hi),List.length_replicate];exact q1
     ·have hl:i < ρ0.length:=by
       have:=(List.getElem?_eq_some_iff.mp e1).1
       show i<(List.replicate nt Slot.un++js.map (gZ ρ)).length
       simp at this ⊢;omega
      rw [List.getElem?_replicate,if_pos hl]
  refine ⟨fun i m σ' H'=>i<=ds.length/\m=ds.length - i/\∃ρ' F' done,CSt K FB H1 acc F' H' σ' ρ' done/\done.length<=i /\
    (gL set c e (ds.drop i) ρ').holds (fun rest=>(if js.all (mO ρ) || (done++rest).all isScal then R.ok (D.lst true (done++rest),true) else R.bad).holds (EPost K F H Q)),
   ⟨ds.length,Nat.zero_le _,rfl,ρ0,FB,[],C0,Nat.le_refl _,hds⟩,?_⟩
  rintro i m σ' H' ⟨hi,rfl,ρ',F',done,C,hdl,hrest⟩
  obtain ⟨fps',S',e'⟩:=C.sim
  by_cases hlt:i<ds.length
  ·refine .inr ?_
   obtain ⟨d,hd⟩:∃d,ds[i]?=some d:=⟨ds[i],by simp [hlt]⟩
   have hdrop:ds.drop i=d::ds.drop (i+1):=by
    rw [List.drop_eq_getElem_cons hlt]
    congr 1
    rw [List.getElem?_eq_getElem hlt] at hd;exact Option.some.inj hd
   rw [hdrop] at hrest
   obtain ⟨go,yl⟩:=hJ.2 i d hd F' H' (sB.trans C.fr) S'.same
   refine ⟨go,fun x H2 hy=>?_⟩
   obtain ⟨F2,g2,o2⟩:=yl x H2 hy
   have C2:=C.grow g2
   unfold gL at hrest
   cases es:set d ρ' with
   | none=>rw [es] at hrest;exact hrest.elim
   | some ρ2 =>
    rw [es] at hrest
    have hrest:=R.aO.mp hrest
    refine ht F2 H2 d x ρ' ρ2 σ' fps' _ (S'.grow g2) o2 es fun σ2 fps2 S2 p2 k2=>?_
    have e2':fps2.flatten=[]:=by
     cases q:fps2.flatten with
     | nil=>rfl
     | cons b l=>have:=k2 b (by rw [q];exact List.mem_cons_self);rw [e'] at this;cases this
    have C2':CSt K FB H1 acc F2 H2 σ2 ρ2 done:=⟨C2.fr,C2.all,C2.new,⟨fps2,S2,e2'⟩,C2.acc_,C2.own⟩
    refine ⟨ρ2,F2,fps2,S2,R.aM hrest fun b hb F3 H3 g3=>?_⟩
    have C3:=C2'.grow g3
    cases b with
    | false =>
     rw [if_neg Bool.false_ne_true] at hb
     show if false=true then _ else _
     rw [if_neg Bool.false_ne_true]
     exact ⟨ds.length - (i+1),by omega,by omega,rfl,ρ2,F3,done,C3,by omega,hb⟩
    | true =>
     rw [if_pos rfl] at hb
     show if true=true then _ else _
     rw [if_pos rfl]
     obtain ⟨fps3,S3,e3'⟩:=C3.sim
     refine ⟨ρ2,F3,fps3,S3,R.aM (R.aO.mp hb) fun y hy v F4 H4 fy g4 o4 n4 k4=>?_⟩
     by_cases hk:aU y=true
     ·rw [if_pos hk] at hy
      have hy:=R.aO.mp hy
      have k5:=qA hk o4 k4
      have C4:=C3.grow g4
      obtain ⟨xs,a1,a2,C5⟩:=C4.push hacc o4 n4 (Hm:=H3) k5 (fun b o q=>⟨o,C3.all b o q⟩) (by
       obtain ⟨ys,fa',b1,b2,b3,b4⟩:=C3.own
       refine ⟨ys,fa',g4.all _ _ b1,b2.grow g4,b3,b4,fun b hb=>?_⟩
       rcases List.mem_cons.mp hb with rfl | hb
       ·rw [b1];simp
       ·obtain ⟨_,zs,z⟩:=aH.zone done b2 b hb
        rw [z];simp)
      refine ⟨xs,a1,sM (by omega),ds.length - (i+1),by omega,by omega,rfl,ρ2,F4,done ++ [y.1],C5,by simp;omega,R.aM hy fun r hr=>?_⟩
      have hr:(if js.all (mO ρ) || (done++y.1::r).all isScal then R.ok (D.lst true (done++y.1::r),true) else R.bad).holds (EPost K F H Q):=hr
      rw [show done ++ [y.1]++r=done++y.1::r by simp]
      exact hr
     ·rw [if_neg hk] at hy;exact hy.elim
  ·have hil:i=ds.length:=by omega
   refine .inl ⟨hJ.1 i H' (sB.trans (C.fr.trans S'.same)) (by omega),?_⟩
   rw [List.drop_eq_nil_of_le (by omega)] at hrest
   have hrest:(if js.all (mO ρ) || (done ++ []).all isScal then R.ok (D.lst true (done ++ []),true) else R.bad).holds (EPost K F H Q):=hrest
   rw [List.append_nil] at hrest
   obtain ⟨xs,fa,a1,a2,a3,a4⟩:=C.own
   have hall:bD H H':=g1.all.trans C.all
   have frsh:∀b∈acc::fa,H b=none:=fun b hb=>by
    rcases List.mem_cons.mp hb with rfl | hb
    ·exact g1.all.free hacc
    ·exact g1.all.free (a4 b hb)
   by_cases hcap:js.all (mO ρ)=true
   ·rw [hcap,Bool.true_or,if_pos rfl] at hrest
    have hU:=u2 hcap
    subst hU
    have eFB:∀b,FB b=F1 b:=fun b=>by show fK F1 H1 [] b=F1 b;unfold fK;simp
    refine hrest (.ref acc) F' H' (acc::fa) ⟨g1.fr.trans (sB.trans C.fr),hall,S'.same,fun b o q=>?_⟩ (Own.closed a2 C.acc_ a1) a3 fun _ b hb=>frsh b hb
    rcases C.new b o q with z | z
    ·rw [eFB] at z;exact g1.new b o z
    ·exact .inr (g1.all.free z)
   ·by_cases hsc:done.all isScal=true
    ·rw [hsc,Bool.or_true,if_pos rfl] at hrest
     have hfa:fa=[]:=by
      refine aH.eD done ?_ a2
      rw [D.aB3]
      rw [List.all_eq_true] at hsc ⊢
      intro x hx
      have:=hsc x hx
      unfold isScal at this
      cases x<;>first | rfl | (simp [iX] at this)
     subst hfa
     have o1:aH K F1 H' done xs []:=by
      refine aH.of_get done (aH.length done a2) fun k d v e1 e2=>?_
      have hd:isScal d=true:=by rw [List.all_eq_true] at hsc;exact hsc d (List.mem_of_getElem? e1)
      unfold isScal at hd
      cases q:iX d with
      | none=>rw [q] at hd;cases hd
      | some w =>
       have:=yY q (aH.aR3 a2 e1 e2)
       rw [this.1];exact eO q
     refine hrest (.ref acc) F1 H' [acc] ⟨g1.fr,hall,(sB.trans C.fr).trans S'.same,fun b o q=>g1.new b o q⟩ (Own.closed o1 (g1.inn.free hacc) a1) a3 fun _ b hb=>frsh b hb
    ·have:(js.all (mO ρ) || done.all isScal)=false:=by
      rw [Bool.eq_false_iff];intro z
      rcases Bool.or_eq_true _ _ ▸ z with z | z
      ·exact hcap z
      ·exact hsc z
     rw [this] at hrest;exact hrest.elim
 ·rw [if_neg hsz] at hds;exact hds.elim
end
end VL
end
section
namespace VL
open PySem PySem.Spec PyProof.Rows L2
def Ite (K:FG) (a:Addr):It :=
 ⟨fun i H=>∃xs x,SqL K H a xs/\xs[i]?=some x,fun i H x H'=>∃p y,H p=none/\x=.ref p/\(∀xs,SqL K H a xs->xs[i]?=some y)/\H'=upd H p (.tup [.int i,y]),fun i H=>∃xs,SqL K H a xs/\xs.length<=i⟩
section
variable {X:Cx} {pins:Y8} {σ:L2.St} {H:Hp} {s:Shared}
theorem aJj {e it:Addr} {h':Heap} {t':Nat} {xs:List V} {its:Y1} (I:L2.Inv X pins σ H s) (he:tK X pins H e) (hi:tK X pins H it) (k:∀b o,b ≠ e->b ≠ it->s.heap.get? b=some o->h'.get? b=some o)
  (he':∃o,h'.get? e=some o) (hi':∃o,h'.get? it=some o) (r:Vals xs its) (hz:xs.length<=sizeLine) (hp:IsTup h' s.heap.objs.size its.toArray):L2.Inv X pins σ (upd H s.heap.objs.size (.tup xs)) { s with heap:=h',toks:=t' }:=by
 have fr:=I.fresh
 have U:Un (frs X.stack) [e,it] H (upd H s.heap.objs.size (.tup xs)) s.heap h':=by
  refine ⟨fun b o q _ _ hx=>k b o (fun z=>hx (by simp [z])) (fun z=>hx (by simp [z])) q,fun b o q _ _ hx=>⟨o.slots,k b o (fun z=>hx (by simp [z])) (fun z=>hx (by simp [z])) q⟩,fun b o q n _=>by rw [bF (Nat.ne_of_lt (Heap.lt_size q))];exact n,
   fun b o q hx=>⟨o,k b o (fun z=>hx (by simp [z])) (fun z=>hx (by simp [z])) q⟩,fun b ys q=>by rw [bF (bO q fr)];exact q,fun b o u q=>by rw [bF (bO q fr)];exact q,fun b ps q=>⟨#[],by rw [bF (bO q fr),q];simp⟩⟩
 refine I.aFd (s':={ s with heap:=h',toks:=t' }) rfl U (fun b u q=>?_) I.bare fun b hb=>?_
 ·by_cases hb:b=s.heap.objs.size
  ·subst hb;rw [bU] at q;cases q
   exact ⟨hz,its,r,hp⟩
  ·rw [bF hb] at q
   refine (I.hok b u q).stay (fun c v hc q'=>k c v ?_ ?_ q') (fun c q'=>by rw [bF (bO q' fr)];exact q') fun c ys q'=>by rw [bF (bO q' fr)];exact q'
   ·rintro rfl
    rcases hc with rfl | hc
    ·rw [he.1] at q;cases q
    ·rw [he.1] at hc;cases hc
   ·rintro rfl
    rcases hc with rfl | hc
    ·rw [hi.1] at q;cases q
    ·rw [hi.1] at hc;cases hc
 ·have:b=e\/b=it:=by simpa using hb
  rcases this with rfl | rfl
  ·exact ⟨he.2.2.2.1,he.2.1,he.2.2.2.2.1,he.2.2.2.2.2⟩
  ·exact ⟨hi.2.2.2.1,hi.2.1,hi.2.2.2.2.1,hi.2.2.2.2.2⟩
theorem aFx {P:Program} {w:World} {K:FG} {elts:List Expr} {k:Nat} {tp:Pos} (a e it:Addr) (hei:e ≠ it):Turn P w K (.Tuple elts k tp) (Ite K a) [e,it] e (fun i h=>(∃old,IsEnum h e it i old)/\h.IsListIter it a i) where
 mem:=by simp
 obj:=fun i h st b hb=>by
  obtain ⟨⟨old,he⟩,o,ho,c,d⟩:=st
  have:b=e\/b=it:=by simpa using hb
  rcases this with rfl | rfl
  ·exact ⟨_,he,fun v z=>by
    have z':Data.fields _=Data.cell v:=z
    cases z'⟩
  ·exact ⟨o,ho,fun v z=>by rw [d] at z;cases z⟩
 keep:=fun i h h' st kk=>by
  obtain ⟨⟨old,he⟩,hit⟩:=st
  exact ⟨⟨old,kk e (by simp) _ he⟩,hit.at fun o x=>kk it (by simp) o x⟩
 item:=by
  intro X hP hw hK hc i pins s σ H E I hf st hg
  subst hP hw hK
  obtain ⟨xs,x,hq,hx⟩:=hg
  obtain ⟨its,rv,p,hz⟩:=I.list hq
  obtain ⟨u,hu,ru⟩:=rv.get hx
  obtain ⟨⟨old,he⟩,hit⟩:=st
  have fe:=hf e (by simp)
  have fi:=hf it (by simp)
  refine wpAny_pyNext_enum_item he hit p.isList (x:=u) (by simpa using hu) hei fun h' heo hit' ht hsz hk=>⟨_,rfl,?_⟩
  refine wpAny_letOwnedTupleGo_enum heo fun h2 he2 hs2=>?_
  have hs2:Heap.SameBut e h' h2:=hs2
  have hel:e<s.heap.objs.size:=Heap.lt_size he
  have hil:it<s.heap.objs.size:=by obtain ⟨o,ho,_⟩:=hit;exact Heap.lt_size ho
  have hit2:h2.IsListIter it a (i+1):=hit'.at fun o y=>(hs2.2 it hei.symm).trans y
  have I2:=aJj (h':=h2) (t':=s.toks+1) (xs:=[.int i,x]) (its:=[.int i s.toks,u]) I fe fi (fun b o n1 n2 q=>(hs2.2 b n1).trans (hk b o n1 n2 q)) ⟨_,he2⟩ (let ⟨o,ho,_⟩:=hit2;⟨o,ho⟩) (.cons ⟨_,rfl⟩ (.cons ru .nil)) (by show 2<=sizeLine;decide)
   ⟨_,(hs2.2 _ (Nat.ne_of_gt hel)).trans ht,rfl,_,rfl⟩
  refine ⟨.ref s.heap.objs.size,_,I2,rfl,⟨s.heap.objs.size,x,I.fresh,rfl,fun ys hy=>by rw [I.aB1 hy hq];exact hx,rfl⟩,⟨⟨u,by simpa using he2⟩,hit2⟩,fun b hb=>?_⟩
  have:b=e\/b=it:=by simpa using hb
  rcases this with rfl | rfl
  ·rw [bF (Nat.ne_of_lt hel)];exact fe.1
  ·rw [bF (Nat.ne_of_lt hil)];exact fi.1
 done:=by
  intro X hP hw hK hc i pins s σ H E I hf st hg
  subst hP hw hK
  obtain ⟨xs,hq,hx⟩:=hg
  obtain ⟨its,rv,p,hz⟩:=I.list hq
  obtain ⟨⟨old,he⟩,hit⟩:=st
  obtain ⟨f0,f1,f2,f3,f4,f5⟩:=hf it (by simp)
  have hl:=rv.length
  exact wpAny_pyNext_enum_end (I.ok.hd hc) he hit p.isList (by simp;omega) fun h' eb=>⟨rfl,I.turned (t':=s.toks) (fun b o hb e=>eb b o hb e) f0 f1 f3 f4 f5⟩
 self:=fun _ _ _ _ _ st h=>by
  obtain ⟨⟨old,he⟩,_⟩:=st
  exact wpAny_pyIter_enum he h
def aNo (K:FG) (ta:TA):TI:=fun σ H R=>ta σ H fun vs H1=>∃a xs,vs=[.ref a]/\Rd H1 a (.lst xs)/\R (Ite K a) H1
theorem aLh {a:Expr} {ta:TA} {p pos tp:Pos} {elts:List Expr} {k:Nat} (hg:Gl X "enumerate") (hm:X.mg "enumerate" = none) (ha:PA X [a] ta) (hs:starEach [a] X.env=[(false,eval a X.env)]:=by rfl):PI X (.Tuple elts k tp) (.Call (.Name "enumerate" p) [a] [] pos) (aNo X.K ta):=by
 intro pins s σ H R I h
 refine Call_ (mU I hg hm boot_enumerate (PyProof.Rows.callWith_type1 (thn (ha pos pins s σ H _ I h) fun us s1 ⟨vs,H1,I1,r1,q1⟩=>?_) hs rfl))
 obtain ⟨l,xs,e,hr,q⟩:=q1
 subst e
 cases r1 with
 | cons r rr =>
  cases rr
  cases r
  obtain ⟨z,its,n,rv,e⟩:=hr.ok I1.hok
  refine call_enumerate_1 e fun h' he hit hsz hk=>?_
  refine wpAny_pyIter_enum he ?_
  have I2:L2.Inv X pins σ H1 { s1 with heap:=h' }:=I1.kept (t':=s1.toks) hk
  refine ⟨s1.heap.objs.size+1,[s1.heap.objs.size+1,s1.heap.objs.size],_,_,H1,rfl,I2,aFx l _ _ (Nat.succ_ne_self _),⟨⟨_,he⟩,hit⟩,fun b hb=>?_,q⟩
  have hb':b=s1.heap.objs.size+1\/b=s1.heap.objs.size:=by simpa using hb
  have hle:s1.heap.objs.size<=b:=by
   rcases hb' with rfl | rfl
   ·exact Nat.le_succ _
   ·exact Nat.le_refl _
  exact I1.aKk hle (I1.hok.fresh hle)
end
section
variable {K:FG} {F H:Hp} {σ:L2.St}
def oX (ds:List D):List D:=ds.zipIdx.map fun p=>.tup [.int (p.2:Nat),p.1]
end
end VL
end
section
namespace VL
open PySem PySem.Spec PyProof.Rows L2
section
variable {X:Cx} {pins:Y8} {σ:L2.St} {H:Hp} {s:Shared}
end
section
variable {K:FG} {F H:Hp} {σ:L2.St}
def zG (x:D×Bool):R (List D):=match x.1 with
 | .lst _ ds=>if aU x then .ok (D.frzs ds) else .bad
 | _=>.bad
def vW (f:aQ):jQ:=fun ρ=>(f ρ).bind fun x=>(zG x).bind fun ds=>.ok (oX ds)
def aS5 (f:aQ):jQ:=fun ρ=>(f ρ).bind fun x=>zG x
theorem icy {F0 H0:Hp} {x:D×Bool} {v:V} {fx:Y2} {ds:List D} (g:Grow F0 H0 F H) (o:Own K F H x.1 v fx) (k:x.2=true->∀b∈fx,H0 b=none) (e:zG x=.ok ds) :
  ∃a xs F',v=.ref a/\Grow F0 H0 F' H/\bD F F'/\(∀b u,F' b=some u->F b=some u\/b∈fx)/\Rd F' a (.lst xs)/\aH K F' H ds xs []:=by
 unfold zG at e
 split at e
 ·rename_i w es hx
  by_cases hk:aU x=true
  ·rw [if_pos hk] at e;cases e
   have kf:=qA hk o k
   have zo:∀b∈fx,F b=none:=fun b hb=>(Own.zone x.1 o b hb).1
   have of_:=Own.freeze (fp:=fx) zo x.1 (fun b hb=>hb) o
   rw [hx] at of_
   unfold D.frz Own at of_
   obtain ⟨a,xs,fq,ev,r,q⟩:=of_
   rcases q with ⟨q,_⟩ | ⟨_,q,q2,_⟩
   ·cases q
   ·subst q2
    refine ⟨a,xs,fK F H fx,ev,g.frz kf zo,fM zo,fun b u q=>?_,q,r⟩
    unfold fK at q
    split at q
    ·exact .inr (by assumption)
    ·exact .inl q
  ·rw [if_neg hk] at e;cases e
 ·cases e
theorem R.qG {α:Type} {x:R α} {P:α->Prop} (h:x.holds P):∃a,x=.ok a/\P a:=by
 cases x with
 | ok a=>exact ⟨a,rfl,h⟩
 | exc _=>exact h.elim
 | bad=>exact h.elim
theorem aFr {F:Hp} {ds:List D} {a:Addr} {xs:List V} (q:Rd F a (.lst xs)) (r:aH K F H ds xs []):zS K F ds (Itl K a):=by
 have q:SqL K F a xs:=.inl q
 refine ⟨fun i H' hs hl=>⟨xs,hs.seq q,by rw [<- aH.length ds r];exact hl⟩,fun i d hd F' H' s1 s2=>?_⟩
 obtain ⟨u,f,q1,q2,q3⟩:=aH.get ds r hd
 refine ⟨⟨xs,u,(s1.trans s2).seq q,q1⟩,fun y H2 hy=>?_⟩
 obtain ⟨e,hy⟩:=hy
 subst e
 have ey:=hy xs ((s1.trans s2).seq q)
 rw [q1] at ey;cases ey
 have:f=[]:=List.sublist_nil.mp q3
 subst this
 exact ⟨F',Grow.refl s2,Own.keep s1 d (fun a ha=>by cases ha) q2⟩
theorem aFo {F:Hp} {ds:List D} {a:Addr} {ys:List V} (q:Rd F a (.lst ys)) (rr:aH K F H ds ys []):zS K F (oX ds) (Ite K a):=by
 refine ⟨fun i H' hs hl=>?_,fun i d hd F' H' s1 s2=>?_⟩
 ·refine ⟨ys,.inl (bD.rd hs q),?_⟩
  rw [<- aH.length ds rr]
  unfold oX at hl
  simpa using hl
 ·unfold oX at hd
  rw [List.getElem?_map,List.getElem?_zipIdx] at hd
  cases ed:ds[i]? with
  | none=>rw [ed] at hd;cases hd
  | some d0 =>
   rw [ed] at hd
   have hd:D.tup [.int ((0+i:Nat):Int),d0]=d:=Option.some.inj hd
   subst hd
   obtain ⟨u,f,q1,q2,q3⟩:=aH.get ds rr ed
   have:f=[]:=List.sublist_nil.mp q3
   subst this
   refine ⟨⟨ys,u,.inl (bD.rd (s1.trans s2) q),q1⟩,fun x H2 hy=>?_⟩
   obtain ⟨p,y,hp,ex,hy,eH⟩:=hy
   subst ex;subst eH
   have ey:=hy ys (.inl (bD.rd (s1.trans s2) q))
   rw [q1] at ey;cases ey
   have g2:Grow F' H' (upd F' p (.tup [.int (i:Int),u])) (upd H' p (.tup [.int (i:Int),u])):=Grow.both s2 hp
   refine ⟨_,g2,?_⟩
   unfold Own
   refine ⟨rfl,p,[.int (i:Int),u],rfl,SqT.of bU,?_⟩
   have o1:Own K (upd F' p (.tup [.int (i:Int),u])) (upd H' p (.tup [.int (i:Int),u])) (.int ((0+i:Nat):Int)) (.int (i:Int)) []:=eO (by rw [Nat.zero_add];rfl)
   exact aH.cons o1 (aH.one ((Own.keep s1 d0 (fun a ha=>by cases ha) q2).grow g2))
theorem aRl {f:aQ} {R':It->Hp->Prop} (h:iv K (vW f) σ H R'):aNo K (rS (tv K f) aDg) σ H R':=by
 obtain ⟨ρ,F,fps,S,h⟩:=h
 refine ⟨ρ,F,fps,S,R.aM (R.aO.mp h) fun x hx v F1 H1 fx g1 o1 n1 k1=>?_⟩
 obtain ⟨ds,ed,hy⟩:=R.qG (R.aO.mp hx)
 obtain ⟨a,xs,Fa,ea,ga,sa,na,ra,oa⟩:=icy g1 o1 k1 ed
 subst ea
 exact ⟨a,xs,rfl,bD.rd ga.inn ra,hy _ Fa H1 ga (aFo (H:=H1) ra oa)⟩
theorem aPq {f:aQ} {R':It->Hp->Prop} (h:iv K (aS5 f) σ H R'):aHn K (tv K f) σ H R':=by
 obtain ⟨ρ,F,fps,S,h⟩:=h
 refine ⟨ρ,F,fps,S,R.aM (R.aO.mp h) fun x hx v F1 H1 fx g1 o1 n1 k1=>?_⟩
 obtain ⟨ds,ed,hy⟩:=R.qG hx
 obtain ⟨a,xs,Fa,ea,ga,sa,na,ra,oa⟩:=icy g1 o1 k1 ed
 subst ea
 exact ⟨a,rfl,⟨xs,.inl (bD.rd ga.inn ra)⟩,hy _ Fa H1 ga (aFr (H:=H1) ra oa)⟩
def aGx (x:D×Bool):R (List D):=match x.1 with
 | .lst _ ds=>if aU x then .ok (D.frzs ds) else .bad
 | .tup ds=>.ok ds
 | _=>.bad
def eZ (f:aQ):jQ:=fun ρ=>(f ρ).bind aGx
theorem aPr {f:aQ} {R':It->Hp->Prop} (h:iv K (eZ f) σ H R'):aHn K (tv K f) σ H R'\/aO3 K (tv K f) σ H R':=by
 obtain ⟨ρ,F,fps,S,h⟩:=h
 unfold eZ at h
 obtain ⟨x,ex,hx⟩:=R.qG (R.aO.mp h)
 obtain ⟨ds,ed,hd⟩:=R.qG hx
 unfold aGx at ed
 split at ed
 ·rename_i o es hx'
  refine .inl (aPq ⟨ρ,F,fps,S,?_⟩)
  unfold aS5
  rw [ex]
  show (zG x).holds _
  unfold zG
  rw [hx']
  dsimp only
  rw [ed];exact hd
 ·rename_i es hx'
  cases ed
  refine .inr (aOw ⟨ρ,F,fps,S,?_⟩)
  unfold aM8
  rw [ex]
  show (match x.1 with | .tup ds=>R.ok ds | _=>.bad).holds _
  rw [hx'];exact hd
 ·cases ed
end
end VL
end
section
namespace VL
open PySem PySem.Spec PyProof.Rows L2
mutual
def D.py:D->PyData
 | .non=>.none | .bl b=>.bool b | .int i=>.int i | .str x=>.str x
 | .tup ds=>.tuple (D.pys ds)
 | .lst _ ds=>.list (D.pys ds)
 | .ext _ _=>.none
def D.pys:List D->List PyData
 | []=>[]
 | d::ds=>d.py::D.pys ds
end
mutual
def D.plain:D->Bool
 | .tup ds=>D.nB ds
 | .lst _ ds=>D.nB ds
 | .ext _ _=>false
 | _=>true
def D.nB:List D->Bool
 | []=>true
 | d::ds=>d.plain && D.nB ds
end
section
variable {X:Cx} {pins:Y8} {σ:L2.St} {F H:Hp} {s:Shared}
mutual
theorem dG (I:L2.Inv X pins σ H s) (hs:bD F H):∀(d:D) {v:V} {fp:Y2} {u:Value},d.plain=true->Own X.K F H d v fp->RelV v u->∃as,Reads s.heap u d.py as
 | .non,v,fp,u,_,o,r=>by unfold Own at o;rw [o.1] at r;cases r;exact ⟨_,.none⟩
 | .bl b,v,fp,u,_,o,r=>by unfold Own at o;rw [o.1] at r;cases r;exact ⟨_,.bool b⟩
 | .int i,v,fp,u,_,o,r=>by unfold Own at o;rw [o.1] at r;obtain ⟨t,rfl⟩:=r;exact ⟨_,.int i t⟩
 | .str x,v,fp,u,_,o,r=>by unfold Own at o;rw [o.1] at r;obtain ⟨t,rfl⟩:=r;exact ⟨_,.str x t⟩
 | .ext _ _,_,_,_,hp,_,_=>by simp [D.plain] at hp
 | .tup ds,v,fp,u,hp,o,r=>by
  unfold Own at o
  obtain ⟨_,a,xs,e,q,rr⟩:=o
  rw [e] at r;cases r
  obtain ⟨its,rv,⟨ob,h1,h2,n,h3⟩,_⟩:=I.tuple (bD.wL hs q)
  obtain ⟨as,h4⟩:=oG I hs ds (by simpa [D.plain] using hp) rr rv
  exact ⟨_,.tuple h1 h2 h3 (by simpa using h4)⟩
 | .lst w ds,v,fp,u,hp,o,r=>by
  obtain ⟨a,xs,fq,e,q,rr,_⟩:=Own.lst hs o
  rw [e] at r;cases r
  obtain ⟨its,rv,⟨ob,n,h1,h2,_,h3⟩,_⟩:=I.list q
  obtain ⟨as,h4⟩:=oG I hs ds (by simpa [D.plain] using hp) rr rv
  exact ⟨_,.list h1 h2 h3 (by simpa using h4)⟩
theorem oG (I:L2.Inv X pins σ H s) (hs:bD F H):∀(ds:List D) {vs:List V} {fp:Y2} {us:Y1},D.nB ds=true->aH X.K F H ds vs fp->Vals vs us->∃as,ReadsAll s.heap us (D.pys ds) as
 | [],vs,fp,us,_,o,r=>by unfold aH at o;rw [o.1] at r;cases r;exact ⟨_,.nil⟩
 | d::ds,vs,fp,us,hp,o,r=>by
  simp only [D.nB,Bool.and_eq_true] at hp
  unfold aH at o
  obtain ⟨v,vr,f1,f2,e,o1,o2,_⟩:=o
  rw [e] at r
  cases r with
  | cons r1 r2 =>
   obtain ⟨a1,q1⟩:=dG I hs d hp.1 o1 r1
   obtain ⟨a2,q2⟩:=oG I hs ds hp.2 o2 r2
   exact ⟨_,.cons q1 q2⟩
end
end
def eqD (x y:D):Bool:=PyData.eqv x.py y.py
def yW (x y:D):Bool:=x.plain && y.plain && (x.py.canLay0 && y.py.canLay0 && decide (min x.py.depth y.py.depth<=100))
def aPc (K:FG) (neg:Bool):R2:=fun v u H Q=>∃F x y fx fy,bD F H/\Own K F H x v fx/\Own K F H y u fy/\yW x y=true/\Q (.bl (if neg then !eqD x y else eqD x y)) H
def kEq (neg:Bool):D×Bool->D×Bool->R (D×Bool):=fun x y=>if yW x.1 y.1 then .ok (.bl (if neg then !eqD x.1 y.1 else eqD x.1 y.1),true) else .bad
theorem zN {K:FG} {neg:Bool}:Op2 K (kEq neg) (aPc K neg):=by
 intro F0 H0 F H x y v u fx fy Q gr o1 n1 k1 o2 n2 k2 h
 unfold kEq at h
 by_cases hc:yW x.1 y.1=true
 ·rw [if_pos hc] at h
  exact ⟨F,x.1,y.1,fx,fy,gr.inn,o1,o2,hc,EPost.eL gr h rfl⟩
 ·rw [if_neg hc] at h;exact h.elim
def sF (x:D) (ds:List D):Bool:=x.plain && D.nB ds && (x.py.canLay0 && PyData.canLayAll0 (D.pys ds) && decide (min (PyData.depthAll (D.pys ds)) x.py.depth<=100))
def inD (x:D) (ds:List D):Bool:=(D.pys ds).any fun y=>PyData.eqv y x.py
def aQ4 (K:FG) (neg:Bool):R2:=fun v u H Q=>∃F x ds fx fy,bD F H/\Own K F H x v fx/\((∃o,Own K F H (.lst o ds) u fy)\/Own K F H (.tup ds) u fy)/\sF x ds=true/\Q (.bl (if neg then !inD x ds else inD x ds)) H
def kIn (neg:Bool):D×Bool->D×Bool->R (D×Bool):=fun x y=>match y.1 with
 | .lst _ ds=>if sF x.1 ds then .ok (.bl (if neg then !inD x.1 ds else inD x.1 ds),true) else .bad
 | .tup ds=>if sF x.1 ds then .ok (.bl (if neg then !inD x.1 ds else inD x.1 ds),true) else .bad
 | _=>.bad
theorem aCm {K:FG} {neg:Bool}:Op2 K (kIn neg) (aQ4 K neg):=by
 intro F0 H0 F H x y v u fx fy Q gr o1 n1 k1 o2 n2 k2 h
 obtain ⟨y,b⟩:=y
 cases y<;>try exact h.elim
 ·rename_i ds
  have h:(if sF x.1 ds=true then R.ok (D.bl (if neg then !inD x.1 ds else inD x.1 ds),true) else .bad).holds (EPost K F0 H0 Q):=h
  by_cases hc:sF x.1 ds=true
  ·rw [if_pos hc] at h
   exact ⟨F,x.1,ds,fx,fy,gr.inn,o1,.inr o2,hc,EPost.eL gr h rfl⟩
  ·rw [if_neg hc] at h;exact h.elim
 ·rename_i o ds
  have h:(if sF x.1 ds=true then R.ok (D.bl (if neg then !inD x.1 ds else inD x.1 ds),true) else .bad).holds (EPost K F0 H0 Q):=h
  by_cases hc:sF x.1 ds=true
  ·rw [if_pos hc] at h
   exact ⟨F,x.1,ds,fx,fy,gr.inn,o1,.inl ⟨o,o2⟩,hc,EPost.eL gr h rfl⟩
  ·rw [if_neg hc] at h;exact h.elim
section
variable {X:Cx} {k:Nat}
theorem sL (hr:Room k X.A) {n:Nat} (h:n<=100):X.A.units+1+n<cLine:=by have:=hr.un;omega
theorem aKb (hr:Room k X.A):OpR X (compareOp .Eq) (aPc X.K false):=by
 intro pins s σ H v u vv uu Q I rx ry h
 obtain ⟨F,x,y,fx,fy,hs,o1,o2,hc,q⟩:=h
 unfold yW at hc
 simp only [Bool.and_eq_true,decide_eq_true_iff] at hc
 obtain ⟨_,r1⟩:=dG I hs x hc.1.1 o1 rx
 obtain ⟨_,r2⟩:=dG I hs y hc.1.2 o2 ry
 exact PySem.SeqAt.compareEq_reads r1 r2 hc.2.1.1 hc.2.1.2 (by have:=sL hr hc.2.2;omega) ⟨.bl _,H,I,rfl,q⟩
theorem aIy (hr:Room k X.A):OpR X (compareOp .NotEq) (aPc X.K true):=by
 intro pins s σ H v u vv uu Q I rx ry h
 obtain ⟨F,x,y,fx,fy,hs,o1,o2,hc,q⟩:=h
 unfold yW at hc
 simp only [Bool.and_eq_true,decide_eq_true_iff] at hc
 obtain ⟨_,r1⟩:=dG I hs x hc.1.1 o1 rx
 obtain ⟨_,r2⟩:=dG I hs y hc.1.2 o2 ry
 exact PySem.SeqAt.compareNe_reads r1 r2 hc.2.1.1 hc.2.1.2 (by have:=sL hr hc.2.2;omega) ⟨.bl _,H,I,rfl,q⟩
theorem aHi (hr:Room k X.A):OpR X (compareOp .In) (aQ4 X.K false):=by
 intro pins s σ H v u vv uu Q I rx ry h
 obtain ⟨F,x,ds,fx,fy,hs,o1,o2,hc,q⟩:=h
 unfold sF at hc
 simp only [Bool.and_eq_true,decide_eq_true_iff] at hc
 obtain ⟨_,r1⟩:=dG I hs x hc.1.1 o1 rx
 have hu:=sL hr hc.2.2
 rcases o2 with ⟨o,o2⟩ | o2
 ·obtain ⟨_,r2⟩:=dG I hs _ (by simpa [D.plain] using hc.1.2) o2 ry
  exact PySem.SeqAt.in_list_reads (by unfold D.py at r2;exact r2) r1 hc.2.1.2 hc.2.1.1 hu ⟨.bl _,H,I,rfl,q⟩
 ·obtain ⟨_,r2⟩:=dG I hs _ (by simpa [D.plain] using hc.1.2) o2 ry
  exact PySem.SeqAt.in_tuple_reads (by unfold D.py at r2;exact r2) r1 hc.2.1.2 hc.2.1.1 hu ⟨.bl _,H,I,rfl,q⟩
theorem aF9 (hr:Room k X.A):OpR X (compareOp .NotIn) (aQ4 X.K true):=by
 intro pins s σ H v u vv uu Q I rx ry h
 obtain ⟨F,x,ds,fx,fy,hs,o1,o2,hc,q⟩:=h
 unfold sF at hc
 simp only [Bool.and_eq_true,decide_eq_true_iff] at hc
 obtain ⟨_,r1⟩:=dG I hs x hc.1.1 o1 rx
 have hu:=sL hr hc.2.2
 rcases o2 with ⟨o,o2⟩ | o2
 ·obtain ⟨_,r2⟩:=dG I hs _ (by simpa [D.plain] using hc.1.2) o2 ry
  exact PySem.SeqAt.notIn_list_reads (by unfold D.py at r2;exact r2) r1 hc.2.1.2 hc.2.1.1 hu ⟨.bl _,H,I,rfl,q⟩
 ·obtain ⟨_,r2⟩:=dG I hs _ (by simpa [D.plain] using hc.1.2) o2 ry
  exact PySem.SeqAt.notIn_tuple_reads (by unfold D.py at r2;exact r2) r1 hc.2.1.2 hc.2.1.1 hu ⟨.bl _,H,I,rfl,q⟩
end
end VL
end
section
namespace VL
open PySem PySem.Spec PyProof.Rows L2
def aFs (T:String) (d:D):Bool:=match d with
 | .non=>false | .bl _=>T == "bool" || T == "int" | .int _=>T == "int" | .str _=>T == "str" | .tup _=>T == "tuple" | .lst _ _=>T == "list" | .ext _ _=>false
def qR:D->Bool
 | .ext _ _=>false | _=>true
def sX:List String:=["bool", "int", "str", "tuple", "list"]
section
variable {X:Cx}
theorem aQz {K:FG} {T:String} (hT:T∈sX):PySem.W.kitOne K (.type "NoneType") (.type T)=some false/\PySem.W.kitOne K (.type "bool") (.type T)=some (T == "bool" || T == "int")/\PySem.W.kitOne K (.type "int") (.type T)=some (T == "int") /\
  PySem.W.kitOne K (.type "str") (.type T)=some (T == "str")/\PySem.W.kitOne K (.type "tuple") (.type T)=some (T == "tuple")/\PySem.W.kitOne K (.type "list") (.type T)=some (T == "list"):=by
 have h:T = "bool" \/T = "int" \/T = "str" \/T = "tuple" \/T = "list" :=by simpa [sX] using hT
 rcases h with rfl | rfl | rfl | rfl | rfl<;>refine ⟨?_,?_,?_,?_,?_,?_⟩<;>first | rfl | decide +kernel | kernel_rfl
theorem aJb {T:String} (hT:T∈sX):lW X (.builtin "isinstance") (fun vs H Q=>∃F d v fp,bD F H/\vs=[v,.ty T]/\Own X.K F H d v fp/\qR d=true/\Q (.bl (aFs T d)) H):=by
 intro pins s σ H vs us Q I r h
 obtain ⟨F,d,v,fp,hs,e,o,hne,q⟩:=h
 subst e
 obtain ⟨u,u2,rfl,r1,r2⟩:=r.two
 cases r2
 obtain ⟨k1,k2,k3,k4,k5,k6⟩:=aQz (K:=X.K) hT
 have fin:∀b tk,aFs T d=b->EP X pins σ Q (.bool b) { s with toks:=tk }:=fun b tk e=>⟨.bl b,H,I.tok _,rfl,e ▸ q⟩
 cases d with
 | non=>unfold Own at o;rw [o.1] at r1;exact iG I r1 (.non) k1 fun tk=>fin _ tk rfl
 | bl b=>unfold Own at o;rw [o.1] at r1;exact iG I r1 (.bl b) k2 fun tk=>fin _ tk rfl
 | int b=>unfold Own at o;rw [o.1] at r1;exact iG I r1 (.int b) k3 fun tk=>fin _ tk rfl
 | str b=>unfold Own at o;rw [o.1] at r1;exact iG I r1 (.str b) k4 fun tk=>fin _ tk rfl
 | tup ds =>
  unfold Own at o
  obtain ⟨_,a,xs,e,hy,_⟩:=o
  rw [e] at r1
  cases (show u=Value.ref a from r1)
  obtain ⟨its,rv,⟨ob,h1,h2,_⟩,_⟩:=I.tuple (bD.wL hs hy)
  exact PySem.W.kia_one PySem.W.kitx_tuple I.kIn ⟨ob,h1,h2⟩ k5 (fun z=>nomatch z) fun tk=>fin _ tk rfl
 | ext _ _=>cases hne
 | lst w ds =>
  obtain ⟨a,xs,fq,e,q1,_⟩:=Own.aM3 hs o
  rw [e] at r1
  rcases q1 with q1 | ⟨ob,q1⟩
  ·exact iG I r1 (.lst q1) k6 fun tk=>fin _ tk rfl
  ·exact iG I r1 (.frz q1) k6 fun tk=>fin _ tk rfl
def jU (T:String):D×Bool->R (D×Bool):=fun x=>if qR x.1 then .ok (.bl (aFs T x.1),true) else .bad
theorem jW {T:Str} {T':String} {a:Expr} {f:aQ} {p q pos:Pos} (hT:T'∈sX) (ha:SE X a f) (hm:X.mg "isinstance" = none) (hm2:X.mg T=none) (hv:bootBuiltins T=some (.type T')) (hg:Gl X "isinstance" :=by rfl) (hg2:Gl X T:=by rfl) (hn:T ≠ "__name__" :=by decide) (hd:(T == ("__debug__" : Str))=false:=by decide)
  (hs1:starEach [a,.Name T q] X.env=(false,eval a X.env)::starEach [.Name T q] X.env:=by rfl) (hs2:starEach [.Name T q] X.env=(false,eval (.Name T q) X.env)::starEach [] X.env:=by rfl)
  (hpl:(backTo pos (starEach [.Name T q] X.env)).any (·.1)=false:=by rfl):SE X (.Call (.Name "isinstance" p) [a,.Name T q] [] pos) (v1 (jU T') f) :=
 (zZ (aJb hT) hg hm PyProof.Rows.boot_isinstance (iC ha (iC (aLc (v:=.ty T') hg2 hm2 hv rfl hn hd) qP hs2) hs1) (by decide) (by decide) hs1 hpl).imp fun σ H Q h=>by
  obtain ⟨ρ,F,fps,S,h⟩:=h
  refine ⟨ρ,F,fps,S,R.aM (R.aO.mp h) fun x hx v F1 H1 fx g1 o1 n1 k1=>?_⟩
  unfold jU at hx
  by_cases hc:qR x.1=true
  ·rw [if_pos hc] at hx
   exact ⟨F1,x.1,v,fx,g1.inn,rfl,o1,hc,EPost.eL g1 hx rfl⟩
  ·rw [if_neg hc] at hx;exact hx.elim
def dR:List D->Option (Y0)
 | []=>some []
 | .int i::ds=>(dR ds).map (i::·)
 | _=>none
theorem gA {K:FG} {F H:Hp}:∀(ds:List D) {ns:Y0} {xs:List V} {fp:Y2},dR ds=some ns->aH K F H ds xs fp->xs=ns.map V.int
 | [],ns,xs,fp,e,o=>by unfold dR at e;cases e;unfold aH at o;exact o.1
 | d::ds,ns,xs,fp,e,o=>by
  cases d<;>try (unfold dR at e;cases e;done)
  rename_i i
  unfold dR at e
  cases q:dR ds with
  | none=>rw [q] at e;cases e
  | some ms =>
   rw [q] at e
   have e:some (i::ms)=some ns:=e
   cases e
   unfold aH at o
   obtain ⟨v,r,f1,f2,e1,o1,o2,_⟩:=o
   unfold Own at o1
   rw [e1,o1.1,gA ds q o2];rfl
theorem aF8 (hc:X.calm=true):lW X (.builtin "sum") (fun xs H Q=>∃(p:Addr) (ns:Y0),xs=[.ref p]/\SqL X.K H p (ns.map V.int)/\Q (.int ns.sum) H):=by
 intro pins s σ H xs us Q I r h
 obtain ⟨p,ns,rfl,hq,q⟩:=h
 obtain ⟨u,rfl,ru⟩:=vals1 r
 cases ru
 obtain ⟨its,rv,pl,_⟩:=I.list hq
 have hi:IntsAre its ns:=intsAre_of rv
 obtain ⟨ys,hx⟩:=hi.allInts.items
 have hl':s.heap.IsList p (intItems ys):=hx ▸ pl.isList
 refine sum_intListG (I.ok.hd hc) hl' fun h' tk t' hk=>?_
 have e1:ns=ys.toList.map (·.1):=by
  rw [<- nums_intItems,<- hx]
  exact (show numsOf its.toArray.toList=ns from hi.numsOf).symm
 have e2:preSum (numAt ys) ys.size=ns.sum:=by
  rw [preSum_eq,List.take_of_length_le (by simp),e1]
 rw [e2]
 exact ⟨.int _,H,I.kept hk,⟨_,rfl⟩,q⟩
def yL:List (D×Bool)->R (D×Bool)
 | [(.lst _ ds,_)]=>(match dR ds with | some ns=>.ok (.int ns.sum,true) | none=>.bad) | _=>.bad
theorem aK2 {K:FG}:OpA K yL (fun xs H Q=>∃(p:Addr) (ns:Y0),xs=[.ref p]/\SqL K H p (ns.map V.int)/\Q (.int ns.sum) H):=by
 intro F0 H0 F H xs vs fa Q gr a n k h
 match xs,h,a with
 | [(.lst o ds,b)],h,a =>
  unfold Args at a
  obtain ⟨v,r,fp,f2,e,o1,n1,t,w⟩:=a
  unfold Args at t
  obtain ⟨p,ys,fq,e1,q1,r1,_⟩:=Own.lst gr.inn o1
  have h:(match dR ds with | some ns=>R.ok (D.int ns.sum,true) | none=>R.bad).holds (EPost K F0 H0 Q):=h
  cases q:dR ds with
  | none=>rw [q] at h;exact h.elim
  | some ns =>
   rw [q] at h
   rw [gA ds q r1] at q1
   exact ⟨p,ns,by rw [e,t.1,e1],q1,EPost.eL gr h rfl⟩
end
end VL
end
section
namespace VL
open PySem PySem.Spec PyProof.Rows L2
section
variable {X:Cx} {W:XW} {e a b c:Expr} {es:List Expr} {st:Stmt} {pos:Pos}
def fits (i:Int):Bool:=decide (-(2 ^ 200)<i) && decide (i<2 ^ 200)
theorem aJr {i:Int} (h:fits i=true):i.natAbs<2 ^ 200:=by
 unfold fits at h
 rw [Bool.and_eq_true,decide_eq_true_iff,decide_eq_true_iff] at h
 have e:(2:Int) ^ 200=((2 ^ 200:Nat):Int):=by norm_cast
 rw [e] at h
 omega
theorem aAx {i:Int} (h:fits i=true):i.natAbs.log2<200:=by
 by_cases h0:i.natAbs=0
 ·rw [h0];decide
 ·exact (Nat.log2_lt h0).mpr (aJr h)
def aTw (i j:Int):Prop:=0<j/\fits j=true
theorem aHr:OpR X (binaryOp .FloorDiv) (rI aTw fun i j=>.int (i / j)):=opI fun i j _ _ _ _ _ hc q=>by
 have h1:(0:Int)<j:=hc.1
 exact floordiv_int (by omega) (by rw [Int.fdiv_eq_ediv_of_nonneg i (by omega)];exact q) (.inl (PyProof.noPylong_of_log2 (Nat.lt_trans (aAx hc.2) (by decide))))
abbrev sY:=kIc (fun _ j=>decide (0<j) && fits j) fun i j=>.int (i / j)
theorem nD {f g:aQ} (ha:SE X a f) (hb:SE X b g):SE X (.BinOp a .FloorDiv b pos) (v2 sY f g):=aBn aHr (aCj (fun _ _=>rfl) fun i j h=>by
 rw [Bool.and_eq_true,decide_eq_true_iff] at h;exact h) ha hb
theorem Op2.or {K:FG} {k k1 k2:D×Bool->D×Bool->R (D×Bool)} {r1 r2:R2} (h1:Op2 K k1 r1) (h2:Op2 K k2 r2) (hk:∀x y,k x y=k1 x y\/k x y=k2 x y):Op2 K k (fun x y H Q=>r1 x y H Q\/r2 x y H Q):=by
 intro F0 H0 F H x y v u fx fy Q gr o1 n1 q1 o2 n2 q2 h
 rcases hk x y with e | e
 ·rw [e] at h;exact .inl (h1 F0 H0 F H x y v u fx fy Q gr o1 n1 q1 o2 n2 q2 h)
 ·rw [e] at h;exact .inr (h2 F0 H0 F H x y v u fx fy Q gr o1 n1 q1 o2 n2 q2 h)
def cJ:D×Bool->D×Bool->R (D×Bool):=fun x y=>match x.1 with
 | .int _=>aTv x y | .lst _ _=>aQw x y | .tup _=>aHg x y | _=>.bad
theorem aKg (x y:D×Bool):cJ x y=aTv x y\/(cJ x y=aQw x y\/cJ x y=aHg x y):=by
 obtain ⟨x,bx⟩:=x
 cases x<;>first | exact .inl rfl | exact .inr (.inl rfl) | exact .inr (.inr rfl)
theorem Op2.eqv {K:FG} {k k1 k2 k3:D×Bool->D×Bool->R (D×Bool)} {r1 r2 r3:R2} (h1:Op2 K k1 r1) (h2:Op2 K k2 r2) (h3:Op2 K k3 r3) (hk:∀x y,k x y=k1 x y\/(k x y=k2 x y\/k x y=k3 x y)):Op2 K k (fun x y H Q=>r1 x y H Q\/(r2 x y H Q\/r3 x y H Q)):=by
 intro F0 H0 F H x y v u fx fy Q gr o1 n1 q1 o2 n2 q2 h
 rcases hk x y with e | e | e
 ·rw [e] at h;exact .inl (h1 F0 H0 F H x y v u fx fy Q gr o1 n1 q1 o2 n2 q2 h)
 ·rw [e] at h;exact .inr (.inl (h2 F0 H0 F H x y v u fx fy Q gr o1 n1 q1 o2 n2 q2 h))
 ·rw [e] at h;exact .inr (.inr (h3 F0 H0 F H x y v u fx fy Q gr o1 n1 q1 o2 n2 q2 h))
theorem cA {f g:aQ} (ha:SE X a f) (hb:SE X b g):SE X (.BinOp a .Add b pos) (v2 cJ f g) :=
 aBn (aRk.or (aKs.or aL2)) (Op2.eqv (aBh fun _ _=>rfl) aMt aJo aKg) ha hb
def aM9 (i j:Int):Prop:=fits i=true/\fits j=true
theorem intBits_le {i:Int} (h:fits i=true):Builtin.Int.intBits i<=2 ^ 20:=by
 unfold Builtin.Int.intBits
 have:=aAx h
 split<;>omega
theorem aMo:OpR X (binaryOp .Mult) (rI aM9 fun i j=>.int (i * j)):=opI fun i j _ _ _ _ _ hc q=>mul_int q (.of_bits (intBits_le hc.1) (intBits_le hc.2))
abbrev aNs:=kIc (fun i j=>fits i && fits j) fun i j=>.int (i * j)
theorem aH6 {K:FG}:Op2 K aNs (rI aM9 fun i j=>.int (i * j)):=aCj (fun _ _=>rfl) fun i j h=>by
 rw [Bool.and_eq_true] at h;exact h
def aOj:D×Bool->D×Bool->R (D×Bool):=fun x y=>match x.1,y.1 with
 | .lst true ds,.int k=>if D.bL ds && decide (k<1000000) && decide (-1000000<k) && decide (ds.length * k.toNat<=1000000) then .ok (.lst true (List.replicate k.toNat ds).flatten,true) else .bad
 | _,_=>.bad
theorem aHl {K:FG}:Op2 K aOj aSv:=by
 intro F0 H0 F H x y v u fx fy Q gr o1 n1 k1 o2 n2 k2 h
 obtain ⟨x,bx⟩:=x
 obtain ⟨y,by'⟩:=y
 cases x<;>try exact h.elim
 rename_i o ds
 cases o
 ·cases y<;>exact h.elim
 ·cases y<;>try exact h.elim
  rename_i k
  have h:(if (D.bL ds && decide (k<1000000) && decide (-1000000<k) && decide (ds.length * k.toNat<=1000000))=true then R.ok (D.lst true (List.replicate k.toNat ds).flatten,true) else R.bad).holds (EPost K F0 H0 Q):=h
  by_cases hc:(D.bL ds && decide (k<1000000) && decide (-1000000<k) && decide (ds.length * k.toNat<=1000000))=true
  ·rw [if_pos hc] at h
   simp only [Bool.and_eq_true,decide_eq_true_iff] at hc
   obtain ⟨a,xs,fq,e1,r1,q0,q1,_⟩:=Own.opened o1
   unfold Own at o2
   have:=aH.eD ds hc.1.1.1 r1
   subst this
   refine ⟨a,k,xs,e1,o2.1,q1,by omega,by omega,?_,fun p hp=>EPost.aG0 gr h hp (aH.rep r1 _)⟩
   rw [<- aH.length ds r1];exact gX hc.2
  ·rw [if_neg hc] at h;exact h.elim
def bH:D×Bool->D×Bool->R (D×Bool):=fun x y=>match x.1 with
 | .int _=>aNs x y | .lst _ _=>aOj x y | _=>.bad
theorem bK {f g:aQ} (ha:SE X a f) (hb:SE X b g):SE X (.BinOp a .Mult b pos) (v2 bH f g) :=
 aBn (aMo.or aQ2) (Op2.or aH6 aHl fun x y=>by
  obtain ⟨x,bx⟩:=x
  cases x<;>first | exact .inl rfl | exact .inr rfl) ha hb
theorem tQ {k:Nat} {f g:aQ} (hr:Room k X.A) (ha:SE X a f) (hb:SE X b g):SE X (.Compare a [.Eq] [b] pos) (v2 (kEq false) f g):=oA (aKb hr) zN ha hb (gC _)
theorem aS7 {k:Nat} {f g:aQ} (hr:Room k X.A) (ha:SE X a f) (hb:SE X b g):SE X (.Compare a [.NotEq] [b] pos) (v2 (kEq true) f g):=oA (aIy hr) zN ha hb (gC _)
theorem aD1 {k:Nat} {f g:aQ} (hr:Room k X.A) (ha:SE X a f) (hb:SE X b g):ST X (.Compare a [.Eq] [b] pos) (aZ (v2 (kEq false) f g)):=kR (aKb hr) zN ha hb (gC _)
theorem mF {k:Nat} {f g:aQ} (hr:Room k X.A) (ha:SE X a f) (hb:SE X b g):ST X (.Compare a [.NotEq] [b] pos) (aZ (v2 (kEq true) f g)):=kR (aIy hr) zN ha hb (gC _)
theorem aSu {k:Nat} {f g:aQ} (hr:Room k X.A) (ha:SE X a f) (hb:SE X b g) (hm:behindInMarks .In b=false:=by with_unfolding_all rfl):SE X (.Compare a [.In] [b] pos) (v2 (kIn false) f g):=oA (aHi hr) aCm ha hb hm
theorem aT2 {k:Nat} {f g:aQ} (hr:Room k X.A) (ha:SE X a f) (hb:SE X b g) (hm:behindInMarks .In b=false:=by with_unfolding_all rfl):ST X (.Compare a [.In] [b] pos) (aZ (v2 (kIn false) f g)):=kR (aHi hr) aCm ha hb hm
theorem aJ7 {k:Nat} {f g:aQ} (hr:Room k X.A) (ha:SE X a f) (hb:SE X b g) (hm:behindInMarks .NotIn b=false:=by with_unfolding_all rfl):ST X (.Compare a [.NotIn] [b] pos) (aZ (v2 (kIn true) f g)):=kR (aF9 hr) aCm ha hb hm
theorem aL8 {f g:aQ} (ha:SE X a f) (hb:SE X b g):SE X (.Compare a [.IsNot] [b] pos) (v2 (iP true) f g):=oA aEq aA6 ha hb (gC _)
theorem qY {f g:aQ} (ha:SE X a f) (hb:SE X b g):ST X (.Compare a [.Is] [b] pos) (aZ (v2 (iP false) f g)):=kR aRm aKm ha hb (gC _)
theorem sS {f g:aQ} (ha:SE X a f) (hb:SE X b g):ST X (.Compare a [.IsNot] [b] pos) (aZ (v2 (iP true) f g)):=kR aEq aA6 ha hb (gC _)
theorem aSs {f g:aQ} (ha:SE X a f) (hb:SE X b g):SE X (.Compare a [.Lt] [b] pos) (v2 kLt f g):=oA aN6 aN7 ha hb (gC _)
theorem aOi {f g:aQ} (ha:SE X a f) (hb:SE X b g):SE X (.Compare a [.Gt] [b] pos) (v2 kGt f g):=oA aNj aN9 ha hb (gC _)
theorem aUb {f g:aQ} (ha:SE X a f) (hb:SE X b g):SE X (.Compare a [.GtE] [b] pos) (v2 kGe f g):=oA aSj aTn ha hb (gC _)
theorem aBq {f g:aQ} (ha:SE X a f) (hb:SE X b g):ST X (.Compare a [.Lt] [b] pos) (aZ (v2 kLt f g)):=kR aN6 aN7 ha hb (gC _)
theorem xS {f g:aQ} (ha:SE X a f) (hb:SE X b g):ST X (.Compare a [.Gt] [b] pos) (aZ (v2 kGt f g)):=kR aNj aN9 ha hb (gC _)
theorem aKc {x:Str} {p:Addr} {ns:Y0} {its:Array Value} {o:Obj} {n:Nat} (hm:X.mg x=some (.ref p)) (hl:X.K.lookup p=some o) (hc:o.cls=.type "tuple") (hd:o.data=.seq its n) (hi:IntsAre its.toList ns) (hz:ns.length<=1000000) (hg:Gl X x:=by rfl) (hdb:(x == ("__debug__" : Str))=false:=by decide):SE X (.Name x pos) (vC (.tup (ns.map D.int))) :=
 (aEr (v:=.ref p) hg hm rfl hdb).imp fun σ H Q h=>by
  obtain ⟨ρ,F,fps,S,h⟩:=h
  refine h (.ref p) F H [] (Grow.refl S.same) ?_ List.nodup_nil fun _ b hb=>by cases hb
  unfold Own
  refine ⟨rfl,p,ns.map V.int,rfl,.inr ⟨o,its,n,hl,hc,hd,?_,rD hi⟩,?_⟩
  ·have:=hi.length
   rw [Array.length_toList] at this
   rw [this];exact gX hz
  ·refine aH.of_get _ (by simp) fun i d v e1 e2=>?_
   rw [List.getElem?_map] at e1 e2
   cases q:ns[i]? with
   | none=>rw [q] at e1;cases e1
   | some z=>rw [q] at e1 e2;cases e1;cases e2;exact eO rfl
theorem iD (i:Nat) {x:Str} {f:aQ} {p ap cp pos':Pos} (he:SE X e f) (hN:X.N[i]?=some x:=by rfl) (hv:Vis X.env.scope x:=by first | exact Or.inl rfl | exact Or.inr (Or.inl rfl) | exact Or.inr (Or.inr rfl)) (hd:(x == ("__debug__" : Str))=false:=by decide)
  (hcd:(x == ("__classdict__" : Str))=false:=by decide) (hs:swapsWith (.Call (.Attribute (.Name x p) "append" ap) [e] [] cp) none pos'.line X.env=pure false:=by rfl)
  (hbase:attributeBase (.Name x p) "append" X.env (eval (.Name x p) X.env)=eval (.Name x p) X.env:=by rfl)
  (hfew:((backTo cp (starEach [e] X.env)).all (fun x=>!x.1) && (backToKw cp (keywordEach [] X.env)).all (fun x=>x.1.isSome)
   && decide (([e]:List Expr).length+([]:List Keyword).length+(if ([]:List Keyword).isEmpty then 0 else 1)<30))=true:=by rfl)
  (hline:(ap.endLine == cp.line)=true:=by rfl) (hst:starEach [e] X.env=(false,eval e X.env)::starEach [] X.env:=by rfl) (hplain:(backTo cp (starEach [] X.env)).any (·.1)=false:=by rfl) :
  SS X W (.Expr (.Call (.Attribute (.Name x p) "append" ap) [e] [] cp) pos') (eK i f) :=
 (sR (aN2 PySem.F.plainAttrs_list PySem.F.slot_list_append PySem.F.type_list_append qK (mL hN hv hd hcd) (iC he qP hst) hbase hfew hline hst hplain) hs).imp fun _ _ _ h=>aFn h
theorem aMz {elt iter tg:Expr} {ifs:List Expr} {scope:Scope} {f:jQ} {N:List Str} {nt:Nat} {js:T0} {set:D->Env->Option Env} {g:TG} {tc:cG} {te:aQ}
  (hc:X.calm=true) (hi:SI X tg iter f) (ht:Tgt X.K set g) (hkind:scope.kind=.function) (hcell:∀y∈scope.names,y.2 ≠ .cell) (hnames:∀y∈scope.names,y.2=.local->scope.names.lookup y.1=some .local)
  (hfr:∀y∈scope.names,y.2=.free->X.env.kindOf y.1=some .cell\/X.env.kindOf y.1=some .free)
  (hlen:nt+js.length=N.length)
  (hjs:∀(k:Nat) (j:Nat),js[k]?=some j->∃x,N[nt+k]?=some x/\X.N[j]?=some x/\scope.names.lookup x=some .free)
  (hb:∀cl s3 H3 fp,PG (blk X scope cl N s3 H3 fp) tg g/\PTs (blk X scope cl N s3 H3 fp) ifs (tvT X.K tc)/\SE (blk X scope cl N s3 H3 fp) elt te)
  (hs:∀x,foldedSetIterable iter X.env x=pure x:=by intro _;rfl):SE X (.ListComp elt [⟨tg,iter,ifs,0⟩] scope pos) (bQ f nt js set tc te) :=
 (aLx hc hi hkind hcell hnames hfr hlen hjs hb hs).imp fun _ _ _ h=>aD5 ht h
def bY:cG:=fun _=>.ok true
theorem pE {Y:Cx}:PTs Y [] (tvT Y.K bY):=fun pins s σ H Q I h=>aK5 pins s σ H Q I (by
 obtain ⟨ρ,F,fps,S,h⟩:=h
 exact h F H (Grow.refl S.same))
theorem aOp {Y:Cx} {c:Expr} {t:cG} (h:ST Y c t):PTs Y [c] (tvT Y.K t):=aM2 h
theorem cI {f:aQ} {p:Pos} (hm:X.mg "len" = none) (ha:SE X a f) (hg:Gl X "len" :=by rfl) (hs:starEach [a] X.env=(false,eval a X.env)::starEach [] X.env:=by rfl):SE X (.Call (.Name "len" p) [a] [] pos) (vCB dN (aE f aN)) :=
 aAs zE aKx hm PySem.boot_len (aC ha aJ hs) hg (by decide) (by decide) hs
theorem aEm {f:aQ} {p:Pos} (hm:X.mg "list" = none) (ha:SE X a f) (hg:Gl X "list" :=by rfl) (hs:starEach [a] X.env=(false,eval a X.env)::starEach [] X.env:=by rfl) (hv:bootBuiltins "list" = some (.type "list"):=by decide +kernel):SE X (.Call (.Name "list" p) [a] [] pos) (vCB pF (aE f aN)) :=
 aQg zP aI6 hm hv (aC ha aJ hs) hg (by decide) (by decide) hs
theorem aC5 {f:aQ} {p:Pos} (hc:X.calm=true) (hm:X.mg "sum" = none) (ha:SE X a f) (hg:Gl X "sum" :=by rfl) (hs:starEach [a] X.env=(false,eval a X.env)::starEach [] X.env:=by rfl) (hv:bootBuiltins "sum" = some (.builtin "sum"):=by decide +kernel):SE X (.Call (.Name "sum" p) [a] [] pos) (vCB yL (aE f aN)) :=
 aAs (aF8 hc) aK2 hm hv (aC ha aJ hs) hg (by decide) (by decide) hs
def aFg:List (D×Bool)->R (D×Bool)
 | [(.int i,_)]=>.ok (.int (if i<0 then -i else i),true) | _=>.bad
theorem aKo {K:FG}:OpA K aFg (fun xs H Q=>∃i,xs=[.int i]/\Q (.int (if i<0 then -i else i)) H):=by
 intro F0 H0 F H xs vs fa Q gr a n k h
 match xs,h,a with
 | [(.int i,b)],h,a =>
  unfold Args at a
  obtain ⟨v,r,fp,f2,e,o1,n1,t,w⟩:=a
  unfold Args at t
  unfold Own at o1
  exact ⟨i,by rw [e,t.1,o1.1],EPost.eL gr h rfl⟩
theorem aB9 {f:aQ} {p:Pos} (hm:X.mg "abs" = none) (ha:SE X a f) (hg:Gl X "abs" :=by rfl) (hs:starEach [a] X.env=(false,eval a X.env)::starEach [] X.env:=by rfl) (hv:bootBuiltins "abs" = some (.builtin "abs"):=by decide +kernel):SE X (.Call (.Name "abs" p) [a] [] pos) (vCB aFg (aE f aN)) :=
 aAs aJx aKo hm hv (aC ha aJ hs) hg (by decide) (by decide) hs
def eW:List D->Option (List Bool)
 | []=>some []
 | .bl i::ds=>(eW ds).map (i::·)
 | _=>none
theorem mY {K:FG} {F H:Hp}:∀(ds:List D) {ns:List Bool} {xs:List V} {fp:Y2},eW ds=some ns->aH K F H ds xs fp->xs=ns.map V.bl
 | [],ns,xs,fp,e,o=>by unfold eW at e;cases e;unfold aH at o;exact o.1
 | d::ds,ns,xs,fp,e,o=>by
  cases d<;>try (unfold eW at e;cases e;done)
  rename_i i
  unfold eW at e
  cases q:eW ds with
  | none=>rw [q] at e;cases e
  | some ms =>
   rw [q] at e
   have e:some (i::ms)=some ns:=e
   cases e
   unfold aH at o
   obtain ⟨v,r,f1,f2,e1,o1,o2,_⟩:=o
   unfold Own at o1
   rw [e1,o1.1,mY ds q o2];rfl
theorem all_range {ns:List Bool}:((List.range ns.length).all fun i=>ns.getD i true)=ns.all id:=by
 induction ns with
 | nil=>rfl
 | cons n r ih =>
  rw [List.length_cons,List.range_succ_eq_map,List.all_cons,List.all_map,List.all_cons,<- ih]
  rfl
theorem aF2 (hc:X.calm=true):lW X (.builtin "all") (fun xs H Q=>∃(p:Addr) (ns:List Bool),xs=[.ref p]/\SqL X.K H p (ns.map V.bl)/\Q (.bl (ns.all id)) H):=by
 intro pins s σ H xs us Q I r h
 obtain ⟨p,ns,rfl,hq,q⟩:=h
 obtain ⟨u,rfl,ru⟩:=vals1 r
 cases ru
 obtain ⟨its,rv,pl,_⟩:=I.list hq
 have hl:=rv.length
 rw [List.length_map] at hl
 refine call_all_walk (wpAny_pyIter_list pl.isList ?_)
 have hne:p ≠ s.heap.objs.size:=fun z=>by
  obtain ⟨o,ho,_⟩:=pl.isList
  exact absurd (Heap.lt_size ho) (by rw [z];exact Nat.lt_irrefl _)
 refine ⟨s.heap.objs.size,_,_,its.toArray.size,_,_,fun i=>ns.getD i true,rfl,Walks.list (A:=X.A.in1) (show X.A.in1.handled=none from I.ok.hd hc) s.heap.objs.size p hne its.toArray,⟨⟨_,Heap.get?_push_size _ rfl,rfl,rfl⟩,pl.isList.push _⟩,fun i v s' Q' E' hP hQ=>?_,fun h' tk hk=>?_⟩
 ·have hP:its[i]?=some v:=by simpa using hP
  have hi:i<ns.length:=by rw [hl];exact (List.getElem?_eq_some_iff.mp hP).1
  obtain ⟨u',e',ru'⟩:=rv.get (i:=i) (x:=V.bl ns[i]) (by rw [List.getElem?_map,List.getElem?_eq_getElem hi];rfl)
  rw [hP] at e';cases e'
  cases ru'
  have:ns.getD i true=ns[i]:=by simp [List.getD,List.getElem?_eq_getElem hi]
  have hQ:Q' (ns.getD i true) s':=hQ
  rw [this] at hQ
  exact wpAny_truthy_bool hQ
 ·rw [List.size_toArray,<- hl,all_range]
  refine ⟨.bl _,H,?_,rfl,q⟩
  refine I.kept (t':=tk) fun b o e=>hk b o (fun z=>?_) (Heap.get?_push_of_some _ e)
  have z':b=s.heap.objs.size:=by simpa using z
  exact absurd (Heap.lt_size e) (by rw [z'];exact Nat.lt_irrefl _)
def aGv:List (D×Bool)->R (D×Bool)
 | [(.lst _ ds,_)]=>(match eW ds with | some ns=>.ok (.bl (ns.all id),true) | none=>.bad) | _=>.bad
theorem aLy {K:FG}:OpA K aGv (fun xs H Q=>∃(p:Addr) (ns:List Bool),xs=[.ref p]/\SqL K H p (ns.map V.bl)/\Q (.bl (ns.all id)) H):=by
 intro F0 H0 F H xs vs fa Q gr a n k h
 match xs,h,a with
 | [(.lst o ds,b)],h,a =>
  unfold Args at a
  obtain ⟨v,r,fp,f2,e,o1,n1,t,w⟩:=a
  unfold Args at t
  obtain ⟨p,ys,fq,e1,q1,r1,_⟩:=Own.lst gr.inn o1
  have h:(match eW ds with | some ns=>R.ok (D.bl (ns.all id),true) | none=>R.bad).holds (EPost K F0 H0 Q):=h
  cases q:eW ds with
  | none=>rw [q] at h;exact h.elim
  | some ns =>
   rw [q] at h
   rw [mY ds q r1] at q1
   exact ⟨p,ns,by rw [e,t.1,e1],q1,EPost.eL gr h rfl⟩
theorem aQf {f:aQ} {p:Pos} (hc:X.calm=true) (hm:X.mg "all" = none) (ha:SE X a f) (hg:Gl X "all" :=by rfl) (hs:starEach [a] X.env=(false,eval a X.env)::starEach [] X.env:=by rfl) (hv:bootBuiltins "all" = some (.builtin "all"):=by decide +kernel):SE X (.Call (.Name "all" p) [a] [] pos) (vCB aGv (aE f aN)) :=
 aAs (aF2 hc) aLy hm hv (aC ha aJ hs) hg (by decide) (by decide) hs
theorem _root_.L2.PI.or {tg it:Expr} {t t':TI} (h:PI X tg it t) (h':PI X tg it t'):PI X tg it (fun σ H R=>t σ H R\/t' σ H R):=by
 intro pins s σ H R I q
 rcases q with q | q
 ·exact h pins s σ H R I q
 ·exact h' pins s σ H R I q
theorem fG {tg:Expr} {f:aQ} (h:SE X e f):SI X tg e (eZ f):=((aLi h).or (aO2 h)).imp fun _ _ _ h=>aPr h
theorem oT {f:aQ} {p tp:Pos} {elts:List Expr} {k:Nat} (hm:X.mg "enumerate" = none) (ha:SE X a f) (hg:Gl X "enumerate" :=by rfl) (hs:starEach [a] X.env=[(false,eval a X.env)]:=by rfl) (hs1:starEach [a] X.env=(false,eval a X.env)::starEach [] X.env:=by rfl):SI X (.Tuple elts k tp) (.Call (.Name "enumerate" p) [a] [] pos) (vW f) :=
 (aLh hg hm (iC ha qP hs1) hs).imp fun _ _ _ h=>aRl h
end
end VL
end
section
namespace VL
open PySem PySem.Spec PyProof.Rows L2
structure FnAt (K:FG) (x:Str) (st:Stmt):Prop where
 ex:∃(f:Addr) (fd:FuncData),PySem.W.nsIn K mainGlobals x=some (some (.ref f))/\Fun K x x st f fd
theorem bE {K:FG} {x:Str} {st:Stmt} {f:Addr} {oc:Value} {od an:Option Addr} {osl:Array (Option Value)} {kV doc pm cdv ct:Value} (a:PySem.W.nsIn K mainGlobals x=some (some (.ref f))) (l:K.lookup f=some ⟨oc,od,.func (PySem.W.fnOf x x (jK st) (fR st) (aI st) .none kV doc pm an cdv ct),osl⟩)
  (c:PySem.W.codeIn K cdv x=true) (k:PySem.W.keepIn K (.ref f)=true):FnAt K x st:=⟨f,_,a,aO0 l c k⟩
section
variable {P:Program} {w:World} {K:FG} {mg:Y6} {base:Heap}
theorem cC {x:Str} {st:Stmt} {N ps:List Str} {k n np:Nat} {body:aX} (F:FnAt K x st) (kb:K.In base) (nb:base.Ns mainGlobals mg) (S:FnScope N ps (aI st)) (hN:N.length=n) (hnp:ps.length=np) (hk:np<=n)
  (hb:∀(kV doc pm:Value) (an:Option Addr) (cdv ct:Value) (us:Y1),us.length=ps.length->bindArgs (PySem.W.fnOf x x (jK st) (fR st) (aI st) .none kV doc pm an cdv ct) ⟨us,[]⟩=pure (ps.zip us))
  (hbody:∀(f:Addr) (cdv:Value) (A:Around) (outer:List PySem.Env) (s:Shared) (H:Hp) (E:XK),Room k (A.deeper (envOfC x (aI st) s.heap.objs.size f cdv)) ->
   SSs (nN (CX1 P w) P w K mg base N x (aI st) f cdv A outer s H E) (wOf K E) (fR st) body):Kn P w K mg base (k+1) x np (fnOf n body):=by
 obtain ⟨f,fd,hf,F⟩:=F.ex
 refine ⟨f,fd,ps,?_,PySem.W.mg_of kb nb hf,F.kp,F.binds hb⟩
 obtain ⟨oc,od,kV,doc,pm,an,cdv,ct,osl,rfl,lk,hcd⟩:=F.ex
 refine aM6 lk hcd S (fun vs H Q E h=>h.1.trans hnp.symm) fun A outer s H vs Q E hr hsp=>?_
 exact ⟨_,hbody f cdv A outer s H E hr,aNw hN hk hsp⟩
end
def yQ (scope sc:Scope) (N XN:List Str) (nt:Nat) (js:T0):Bool :=
 (scope.kind == .function) && (scope.names.all fun y=>y.2 != .cell) && (scope.names.all fun y=>y.2 != .local || scope.names.lookup y.1 == some .local) &&
 (scope.names.all fun y=>y.2 != .free || (sc.names.lookup y.1 == some .cell || sc.names.lookup y.1 == some .free)) && (nt+js.length == N.length) &&
 (js.zipIdx.all fun p=>match N[nt+p.2]?,XN[p.1]? with | some x,some y=>x == y && scope.names.lookup x == some .free | _,_=>false)
section
variable {X:Cx} {pos:Pos}
theorem iS {elt iter tg:Expr} {ifs:List Expr} {scope:Scope} {f:jQ} (sc:Scope) (XN N:List Str) (nt:Nat) (js:T0) {set:D->Env->Option Env} {g:TG} {tc:cG} {te:aQ}
  (hc:X.calm=true) (hsc:X.env.scope=sc) (hXN:X.N=XN) (hi:SI X tg iter f) (ht:Tgt X.K set g) (hok:yQ scope sc N XN nt js=true)
  (hb:∀cl s3 H3 fp,PG (blk X scope cl N s3 H3 fp) tg g/\PTs (blk X scope cl N s3 H3 fp) ifs (tvT X.K tc)/\SE (blk X scope cl N s3 H3 fp) elt te)
  (hs:∀x,foldedSetIterable iter X.env x=pure x:=by intro _;rfl):SE X (.ListComp elt [⟨tg,iter,ifs,0⟩] scope pos) (bQ f nt js set tc te):=by
 subst hsc;subst hXN
 unfold yQ at hok
 simp only [Bool.and_eq_true,List.all_eq_true,Bool.or_eq_true,bne_iff_ne,beq_iff_eq,ne_eq] at hok
 obtain ⟨⟨⟨⟨⟨h1,h2⟩,h3⟩,h4⟩,h5⟩,h6⟩:=hok
 refine aMz hc hi ht h1 h2 (fun y hy e=>(h3 y hy).resolve_left fun z=>z e) (fun y hy e=>(h4 y hy).resolve_left fun z=>z e) h5 (fun k j e=>?_) hb hs
 have hm:(j,k)∈js.zipIdx:=by
  rw [List.mem_iff_getElem?]
  exact ⟨k,by rw [List.getElem?_zipIdx,e];simp⟩
 have:=h6 (j,k) hm
 dsimp only at this
 split at this
 ·rename_i x y e1 e2
  rw [Bool.and_eq_true,beq_iff_eq,beq_iff_eq] at this
  exact ⟨x,e1,by rw [e2,this.1],this.2⟩
 ·cases this
theorem cR (i:Nat) {y:Str} {py spos:Pos} {W:XW} {elt iter tg:Expr} {ifs:List Expr} {scope:Scope} {f:jQ} (nd:X.N.Nodup) (sc:Scope) (XN N:List Str) (nt:Nat) (js:T0) {set:D->Env->Option Env} {g:TG} {tc:cG} {te:aQ}
  (hc:X.calm=true) (hsc:X.env.scope=sc) (hXN:X.N=XN) (hi:SI X tg iter f) (ht:Tgt X.K set g) (hok:yQ scope sc N XN nt js=true)
  (hb:∀cl s3 H3 fp,PG (blk X scope cl N s3 H3 fp) tg g/\PTs (blk X scope cl N s3 H3 fp) ifs (tvT X.K tc)/\SE (blk X scope cl N s3 H3 fp) elt te)
  (hi0:X.N[i]?=some y:=by rfl) (hx:X.env.scope.names.lookup y=some .local:=by rfl) (hsw:swapsWith (.ListComp elt [⟨tg,iter,ifs,0⟩] scope pos) (some (.Name y py)) spos.line X.env=pure true:=by rfl)
  (hs:∀x,foldedSetIterable iter X.env x=pure x:=by intro _;rfl):SS X W (.Assign [.Name y py] (.ListComp elt [⟨tg,iter,ifs,0⟩] scope pos) spos) (aY i (xOf (bQ f nt js set tc te))):=by
 subst hsc;subst hXN
 unfold yQ at hok
 simp only [Bool.and_eq_true,List.all_eq_true,Bool.or_eq_true,bne_iff_ne,beq_iff_eq,ne_eq] at hok
 obtain ⟨⟨⟨⟨⟨h1,h2⟩,h3⟩,h4⟩,h5⟩,h6⟩:=hok
 refine (aCg nd hi0 hx hsw hc hi h1 h2 (fun y hy e=>(h3 y hy).resolve_left fun z=>z e) (fun y hy e=>(h4 y hy).resolve_left fun z=>z e) h5 (fun k j e=>?_) hb hs).imp fun _ _ _ h=>aD5 ht (aNc (aHf h))
 have hm:(j,k)∈js.zipIdx:=by
  rw [List.mem_iff_getElem?]
  exact ⟨k,by rw [List.getElem?_zipIdx,e];simp⟩
 have:=h6 (j,k) hm
 dsimp only at this
 split at this
 ·rename_i x y e1 e2
  rw [Bool.and_eq_true,beq_iff_eq,beq_iff_eq] at this
  exact ⟨x,e1,by rw [e2,this.1],this.2⟩
 ·cases this
end
end VL
end
section
namespace VL
open PySem PySem.Spec PyProof.Rows L2
section
variable {P:Program} {w:World} {K:FG} {mg:Y6} {h:Heap}
theorem aPe {x:Str} {st:Stmt} {N ps:List Str} {k n np:Nat} {body:aX} (F:FnAt K x st) (kb:K.In h) (nb:h.Ns mainGlobals mg) (S:FnScope N ps (aI st)) (hN:N.length=n) (hnp:ps.length=np) (hk:np<=n)
  (hb:∀(kV doc pm:Value) (an:Option Addr) (cdv ct:Value) (us:Y1),us.length=ps.length->bindArgs (PySem.W.fnOf x x (jK st) (fR st) (aI st) .none kV doc pm an cdv ct) ⟨us,[]⟩=pure (ps.zip us))
  (hbody:∀base:Heap,K.In base->base.Ns mainGlobals mg->∀(f:Addr) (cdv:Value) (A:Around) (outer:List PySem.Env) (s:Shared) (H:Hp) (E:XK),Room k (A.deeper (envOfC x (aI st) s.heap.objs.size f cdv)) ->
   SSs (nN (CX1 P w) P w K mg base N x (aI st) f cdv A outer s H E) (wOf K E) (fR st) body) :
  ∃(f:Addr) (fd:FuncData),mg x=some (.ref f)/\(∀(s:Shared) (us:Y1),us.length=ps.length->BindsTo s fd ⟨us,[]⟩ (ps.zip us)) /\
   ∀base:Heap,K.In base->base.Ns mainGlobals mg->FnOk P w K mg base (CX1 P w) (k+1) f fd ps (spV K np (fnOf n body)):=by
 obtain ⟨f,fd,hf,F⟩:=F.ex
 obtain ⟨oc,od,kV,doc,pm,an,cdv,ct,osl,rfl,lk,hcd⟩:=F.ex
 refine ⟨f,_,PySem.W.mg_of kb nb hf,fun s us hl=>.of_eq (hb kV doc pm an cdv ct us hl),fun base kb' nb'=>?_⟩
 refine aM6 lk hcd S (fun vs H Q E h=>h.1.trans hnp.symm) fun A outer s H vs Q E hr hsp=>?_
 exact ⟨_,hbody base kb' nb' f cdv A outer s H E hr,aNw hN hk hsp⟩
end
def aOu (o:Obj):Bool:=match o.data,o.cls with
 | .seq _ _,.type t=>t == "list"
 | _,_=>false
def pZ (K:FG):Bool:=K.all fun q=>!aOu q.2
theorem aG5:∀ {K:FG} {a:Addr} {o:Obj},K.lookup a=some o->(a,o)∈K
 | [],_,_,e=>by cases e
 | (b,u)::K,a,o,e=>by
  rw [List.lookup_cons] at e
  cases q:a == b with
  | true =>
   rw [q] at e
   have hb:a=b:=by simpa using q
   cases e;rw [hb];exact List.mem_cons_self
  | false=>rw [q] at e;exact List.mem_cons_of_mem _ (aG5 e)
theorem aDk {K:FG} (h:pZ K=true) {a:Addr} {o:Obj} (e:K.lookup a=some o):aOu o=false:=by
 unfold pZ at h
 rw [List.all_eq_true] at h
 have:=h (a,o) (aG5 e)
 simpa using this
theorem aT7 {K:FG} (h:pZ K=true) {H:Hp} {a:Addr} {xs:List V} (s:SqL K H a xs):Rd H a (.lst xs):=by
 rcases s with s | ⟨o,its,n,e,c,d,e2,r⟩
 ·exact s
 ·have:=aDk h e
  unfold aOu at this
  rw [e2,c] at this
  have this:(("list" : String) == "list")=false:=this
  simp at this
theorem uN {K:FG} {F H:Hp}:∀ns:Y0,aH K F H (ns.map D.int) (ns.map V.int) []
 | []=>⟨rfl,rfl⟩
 | n::ns=>⟨.int n,ns.map V.int,[],[],rfl,⟨rfl,rfl⟩,uN ns,rfl⟩
theorem aLj {K:FG} (hn:pZ K=true) {fn:Fn} {ns:Y0} (hf:∃os,fn [.lst false (ns.map D.int)]=.ok (.bl true,os)) {H:Hp} {a:Addr} (s:SqL K H a (ns.map V.int)):spV K 1 fn [.ref a] H (fun v _=>v=.bl true) fun _ _ _=>False:=by
 obtain ⟨os,hf⟩:=hf
 refine ⟨rfl,H,[.lst false (ns.map D.int)],[[]],bD.refl _,⟨rfl,rfl,fun i d e=>?_⟩,by simp,by simp,?_⟩
 ·cases i with
  | zero =>
   have e:D.lst false (ns.map D.int)=d:=by simpa using e
   subst e
   refine ⟨.ref a,[],rfl,rfl,?_⟩
   unfold Own
   exact ⟨a,ns.map V.int,[],rfl,uN ns,.inr ⟨rfl,aT7 hn s,rfl,rfl⟩⟩
  | succ i=>simp at e
 ·rw [hf]
  intro r F' H' fps' fr _ _ _ _ o _ _
  unfold Own at o
  exact o.1
theorem aJm {P:Program} {w:World} {H:Hp} {s:Shared} {e:Value} {s':Shared} (h:CX1 P w [] H s (fun _ _ _=>False) e s'):False:=by
 obtain ⟨_,_,_,_,_,_,_,_,_,_,_,_,_,z⟩:=h
 exact z
end VL
end
section
namespace VL
open PySem PySem.Spec PyProof.Rows L2
section
variable {X:Cx} {W:XW} {e a b:Expr} {es:List Expr} {pos:Pos}
theorem aMq {CX:CXT} {k:Nat} {f:Addr} {fd:FuncData} {ps:List Str} {sp:Sp} {dvs:List V} {ds:Y1} {E:XK} {pins:Y8} {σ:L2.St} {H:Hp} {s:Shared} {Q:VK} {us:Y1} {vs:List V} (F:FnOk X.prog X.w X.K X.mg X.base CX k f fd ps sp) (hr:Room k X.A) (hb:Binds X.K fd ps ds) (hd:Vals dvs ds)
  (hx:∀e s',CX X.stack H s E e s'->X.xe e s') (I:L2.Inv X pins σ H s) (r:Vals vs us) (h:sp (vs++dvs) H Q E):wpAny (model X.prog X.w) X.A (call (.ref f) us) (EP X pins σ Q) X.xe s:=by
 have r2:Vals (vs++dvs) (us++ds):=r.append hd
 have hl:(us++ds).length=ps.length:=by rw [<- r2.length];exact F.len _ _ _ _ h
 refine wpAny_call (codeAny_mono (F.run X.A X.stack s H ⟨us,[]⟩ (us++ds) (vs++dvs) Q E hr I.aUs (hb s us I.kIn hl) r2 h) fun r s' hq=>?_)
 cases r with
 | error e=>exact hx e s' hq
 | ok fl =>
  cases fl with
  | ret u=>exact I.after hq
  | next=>exact False.elim hq
  | brk=>exact False.elim hq
  | cont=>exact False.elim hq
theorem aIm {k n:Nat} {x:Str} {fn:Fn} {ta:TA} {p:Pos} (L:Lk X W) (F:Kn X.prog X.w X.K X.mg X.base k x n fn) (hr:Room k X.A) (ha:PA X (e::es) ta) (hg:Gl X x:=by rfl) (hdb:(x == ("__debug__" : Str))=false:=by decide)
  (he:starEach (e::es) X.env=(false,eval e X.env)::starEach es X.env:=by rfl) (hpl:(backTo pos (starEach es X.env)).any (·.1)=false:=by rfl):PE X (.Call (.Name x p) (e::es) [] pos) (aIp (spV X.K n fn) (wE X.K W) ta):=by
 obtain ⟨f,fd,ps,F,hm,hk,hb⟩:=F.ex
 intro pins s σ H Q I h
 refine wpAny_Call_Name_kw (sV I hg hm ?_ hdb)
 refine PySem.W.callWith_K (h₀:=X.base) I.ok.mod.kin hk (thn (ha pos pins s σ H _ I h) fun us s1 ⟨vs,H1,I1,r,q⟩=>⟨I1.kIn,?_⟩) he hpl
 exact aMq F hr hb .nil (fun e s' hq=>L.call pins σ H1 s1 e s' I1 hq) I1 r q
theorem kP {k n:Nat} {x:Str} {fn:Fn} {g:dI} {p:Pos} (L:Lk X W) (F:Kn X.prog X.w X.K X.mg X.base k x n fn) (hr:Room k X.A) (ha:SA X (e::es) g) (hl:zK n g) (hg:Gl X x:=by rfl) (hdb:(x == ("__debug__" : Str))=false:=by decide)
  (he:starEach (e::es) X.env=(false,eval e X.env)::starEach es X.env:=by rfl) (hpl:(backTo pos (starEach es X.env)).any (·.1)=false:=by rfl):SX X W (.Call (.Name x p) (e::es) [] pos) (fY fn g) :=
 (aIm L F hr ha hg hdb he hpl).imp fun _ _ _ h=>aLa hl h
end
section
variable {K:FG} {W:XW} {F H:Hp} {σ:L2.St} {ρ:Env} {D':Ends}
end
section
variable {X:Cx} {W:XW} {e a:Expr} {es:List Expr} {pos:Pos}
end
end VL
end
section
namespace VL
open PySem PySem.Spec PyProof.Rows L2 PySem.W PySem.Calls PySem.Builtin.ObjectAttr PySem.Builtin PySem.Builtin.Getset_descriptor
section
variable {prog:Program} {w:World} {A:Around} {E:Y9} {s:Shared} {K:FG} {x C:Addr} {name:Str}
end
section
variable {X:Cx}
end
end VL
end
section
namespace VL
open PySem PySem.Spec PyProof.Rows L2 PySem.SeqAt
section
variable {X:Cx}
variable {o e:Expr} {ap cp:Pos}
end
end VL
end
section
namespace ST
open PySem PySem.SetTable
def adv (mask:Nat) (p:Probe):Probe :=
 if p.more > 0 then { p with j:=p.j+1,more:=p.more - 1 } else
 { p with j:=(leap mask p.i p.perturb).1,more:=runEnd mask (leap mask p.i p.perturb).1 - (leap mask p.i p.perturb).1,i:=(leap mask p.i p.perturb).1,perturb:=(leap mask p.i p.perturb).2 }
def start (mask i u:Nat):Probe:={ j:=i,more:=runEnd mask i - i,i,perturb:=u,dummy:=none }
def pos (mask:Nat) (h:Int):Nat->Probe
 | 0=>start mask (bits h % (mask+1)) (bits h)
 | k+1=>adv mask (pos mask h k)
theorem wV (mask:Nat) (h:Int):∀k,(pos mask h k).dummy=none
 | 0=>rfl
 | k+1=>by
  show (adv mask (pos mask h k)).dummy=none
  unfold adv
  split<;>exact wV mask h k
def iter {α:Type} (f:α->α):Nat->α->α
 | 0,x=>x
 | n+1,x=>iter f n (f x)
theorem mD {α:Type} (f:α->α):∀(n m:Nat) (x:α),iter f (n+m) x=iter f m (iter f n x)
 | 0,m,x=>by rw [Nat.zero_add];rfl
 | n+1,m,x=>by rw [Nat.succ_add];exact mD f n m (f x)
theorem nK {α:Type} (f:α->α) (n:Nat) (x:α):iter f (n+1) x=f (iter f n x):=mD f n 1 x
theorem aAa (mask:Nat) (h:Int):∀k,pos mask h k=iter (adv mask) k (pos mask h 0)
 | 0=>rfl
 | k+1=>by rw [nK,<- aAa mask h k];rfl
theorem aA8 {mask:Nat}:∀(m:Nat) (p:Probe),p.more=m->iter (adv mask) (m+1) p={ p with j:=(leap mask p.i p.perturb).1,more:=runEnd mask (leap mask p.i p.perturb).1 - (leap mask p.i p.perturb).1,i:=(leap mask p.i p.perturb).1,perturb:=(leap mask p.i p.perturb).2 }
 | 0,p,e=>by
  show adv mask p=_
  unfold adv
  rw [if_neg (by omega)]
 | m+1,p,e=>by
  have e1:adv mask p={ p with j:=p.j+1,more:=p.more - 1 }:=by unfold adv;rw [if_pos (by omega)]
  show iter (adv mask) (m+1) (adv mask p)=_
  rw [e1,aA8 m _ (by show p.more - 1=m;omega)]
theorem turn {mask i u:Nat}:∃m,m<=10/\iter (adv mask) m (start mask i u)=start mask (leap mask i u).1 (leap mask i u).2:=by
 refine ⟨runEnd mask i - i+1,?_,?_⟩
 ·unfold runEnd;split<;>omega
 ·exact aA8 (runEnd mask i - i) (start mask i u) rfl
def lp (mask:Nat) (x:Nat×Nat):Nat×Nat:=leap mask x.1 x.2
theorem aAf {mask i u:Nat}:∀T,∃m,m<=10 * T/\iter (adv mask) m (start mask i u)=start mask (iter (lp mask) T (i,u)).1 (iter (lp mask) T (i,u)).2
 | 0=>⟨0,by omega,rfl⟩
 | T+1=>by
  obtain ⟨m,hm,e⟩:=aAf (mask:=mask) (i:=i) (u:=u) T
  obtain ⟨m',hm',e'⟩:=turn (mask:=mask) (i:=(iter (lp mask) T (i,u)).1) (u:=(iter (lp mask) T (i,u)).2)
  refine ⟨m+m',by omega,?_⟩
  rw [mD,e,e',nK];rfl
theorem aQv {mask:Nat}:∀(T:Nat) (x:Nat×Nat),(iter (lp mask) T x).2=x.2 / 32 ^ T
 | 0,x=>by simp [iter]
 | T+1,x=>by
  rw [nK]
  show (iter (lp mask) T x).2 / 32=_
  rw [aQv T x,Nat.div_div_eq_div_mul,Nat.pow_succ]
def lc (mask x:Nat):Nat:=(x * 5+1) % (mask+1)
theorem oP {mask:Nat}:∀(m x:Nat),iter (lp mask) m (x,0)=(iter (lc mask) m x,0)
 | 0,x=>rfl
 | m+1,x=>by
  show iter (lp mask) m (lp mask (x,0))=_
  have:lp mask (x,0)=(lc mask x,0):=by simp [lp,leap,lc]
  rw [this,oP m];rfl
theorem aEt (h:Int):bits h<2 ^ 64:=by unfold bits;omega
def jT (mask:Nat):Prop:=∀x,x<=mask->∀j,j<=mask->∃m,m<=mask/\iter (lc mask) m x=j
theorem aMl:jT 7:=by
 have:∀x:Fin 8,∀j:Fin 8,∃m:Fin 8,iter (lc 7) m.1 x.1=j.1:=by decide +kernel
 intro x hx j hj
 obtain ⟨m,e⟩:=this ⟨x,by omega⟩ ⟨j,by omega⟩
 exact ⟨m.1,by have:=m.2;omega,e⟩
theorem aKj:jT 31:=by
 have:∀x:Fin 32,∀j:Fin 32,∃m:Fin 32,iter (lc 31) m.1 x.1=j.1:=by decide +kernel
 intro x hx j hj
 obtain ⟨m,e⟩:=this ⟨x,by omega⟩ ⟨j,by omega⟩
 exact ⟨m.1,by have:=m.2;omega,e⟩
theorem aOh {mask:Nat}:∀(T:Nat) (x:Nat×Nat),x.1<=mask->(iter (lp mask) T x).1<=mask
 | 0,x,h=>h
 | T+1,x,h=>by
  rw [nK]
  show (_ % (mask+1))<=mask
  have:=Nat.mod_lt ((iter (lp mask) T x).1 * 5+1+(iter (lp mask) T x).2 / 32) (show mask+1 > 0 by omega)
  omega
theorem met {mask:Nat} (hc:jT mask) (h:Int) {j:Nat} (hj:j<=mask):∃k,k<=10 * (13+mask)/\(pos mask h k).j=j:=by
 have h0:(bits h % (mask+1),bits h).1<=mask:=by
  have:=Nat.mod_lt (bits h) (show mask+1 > 0 by omega)
  show bits h % (mask+1)<=mask;omega
 have e13:iter (lp mask) 13 (bits h % (mask+1),bits h)=((iter (lp mask) 13 (bits h % (mask+1),bits h)).1,0):=by
  refine Prod.ext rfl ?_
  rw [aQv]
  exact Nat.div_eq_of_lt (Nat.lt_of_lt_of_le (aEt h) (by decide))
 obtain ⟨m,hm,e⟩:=hc _ (aOh 13 _ h0) j hj
 obtain ⟨k,hk,ek⟩:=aAf (mask:=mask) (i:=bits h % (mask+1)) (u:=bits h) (13+m)
 refine ⟨k,by omega,?_⟩
 rw [aAa]
 show (iter (adv mask) k (start mask (bits h % (mask+1)) (bits h))).j=j
 rw [ek,mD,e13,oP]
 exact e
theorem aRb {mask:Nat} (h:Int):∀k,(pos mask h k).j+(pos mask h k).more<=mask/\(pos mask h k).i<=mask:=by
 have hs:∀i u,i<=mask->(start mask i u).j+(start mask i u).more<=mask:=fun i u hi=>by
  show i+(runEnd mask i - i)<=mask
  unfold runEnd;split<;>omega
 intro k
 induction k with
 | zero =>
  have:bits h % (mask+1)<=mask:=by have:=Nat.mod_lt (bits h) (show mask+1 > 0 by omega);omega
  exact ⟨hs _ _ this,this⟩
 | succ k ih =>
  show (adv mask (pos mask h k)).j+(adv mask (pos mask h k)).more<=mask/\(adv mask (pos mask h k)).i<=mask
  unfold adv
  split
  ·exact ⟨by show (pos mask h k).j+1+((pos mask h k).more - 1)<=mask;omega,ih.2⟩
  ·have:(leap mask (pos mask h k).i (pos mask h k).perturb).1<=mask:=by
    show (_ % (mask+1))<=mask
    have:=Nat.mod_lt ((pos mask h k).i * 5+1+(pos mask h k).perturb / 32) (show mask+1 > 0 by omega)
    omega
   exact ⟨hs _ 0 this,this⟩
end ST
end
section
namespace ST
open PySem PySem.SetTable
def uX (xs:Array Nat):Prop:=∀(i k a b:Nat),xs[i]?=some a->xs[k]?=some b->i<k->a<b
theorem zF {xs:Array Nat} {j:Nat} (hr:uX xs):∀(fuel lo hi:Nat),lo<=hi->hi<=xs.size->hi - lo<=fuel->(∀(i v:Nat),xs[i]?=some v->i<lo->v<j)->(∀(i v:Nat),xs[i]?=some v->hi<=i->j<=v) ->
  below.go xs j fuel lo hi<=xs.size/\(∀(i v:Nat),xs[i]?=some v->i<below.go xs j fuel lo hi->v<j)/\∀(i v:Nat),xs[i]?=some v->below.go xs j fuel lo hi<=i->j<=v
 | 0,lo,hi,h1,h2,h3,h4,h5=>by
  have e:lo=hi:=by omega
  subst e
  exact ⟨h2,h4,h5⟩
 | fuel+1,lo,hi,h1,h2,h3,h4,h5=>by
  unfold below.go
  by_cases hl:lo<hi
  ·rw [if_pos hl]
   dsimp only
   have hm:(lo+hi) / 2<xs.size:=by omega
   have em:xs[(lo+hi) / 2]?=some xs[(lo+hi) / 2]:=Array.getElem?_eq_getElem hm
   have eg:xs.getD ((lo+hi) / 2) j=xs[(lo+hi) / 2]:=by simp [Array.getD,hm]
   rw [eg]
   by_cases hv:xs[(lo+hi) / 2]<j
   ·rw [if_pos hv]
    refine zF hr fuel _ hi (by omega) h2 (by omega) (fun i v e hi'=>?_) h5
    by_cases hq:i=(lo+hi) / 2
    ·subst hq;rw [em] at e;cases e;exact hv
    ·have:=hr i _ v _ e em (by omega);omega
   ·rw [if_neg hv]
    refine zF hr fuel lo _ (by omega) (by omega) (by omega) h4 (fun i v e hi'=>?_)
    by_cases hq:i=(lo+hi) / 2
    ·subst hq;rw [em] at e;cases e;omega
    ·have:=hr _ i _ v em e (by omega);omega
  ·rw [if_neg hl]
   have e:lo=hi:=by omega
   subst e
   exact ⟨h2,h4,h5⟩
theorem iO {xs:Array Nat} (hr:uX xs) (j:Nat):below xs j<=xs.size/\(∀(i v:Nat),xs[i]?=some v->i<below xs j->v<j)/\∀(i v:Nat),xs[i]?=some v->below xs j<=i->j<=v :=
 zF hr xs.size 0 xs.size (Nat.zero_le _) (Nat.le_refl _) (by omega) (fun _ _ _ h=>by omega) fun i v e h=>by
  have:=(Array.getElem?_eq_some_iff.mp e).1;omega
theorem below_at {xs:Array Nat} (hr:uX xs) {i j:Nat} (e:xs[i]?=some j):below xs j=i:=by
 obtain ⟨_,h2,h3⟩:=iO hr j
 rcases Nat.lt_trichotomy i (below xs j) with q | q | q
 ·have:=h2 i j e q;omega
 ·exact q.symm
 ·have hs:=(Array.getElem?_eq_some_iff.mp e).1
  have eb:xs[below xs j]?=some (xs[below xs j]'(by omega)):=Array.getElem?_eq_getElem (by omega)
  have a1:=h3 _ _ eb (Nat.le_refl _)
  have a2:=hr _ _ _ _ eb e q
  omega
theorem rA {t:SetTable} (hr:uX t.place) {i j:Nat} (e:t.place[i]?=some j):t.slot j=.live i:=by
 unfold SetTable.slot
 dsimp only
 rw [below_at hr e,e];simp
theorem aC4 {t:SetTable} (hd:t.dummies = #[]) {j:Nat} (hn:∀i:Nat,t.place[i]? ≠ some j):t.slot j=.empty:=by
 unfold SetTable.slot
 dsimp only
 rw [if_neg (by simpa using hn _),hd]
 rfl
theorem hZ {α:Type} {xs:Array α} {p:Nat} {x:α} (hp:p<=xs.size) (i:Nat):(insertAt xs p x)[i]?=if i<p then xs[i]? else if i=p then some x else xs[i - 1]?:=by
 have e:(insertAt xs p x).toList=xs.toList.take p++x::xs.toList.drop p:=by
  simp [insertAt,List.take_of_length_le]
 rw [<- Array.getElem?_toList,e]
 have hl:(xs.toList.take p).length=p:=by simp;omega
 by_cases h1:i<p
 ·rw [if_pos h1,List.getElem?_append_left (by omega),List.getElem?_take,if_pos h1,Array.getElem?_toList]
 ·rw [if_neg h1,List.getElem?_append_right (by omega),hl]
  by_cases h2:i=p
  ·rw [if_pos h2,h2,Nat.sub_self];rfl
  ·rw [if_neg h2]
   obtain ⟨k,rfl⟩:∃k,i=p+1+k:=⟨i - p - 1,by omega⟩
   rw [show p+1+k - p=k+1 by omega,List.getElem?_cons_succ,List.getElem?_drop,Array.getElem?_toList]
   congr 1;omega
theorem pJ {α:Type} {xs:Array α} {p:Nat} {x:α} (hp:p<=xs.size):(insertAt xs p x).size=xs.size+1:=by
 simp [insertAt];omega
theorem aJl {xs:Array Nat} (hr:uX xs) {j:Nat} (hn:∀i:Nat,xs[i]? ≠ some j):uX (insertAt xs (below xs j) j):=by
 obtain ⟨h1,h2,h3⟩:=iO hr j
 intro i k a b ea eb hik
 rw [hZ h1] at ea eb
 have ne:∀(i v:Nat),xs[i]?=some v->v ≠ j:=fun i v e z=>hn i (z ▸ e)
 split at ea
 ·split at eb
  ·exact hr _ _ _ _ ea eb hik
  ·split at eb
   ·cases eb;exact h2 _ _ ea (by omega)
   ·exact hr _ _ _ _ ea eb (by omega)
 ·split at ea
  ·cases ea
   split at eb
   ·omega
   ·split at eb
    ·omega
    ·have a1:=h3 _ _ eb (by omega);have a2:=ne _ _ eb;omega
  ·split at eb
   ·omega
   ·split at eb
    ·omega
    ·exact hr _ _ _ _ ea eb (by omega)
theorem aLt {α:Type} {xs:Array α} {p:Nat} {x:α} (hp:p<=xs.size) {y:α}:(∃i:Nat,(insertAt xs p x)[i]?=some y) ↔ y=x\/∃i:Nat,xs[i]?=some y:=by
 constructor
 ·rintro ⟨i,e⟩
  rw [hZ hp] at e
  split at e
  ·exact .inr ⟨_,e⟩
  ·split at e
   ·cases e;exact .inl rfl
   ·exact .inr ⟨_,e⟩
 ·rintro (rfl | ⟨i,e⟩)
  ·exact ⟨p,by rw [hZ hp,if_neg (by omega),if_pos rfl]⟩
  ·by_cases h:i<p
   ·exact ⟨i,by rw [hZ hp,if_pos h];exact e⟩
   ·exact ⟨i+1,by rw [hZ hp,if_neg (by omega),if_neg (by omega)];exact e⟩
theorem aA0 {t:SetTable} {f:Nat->Int} {h:Int}:∀(d m fuel:Nat),d<fuel->(∀k,m<=k->k<m+d->∃i,t.slot (pos t.mask h k).j=.live i/\(f i == h)=false) ->
  probe.go t f h fuel (pos t.mask h m)=probe.go t f h (fuel - d) (pos t.mask h (m+d))
 | 0,m,fuel,_,_=>rfl
 | d+1,m,0,hf,_=>by omega
 | d+1,m,fuel+1,hf,hk=>by
  obtain ⟨i,e1,e2⟩:=hk m (Nat.le_refl _) (by omega)
  have:=aA0 d (m+1) fuel (by omega) fun k h1 h2=>hk k (by omega) (by omega)
  have e:probe.go t f h (fuel+1) (pos t.mask h m)=probe.go t f h fuel (pos t.mask h (m+1)):=by
   show (match t.slot (pos t.mask h m).j with | .empty=>some (Met.empty (pos t.mask h m).j (pos t.mask h m).dummy) | .dummy=>probe.go t f h fuel (t.advance { pos t.mask h m with dummy:=some (pos t.mask h m).j }) | .live i=>if f i == h then some (.candidate (pos t.mask h m).j i (t.advance (pos t.mask h m))) else probe.go t f h fuel (t.advance (pos t.mask h m)))=_
   rw [e1]
   dsimp only
   rw [e2,if_neg (by simp)];rfl
  rw [e,this,show fuel+1 - (d+1)=fuel - d by omega,show m+1+d=m+(d+1) by omega]
theorem aJ9 {t:SetTable} {f:Nat->Int} {h:Int} {m fuel:Nat} (hf:0<fuel) (e:t.slot (pos t.mask h m).j=.empty):probe.go t f h fuel (pos t.mask h m)=some (.empty (pos t.mask h m).j none):=by
 obtain ⟨n,rfl⟩:∃n,fuel=n+1:=⟨fuel - 1,by omega⟩
 show (match t.slot (pos t.mask h m).j with | .empty=>some (Met.empty (pos t.mask h m).j (pos t.mask h m).dummy) | .dummy=>probe.go t f h n (t.advance { pos t.mask h m with dummy:=some (pos t.mask h m).j }) | .live i=>if f i == h then some (.candidate (pos t.mask h m).j i (t.advance (pos t.mask h m))) else probe.go t f h n (t.advance (pos t.mask h m)))=_
 rw [e]
 dsimp only
 rw [wV]
theorem aM0 {t:SetTable} {f:Nat->Int} {h:Int} {m fuel i:Nat} (hf:0<fuel) (e:t.slot (pos t.mask h m).j=.live i) (eh:(f i == h)=true):probe.go t f h fuel (pos t.mask h m)=some (.candidate (pos t.mask h m).j i (pos t.mask h (m+1))):=by
 obtain ⟨n,rfl⟩:∃n,fuel=n+1:=⟨fuel - 1,by omega⟩
 show (match t.slot (pos t.mask h m).j with | .empty=>some (Met.empty (pos t.mask h m).j (pos t.mask h m).dummy) | .dummy=>probe.go t f h n (t.advance { pos t.mask h m with dummy:=some (pos t.mask h m).j }) | .live i=>if f i == h then some (.candidate (pos t.mask h m).j i (t.advance (pos t.mask h m))) else probe.go t f h n (t.advance (pos t.mask h m)))=_
 rw [e]
 dsimp only
 rw [eh,if_pos rfl];rfl
end ST
end
section
namespace ST
open PySem PySem.SetTable
def Occ (xs:Array Nat) (j:Nat):Prop:=∃i:Nat,xs[i]?=some j
def Reach (mask:Nat) (xs:Array Nat) (h:Int) (j:Nat):Prop:=∃k,(pos mask h k).j=j/\∀k',k'<k->Occ xs (pos mask h k').j
structure TOk (es:Y3) (t:SetTable):Prop where
 cov:jT t.mask
 rise:uX t.place
 dum:t.dummies = #[]
 size:t.place.size=es.size
 fill:es.size<=t.mask
 reach:∀(i:Nat) (e:Int×Value) (j:Nat),es[i]?=some e->t.place[i]?=some j->Reach t.mask t.place e.1 j
theorem exists_first {P:Nat->Prop}:∀(N:Nat),P N->∃K,K<=N/\P K/\∀k,k<K->¬ P k:=by
 intro N
 induction N using Nat.strongRecOn with
 | _ N ih =>
  intro h
  by_cases q:∃k,k<N/\P k
  ·obtain ⟨k,hk,hp⟩:=q
   obtain ⟨K,h1,h2,h3⟩:=ih k hk hp
   exact ⟨K,by omega,h2,h3⟩
  ·exact ⟨N,Nat.le_refl _,h,fun k hk hp=>q ⟨k,hk,hp⟩⟩
theorem aIb {xs:Array Nat} (hr:uX xs):∀(j:Nat),(∀k,k<=j->Occ xs k)->∃i,j<=i/\xs[i]?=some j
 | 0,h=>by obtain ⟨i,e⟩:=h 0 (Nat.le_refl _);exact ⟨i,Nat.zero_le _,e⟩
 | j+1,h=>by
  obtain ⟨i,hi,e⟩:=aIb hr j fun k hk=>h k (by omega)
  obtain ⟨i',e'⟩:=h (j+1) (Nat.le_refl _)
  have:i<i':=by
   rcases Nat.lt_trichotomy i i' with q | q | q
   ·exact q
   ·subst q;rw [e] at e';cases e'
   ·have:=hr _ _ _ _ e' e q;omega
  exact ⟨i',by omega,e'⟩
theorem aDj {mask:Nat} {xs:Array Nat} (hc:jT mask) (hr:uX xs) (hs:xs.size<=mask) (h:Int):∃K,K<=10 * (13+mask)/\¬ Occ xs (pos mask h K).j/\∀k,k<K->Occ xs (pos mask h k).j:=by
 have:∃j,j<=mask/\¬ Occ xs j:=by
  refine Classical.byContradiction fun q=>?_
  obtain ⟨i,hi,e⟩:=aIb hr mask fun k hk=>Classical.byContradiction fun z=>q ⟨k,hk,z⟩
  have:=(Array.getElem?_eq_some_iff.mp e).1
  omega
 obtain ⟨j,hj,hn⟩:=this
 obtain ⟨k,hk,e⟩:=met hc h hj
 obtain ⟨K,h1,h2,h3⟩:=exists_first (P:=fun k=>¬ Occ xs (pos mask h k).j) k (by rw [e];exact hn)
 exact ⟨K,by omega,h2,fun k hk=>Classical.byContradiction (h3 k hk)⟩
theorem TOk.free {es:Y3} {t:SetTable} (o:TOk es t) (h:Int):∃K,K<=10 * (13+t.mask)/\¬ Occ t.place (pos t.mask h K).j/\∀k,k<K->Occ t.place (pos t.mask h k).j :=
 aDj o.cov o.rise (by rw [o.size];exact o.fill) h
theorem Reach.mono {mask:Nat} {xs ys:Array Nat} {h:Int} {j:Nat} (r:Reach mask xs h j) (hs:∀j,Occ xs j->Occ ys j):Reach mask ys h j:=by
 obtain ⟨k,e,q⟩:=r
 exact ⟨k,e,fun k' hk=>hs _ (q k' hk)⟩
theorem TOk.put {es:Y3} {t:SetTable} (o:TOk es t) {h:Int} {x:Value} {K:Nat} (hn:¬ Occ t.place (pos t.mask h K).j) (hk:∀k,k<K->Occ t.place (pos t.mask h k).j) (hf:es.size+1<=t.mask) :
  TOk (insertAt es (t.put (pos t.mask h K).j).2 (h,x)) (t.put (pos t.mask h K).j).1/\(t.put (pos t.mask h K).j).2<=es.size:=by
 obtain ⟨b1,b2,b3⟩:=iO o.rise (pos t.mask h K).j
 have hp:below t.place (pos t.mask h K).j<=es.size:=by rw [<- o.size];exact b1
 have sub:∀j,Occ t.place j->Occ (insertAt t.place (below t.place (pos t.mask h K).j) (pos t.mask h K).j) j:=fun j hj=>(aLt b1).mpr (.inr hj)
 refine ⟨⟨o.cov,aJl o.rise fun i e=>hn ⟨i,e⟩,?_,?_,?_,?_⟩,hp⟩
 ·show (if has t.dummies (pos t.mask h K).j then eraseAt t.dummies (below t.dummies (pos t.mask h K).j) else t.dummies) = #[]
  rw [o.dum];rfl
 ·show (insertAt t.place (below t.place (pos t.mask h K).j) (pos t.mask h K).j).size=(insertAt es (below t.place (pos t.mask h K).j) (h,x)).size
  rw [pJ b1,pJ hp,o.size]
 ·show (insertAt es (below t.place (pos t.mask h K).j) (h,x)).size<=t.mask
  rw [pJ hp];exact hf
 ·intro i e j e1 e2
  have e1:(insertAt es (below t.place (pos t.mask h K).j) (h,x))[i]?=some e:=e1
  have e2:(insertAt t.place (below t.place (pos t.mask h K).j) (pos t.mask h K).j)[i]?=some j:=e2
  rw [hZ hp] at e1
  rw [hZ b1] at e2
  show Reach t.mask (insertAt t.place (below t.place (pos t.mask h K).j) (pos t.mask h K).j) e.1 j
  by_cases q1:i<below t.place (pos t.mask h K).j
  ·rw [if_pos q1] at e1 e2
   exact (o.reach i e j e1 e2).mono sub
  ·rw [if_neg q1] at e1 e2
   by_cases q2:i=below t.place (pos t.mask h K).j
   ·rw [if_pos q2] at e1 e2
    cases e1;cases e2
    exact ⟨K,rfl,fun k' hk'=>sub _ (hk k' hk')⟩
   ·rw [if_neg q2] at e1 e2
    exact (o.reach (i - 1) e j e1 e2).mono sub
def At (owner:Array (Option Nat)) (j k:Nat):Prop:=owner[j]?=some (some k)
structure Lay (mask:Nat) (hs:Y0) (owner:Array (Option Nat)) (n:Nat):Prop where
 size:owner.size=mask+1
 all:∀k,k<n->∃j,At owner j k
 one:∀j j' k,At owner j k->At owner j' k->j=j'
 lt:∀j k,At owner j k->k<n
 reach:∀j k h,At owner j k->hs[k]?=some h->∃q,(pos mask h q).j=j/\∀q',q'<q->∃k',At owner (pos mask h q').j k'
theorem sJ {mask:Nat} {h:Int} {b i u:Nat} (e:pos mask h b=start mask i u):∀k,k<=runEnd mask i - i->pos mask h (b+k)={ start mask i u with j:=i+k,more:=runEnd mask i - i - k }
 | 0,_=>by rw [Nat.add_zero,e];rfl
 | k+1,hk=>by
  have ih:=sJ e k (by omega)
  show adv mask (pos mask h (b+k))=_
  rw [ih]
  unfold adv
  rw [if_pos (by show runEnd mask i - i - k > 0;omega)]
  show ({ j:=i+k+1,more:=runEnd mask i - i - k - 1,i:=i,perturb:=u,dummy:=none }:Probe)={ j:=i+(k+1),more:=runEnd mask i - i - (k+1),i:=i,perturb:=u,dummy:=none }
  congr 1
theorem aF5 {mask:Nat} {h:Int} {b i u:Nat} (e:pos mask h b=start mask i u):pos mask h (b+(runEnd mask i - i+1))=start mask (leap mask i u).1 (leap mask i u).2:=by
 have:=sJ e (runEnd mask i - i) (Nat.le_refl _)
 show adv mask (pos mask h (b+(runEnd mask i - i)))=_
 rw [this]
 unfold adv
 rw [if_neg (by show ¬ (runEnd mask i - i - (runEnd mask i - i) > 0);omega)]
 rfl
theorem wM {mask:Nat} {h:Int} {owner:Array (Option Nat)} (hsz:owner.size=mask+1):∀(fuel b i u:Nat),i<=mask->pos mask h b=start mask i u->(∀q,q<b->∃k,At owner (pos mask h q).j k) ->
  (∃T,T<fuel/\¬ ∃k,At owner (iter (lp mask) T (i,u)).1 k)->∃K,layClean.free mask owner fuel i u=some (pos mask h K).j/\(¬ ∃k,At owner (pos mask h K).j k)/\∀q,q<K->∃k,At owner (pos mask h q).j k
 | 0,b,i,u,_,_,_,⟨T,hT,_⟩=>by omega
 | fuel+1,b,i,u,hi,e,hb,⟨T,hT,hn⟩=>by
  have non:∀j,j<=mask->((owner.getD j (some 0)).isNone=true ↔ ¬ ∃k,At owner j k):=fun j hj=>by
   have hlt:j<owner.size:=by omega
   have eg:owner.getD j (some 0)=owner[j]:=by simp [Array.getD,hlt]
   rw [eg]
   constructor
   ·rintro h1 ⟨k,h2⟩
    unfold At at h2
    rw [Array.getElem?_eq_getElem hlt] at h2
    rw [Option.some.inj h2] at h1;cases h1
   ·intro h1
    cases hq:owner[j] with
    | none=>rfl
    | some k=>exact absurd ⟨k,by unfold At;rw [Array.getElem?_eq_getElem hlt,hq]⟩ h1
  have re:i<=runEnd mask i/\runEnd mask i<=mask:=by unfold runEnd;split<;>omega
  unfold layClean.free
  cases hf:(List.range (runEnd mask i+1 - i)).find? fun k=>(owner.getD (i+k) (some 0)).isNone with
  | some k =>
   obtain ⟨h1,h2,h3⟩:=List.find?_range_eq_some.mp hf
   have h2:=List.mem_range.mp h2
   have ej:∀q,q<=k->(pos mask h (b+q)).j=i+q:=fun q hq=>by rw [sJ e q (by omega)]
   refine ⟨b+k,?_,?_,fun q hq=>?_⟩
   ·dsimp only;rw [ej k (Nat.le_refl _)]
   ·rw [ej k (Nat.le_refl _)];exact (non _ (by omega)).mp h1
   ·by_cases hqb:q<b
    ·exact hb q hqb
    ·obtain ⟨d,rfl⟩:∃d,q=b+d:=⟨q - b,by omega⟩
     rw [ej d (by omega)]
     refine Classical.byContradiction fun z=>?_
     have:=(non (i+d) (by omega)).mpr z
     have h4:=h3 d (by omega)
     rw [this] at h4;cases h4
  | none =>
   dsimp only
   have hall:∀d,d<=runEnd mask i - i->∃k,At owner (i+d) k:=fun d hd=>by
    refine Classical.byContradiction fun z=>?_
    have h1:=(non (i+d) (by omega)).mpr z
    have h2:=List.find?_eq_none.mp hf d (List.mem_range.mpr (by omega))
    exact h2 h1
   have hT0:T ≠ 0:=fun z=>by
    subst z
    exact hn (hall 0 (Nat.zero_le _))
   obtain ⟨T',rfl⟩:∃T',T=T'+1:=⟨T - 1,by omega⟩
   refine wM hsz fuel (b+(runEnd mask i - i+1)) _ _ ?_ (aF5 e) (fun q hq=>?_) ⟨T',by omega,hn⟩
   ·show (_ % (mask+1))<=mask
    have:=Nat.mod_lt (i * 5+1+u / 32) (show mask+1 > 0 by omega)
    omega
   ·by_cases hqb:q<b
    ·exact hb q hqb
    ·obtain ⟨d,rfl⟩:∃d,q=b+d:=⟨q - b,by omega⟩
     rw [sJ e d (by omega)]
     exact hall d (by omega)
end ST
end
section
namespace ST
open PySem PySem.SetTable
theorem aHo {mask:Nat} (hc:jT mask) (h:Int) {j:Nat} (hj:j<=mask):∃T,T<=13+mask/\(iter (lp mask) T (bits h % (mask+1),bits h)).1=j:=by
 have h0:(bits h % (mask+1),bits h).1<=mask:=by
  have:=Nat.mod_lt (bits h) (show mask+1 > 0 by omega)
  show bits h % (mask+1)<=mask;omega
 have e13:iter (lp mask) 13 (bits h % (mask+1),bits h)=((iter (lp mask) 13 (bits h % (mask+1),bits h)).1,0):=by
  refine Prod.ext rfl ?_
  rw [aQv]
  exact Nat.div_eq_of_lt (Nat.lt_of_lt_of_le (aEt h) (by decide))
 obtain ⟨m,hm,e⟩:=hc _ (aOh 13 _ h0) j hj
 refine ⟨13+m,by omega,?_⟩
 rw [mD,e13,oP]
 exact e
theorem Lay.room {mask:Nat} {hs:Y0} {owner:Array (Option Nat)} {n:Nat} (o:Lay mask hs owner n) (hn:n<=mask):∃j,j<=mask/\¬ ∃k,At owner j k:=by
 refine Classical.byContradiction fun q=>?_
 have all:∀j,j<=mask->∃k,At owner j k:=fun j hj=>Classical.byContradiction fun z=>q ⟨j,hj,z⟩
 have hex:∀j,∃k,j<=mask->At owner j k:=fun j=>by
  by_cases hj:j<=mask
  ·obtain ⟨k,e⟩:=all j hj;exact ⟨k,fun _=>e⟩
  ·exact ⟨0,fun z=>absurd z hj⟩
 obtain ⟨f,hf⟩:∃f:Nat->Nat,∀j,j<=mask->At owner j (f j):=⟨fun j=>Classical.choose (hex j),fun j=>Classical.choose_spec (hex j)⟩
 have nd:((List.range (mask+1)).map f).Nodup:=by
  refine List.pairwise_map.mpr ((List.nodup_range (n:=mask+1)).imp_of_mem fun {a b} ha hb hab z=>?_)
  have ha:=hf a (by have:=List.mem_range.mp ha;omega)
  have hb:=hf b (by have:=List.mem_range.mp hb;omega)
  rw [z] at ha
  exact hab (o.one _ _ _ ha hb)
 have sub:((List.range (mask+1)).map f) ⊆ List.range n:=fun k hk=>by
  obtain ⟨j,hj,rfl⟩:=List.mem_map.mp hk
  exact List.mem_range.mpr (o.lt _ _ (hf j (by have:=List.mem_range.mp hj;omega)))
 have:=nd.length_le_of_subset sub
 simp at this
 omega
theorem aHx {mask:Nat} {hs:Y0} {owner:Array (Option Nat)} {n:Nat} {h:Int} (hc:jT mask) (o:Lay mask hs owner n) (hn:n<=mask) (he:hs[n]?=some h) :
  ∃j,layClean.free mask owner (turns mask) (bits h % (mask+1)) (bits h)=some j/\Lay mask hs (owner.setIfInBounds j (some n)) (n+1):=by
 obtain ⟨j0,hj0,hn0⟩:=o.room hn
 obtain ⟨T,hT,eT⟩:=aHo hc h hj0
 have hi:bits h % (mask+1)<=mask:=by have:=Nat.mod_lt (bits h) (show mask+1 > 0 by omega);omega
 obtain ⟨K,e,hK,hq⟩:=wM (h:=h) o.size (turns mask) 0 _ _ hi rfl (fun q hq=>by omega) ⟨T,by unfold turns;omega,by rw [eT];exact hn0⟩
 have hJ:(pos mask h K).j<owner.size:=by rw [o.size];have:=(aRb (mask:=mask) h K).1;omega
 have at':∀j k,At (owner.setIfInBounds (pos mask h K).j (some n)) j k ↔ (j=(pos mask h K).j/\k=n)\/(j ≠ (pos mask h K).j/\At owner j k):=fun j k=>by
  unfold At
  rw [Array.getElem?_setIfInBounds]
  by_cases q:(pos mask h K).j=j
  ·rw [if_pos q,if_pos hJ]
   constructor
   ·intro z;cases z;exact .inl ⟨q.symm,rfl⟩
   ·rintro (⟨_,rfl⟩ | ⟨z,_⟩)
    ·rfl
    ·exact absurd q.symm z
  ·rw [if_neg q]
   constructor
   ·intro z;exact .inr ⟨fun y=>q y.symm,z⟩
   ·rintro (⟨z,_⟩ | ⟨_,z⟩)
    ·exact absurd z.symm q
    ·exact z
 have keep:∀j k,At owner j k->At (owner.setIfInBounds (pos mask h K).j (some n)) j k:=fun j k z=>(at' j k).mpr (.inr ⟨fun y=>hK ⟨k,y ▸ z⟩,z⟩)
 refine ⟨_,e,⟨by rw [Array.size_setIfInBounds];exact o.size,fun k hk=>?_,fun j j' k h1 h2=>?_,fun j k h1=>?_,fun j k h' h1 h2=>?_⟩⟩
 ·by_cases q:k=n
  ·exact ⟨_,(at' _ _).mpr (.inl ⟨rfl,q⟩)⟩
  ·obtain ⟨j,z⟩:=o.all k (by omega)
   exact ⟨j,keep _ _ z⟩
 ·rcases (at' _ _).mp h1 with ⟨a1,a2⟩ | ⟨a1,a2⟩
  ·rcases (at' _ _).mp h2 with ⟨b1,b2⟩ | ⟨b1,b2⟩
   ·rw [a1,b1]
   ·have:=o.lt _ _ b2;omega
  ·rcases (at' _ _).mp h2 with ⟨b1,b2⟩ | ⟨b1,b2⟩
   ·have:=o.lt _ _ a2;omega
   ·exact o.one _ _ _ a2 b2
 ·rcases (at' _ _).mp h1 with ⟨a1,a2⟩ | ⟨a1,a2⟩
  ·omega
  ·have:=o.lt _ _ a2;omega
 ·rcases (at' _ _).mp h1 with ⟨a1,a2⟩ | ⟨a1,a2⟩
  ·subst a2
   rw [he] at h2;cases h2
   refine ⟨K,a1.symm,fun q' hq'=>?_⟩
   obtain ⟨k',z⟩:=hq q' hq'
   exact ⟨k',keep _ _ z⟩
  ·obtain ⟨q,e1,e2⟩:=o.reach j k h' a2 h2
   refine ⟨q,e1,fun q' hq'=>?_⟩
   obtain ⟨k',z⟩:=e2 q' hq'
   exact ⟨k',keep _ _ z⟩
def aKv (mask:Nat):Option (Array (Option Nat)×Nat)->Int->Option (Array (Option Nat)×Nat):=fun acc h=>do
  let (owner,k) <- acc
  let j <- layClean.free mask owner (turns mask) (bits h % (mask+1)) (bits h)
  pure (owner.setIfInBounds j (some k),k+1)
theorem aBx {mask:Nat} {hs:Y0} (hc:jT mask) (hl:hs.length<=mask):∀(rest pre:Y0) (owner:Array (Option Nat)),hs=pre++rest->Lay mask hs owner pre.length ->
  ∃owner',rest.foldl (aKv mask) (some (owner,pre.length))=some (owner',hs.length)/\Lay mask hs owner' hs.length
 | [],pre,owner,e,o=>by
  rw [List.append_nil] at e
  subst e
  exact ⟨owner,rfl,o⟩
 | h::rest,pre,owner,e,o=>by
  have hn:pre.length<=mask:=by rw [e] at hl;simp at hl;omega
  have he:hs[pre.length]?=some h:=by rw [e];simp
  obtain ⟨j,e1,o1⟩:=aHx hc o hn he
  obtain ⟨owner',e2,o2⟩:=aBx hc hl rest (pre ++ [h]) (owner.setIfInBounds j (some pre.length)) (by rw [e];simp) (by simpa using o1)
  refine ⟨owner',?_,o2⟩
  rw [List.foldl_cons]
  have:aKv mask (some (owner,pre.length)) h=some (owner.setIfInBounds j (some pre.length),(pre ++ [h]).length):=by
   show (layClean.free mask owner (turns mask) (bits h % (mask+1)) (bits h)).bind _=_
   rw [e1];simp
  rw [this];exact e2
theorem aF7 {mask:Nat} {hashes:Array Int} (hc:jT mask) (hl:hashes.size<=mask):∃owner,layClean mask hashes=some owner/\Lay mask hashes.toList owner hashes.size:=by
 have o0:Lay mask hashes.toList (Array.replicate (mask+1) none) ([]:Y0).length:=by
  have no:∀j k,¬ At (Array.replicate (mask+1) none) j k:=fun j k z=>by
   unfold At at z
   rw [Array.getElem?_replicate] at z
   split at z<;>cases z
  exact ⟨by simp,fun k hk=>by simp at hk,fun j j' k z _=>absurd z (no j k),fun j k z=>absurd z (no j k),fun j k h z _=>absurd z (no j k)⟩
 obtain ⟨owner,e,o⟩:=aBx (hs:=hashes.toList) hc (by simpa using hl) hashes.toList [] _ rfl o0
 refine ⟨owner,?_,by simpa using o⟩
 have:layClean mask hashes=((hashes.foldl (aKv mask) (some (Array.replicate (mask+1) none,0))).map (·.1)):=rfl
 rw [this,<- Array.foldl_toList]
 show Option.map _ (List.foldl (aKv mask) (some (Array.replicate (mask+1) none,([]:Y0).length)) hashes.toList)=_
 rw [e];rfl
end ST
end
section
namespace ST
open PySem PySem.SetTable
def fI (mask:Nat) (owner:Array (Option Nat)):List (Nat×Nat):=(List.range (mask+1)).filterMap fun j=>(owner.getD j none).map (j,·)
theorem iI {mask:Nat} {hs:Y0} {owner:Array (Option Nat)} {n:Nat} (o:Lay mask hs owner n) {j k:Nat}:(j,k)∈fI mask owner ↔ At owner j k:=by
 unfold fI
 rw [List.mem_filterMap]
 constructor
 ·rintro ⟨a,ha,e⟩
  have ha:=List.mem_range.mp ha
  have hlt:a<owner.size:=by rw [o.size];exact ha
  have eg:owner.getD a none=owner[a]:=by simp [Array.getD,hlt]
  rw [eg] at e
  cases hq:owner[a] with
  | none=>rw [hq] at e;cases e
  | some k' =>
   rw [hq] at e
   cases e
   unfold At;rw [Array.getElem?_eq_getElem hlt,hq]
 ·intro e
  have hlt:=(Array.getElem?_eq_some_iff.mp e).1
  refine ⟨j,List.mem_range.mpr (by rw [<- o.size];exact hlt),?_⟩
  have eg:owner.getD j none=owner[j]:=by simp [Array.getD,hlt]
  have:owner[j]=some k:=by
   have:=e;unfold At at this;rw [Array.getElem?_eq_getElem hlt] at this;exact Option.some.inj this
  rw [eg,this];rfl
theorem aD6 {mask:Nat} {owner:Array (Option Nat)}:(fI mask owner).Pairwise fun a b=>a.1<b.1:=by
 refine List.Pairwise.filterMap (S:=fun a b:Nat×Nat=>a.1<b.1) _ (fun a a' h b hb b' hb'=>?_) (List.pairwise_lt_range (n:=mask+1))
 obtain ⟨x,_,rfl⟩:=Option.map_eq_some_iff.mp hb
 obtain ⟨y,_,rfl⟩:=Option.map_eq_some_iff.mp hb'
 exact h
theorem aDh {mask:Nat} {hs:Y0} {owner:Array (Option Nat)} {n:Nat} (o:Lay mask hs owner n):((fI mask owner).map (·.2)).Perm (List.range n):=by
 refine (List.perm_ext_iff_of_nodup ?_ List.nodup_range).mpr fun k=>?_
 ·refine List.pairwise_map.mpr ((aD6 (mask:=mask) (owner:=owner)).imp_of_mem fun {a b} ha hb hab z=>?_)
  have ha:=(iI o (j:=a.1) (k:=a.2)).mp ha
  have hb:=(iI o (j:=b.1) (k:=b.2)).mp hb
  have z:a.2=b.2:=z
  rw [z] at ha
  have:=o.one _ _ _ ha hb
  omega
 ·rw [List.mem_range]
  constructor
  ·intro h
   obtain ⟨⟨j,k'⟩,h1,rfl⟩:=List.mem_map.mp h
   exact o.lt _ _ ((iI o).mp h1)
  ·intro h
   obtain ⟨j,z⟩:=o.all k h
   exact List.mem_map.mpr ⟨(j,k),(iI o).mpr z,rfl⟩
theorem aCe {α:Type} {es:Array α}:∀ {ks:T0},(∀k∈ks,k<es.size)->∀i:Nat,(ks.filterMap (fun k=>es[k]?))[i]?=(ks[i]?).bind (fun k=>es[k]?)
 | [],_,i=>by simp
 | k::ks,h,i=>by
  have hk:=h k List.mem_cons_self
  have e:es[k]?=some es[k]:=Array.getElem?_eq_getElem hk
  rw [List.filterMap_cons_some e]
  cases i with
  | zero=>simp [e]
  | succ i=>simpa using aCe (fun k hk=>h k (List.mem_cons_of_mem _ hk)) i
theorem aA9 {α:Type} (es:Array α):(List.range es.size).filterMap (es[·]?)=es.toList:=by
 refine List.ext_getElem? fun i=>?_
 rw [aCe (fun k hk=>List.mem_range.mp hk) i]
 by_cases h:i<es.size
 ·rw [List.getElem?_range h,Array.getElem?_toList];rfl
 ·rw [List.getElem?_eq_none (by simp;omega),List.getElem?_eq_none (by simp;omega)];rfl
theorem aJd {es:Y3} {t:SetTable} {wanted:Nat} (hc:jT (sizeAbove wanted - 1)) (hs:es.size<=sizeAbove wanted - 1) :
  ∃t' order,t.relaid (es.map (·.1)) wanted=some (t',order)/\TOk (order.filterMap (es[·]?)) t'/\(order.filterMap (es[·]?)).toList.Perm es.toList/\t'.led=t.led/\t'.plain=t.plain/\t'.mask=sizeAbove wanted - 1:=by
 obtain ⟨owner,e,o⟩:=aF7 (mask:=sizeAbove wanted - 1) (hashes:=es.map (·.1)) hc (by simpa using hs)
 rw [Array.size_map] at o
 have perm:=aDh o
 have hlt:∀k∈(fI (sizeAbove wanted - 1) owner).map (·.2),k<es.size:=fun k hk=>List.mem_range.mp (perm.subset hk)
 have hlen:(fI (sizeAbove wanted - 1) owner).length=es.size:=by have:=perm.length_eq;simpa using this
 refine ⟨{ mask:=sizeAbove wanted - 1,place:=((fI (sizeAbove wanted - 1) owner).map (·.1)).toArray,dummies:=#[],finger:=t.finger,led:=t.led,moves:=t.movedTo (sizeAbove wanted - 1),plain:=t.plain },((fI (sizeAbove wanted - 1) owner).map (·.2)).toArray,?_,?_,?_,rfl,rfl,rfl⟩
 ·unfold SetTable.relaid SetTable.laid
  rw [e];rfl
 ·have efm:(((fI (sizeAbove wanted - 1) owner).map (·.2)).toArray.filterMap (es[·]?)).toList=((fI (sizeAbove wanted - 1) owner).map (·.2)).filterMap (es[·]?):=by simp
  have hsz:(((fI (sizeAbove wanted - 1) owner).map (·.2)).toArray.filterMap (es[·]?)).size=es.size:=by
   rw [<- Array.length_toList,efm,(perm.filterMap (es[·]?)).length_eq,aA9];simp
  have occ:∀j,Occ ((fI (sizeAbove wanted - 1) owner).map (·.1)).toArray j ↔ ∃k,At owner j k:=fun j=>by
   constructor
   ·rintro ⟨i,ei⟩
    rw [List.getElem?_toArray,List.getElem?_map] at ei
    obtain ⟨⟨j',k⟩,e1,rfl⟩:=Option.map_eq_some_iff.mp ei
    exact ⟨k,(iI o).mp (List.mem_of_getElem? e1)⟩
   ·rintro ⟨k,z⟩
    obtain ⟨i,hi⟩:=List.mem_iff_getElem?.mp ((iI o).mpr z)
    exact ⟨i,by rw [List.getElem?_toArray,List.getElem?_map,hi];rfl⟩
  refine ⟨hc,?_,rfl,?_,by rw [hsz];exact hs,?_⟩
  ·intro i k a b ea eb hik
   rw [List.getElem?_toArray,List.getElem?_map] at ea eb
   obtain ⟨x,e1,rfl⟩:=Option.map_eq_some_iff.mp ea
   obtain ⟨y,e2,rfl⟩:=Option.map_eq_some_iff.mp eb
   obtain ⟨h1,e1⟩:=List.getElem?_eq_some_iff.mp e1
   obtain ⟨h2,e2⟩:=List.getElem?_eq_some_iff.mp e2
   have:=List.pairwise_iff_getElem.mp (aD6 (mask:=sizeAbove wanted - 1) (owner:=owner)) i k h1 h2 hik
   rw [e1,e2] at this;exact this
  ·rw [hsz];simp [hlen]
  ·intro i en j e1 e2
   rw [<- Array.getElem?_toList,efm,aCe hlt] at e1
   obtain ⟨k,e3,e4⟩:=Option.bind_eq_some_iff.mp e1
   have e2:((fI (sizeAbove wanted - 1) owner).map (·.1)).toArray[i]?=some j:=e2
   rw [List.getElem?_toArray,List.getElem?_map] at e2
   rw [List.getElem?_map] at e3
   obtain ⟨x,e5,rfl⟩:=Option.map_eq_some_iff.mp e2
   rw [e5] at e3
   cases e3
   have za:=(iI o (j:=x.1) (k:=x.2)).mp (List.mem_of_getElem? e5)
   have e4:es[x.2]?=some en:=e4
   obtain ⟨q,q1,q2⟩:=o.reach x.1 x.2 en.1 za (by simp [e4])
   exact ⟨q,q1,fun q' hq'=>(occ _).mpr (q2 q' hq')⟩
 ·have efm:(((fI (sizeAbove wanted - 1) owner).map (·.2)).toArray.filterMap (es[·]?)).toList=((fI (sizeAbove wanted - 1) owner).map (·.2)).filterMap (es[·]?):=by simp
  rw [efm]
  have:=perm.filterMap (es[·]?)
  rw [aA9] at this
  exact this
end ST
end
section
namespace ST
open PySem PySem.SetTable
section
variable {prog:Program} {w:World} {K:Type} [DecidableEq K] {knd:KeyKind prog w K} {A:Around} {E:Y9} {s:Shared}
theorem tD (n:Nat) {v:Value} (h:carriedByValue v=true):ofAClassStatement n v=pure false:=by
 cases v with
 | ref a=>simp [carriedByValue] at h
 | _=>first | rfl | (cases n<;>rfl)
theorem aHy {ks:List K} {a:Addr} {Q:Bool->Shared->Prop} (hk:IsTupleKey knd s.heap ks a) (h:Q false s):wpAny (model prog w) A (ofAClassStatement 8 (.ref a)) Q E s:=by
 have hT:=hk.typeIs
 obtain ⟨o,items,n,ho,hc,hd,hi⟩:=hk
 unfold ofAClassStatement
 refine wpAny_bind (wpAny_typeOf hT ?_)
 dsimp only
 rw [if_pos (by decide)]
 refine wpAny_bind (wpAny_pure ?_)
 rw [if_neg (by simp)]
 refine wpAny_bind (wpAny_seqItems ho hd ?_)
 dsimp only
 refine wpAny_bind ?_
 show wpAny _ _ (forIn items _ _) _ _ s
 rw [<- Array.forIn_toList]
 refine wpAny_forIn_list _ (fun rest r s'=>r.1=none/\s'=s/\∀v∈rest,carriedByValue v=true) _ ?_ ?_ _ _ ⟨rfl,rfl,hi.byValue⟩
 ·rintro v rest r s' ⟨hr,rfl,hall⟩
  rw [tD _ (hall v List.mem_cons_self)]
  refine wpAny_bind (wpAny_pure ?_)
  rw [if_neg (by simp)]
  exact wpAny_pure ⟨rfl,rfl,fun u hu'=>hall u (List.mem_cons_of_mem _ hu')⟩
 ·rintro ⟨r1,r2⟩ s' ⟨hr,rfl,_⟩
  simp only at hr
  subst hr
  exact wpAny_pure h
theorem aQd {ks:List K} {a:Addr} {ys:Y1} {Q:Bool->Shared->Prop} (hk:IsTupleKey knd s.heap ks a) (hy:∀y∈ys,∃ks' b,y=.ref b/\IsTupleKey knd s.heap ks' b) (h:Q false s):wpAny (model prog w) A (searchCouldBeSeen (.ref a) ys) Q E s:=by
 unfold searchCouldBeSeen
 refine wpAny_bind ?_
 refine wpAny_forIn_list _ (fun rest r s'=>r.1=none/\s'=s/\∀y∈rest,∃ks' b,y=Value.ref b/\IsTupleKey knd s.heap ks' b) _ ?_ ?_ _ _ ⟨rfl,rfl,hy⟩
 ·rintro v rest r s' ⟨hr,rfl,hall⟩
  obtain ⟨ks',b,rfl,hb⟩:=hall v List.mem_cons_self
  have tl:∀y∈rest,∃ks' b,y=Value.ref b/\IsTupleKey knd s'.heap ks' b:=fun u hu'=>hall u (List.mem_cons_of_mem _ hu')
  dsimp only
  by_cases hab:(a == b || (carriedByValue (.ref a) && carriedByValue (.ref b)))=true
  ·rw [if_pos hab]
   exact wpAny_pure ⟨rfl,rfl,tl⟩
  ·rw [if_neg hab]
   refine wpAny_bind (wpAny_eqIsQuiet_tuple hk ?_)
   rw [if_neg (by simp)]
   refine wpAny_bind (wpAny_eqIsQuiet_tuple hb ?_)
   rw [if_neg (by simp)]
   refine wpAny_bind (aHy hk ?_)
   rw [if_neg (by simp)]
   refine wpAny_bind (aHy hb ?_)
   rw [if_neg (by simp)]
   exact wpAny_pure ⟨rfl,rfl,tl⟩
 ·rintro ⟨r1,r2⟩ s' ⟨hr,rfl,_⟩
  simp only at hr
  subst hr
  exact wpAny_pure h
end
end ST
end
section
namespace ST
open PySem PySem.SetTable
section
variable {prog:Program} {w:World} {K:Type} [DecidableEq K] (knd:KeyKind prog w K)
structure TS (h:Heap) (es:Y3) (t:SetTable) (kas:List (List K×Addr)):Prop where
 ok:TOk es t
 ents:es.toList=kas.map fun p=>(tupleKeyHash knd p.1,Value.ref p.2)
 keys:∀p∈kas,IsTupleKey knd h p.1 p.2
 nd:(kas.map (·.1)).Nodup
end
section
variable {prog:Program} {w:World} {K:Type} [DecidableEq K] {knd:KeyKind prog w K} {A:Around} {E:Y9} {s:Shared}
theorem TS.at {h:Heap} {es:Y3} {t:SetTable} {kas:List (List K×Addr)} (T:TS knd h es t kas) (i:Nat):es[i]?=(kas[i]?).map fun p=>(tupleKeyHash knd p.1,Value.ref p.2):=by
 rw [<- Array.getElem?_toList,T.ents,List.getElem?_map]
theorem TS.len {h:Heap} {es:Y3} {t:SetTable} {kas:List (List K×Addr)} (T:TS knd h es t kas):es.size=kas.length:=by
 rw [<- Array.length_toList,T.ents,List.length_map]
theorem TS.fits {h:Heap} {es:Y3} {t:SetTable} {kas:List (List K×Addr)} (T:TS knd h es t kas):t.fits es.size=true:=by
 unfold SetTable.fits SetTable.fill
 rw [T.ok.size,T.ok.dum]
 simp [T.ok.fill]
theorem aGz {S x:Addr} {o:Obj} {es:Y3} {ep:Nat} {t:SetTable} {kas:List (List K×Addr)} {ks:List K} {N:Nat} {Q:SetFound->Shared->Prop}
  (ho:s.heap.get? S=some o) (hd:o.data=.set es ep t) (T:TS knd s.heap es t kas) (hx:IsTupleKey knd s.heap ks x) (hu:A.units<cLine) (hg:t.gaveWay=false) (hN:N<=10 * (13+t.mask))
  (hf:¬ Occ t.place (pos t.mask (tupleKeyHash knd ks) N).j) (hb:∀k,k<N->Occ t.place (pos t.mask (tupleKeyHash knd ks) k).j)
  (hq:Q (if ks∈kas.map (·.1) then .there none else .free (pos t.mask (tupleKeyHash knd ks) N).j false) s) :
  ∀(d m fuel:Nat) (stand:Option Probe),m+d=N->d<fuel->stand.getD (t.probeStart (tupleKeyHash knd ks))=pos t.mask (tupleKeyHash knd ks) m ->
   (∀(i:Nat) (p:List K×Addr) (j:Nat),kas[i]?=some p->p.1=ks->t.place[i]?=some j->∃k,m<=k/\k<N/\(pos t.mask (tupleKeyHash knd ks) k).j=j) ->
   wpAny (model prog w) A (setSearchFrom S (.ref x) (tupleKeyHash knd ks) true fuel stand) Q E s:=by
 intro d
 induction d using Nat.strongRecOn with
 | _ d ih =>
  intro m fuel stand hm hfu hst hkey
  obtain ⟨fuel,rfl⟩:∃n,fuel=n+1:=⟨fuel - 1,by omega⟩
  unfold setSearchFrom
  refine wpAny_bind (wpAny_setState_of ho hd T.fits ?_)
  dsimp only
  rw [hg,if_neg (by simp),hst]
  obtain ⟨k,hkN,⟨hmk,hstop⟩,hfirst⟩:=exists_first (P:=fun k=>m<=k/\(k=N\/∃(i:Nat) (p:List K×Addr),t.place[i]?=some (pos t.mask (tupleKeyHash knd ks) k).j/\kas[i]?=some p/\tupleKeyHash knd p.1=tupleKeyHash knd ks)) N ⟨by omega,.inl rfl⟩
  have kasAt:∀(i j:Nat),t.place[i]?=some j->∃p,kas[i]?=some p:=fun i j e=>by
   have h1:=(Array.getElem?_eq_some_iff.mp e).1
   rw [T.ok.size,T.len] at h1
   exact ⟨_,List.getElem?_eq_getElem h1⟩
  have jump:∀f:Nat->Int,(∀i,f i=(es[i]?.map (·.1)).getD 0)->t.probe f (tupleKeyHash knd ks) (pos t.mask (tupleKeyHash knd ks) m)=probe.go t f (tupleKeyHash knd ks) (10 * turns t.mask - (k - m)) (pos t.mask (tupleKeyHash knd ks) k):=fun f hf'=>by
   have:=aA0 (t:=t) (f:=f) (h:=tupleKeyHash knd ks) (k - m) m (10 * turns t.mask) (by unfold turns;omega) fun k' h1 h2=>by
    obtain ⟨i,e⟩:=hb k' (by omega)
    refine ⟨i,rA T.ok.rise e,?_⟩
    obtain ⟨p,ep⟩:=kasAt i _ e
    rw [hf' i,T.at i,ep]
    refine Bool.eq_false_iff.mpr fun z=>hfirst k' (by omega) ⟨h1,.inr ⟨i,p,e,ep,by simpa using z⟩⟩
   rw [show m+(k - m)=k by omega] at this
   exact this
  have fpos:0<10 * turns t.mask - (k - m):=by unfold turns;omega
  by_cases hcand:∃(i:Nat) (p:List K×Addr),t.place[i]?=some (pos t.mask (tupleKeyHash knd ks) k).j/\kas[i]?=some p/\tupleKeyHash knd p.1=tupleKeyHash knd ks
  ·obtain ⟨i,p,e1,e2,e3⟩:=hcand
   have hkN':k<N:=by
    rcases Nat.lt_or_ge k N with q | q
    ·exact q
    ·have:k=N:=by omega
     subst this
     exact absurd ⟨i,e1⟩ hf
   have pr:∀f:Nat->Int,(∀i,f i=(es[i]?.map (·.1)).getD 0)->t.probe f (tupleKeyHash knd ks) (pos t.mask (tupleKeyHash knd ks) m)=some (.candidate (pos t.mask (tupleKeyHash knd ks) k).j i (pos t.mask (tupleKeyHash knd ks) (k+1))):=fun f hf'=>by
    rw [jump f hf']
    refine aM0 fpos (rA T.ok.rise e1) ?_
    rw [hf' i,T.at i,e2]
    simpa using e3
   rw [pr]
   rotate_left
   ·intro i;rfl
   dsimp only
   have ei:es[i]?=some (tupleKeyHash knd p.1,Value.ref p.2):=by rw [T.at i,e2];rfl
   have hp:=T.keys p (List.mem_of_getElem? e2)
   have rest:wpAny (model prog w) A (do
     let some (_,y):=es[i]? | unsupported "internal:set-entry"
     let equal <- holding [y] (eqBool y (.ref x))
     let (es',_,t') <- setState S
     if true && equal then return SetFound.there none
     let some same:=t'.sameMemory t.moves t.mask | unsupported "set.changed-during-lookup:is-the-new-block-at-the-old-address"
     let still <- match (if same then t'.slot (pos t.mask (tupleKeyHash knd ks) k).j else .empty) with
      | .live i'=>match es'[i']? with
       | some (_,y')=>do pure (if <- isSame y' y then some i' else none)
       | none=>pure none
      | _=>pure none
     match still with
     | none=>rule "set.search.anew";setSearchFrom S (.ref x) (tupleKeyHash knd ks) true fuel none
     | some i'=>if equal then return SetFound.there (some i') else setSearchFrom S (.ref x) (tupleKeyHash knd ks) true fuel (some (pos t.mask (tupleKeyHash knd ks) (k+1)))) Q E s:=by
    rw [ei]
    dsimp only
    refine wpAny_bind (wpAny_holding (wpAny_eqBool_tuple hu hp hx ?_))
    refine wpAny_bind (wpAny_setState_of ho hd T.fits ?_)
    dsimp only
    by_cases heq:p.1=ks
    ·rw [decide_eq_true heq,if_pos (by simp)]
     have:ks∈kas.map (·.1):=List.mem_map.mpr ⟨p,List.mem_of_getElem? e2,heq⟩
     rw [if_pos this] at hq
     exact wpAny_pure hq
    ·rw [decide_eq_false heq,if_neg (by simp)]
     have hsm:t.sameMemory t.moves t.mask=some true:=by simp [SetTable.sameMemory]
     rw [hsm]
     dsimp only
     rw [if_pos rfl,rA T.ok.rise e1]
     dsimp only
     rw [ei]
     dsimp only
     have his:isSame (.ref p.2) (.ref p.2)=pure true:=by simp [isSame]
     rw [his]
     refine wpAny_bind (wpAny_pure ?_)
     rw [if_pos rfl]
     refine wpAny_bind (wpAny_pure ?_)
     show wpAny _ _ (if false=true then _ else _) _ _ _
     rw [if_neg (by simp)]
     refine ih (N - (k+1)) (by omega) (k+1) fuel _ (by omega) (by omega) rfl fun i' p' j' h1 h2 h3=>?_
     obtain ⟨k',a1,a2,a3⟩:=hkey i' p' j' h1 h2 h3
     refine ⟨k',?_,a2,a3⟩
     rcases Nat.lt_trichotomy k' k with z | z | z
     ·exact absurd ⟨a1,.inr ⟨i',p',by rw [a3];exact h3,h1,by rw [h2]⟩⟩ (hfirst k' z)
     ·subst z
      rw [<- a3] at h3
      have:i=i':=by
       rcases Nat.lt_trichotomy i i' with y | y | y
       ·have:=T.ok.rise _ _ _ _ e1 h3 y;omega
       ·exact y
       ·have:=T.ok.rise _ _ _ _ h3 e1 y;omega
      subst this
      rw [e2] at h1;cases h1
      exact absurd h2 heq
     ·omega
   cases hl:t.led with
   | true =>
    rw [if_neg (by simp)]
    exact rest
   | false =>
    rw [if_pos (by simp)]
    refine wpAny_bind (aQd hx (fun y hy=>?_) ?_)
    ·obtain ⟨e,he,rfl⟩:=List.mem_map.mp hy
     have he:e∈es:=(Array.mem_filter.mp (Array.mem_toList_iff.mp he)).1
     have he:e∈es.toList:=Array.mem_toList_iff.mpr he
     rw [T.ents] at he
     obtain ⟨p',hp',rfl⟩:=List.mem_map.mp he
     exact ⟨p'.1,p'.2,rfl,T.keys p' hp'⟩
    ·rw [if_neg (by simp)]
     exact rest
  ·have hkN':k=N:=by
    rcases hstop with q | q
    ·exact q
    ·exact absurd q hcand
   subst hkN'
   have pr:∀f:Nat->Int,(∀i,f i=(es[i]?.map (·.1)).getD 0)->t.probe f (tupleKeyHash knd ks) (pos t.mask (tupleKeyHash knd ks) m)=some (.empty (pos t.mask (tupleKeyHash knd ks) k).j none):=fun f hf'=>by
    rw [jump f hf']
    exact aJ9 fpos (aC4 T.ok.dum fun i e=>hf ⟨i,e⟩)
   rw [pr]
   rotate_left
   ·intro i;rfl
   dsimp only
   have:¬ ks∈kas.map (·.1):=fun z=>by
    obtain ⟨p,hp,rfl⟩:=List.mem_map.mp z
    obtain ⟨i,hi⟩:=List.mem_iff_getElem?.mp hp
    have hlt:i<t.place.size:=by rw [T.ok.size,T.len];exact (List.getElem?_eq_some_iff.mp hi).1
    obtain ⟨k',a1,a2,a3⟩:=hkey i p _ hi rfl (Array.getElem?_eq_getElem hlt)
    exact hfirst k' a2 ⟨a1,.inr ⟨i,p,by rw [a3];exact Array.getElem?_eq_getElem hlt,hi,rfl⟩⟩
   rw [if_neg this] at hq
   exact wpAny_pure hq
end
end ST
end
section
namespace ST
open PySem PySem.SetTable
section
variable {prog:Program} {w:World} {A:Around} {E:Y9} {s:Shared}
theorem hbv {ks:Y0} {a:Addr} {Q:Bool->Shared->Prop} (hk:IsTupleKey (intKind prog w) s.heap ks a) (h:Q true s):wpAny (model prog w) A (hashByValue 8 (.ref a)) Q E s:=by
 have hT:=hk.typeIs
 obtain ⟨o,items,n,ho,hc,hd,hi⟩:=hk
 have hall:∀v∈items.toList,hashByValue 7 v=pure true:=by
  clear ho hd hc h
  generalize items.toList=l at hi
  induction hi with
  | nil=>intro v hv;simp at hv
  | @cons k v' ks vs h1 _ ih =>
   intro v hv
   rcases List.mem_cons.mp hv with rfl | hv
   ·obtain ⟨t,rfl⟩:=Value.isInt_shape h1;rfl
   ·exact ih v hv
 unfold hashByValue
 refine wpAny_bind (wpAny_specialOf hT F.slot_tuple_hash.lookup ?_)
 show wpAny _ _ (seqItems? (.ref a) >>= _) _ _ s
 refine wpAny_bind (wpAny_seqItems ho hd ?_)
 refine wpAny_bind ?_
 show wpAny _ _ (forIn items _ _) _ _ s
 rw [<- Array.forIn_toList]
 refine wpAny_forIn_list _ (fun rest r s'=>r.1=none/\s'=s/\∀v∈rest,hashByValue 7 v=pure true) _ ?_ ?_ _ _ ⟨rfl,rfl,hall⟩
 ·rintro v rest r s' ⟨hr,rfl,hall⟩
  rw [hall v List.mem_cons_self]
  refine wpAny_bind (wpAny_pure ?_)
  rw [if_neg (by simp)]
  exact wpAny_pure ⟨rfl,rfl,fun u hu'=>hall u (List.mem_cons_of_mem _ hu')⟩
 ·rintro ⟨r1,r2⟩ s' ⟨hr,rfl,_⟩
  simp only at hr
  subst hr
  exact wpAny_pure h
theorem tP {h h':Heap} {ks:Y0} {a S:Addr} {o:Obj} {es:Y3} {ep:Nat} {t:SetTable} (x:IsTupleKey (intKind prog w) h ks a) (ho:h.get? S=some o) (hd:o.data=.set es ep t) (hs:Heap.SameBut S h h'):IsTupleKey (intKind prog w) h' ks a:=by
 obtain ⟨o',items,n,ho',hc,hd',hi⟩:=x
 have hne:a ≠ S:=by
  rintro rfl
  obtain rfl:o'=o:=Option.some.inj (ho'.symm.trans ho)
  rw [hd] at hd';exact nomatch hd'
 exact ⟨o',items,n,(hs.2 a hne).trans ho',hc,hd',hi⟩
def kB (prog:Program) (w:World) (h:Heap) (S:Addr) (kas:Y7):Prop :=
 ∃o es ep t,h.get? S=some o/\o.ExactSet/\o.data=.set es ep t/\TS (intKind prog w) h es t kas/\t.plain=true/\t.led = !(w.params.followText "set-order")/\((t.mask=7/\kas.length<=4)\/(t.mask=31/\kas.length<=18))
theorem TS.heap {h h':Heap} {es:Y3} {t:SetTable} {kas:Y7} (T:TS (intKind prog w) h es t kas) (hk:∀p∈kas,IsTupleKey (intKind prog w) h' p.1 p.2):TS (intKind prog w) h' es t kas:=⟨T.ok,T.ents,hk,T.nd⟩
theorem aHm {kas:Y7} {es:Y3} {p:Nat} {ks:Y0} {x:Addr} (he:es.toList=kas.map fun p=>(tupleKeyHash (intKind prog w) p.1,Value.ref p.2)) (hp:p<=es.size) :
  (insertAt es p (tupleKeyHash (intKind prog w) ks,Value.ref x)).toList=(kas.take p++(ks,x)::kas.drop p).map fun p=>(tupleKeyHash (intKind prog w) p.1,Value.ref p.2):=by
 have e:(insertAt es p (tupleKeyHash (intKind prog w) ks,Value.ref x)).toList=es.toList.take p++(tupleKeyHash (intKind prog w) ks,Value.ref x)::es.toList.drop p:=by
  simp [insertAt,List.take_of_length_le]
 rw [e,he];simp
theorem aJ1 {α:Type} {l:List α} {p:Nat} {x:α}:(l.take p++x::l.drop p).Perm (x::l):=by
 have:(l.take p++x::l.drop p).Perm (x::(l.take p++l.drop p)):=List.perm_middle
 rwa [List.take_append_drop] at this
theorem xI {kas:Y7} {l:List (Int×Value)} (hp:l.Perm (kas.map fun p=>(tupleKeyHash (intKind prog w) p.1,Value.ref p.2))):∃kas':Y7,l=kas'.map (fun p=>(tupleKeyHash (intKind prog w) p.1,Value.ref p.2))/\kas'.Perm kas:=by
 generalize e:(kas.map fun p=>(tupleKeyHash (intKind prog w) p.1,Value.ref p.2))=m at hp
 induction hp generalizing kas with
 | nil=>exact ⟨[],rfl,by cases kas<;>first | exact .refl _ | cases e⟩
 | cons x _ ih =>
  cases kas with
  | nil=>cases e
  | cons k kas =>
   cases e
   obtain ⟨kas',h1,h2⟩:=ih rfl
   exact ⟨k::kas',by rw [h1];rfl,h2.cons k⟩
 | swap x y l =>
  cases kas with
  | nil=>cases e
  | cons k kas =>
   cases kas with
   | nil=>cases e
   | cons k2 kas=>cases e;exact ⟨k2::k::kas,rfl,.swap _ _ _⟩
 | trans h1 h2 ih1 ih2 =>
  obtain ⟨kas',a1,a2⟩:=ih2 e
  obtain ⟨kas'',b1,b2⟩:=ih1 a1.symm
  exact ⟨kas'',b1,b2.trans a2⟩
theorem aA3 {h:Heap} {S:Addr} {o:Obj} {es es':Y3} {ep:Nat} {t t':SetTable} (ho:h.get? S=some o) (hd:o.data=.set es ep t) :
  (h.update S (Obj.putSet es' t')).get? S=some { o with data:=.set es' (ep+1) t' }:=by
 have:=Heap.get?_update_self (Obj.putSet es' t') ho (by rw [putSet_of es' t' hd];rfl)
 rw [putSet_of es' t' hd] at this;exact this
theorem aQ1 {S x:Addr} {kas:Y7} {ks:Y0} {Q:Bool->Shared->Prop} (hS:kB prog w s.heap S kas) (hx:IsTupleKey (intKind prog w) s.heap ks x) (hu:A.units<cLine) (hn:kas.length<18)
  (h:∀b h' kas',Heap.SameBut S s.heap h'->kB prog w h' S kas'->(if ks∈kas.map (·.1) then kas'=kas else kas'.Perm ((ks,x)::kas))->Q b { s with heap:=h',toks:=s.toks+(ks.length+1) }) :
  wpAny (model prog w) A (setAdd S (.ref x)) Q E s:=by
 obtain ⟨o,es,ep,t,ho,hex,hd,T,hpl,hled,hsz⟩:=hS
 unfold setAdd
 refine wpAny_holding (wpAny_bind (wpAny_pyHash_tuple hu hx ?_))
 unfold setAddHashed setAddHashedIn
 have hx':IsTupleKey (intKind prog w) ({ s with toks:=s.toks+(ks.length+1) }:Shared).heap ks x:=hx
 have T':TS (intKind prog w) ({ s with toks:=s.toks+(ks.length+1) }:Shared).heap es t kas:=T
 have ho':({ s with toks:=s.toks+(ks.length+1) }:Shared).heap.get? S=some o:=ho
 generalize hs1:({ s with toks:=s.toks+(ks.length+1) }:Shared)=s1 at hx' T' ho'
 have heap1:s1.heap=s.heap:=by rw [<- hs1]
 have hend:∀b h' kas',Heap.SameBut S s1.heap h'->kB prog w h' S kas'->(if ks∈kas.map (·.1) then kas'=kas else kas'.Perm ((ks,x)::kas))->Q b { s1 with heap:=h' }:=by
  rw [<- hs1];exact h
 refine wpAny_holding (wpAny_bind (wpAny_setState_of ho' hd T.fits ?_))
 dsimp only
 rw [show byScan (.ref x) es=false from rfl,if_neg (by simp)]
 obtain ⟨N,hN,hf,hb⟩:=T.ok.free (tupleKeyHash (intKind prog w) ks)
 have hg:t.gaveWay=false:=by
  unfold SetTable.gaveWay
  rcases hsz with ⟨e,_⟩ | ⟨e,_⟩<;>rw [e]<;>rfl
 unfold setSearch
 refine wpAny_bind (aGz (N:=N) ho' hd T' hx' hu hg hN hf hb ?_ N 0 100000 none (by omega) ?_ rfl ?_)
 ·by_cases hin:ks∈kas.map (·.1)
  ·rw [if_pos hin]
   refine wpAny_pure ?_
   have:=hend false s1.heap kas (Heap.SameBut.refl _ _) ⟨o,es,ep,t,ho',hex,hd,T',hpl,hled,hsz⟩ (by rw [if_pos hin])
   have e:({ s1 with heap:=s1.heap }:Shared)=s1:=by cases s1;rfl
   rw [e] at this;exact this
  ·rw [if_neg hin]
   dsimp only
   refine wpAny_bind (wpAny_setState_of ho' hd T.fits ?_)
   dsimp only
   have hf1:es.size+1<=t.mask:=by
    rw [T.len]
    rcases hsz with ⟨e,hl⟩ | ⟨e,hl⟩<;>rw [e]<;>omega
   obtain ⟨ok1,hp⟩:=T.ok.put (x:=.ref x) hf hb hf1
   have epl:(t.put (pos t.mask (tupleKeyHash (intKind prog w) ks) N).j).1.plain=true:=hpl
   rw [epl,if_pos rfl]
   refine wpAny_bind (hbv hx' ?_)
   rw [if_pos rfl]
   have ents1:=aHm (w:=w) (prog:=prog) (ks:=ks) (x:=x) T.ents hp
   have hsz1:(insertAt es (t.put (pos t.mask (tupleKeyHash (intKind prog w) ks) N).j).2 (tupleKeyHash (intKind prog w) ks,Value.ref x)).size=kas.length+1:=by rw [pJ hp,T.len]
   refine wpAny_bind (wpAny_storeSet_of ho' hd ?_ (fits_of_scanBound (by rw [hsz1];unfold scanBound;omega)))
   have ho1:=aA3 (es':=insertAt es (t.put (pos t.mask (tupleKeyHash (intKind prog w) ks) N).j).2 (tupleKeyHash (intKind prog w) ks,Value.ref x)) (t':=(t.put (pos t.mask (tupleKeyHash (intKind prog w) ks) N).j).1) ho' hd
   have sb1:=Heap.SameBut.update s1.heap S (Obj.putSet (insertAt es (t.put (pos t.mask (tupleKeyHash (intKind prog w) ks) N).j).2 (tupleKeyHash (intKind prog w) ks,Value.ref x)) (t.put (pos t.mask (tupleKeyHash (intKind prog w) ks) N).j).1)
   have keys1:∀p∈(ks,x)::kas,IsTupleKey (intKind prog w) (s1.heap.update S (Obj.putSet (insertAt es (t.put (pos t.mask (tupleKeyHash (intKind prog w) ks) N).j).2 (tupleKeyHash (intKind prog w) ks,Value.ref x)) (t.put (pos t.mask (tupleKeyHash (intKind prog w) ks) N).j).1)) p.1 p.2:=fun p hp'=>by
    rcases List.mem_cons.mp hp' with rfl | hp'
    ·exact tP hx' ho' hd sb1
    ·exact tP (T'.keys p hp') ho' hd sb1
   have nd1:(((ks,x)::kas).map (·.1)).Nodup:=List.nodup_cons.mpr ⟨hin,T.nd⟩
   have perm1:=aJ1 (l:=kas) (p:=(t.put (pos t.mask (tupleKeyHash (intKind prog w) ks) N).j).2) (x:=(ks,x))
   have T1:TS (intKind prog w) (s1.heap.update S (Obj.putSet (insertAt es (t.put (pos t.mask (tupleKeyHash (intKind prog w) ks) N).j).2 (tupleKeyHash (intKind prog w) ks,Value.ref x)) (t.put (pos t.mask (tupleKeyHash (intKind prog w) ks) N).j).1)) (insertAt es (t.put (pos t.mask (tupleKeyHash (intKind prog w) ks) N).j).2 (tupleKeyHash (intKind prog w) ks,Value.ref x)) (t.put (pos t.mask (tupleKeyHash (intKind prog w) ks) N).j).1 (kas.take (t.put (pos t.mask (tupleKeyHash (intKind prog w) ks) N).j).2++(ks,x)::kas.drop (t.put (pos t.mask (tupleKeyHash (intKind prog w) ks) N).j).2) :=
    ⟨ok1,ents1,fun p hp'=>keys1 p (perm1.subset hp'),(perm1.map (·.1)).nodup_iff.mpr nd1⟩
   have emask:(t.put (pos t.mask (tupleKeyHash (intKind prog w) ks) N).j).1.mask=t.mask:=rfl
   have efill:(t.put (pos t.mask (tupleKeyHash (intKind prog w) ks) N).j).1.fill=kas.length+1:=by
    unfold SetTable.fill
    rw [ok1.size,ok1.dum,hsz1];rfl
   by_cases hfull:(t.put (pos t.mask (tupleKeyHash (intKind prog w) ks) N).j).1.tooFull=true
   ·rw [hfull,if_pos (by simp)]
    have h4:t.mask=7/\kas.length=4:=by
     unfold SetTable.tooFull at hfull
     rw [efill,emask] at hfull
     have hfull:=of_decide_eq_true hfull
     rcases hsz with ⟨e,hl⟩ | ⟨e,hl⟩<;>rw [e] at hfull<;>constructor<;>omega
    refine wpAny_bind ?_
    unfold setRelay
    refine wpAny_bind (wpAny_setState_of ho1 rfl T1.fits ?_)
    dsimp only
    have ew:SetTable.grown (es.size+1)=20:=by rw [T.len,h4.2];rfl
    have es32:sizeAbove 20=32:=by decide
    rw [ew,es32,if_neg (by rw [sizeLine_eq];omega)]
    obtain ⟨t',order,er,ok2,perm2,l2,p2,m2⟩:=aJd (es:=insertAt es (t.put (pos t.mask (tupleKeyHash (intKind prog w) ks) N).j).2 (tupleKeyHash (intKind prog w) ks,Value.ref x)) (t:=(t.put (pos t.mask (tupleKeyHash (intKind prog w) ks) N).j).1) (wanted:=20) (by rw [es32];exact aKj) (by rw [es32,hsz1];omega)
    rw [er]
    have hsz2:(order.filterMap ((insertAt es (t.put (pos t.mask (tupleKeyHash (intKind prog w) ks) N).j).2 (tupleKeyHash (intKind prog w) ks,Value.ref x))[·]?)).size=(insertAt es (t.put (pos t.mask (tupleKeyHash (intKind prog w) ks) N).j).2 (tupleKeyHash (intKind prog w) ks,Value.ref x)).size:=by
     rw [<- Array.length_toList,perm2.length_eq,Array.length_toList]
    refine wpAny_bind ?_
    show wpAny _ _ (if ((order.filterMap ((insertAt es (t.put (pos t.mask (tupleKeyHash (intKind prog w) ks) N).j).2 (tupleKeyHash (intKind prog w) ks,Value.ref x))[·]?)).size != (insertAt es (t.put (pos t.mask (tupleKeyHash (intKind prog w) ks) N).j).2 (tupleKeyHash (intKind prog w) ks,Value.ref x)).size)=true then _ else _) _ _ _
    rw [if_neg (by rw [hsz2];simp)]
    refine wpAny_pure ?_
    dsimp only
    refine wpAny_storeSet_of ho1 rfl ?_ (fits_of_scanBound (by rw [hsz2,hsz1];unfold scanBound;omega))
    refine wpAny_pure ?_
    rw [T1.ents] at perm2
    obtain ⟨kas2,e2,pk⟩:=xI perm2
    have ho2:=aA3 (es':=order.filterMap ((insertAt es (t.put (pos t.mask (tupleKeyHash (intKind prog w) ks) N).j).2 (tupleKeyHash (intKind prog w) ks,Value.ref x))[·]?)) (t':=t') ho1 rfl
    have sb2:=Heap.SameBut.update (s1.heap.update S (Obj.putSet (insertAt es (t.put (pos t.mask (tupleKeyHash (intKind prog w) ks) N).j).2 (tupleKeyHash (intKind prog w) ks,Value.ref x)) (t.put (pos t.mask (tupleKeyHash (intKind prog w) ks) N).j).1)) S (Obj.putSet (order.filterMap ((insertAt es (t.put (pos t.mask (tupleKeyHash (intKind prog w) ks) N).j).2 (tupleKeyHash (intKind prog w) ks,Value.ref x))[·]?)) t')
    have pk2:=pk.trans perm1
    refine hend true _ kas2 (sb1.trans sb2) ⟨_,_,_,t',ho2,hex,rfl,⟨ok2,e2,fun p hp'=>tP (keys1 p (pk2.subset hp')) ho1 rfl sb2,(pk2.map (·.1)).nodup_iff.mpr nd1⟩,by rw [p2];exact epl,by rw [l2];exact hled,.inr ⟨by rw [m2,es32],?_⟩⟩ (by rw [if_neg hin];exact pk2)
    have:=pk2.length_eq
    simp at this;omega
   ·rw [Bool.eq_false_iff.mpr hfull,if_neg (by simp)]
    refine wpAny_pure (hend true _ _ sb1 ⟨_,_,_,_,ho1,hex,rfl,T1,epl,hled,?_⟩ (by rw [if_neg hin];exact perm1))
    have hlen:=perm1.length_eq
    simp at hlen
    unfold SetTable.tooFull at hfull
    rw [efill,emask] at hfull
    have hfull:¬ ((kas.length+1) * 5 >= t.mask * 3):=fun z=>hfull (decide_eq_true z)
    rcases hsz with ⟨e,hl⟩ | ⟨e,hl⟩
    ·rw [e] at hfull
     exact .inl ⟨e,by simp;omega⟩
    ·rw [e] at hfull
     exact .inr ⟨e,by simp;omega⟩
 ·rcases hsz with ⟨e,_⟩ | ⟨e,_⟩<;>rw [e] at hN<;>omega
 ·intro i p j h1 h2 h3
  obtain ⟨k,e1,e2⟩:=T.ok.reach i (tupleKeyHash (intKind prog w) p.1,Value.ref p.2) j (by rw [T.at i,h1];rfl) h3
  have e1:(pos t.mask (tupleKeyHash (intKind prog w) p.1) k).j=j:=e1
  have e2:∀k',k'<k->Occ t.place (pos t.mask (tupleKeyHash (intKind prog w) p.1) k').j:=e2
  rw [h2] at e1 e2
  refine ⟨k,Nat.zero_le _,?_,e1⟩
  rcases Nat.lt_trichotomy k N with q | q | q
  ·exact q
  ·subst q
   exact absurd ⟨i,by rw [e1];exact h3⟩ hf
  ·exact absurd (e2 N q) hf
end
end ST
end
section
namespace ST
open PySem PySem.SetTable
section
variable {prog:Program} {w:World} {A:Around} {E:Y9} {s:Shared}
theorem kB.keep {h h':Heap} {S:Addr} {kas:Y7} (x:kB prog w h S kas) (hk:∀o,h.get? S=some o->h'.get? S=some o) (ht:∀p∈kas,IsTupleKey (intKind prog w) h' p.1 p.2):kB prog w h' S kas:=by
 obtain ⟨o,es,ep,t,ho,hex,hd,T,r⟩:=x
 exact ⟨o,es,ep,t,hk o ho,hex,hd,T.heap ht,r⟩
theorem kB.len {h:Heap} {S:Addr} {kas:Y7} (x:kB prog w h S kas):kas.length<=18:=by
 obtain ⟨o,es,ep,t,ho,hex,hd,T,_,_,r⟩:=x
 rcases r with ⟨_,r⟩ | ⟨_,r⟩<;>omega
theorem kB.keys {h:Heap} {S:Addr} {kas:Y7} (x:kB prog w h S kas):∀p∈kas,IsTupleKey (intKind prog w) h p.1 p.2:=by
 obtain ⟨o,es,ep,t,ho,hex,hd,T,_⟩:=x
 exact T.keys
theorem kB.nd {h:Heap} {S:Addr} {kas:Y7} (x:kB prog w h S kas):(kas.map (·.1)).Nodup:=by
 obtain ⟨o,es,ep,t,ho,hex,hd,T,_⟩:=x
 exact T.nd
def Ded (key:Nat->Y0) (adr:Nat->Addr) (i:Nat) (kas:Y7):Prop :=
 (∀ks,ks∈kas.map (·.1) ↔ ∃i',i'<i/\key i'=ks)/\(∀p∈kas,∃i',i'<i/\p=(key i',adr i'))/\kas.length<=i
theorem Ded.zero {key:Nat->Y0} {adr:Nat->Addr}:Ded key adr 0 []:=⟨fun ks=>⟨fun z=>by simp at z,fun ⟨i,h,_⟩=>by omega⟩,fun p hp=>by simp at hp,by simp⟩
theorem Ded.step {key:Nat->Y0} {adr:Nat->Addr} {i:Nat} {kas kas':Y7} (d:Ded key adr i kas) (h:if key i∈kas.map (·.1) then kas'=kas else kas'.Perm ((key i,adr i)::kas)):Ded key adr (i+1) kas':=by
 obtain ⟨d1,d2,d3⟩:=d
 by_cases hin:key i∈kas.map (·.1)
 ·rw [if_pos hin] at h
  subst h
  refine ⟨fun ks=>?_,fun p hp=>?_,by omega⟩
  ·rw [d1 ks]
   constructor
   ·rintro ⟨i',h1,h2⟩;exact ⟨i',by omega,h2⟩
   ·rintro ⟨i',h1,h2⟩
    by_cases q:i'=i
    ·subst q;rw [<- h2];exact (d1 _).mp hin
    ·exact ⟨i',by omega,h2⟩
  ·obtain ⟨i',h1,h2⟩:=d2 p hp
   exact ⟨i',by omega,h2⟩
 ·rw [if_neg hin] at h
  refine ⟨fun ks=>?_,fun p hp=>?_,by have:=h.length_eq;simp at this;omega⟩
  ·rw [(h.map (·.1)).mem_iff,List.map_cons,List.mem_cons,d1 ks]
   constructor
   ·rintro (rfl | ⟨i',h1,h2⟩)
    ·exact ⟨i,by omega,rfl⟩
    ·exact ⟨i',by omega,h2⟩
   ·rintro ⟨i',h1,h2⟩
    by_cases q:i'=i
    ·subst q;exact .inl h2.symm
    ·exact .inr ⟨i',by omega,h2⟩
  ·rcases List.mem_cons.mp (h.subset hp) with rfl | hp
   ·exact ⟨i,by omega,rfl⟩
   ·obtain ⟨i',h1,h2⟩:=d2 p hp
    exact ⟨i',by omega,h2⟩
theorem iW {h h':Heap} {ks:Y0} {a:Addr} (x:IsTupleKey (intKind prog w) h ks a) (hk:∀o,h.get? a=some o->h'.get? a=some o):IsTupleKey (intKind prog w) h' ks a:=by
 obtain ⟨o,items,n,ho,hc,hd,hi⟩:=x
 exact ⟨o,items,n,hk o ho,hc,hd,hi⟩
theorem aUf {R:Result->Shared->Prop} {I:Addr} {fp wr:Y2} {G:Array GenState->Array GenState->Prop} {n:Nat} {P:Nat->Value->Prop} {St:Nat->Shared->Prop}
  (W:WalksS prog w A.in1 I fp wr G n P St) (S:Addr) (hSf:S ∉ fp) (hu:A.in1.units<cLine) (key:Nat->Y0) (adr:Nat->Addr) (hval:∀i v,P i v->v=.ref (adr i)) (hb:n<=18) (hnw:∀i,i<n->adr i ∉ S::wr) :
  ∀(k i:Nat) (s:Shared) (kas:Y7),n - i=k->i<=n->St i s->kB prog w s.heap S kas->Ded key adr i kas->(∀i,i<n->IsTupleKey (intKind prog w) s.heap (key i) (adr i)) ->
   (∀s' kas',Moved (S::wr) G s s'->kB prog w s'.heap S kas'->Ded key adr n kas'->R (.ok (.ret .none)) s') ->
   codeAny (model prog w) A (.builtin "set.update.loop" ⟨[.ref S,.ref I],[]⟩) R s:=by
 have hSw:S ∉ wr:=fun h=>hSf (W.sub _ h)
 have hsub:∀b∈wr,b∈S::wr:=fun b hb=>List.mem_cons_of_mem _ hb
 intro k
 induction k with
 | zero =>
  intro i s kas hk hi hst hS hD hT hR
  have hin:i=n:=by omega
  subst hin
  refine codeAny_builtin PyProof.Rows.F.entry_set_update_loop ?_
  rw [Around.under_plainId PyProof.Rows.F.plain_set_update_loop _]
  show wpAny _ A.in1 (pyNext (.ref I) >>= _) _ _ s
  refine wpAny_bind (W.done s _ _ hst fun s' hm=>?_)
  show wpAny _ A.in1 (ret Value.none) _ _ s'
  refine wpAny_pure (hR s' kas (hm.mono hsub) (hS.keep (fun o e=>hm.heap S o hSw e) fun p hp=>?_) hD)
  obtain ⟨i',h1,rfl⟩:=hD.2.1 p hp
  exact iW (hT i' h1) fun o e=>hm.heap _ o (fun z=>hnw i' h1 (hsub _ z)) e
 | succ k ih =>
  intro i s kas hk hi hst hS hD hT hR
  have hlt:i<n:=by omega
  refine codeAny_builtin PyProof.Rows.F.entry_set_update_loop ?_
  rw [Around.under_plainId PyProof.Rows.F.plain_set_update_loop _]
  show wpAny _ A.in1 (pyNext (.ref I) >>= _) _ _ s
  refine wpAny_bind (W.item i s _ _ hlt hst fun v s' hP hst' hm=>?_)
  obtain rfl:=hval i v hP
  have hT':∀i,i<n->IsTupleKey (intKind prog w) s'.heap (key i) (adr i):=fun i' h1=>iW (hT i' h1) fun o e=>hm.heap _ o (fun z=>hnw i' h1 (hsub _ z)) e
  have hS':kB prog w s'.heap S kas:=hS.keep (fun o e=>hm.heap S o hSw e) fun p hp=>by
   obtain ⟨i',h1,rfl⟩:=hD.2.1 p hp
   exact hT' i' (by omega)
  show wpAny _ A.in1 (holding [Value.ref (adr i)] (setAdd S (.ref (adr i))) >>= _) _ _ s'
  refine wpAny_bind (wpAny_holding (aQ1 hS' (hT' i hlt) hu (by have:=hD.2.2;omega) fun b h' kas' sb hS2 hc=>?_))
  have hT2:∀i,i<n->IsTupleKey (intKind prog w) h' (key i) (adr i):=fun i' h1=>iW (hT' i' h1) fun o e=>by
   rw [sb.2 _ (fun z=>hnw i' h1 (by rw [z];exact List.mem_cons_self))];exact e
  refine wpAny_pure ⟨plainId_quiet PyProof.Rows.F.plain_set_update_loop _,ih (i+1) _ kas' (by omega) hlt (W.frame _ s' _ _ hst' (Nat.le_add_right _ _) fun b hb o e=>?_) hS2 (hD.step hc) hT2 fun s'' kas'' hm'' hS'' hD''=>?_⟩
  ·rw [sb.2 b (fun h:b=S=>hSf (by rw [<- h];exact hb))];exact e
  ·refine hR s'' kas'' (Moved.trans W.gtrans ((hm.mono hsub).then_heap (Nat.le_add_right _ _) fun b o hb e=>?_) hm'') hS'' hD''
   rw [sb.2 b (fun h:b=S=>hb (by rw [h];exact List.mem_cons_self))];exact e
theorem aJ6 {Q₁:Y9} (a:Value)
  (h:Q₁ (.ref s.heap.objs.size) { s with heap:=s.heap.push { cls:=.type "set",dict:=none,data:=.set #[] 0 (.fresh 0 0 (!(w.params.followText "set-order"))) } }) :
  codeAny (model prog w) A (.call (.builtin "set.__new__") ⟨[.type "set",a],[]⟩) (wants Q₁ E) s:=by
 refine codeAny_of_tree ?_
 show wpAny _ A.in1 (do checkBuiltinCall "set.__new__" ⟨[.type "set",a],[]⟩;again (.builtin "set.__new__" ⟨[.type "set",a],[]⟩)) _ _ s
 refine wpAny_bind (wpAny_of_eq (F.newCall_set_1 a) (wpAny_pure ⟨plainId_quiet F.plain_set_new _,codeAny_builtin F.entry_set_new ?_⟩))
 rw [Around.under_plainId F.plain_set_new _]
 unfold Builtin.«set.__new__» Builtin.Frozenset.newClass
 have hsub:=sub_set_self
 obtain ⟨hp,g,d,tk,os⟩:=s
 dsimp only
 wp_walk
 refine wpAny_askSetting (wpAny_pure ?_)
 dsimp only
 simp only [newObj]
 refine wpAny_bind (wpAny_alloc (wpAny_pure ?_))
 exact wpAny_pure h
end
end ST
end
section
namespace ST
open PySem PySem.SetTable
section
variable {prog:Program} {w:World} {A:Around} {E:Y9} {s:Shared}
theorem aHh {h:Heap} {S:Addr} {o:Obj} (ho:h.get? S=some o) (he:o={ cls:=.type "set",dict:=none,data:=.set #[] 0 (.fresh 0 0 (!(w.params.followText "set-order"))) }):kB prog w h S []:=by
 subst he
 refine ⟨_,#[],0,_,ho,⟨rfl,rfl,rfl⟩,rfl,⟨⟨aMl,fun i k a b e=>by simp [SetTable.fresh] at e,rfl,rfl,by simp,fun i e j e1=>by simp at e1⟩,rfl,fun p hp=>by simp at hp,by simp⟩,rfl,rfl,.inl ⟨rfl,by simp⟩⟩
theorem call_setT {l:Addr} {items:Array Value} {key:Nat->Y0} {adr:Nat->Addr} {Q:Y9}
  (hh:A.handled=none) (hu:∀B:Around,B.units<=A.units+100->B.units<cLine) (hl:s.heap.IsList l items) (hi:∀(i:Nat) (v:Value),items[i]?=some v->v=Value.ref (adr i)) (hk:∀i,i<items.size->IsTupleKey (intKind prog w) s.heap (key i) (adr i)) (hb:items.size<=18)
  (h:∀(h':Heap) (tk:Nat) (kas:Y7),kB prog w h' s.heap.objs.size kas->Ded key adr items.size kas ->
   (∀b o,b<s.heap.objs.size->s.heap.get? b=some o->h'.get? b=some o)->Q (.ref s.heap.objs.size) { s with heap:=h',toks:=tk }) :
  wpAny (model prog w) A (call (.type "set") [.ref l]) Q E s:=by
 obtain ⟨c,tl,hmro⟩:=F.called_set.mro
 have hmade:=F.called_set.made
 have hsub:=F.called_set.sub
 refine wpAny_call (codeAny_of_tree ?_)
 show wpAny _ _ (callAny (.type "set") _) _ _ _
 refine wpAny_pure ⟨Code.quiet_builtin _ (by decide +kernel),codeAny_builtin F.entry_type_call ?_⟩
 rw [Around.under_plain (weight_type_call_type "set" [.ref l] []) rfl]
 have h1:=F.called_set.notType
 have h2:=F.called_set.canCreate
 have hct:=F.typeCall_set_1 (.ref l)
 repeat (any_goals (first | assumption | wp_step))
 generalize hfr:(SetTable.fresh 0 0 (!(w.params.followText "set-order")))=fr
 refine codeAny_mono (aJ6 (.ref l) (E:=E) (Q₁:=fun obj s₁=>obj=.ref s.heap.objs.size/\s₁={ s with heap:=s.heap.push { cls:=.type "set",dict:=none,data:=.set #[] 0 fr } }) (by rw [hfr];exact ⟨rfl,rfl⟩)) fun r s₁ hr=>?_
 cases r with
 | error e=>exact hr
 | ok fl =>
  cases fl with
  | ret obj =>
   obtain ⟨rfl,rfl⟩:=hr
   have hS:(s.heap.push { cls:=.type "set",dict:=none,data:=.set #[] 0 fr }).get? s.heap.objs.size=some { cls:=.type "set",dict:=none,data:=.set #[] 0 fr }:=Heap.get?_push_size _ rfl
   have hT:Shared.TypeIs { s with heap:=s.heap.push { cls:=.type "set",dict:=none,data:=.set #[] 0 fr } } (.ref s.heap.objs.size) "set" :=⟨_,hS,rfl⟩
   have hli:=F.called_set.init.lookup
   have hbi:=F.called_set.init.bind (.ref s.heap.objs.size)
   repeat (any_goals (first | assumption | wp_step))
   refine codeAny_mono (codeAny_call_builtin (R:=wants (fun r s₂=>r=.none/\∃h' tk kas,s₂={ s with heap:=h',toks:=tk }/\kB prog w h' s.heap.objs.size kas/\Ded key adr items.size kas /\
     (∀b o,b<s.heap.objs.size->s.heap.get? b=some o->h'.get? b=some o)) E) F.called_set.init.plain F.entry_set_init (check_set_init_1 hT ?_)) fun r₂ s₂ hr₂=>?_
   ·obtain ⟨ol,hol,hcl,nl,hdl⟩:=hl
    obtain ⟨ocls,odict,odata,oslots⟩:=ol
    simp only at hcl hdl
    subst hcl;subst hdl
    have hol':(s.heap.push { cls:=.type "set",dict:=none,data:=.set #[] 0 fr }).get? l=some { cls:=.type "list",dict:=odict,data:=.seq items nl,slots:=oslots }:=Heap.get?_push_of_some _ hol
    have hsls:=F.sub_list_set
    have hslf:=F.sub_list_frozenset
    have hne:(Value.type "list" == Value.type "dict")=false:=by decide
    have hl1:(s.heap.push { cls:=.type "set",dict:=none,data:=.set #[] 0 fr }).IsList l items:=⟨_,hol',rfl,nl,rfl⟩
    have hfits:fr.fits 0=true:=by rw [<- hfr];rfl
    have hfr':fr=(SetTable.fresh 0 0 (!(w.params.followText "set-order"))):=hfr.symm
    unfold Builtin.«set.__init__» noKeywords Builtin.Frozenset.updateFrom
    generalize hPI:pyIter=PI
    subst hfr'
    wp_walk
    subst hPI
    refine wpAny_pyIter_list hl1 ?_
    refine wpAny_bind (wpAny_runValue ?_)
    have hlS:l<s.heap.objs.size:=Heap.lt_size hol
    have hh3:A.in1.in1.in1.handled=none:=by simp [hh]
    have hneI:l ≠ (s.heap.push { cls:=.type "set",dict:=none,data:=.set #[] 0 (.fresh 0 0 (!(w.params.followText "set-order"))) }).objs.size:=by
     rw [Heap.size_push];exact Nat.ne_of_lt (Nat.lt_succ_of_lt hlS)
    have hSf:s.heap.objs.size ∉ [(s.heap.push { cls:=.type "set",dict:=none,data:=.set #[] 0 (.fresh 0 0 (!(w.params.followText "set-order"))) }).objs.size,l]:=by
     rw [Heap.size_push];simp only [List.mem_cons,List.mem_singleton,List.not_mem_nil,or_false,not_or]
     exact ⟨Nat.ne_of_lt (Nat.lt_succ_self _),Nat.ne_of_gt hlS⟩
    have adlt:∀i,i<items.size->adr i<s.heap.objs.size:=fun i hi'=>by
     obtain ⟨o,_,_,ho,_⟩:=hk i hi'
     exact Heap.lt_size ho
    refine aUf ((Walks.list hh3 _ l hneI items).toS) s.heap.objs.size hSf (hu _ ?hU) key adr hi hb (fun i hi' z=>?_) (items.size - 0) 0 _ [] (by omega) (Nat.zero_le _)
     ⟨⟨_,Heap.get?_push_size _ rfl,rfl,rfl⟩,(hl1.push _)⟩ ?hS0 Ded.zero (fun i hi'=>?_) ?hR
    case hU=>simp
    case hS0 =>
     exact aHh (Heap.get?_push_of_some _ hS) rfl
    case hR =>
     intro s' kas hm hS' hD'
     obtain ⟨h',g',d',tk',os'⟩:=s'
     have eg:g'=s.gens:=hm.gens
     have ed:d'=s.drawn:=hm.drawn
     have eo:os'=s.os:=hm.os
     subst eg;subst ed;subst eo
     show wpAny _ _ _ _ _ _
     refine wpAny_pure ?_
     show wpAny _ _ (ret Value.none) _ _ _
     refine wpAny_pure ⟨rfl,h',tk',kas,rfl,hS',hD',fun b o hb e=>?_⟩
     have hb1:b ≠ s.heap.objs.size:=Nat.ne_of_lt hb
     have hb2:b ≠ (s.heap.push { cls:=.type "set",dict:=none,data:=.set #[] 0 (.fresh 0 0 (!(w.params.followText "set-order"))) }).objs.size:=by
      rw [Heap.size_push];exact Nat.ne_of_lt (Nat.lt_succ_of_lt hb)
     exact hm.heap b o (by simp only [List.mem_cons,List.mem_singleton,List.not_mem_nil,or_false,not_or];exact ⟨hb1,hb2⟩) (Heap.get?_push_of_some _ (Heap.get?_push_of_some _ e))
    ·have:=adlt i hi'
     rw [Heap.size_push] at z
     simp only [List.mem_cons,List.mem_singleton,List.not_mem_nil,or_false] at z
     rcases z with z | z
     ·exact Nat.ne_of_lt this z
     ·exact Nat.ne_of_lt (Nat.lt_succ_of_lt this) z
    ·exact iW (hk i hi') fun o e=>Heap.get?_push_of_some _ (Heap.get?_push_of_some _ e)
   ·cases r₂ with
    | error e=>exact hr₂
    | ok fl₂ =>
     cases fl₂ with
     | ret r =>
      obtain ⟨rfl,h',tk,kas,rfl,hS',hD',hk'⟩:=hr₂
      repeat (any_goals (first | assumption | wp_step))
      exact h _ _ _ hS' hD' hk'
     | _=>exact hr₂.elim
  | _=>exact hr.elim
end
end ST
end
section
namespace ST
open PySem PySem.SetTable
theorem wQ {α:Type} {next:Nat->Nat}:∀(fuel k:Nat) (left:List α) (out:Array α),left.length=fuel->(pickOrder.go next fuel k left out).toList.Perm (out.toList++left)
 | 0,k,left,out,h=>by
  have:left=[]:=List.length_eq_zero_iff.mp h
  subst this
  show out.toList.Perm _
  rw [List.append_nil]
 | fuel+1,k,left,out,h=>by
  unfold pickOrder.go
  have hlt:next k % left.length<left.length:=Nat.mod_lt _ (by omega)
  rw [List.getElem?_eq_getElem hlt]
  dsimp only
  refine (wQ fuel (k+1) (left.eraseIdx (next k % left.length)) _ (by rw [List.length_eraseIdx,if_pos hlt];omega)).trans ?_
  rw [Array.toList_push,List.append_assoc]
  refine List.Perm.append_left _ ?_
  rw [List.eraseIdx_eq_take_drop_succ]
  have e2:left=left.take (next k % left.length)++left[next k % left.length]::left.drop (next k % left.length+1):=by simp
  have:=(List.perm_middle (l₁:=left.take (next k % left.length)) (a:=left[next k % left.length]) (l₂:=left.drop (next k % left.length+1))).symm
  rw [<- e2] at this
  exact this
def fO (w:World) (S:Addr) (ep:Nat) (es:Y3):Y3:=if w.params.followText "set-order" then pickOrder (w.params.setOrder S ep) es else es
theorem yA {w:World} {S:Addr} {ep:Nat} {es:Y3}:(fO w S ep es).toList.Perm es.toList:=by
 unfold fO
 split
 ·have:=wQ (next:=w.params.setOrder S ep) es.size 0 es.toList #[] (by simp)
  simpa [pickOrder] using this
 ·exact .refl _
theorem qS {w:World} {S:Addr} {ep:Nat} {es:Y3}:(fO w S ep es).size=es.size:=by
 have:=(yA (w:=w) (S:=S) (ep:=ep) (es:=es)).length_eq
 simpa using this
theorem aDm {xs:Array Nat} (hr:uX xs) {i j:Nat} (e:xs[i]?=some j):below xs (j+1)=i+1:=by
 obtain ⟨h1,h2,h3⟩:=iO hr (j+1)
 rcases Nat.lt_trichotomy (below xs (j+1)) (i+1) with q | q | q
 ·have:=h3 i j e (by omega);omega
 ·exact q
 ·have hs:i+1<xs.size:=by omega
  have e2:=h2 (i+1) _ (Array.getElem?_eq_getElem hs) q
  have e3:=hr _ _ _ _ e (Array.getElem?_eq_getElem hs) (by omega)
  omega
theorem aC8 {xs:Array Nat} (hr:uX xs):below xs 0=0:=by
 obtain ⟨h1,h2,h3⟩:=iO hr 0
 rcases Nat.eq_zero_or_pos (below xs 0) with q | q
 ·exact q
 ·have hs:0<xs.size:=by omega
  have:=h2 0 _ (Array.getElem?_eq_getElem hs) q
  omega
section
variable {prog:Program} {w:World} {A:Around} {E:Y9} {s:Shared}
theorem aD9 {S:Addr} {o:Obj} {es:Y3} {ep i slot:Nat} {t:SetTable} {kas:Y7} {Q:Option (Value×Nat)->Shared->Prop}
  (ho:s.heap.get? S=some o) (hd:o.data=.set es ep t) (T:TS (intKind prog w) s.heap es t kas) (hpl:t.plain=true) (hled:t.led = !(w.params.followText "set-order")) (hsl:w.params.followText "set-order" = false->below t.place slot=i)
  (hQ:match (fO w S ep es)[i]? with | some e=>∀slot',(w.params.followText "set-order" = false->below t.place slot'=i+1)->Q (some (e.2,slot')) s | none=>Q none s) :
  wpAny (model prog w) A (setNext S slot i ep) Q E s:=by
 unfold setNext
 refine wpAny_bind (wpAny_setState_of ho hd T.fits ?_)
 dsimp only
 unfold setsByText
 refine wpAny_bind (wpAny_bind (wpAny_askSetting (wpAny_pure ?_)))
 dsimp only
 cases hb:w.params.followText "set-order" with
 | true =>
  show wpAny _ _ (if w.params.followText "set-order" = true then _ else _) _ _ _
  rw [if_pos hb,if_neg (by simp)]
  refine wpAny_bind ?_
  unfold setWalk
  refine wpAny_bind (wpAny_setState_of ho hd T.fits ?_)
  dsimp only
  unfold setsByText
  refine wpAny_bind (wpAny_bind (wpAny_askSetting (wpAny_pure ?_)))
  show wpAny _ _ (if w.params.followText "set-order" = true then _ else _) _ _ _
  rw [if_pos hb]
  refine wpAny_bind (wpAny_askSetting (wpAny_pure ?_))
  refine wpAny_pure ?_
  have ew:fO w S ep es=pickOrder (w.params.setOrder S ep) es:=by unfold fO;rw [if_pos hb]
  rw [ew] at hQ
  show Q (((pickOrder (w.params.setOrder S ep) es)[i]?).map fun e=>(e.2,slot)) s
  cases hg:(pickOrder (w.params.setOrder S ep) es)[i]? with
  | none=>rw [hg] at hQ;exact hQ
  | some e=>rw [hg] at hQ;exact hQ slot fun z=>by rw [hb] at z;cases z
 | false =>
  show wpAny _ _ (if w.params.followText "set-order" = true then _ else _) _ _ _
  have ew:fO w S ep es=es:=by unfold fO;rw [if_neg (by rw [hb];simp)]
  rw [ew] at hQ
  rw [if_neg (by rw [hb];simp)]
  have hl:t.led=true:=by rw [hled,hb];rfl
  have hdr:(!t.plain && decide (es.size > 1))=false:=by rw [hpl];rfl
  show wpAny _ _ (if (!t.plain && decide (es.size > 1))=true then _ else _) _ _ _
  rw [if_neg (by rw [hdr];simp)]
  refine wpAny_bind ?_
  show wpAny _ _ (if (!t.led && !es.isEmpty)=true then _ else _) _ _ _
  rw [if_neg (by rw [hl];simp)]
  refine wpAny_pure (wpAny_pure ?_)
  rw [hsl hb]
  cases hg:es[i]? with
  | none =>
   rw [hg] at hQ
   exact hQ
  | some e =>
   rw [hg] at hQ
   have hlt:i<t.place.size:=by rw [T.ok.size];exact (Array.getElem?_eq_some_iff.mp hg).1
   rw [Array.getElem?_eq_getElem hlt]
   exact hQ _ fun _=>aDm T.ok.rise (Array.getElem?_eq_getElem hlt)
end
end ST
end
section
namespace ST
open PySem PySem.SetTable
namespace F
theorem slot_next:Slot "set_iterator" "__next__" "set_iterator.__next__" :=
 .of (owner := "set_iterator") (n := "__next__") (by rw [typeLookup_type,builtinLookup_eq_fast];kernel_rfl) (by decide +kernel) (by decide +kernel) (by decide +kernel)
  (by first | exact .inl (by decide +kernel) | exact .inr (by decide +kernel)) (by rw [isSubtype_type];kernel_rfl)
theorem entry_next:entryFor table "set_iterator.__next__" = some Builtin.«set_iterator.__next__» :=entryFor_of_fast (by kernel_rfl)
theorem args_next (a:Value):argsOk "set_iterator.__next__" ⟨[a],[]⟩:=by unfold argsOk;kernel_rfl
theorem slot_iter:Slot "set_iterator" "__iter__" "set_iterator.__iter__" :=
 .of (owner := "set_iterator") (n := "__iter__") (by rw [typeLookup_type,builtinLookup_eq_fast];kernel_rfl) (by decide +kernel) (by decide +kernel) (by decide +kernel)
  (by first | exact .inl (by decide +kernel) | exact .inr (by decide +kernel)) (by rw [isSubtype_type];kernel_rfl)
theorem args_iter (a:Value):argsOk "set_iterator.__iter__" ⟨[a],[]⟩:=by unfold argsOk;kernel_rfl
theorem entry_iter:entryFor table "set_iterator.__iter__" = some Builtin.«dict_keyiterator.__iter__» :=
 entryFor_alias (id' := "dict_keyiterator.__iter__") (by kernel_rfl) (by first | rfl | decide +kernel) (by decide +kernel) (by kernel_rfl)
theorem entry_set_iter:entryFor table "set.__iter__" = some Builtin.«frozenset.__iter__» :=
 entryFor_alias (id' := "frozenset.__iter__") (by kernel_rfl) (by first | rfl | decide +kernel) (by decide +kernel) (by kernel_rfl)
end F
section
variable {prog:Program} {w:World} {A:Around} {E:Y9} {s:Shared}
def sP (slot i:Nat) (S:Addr) (n ep:Nat):Obj:={ cls:=.type "set_iterator",dict:=none,data:=.fields #[.int slot 0,.int i 0,.ref S,.int n 0,.int ep 0],slots:=#[] }
def StS (I S:Addr) (o:Obj) (es:Y3) (ep:Nat) (t:SetTable) (prog:Program) (w:World) (kas:Y7) (i:Nat) (s:Shared):Prop :=
 ∃slot,s.heap.get? I=some (sP slot i S es.size ep)/\(w.params.followText "set-order" = false->below t.place slot=i)/\s.heap.get? S=some o/\TS (intKind prog w) s.heap es t kas
theorem StS.ty {I S:Addr} {o:Obj} {es:Y3} {ep:Nat} {t:SetTable} {kas:Y7} {i:Nat} (h:StS I S o es ep t prog w kas i s):s.TypeIs (.ref I) "set_iterator" :=by
 obtain ⟨slot,h1,_⟩:=h
 exact ⟨_,h1,rfl⟩
theorem aLg {I S:Addr} {o:Obj} {es:Y3} {ep:Nat} {t:SetTable} {kas:Y7} {i:Nat} {Q:Option Value->Shared->Prop} (hd:o.data=.set es ep t) (hpl:t.plain=true) (hled:t.led = !(w.params.followText "set-order")) (hIS:I ≠ S) (hka:∀p∈kas,p.2 ≠ I)
  (hst:StS I S o es ep t prog w kas i s) (hi:i<es.size)
  (hQ:∀v h',(fO w S ep es)[i]?.map (·.2)=some v->StS I S o es ep t prog w kas (i+1) { s with heap:=h' }->Heap.SameBut I s.heap h'->Q (some v) { s with heap:=h' }):wpAny (model prog w) A (pyNext (.ref I)) Q E s:=by
 have hT:=hst.ty
 obtain ⟨slot,h1,h2,h3,T⟩:=hst
 have hlt:i<(fO w S ep es).size:=by rw [qS];exact hi
 have eg:=Array.getElem?_eq_getElem hlt
 unfold pyNext
 refine wpAny_bind (wpAny_attempt (wpAny_callSpecial?_slot (name:=Str.ofString "__next__") hT F.slot_next
  (wpAny_call_entry F.slot_next hT F.entry_next ?_ (F.args_next _))))
 show wpAny _ _ (fieldsOf (.ref I) >>= _) _ _ s
 refine wpAny_bind (wpAny_fieldsOf h1 rfl ?_)
 show wpAny _ _ (setEntries S >>= _) _ _ s
 refine wpAny_bind (wpAny_setEntries_of h3 hd T.fits ?_)
 show wpAny _ _ (if ((es.size:Int) != (es.size:Int))=true then _ else _) _ _ s
 rw [if_neg (by simp)]
 show wpAny _ _ (setNext S (slot:Int).toNat (i:Int).toNat (ep:Int).toNat >>= _) _ _ s
 rw [Int.toNat_natCast,Int.toNat_natCast,Int.toNat_natCast]
 refine wpAny_bind (aD9 h3 hd T hpl hled h2 ?_)
 rw [eg]
 dsimp only
 intro slot' hs'
 refine wpAny_bind (wpAny_setField_rec h1 (by simp) fun h' e1 sb1=>?_)
 refine wpAny_bind (wpAny_setField_rec (s:={ s with heap:=h' }) e1 (by simp) fun h'' e2 sb2=>?_)
 refine wpAny_pure ⟨_,rfl,?_⟩
 refine wpAny_pure (hQ _ h'' (by rw [eg];rfl) ⟨slot',?_,hs',?_,T.heap fun p hp=>?_⟩ (sb1.trans sb2))
 ·exact e2
 ·have:h''.get? S=some o:=by rw [sb2.2 S (Ne.symm hIS),sb1.2 S (Ne.symm hIS)];exact h3
  exact this
 ·exact iW (T.keys p hp) fun o' e'=>by
   show h''.get? p.2=some o'
   rw [sb2.2 _ (hka p hp),sb1.2 _ (hka p hp)];exact e'
theorem aQq {I S:Addr} {o:Obj} {es:Y3} {ep:Nat} {t:SetTable} {kas:Y7} {Q:Option Value->Shared->Prop} (hh:A.handled=none) (hd:o.data=.set es ep t) (hpl:t.plain=true) (hled:t.led = !(w.params.followText "set-order"))
  (hst:StS I S o es ep t prog w kas es.size s) (hQ:∀h',Heap.ExtBut I s.heap h'->Q none { s with heap:=h' }):wpAny (model prog w) A (pyNext (.ref I)) Q E s:=by
 have hT:=hst.ty
 obtain ⟨slot,h1,h2,h3,T⟩:=hst
 have eg:(fO w S ep es)[es.size]?=none:=by rw [Array.getElem?_eq_none];rw [qS];exact Nat.le_refl _
 unfold pyNext
 refine wpAny_bind (wpAny_attempt (wpAny_callSpecial?_slot (name:=Str.ofString "__next__") hT F.slot_next
  (wpAny_call_entry F.slot_next hT F.entry_next ?_ (F.args_next _))))
 show wpAny _ _ (fieldsOf (.ref I) >>= _) _ _ s
 refine wpAny_bind (wpAny_fieldsOf h1 rfl ?_)
 show wpAny _ _ (setEntries S >>= _) _ _ s
 refine wpAny_bind (wpAny_setEntries_of h3 hd T.fits ?_)
 show wpAny _ _ (if ((es.size:Int) != (es.size:Int))=true then _ else _) _ _ s
 rw [if_neg (by simp)]
 show wpAny _ _ (setNext S (slot:Int).toNat ((es.size:Nat):Int).toNat (ep:Int).toNat >>= _) _ _ s
 rw [Int.toNat_natCast,Int.toNat_natCast,Int.toNat_natCast]
 refine wpAny_bind (aD9 h3 hd T hpl hled h2 ?_)
 rw [eg]
 dsimp only
 refine wpAny_bind (wpAny_setField_rec h1 (by simp) fun h' e1 sb1=>?_)
 show wpAny _ _ (newExc (.type "StopIteration") [] >>= _) _ _ _
 refine wpAny_bind ?_
 simp only [newExc,newTuple]
 refine wpAny_bind (wpAny_newObj_type ?_ (by size_fits))
 refine wpAny_bind (m:=firstArgMember _ _) (wpAny_of_eq (a:=Value.none) (by first | rfl | (simp only [firstArgMember];rfl)) ?_)
 refine wpAny_newObj_type ?_ (by size_fits)
 simp only [raiseNew]
 refine wpAny_bind (wpAny_handled ?_)
 rw [show A.in1.handled=none from hh]
 refine wpAny_bind (wpAny_pure (wpAny_throw ?_))
 refine wpAny_bind (wpAny_isInstance (T := "StopIteration") (b:=true) ⟨_,Heap.get?_push_size _ rfl,rfl⟩ isSubtype_stop ?_)
 exact wpAny_pure (hQ _ ((sb1.extBut.push _).push _))
end
end ST
end
section
namespace ST
open PySem PySem.SetTable
section
variable {prog:Program} {w:World} {A:Around} {E:Y9} {s:Shared}
def StH (I S:Addr) (o:Obj) (es:Y3) (ep:Nat) (t:SetTable) (prog:Program) (w:World) (kas:Y7) (i:Nat) (h:Heap):Prop :=
 ∃slot,h.get? I=some (sP slot i S es.size ep)/\(w.params.followText "set-order" = false->below t.place slot=i)/\h.get? S=some o/\TS (intKind prog w) h es t kas
theorem aPf {I S:Addr} {o:Obj} {es:Y3} {ep:Nat} {t:SetTable} {kas:Y7} (hh:A.handled=none) (hd:o.data=.set es ep t) (hpl:t.plain=true) (hled:t.led = !(w.params.followText "set-order")) (hIS:I ≠ S) (hka:∀p∈kas,p.2 ≠ I) :
  Walks prog w A I (I::S::kas.map (·.2)) [I] es.size (fun i v=>(fO w S ep es)[i]?.map (·.2)=some v) (fun i h=>StH I S o es ep t prog w kas i h) where
 sub:=fun b hb=>by simp at hb;simp [hb]
 frame:=fun i h h' st hk=>by
  obtain ⟨slot,h1,h2,h3,T⟩:=st
  exact ⟨slot,hk I (by simp) _ h1,h2,hk S (by simp) _ h3,T.heap fun p hp=>iW (T.keys p hp) fun o' e=>hk p.2 (by simp;exact .inr (.inr ⟨p.1,hp⟩)) o' e⟩
 item:=fun i s Q E hi st hQ=>by
  refine aLg (i:=i) hd hpl hled hIS hka st hi fun v h' hv st' sb=>?_
  exact hQ v h' s.toks hv st' fun b o' hb e=>by rw [sb.2 b (fun z=>hb (by simp [z]))];exact e
 done:=fun s Q E st hQ=>aQq hh hd hpl hled st fun h' he=>hQ h' s.toks fun b o' hb e=>he b o' (fun z=>hb (by simp [z])) e
 self:=fun i s Q E st hQ=>by
  have hT:s.TypeIs (.ref I) "set_iterator" :=by obtain ⟨slot,h1,_⟩:=st;exact ⟨_,h1,rfl⟩
  refine wpAny_pyIter_slot hT F.slot_iter (wpAny_call_entry F.slot_iter hT F.entry_iter ?_ (F.args_iter _))
  show wpAny _ _ (ret (.ref I)) _ _ s
  exact wpAny_pure ⟨_,rfl, "set_iterator",_,hT,F.slot_next.lookup,hQ⟩
theorem aCd {P:Nat->Value->Prop} {acc:Array Value} {ws:Y3} (h:ItemsOf P acc ws.size) (hP:∀i v,P i v->ws[i]?.map (·.2)=some v):acc.toList=ws.toList.map (·.2):=by
 refine List.ext_getElem? fun i=>?_
 rw [List.getElem?_map,Array.getElem?_toList,Array.getElem?_toList]
 by_cases hi:i<acc.size
 ·have e:=Array.getElem?_eq_getElem hi
  rw [e]
  exact (hP i _ (h.2 i _ e)).symm
 ·have hw:¬ i<ws.size:=by rw [<- h.1];exact hi
  rw [Array.getElem?_eq_none (by omega),Array.getElem?_eq_none (by omega)];rfl
theorem aAk {S:Addr} {kas:Y7} {Q:Y1->Shared->Prop} (hh:A.handled=none) (hS:kB prog w s.heap S kas)
  (hQ:∀(kas':Y7) (s':Shared),kas'.Perm kas->Moved [] (fun a b=>b=a) s s'->s.heap.objs.size<=s'.heap.objs.size->Q (kas'.map fun p=>Value.ref p.2) s'):wpAny (model prog w) A (collect (.ref S)) Q E s:=by
 obtain ⟨o,es,ep,t,ho,hex,hd,T,hpl,hled,hsz⟩:=hS
 have hT:s.TypeIs (.ref S) "set" :=⟨o,ho,hex.1⟩
 have hSlt:S<s.heap.objs.size:=Heap.lt_size ho
 unfold collect
 refine wpAny_bind (wpAny_runValue (codeAny_builtin PySem.F.entry_proto_collect ?_))
 rw [Around.under_plainId PySem.F.plain_proto_collect _]
 show wpAny _ A.in1 (newList [] >>= fun l=>again (.builtin "list.__iadd__" ⟨[l,.ref S],[]⟩)) _ _ s
 refine wpAny_bind (wpAny_newObj_type ?_)
 refine wpAny_pure ⟨plainId_quiet PySem.F.plain_list_iadd _,codeAny_builtin PySem.F.entry_list_iadd ?_⟩
 rw [Around.under_plainId PySem.F.plain_list_iadd _]
 generalize hh1:s.heap.push { cls:=.type "list",data:=.seq ([]:Y1).toArray }=h1
 have e1:∀b o,s.heap.get? b=some o->h1.get? b=some o:=fun b o e=>by rw [<- hh1];exact Heap.get?_push_of_some _ e
 have hL:h1.get? s.heap.objs.size=some { cls:=.type "list",data:=.seq ([]:Y1).toArray }:=by rw [<- hh1];exact Heap.get?_push_size _ rfl
 have sz1:h1.objs.size=s.heap.objs.size+1:=by rw [<- hh1,Heap.size_push]
 have hne:s.heap.objs.size ≠ S:=Ne.symm (Nat.ne_of_lt hSlt)
 have hT1:Shared.TypeIs { s with heap:=h1 } (.ref S) "set" :=⟨o,e1 _ _ ho,hex.1⟩
 have T1:TS (intKind prog w) h1 es t kas:=T.heap fun p hp=>iW (T.keys p hp) fun o e=>e1 _ _ e
 show wpAny _ A.in1 (Builtin.List.listExtendWith (.ref s.heap.objs.size) (.ref S) (.ref s.heap.objs.size)) _ _ _
 unfold Builtin.List.listExtendWith
 refine wpAny_bind (wpAny_typeOf hT1 ?_)
 have hsr:Builtin.List.listSameRef (.ref s.heap.objs.size) (.ref S)=false:=by simp [Builtin.List.listSameRef,hne]
 rw [if_neg (by rw [hsr];decide)]
 refine wpAny_bind (wpAny_pyIter_slot hT1 PySem.F.slot_set_iter (wpAny_call_entry PySem.F.slot_set_iter hT1 F.entry_set_iter ?_ (PySem.F.args_set_iter_1 _)))
 show wpAny _ _ (Builtin.Frozenset.sizeOf S >>= _) _ _ _
 unfold Builtin.Frozenset.sizeOf
 refine wpAny_bind (wpAny_bind (wpAny_setEntries_of (s:={ s with heap:=h1 }) (e1 _ _ ho) hd T.fits (wpAny_pure ?_)))
 unfold setDrawn
 refine wpAny_bind (wpAny_bind (wpAny_setState_of (s:={ s with heap:=h1 }) (e1 _ _ ho) hd T.fits ?_))
 dsimp only
 unfold setsByText
 refine wpAny_bind (wpAny_bind (wpAny_askSetting (wpAny_pure ?_)))
 refine wpAny_pure ?_
 show wpAny _ _ (if (!(w.params.followText "set-order") && (!t.plain && decide (es.size > 1)))=true then _ else _) _ _ _
 rw [hpl,if_neg (by simp)]
 refine wpAny_bind (wpAny_pure ?_)
 refine wpAny_bind (wpAny_setEpoch_of (s:={ s with heap:=h1 }) (e1 _ _ ho) hd T.fits ?_)
 refine wpAny_bind (wpAny_newObj_type ?_)
 refine wpAny_pure ⟨_,rfl, "set_iterator",_,⟨_,Heap.get?_push_size _ rfl,rfl⟩,F.slot_next.lookup,?_⟩
 generalize hh2:h1.push _=h2
 have eI:h2.get? h1.objs.size=some (sP 0 0 S es.size ep):=by rw [<- hh2];exact Heap.get?_push_size _ rfl
 have e2:∀b o,h1.get? b=some o->h2.get? b=some o:=fun b o e=>by rw [<- hh2];exact Heap.get?_push_of_some _ e
 have T2:TS (intKind prog w) h2 es t kas:=T1.heap fun p hp=>iW (T1.keys p hp) fun o e=>e2 _ _ e
 have hT2:Shared.TypeIs { s with heap:=h2 } (.ref S) "set" :=⟨o,e2 _ _ (e1 _ _ ho),hex.1⟩
 refine wpAny_bind (wpAny_holding ?_)
 unfold Builtin.List.listLengthHint
 refine wpAny_bind (wpAny_specialOf hT2 PySem.F.slot_set_len.lookup ?_)
 generalize hid:("set.__len__" : String)=id0
 wp_delta
 rw [show splitId id0=some ("set", "__len__") from by subst hid;decide +kernel]
 subst hid
 refine wpAny_bind (wpAny_isInstance (b:=true) hT2 (by rw [isSubtype_type];kernel_rfl) ?_)
 show wpAny _ _ (typeOf (.ref S) >>= _) _ _ _
 refine wpAny_bind (wpAny_typeOf hT2 ?_)
 refine wpAny_pure ?_
 rw [if_pos (by rfl)]
 have hL2:h2.get? s.heap.objs.size=some { cls:=.type "list",dict:=none,data:=.seq #[] 0,slots:=#[] }:=e2 _ _ hL
 refine wpAny_bind (wpAny_rule (wpAny_bind ?_))
 unfold Builtin.List.listTouch
 refine wpAny_bind (PyProof.Rows.listUpdate_at (s:={ s with heap:=h2 }) hL2 rfl ?_)
 have hL3:(h2.update s.heap.objs.size (Obj.mapSeq (·.push Value.none))).get? s.heap.objs.size=some { cls:=.type "list",dict:=none,data:=.seq #[Value.none] 1,slots:=#[] }:=Heap.get?_update_self _ hL2 rfl
 refine PyProof.Rows.listUpdate_at (s:={ s with heap:=h2.update s.heap.objs.size (Obj.mapSeq (·.push Value.none)) }) hL3 rfl ?_
 have hL4:((h2.update s.heap.objs.size (Obj.mapSeq (·.push Value.none))).update s.heap.objs.size (Obj.mapSeq (·.pop))).get? s.heap.objs.size=some { cls:=.type "list",dict:=none,data:=.seq #[] 2,slots:=#[] }:=Heap.get?_update_self _ hL3 rfl
 have e4:∀b,b ≠ s.heap.objs.size->((h2.update s.heap.objs.size (Obj.mapSeq (·.push Value.none))).update s.heap.objs.size (Obj.mapSeq (·.pop))).get? b=h2.get? b:=fun b hb=>by
  rw [Heap.get?_update_other _ _ (Ne.symm hb),Heap.get?_update_other _ _ (Ne.symm hb)]
 generalize ((h2.update s.heap.objs.size (Obj.mapSeq (·.push Value.none))).update s.heap.objs.size (Obj.mapSeq (·.pop)))=h4 at hL4 e4
 have klt:∀p∈kas,p.2<s.heap.objs.size:=fun p hp=>by
  obtain ⟨o',_,_,ho',_⟩:=T.keys p hp
  exact Heap.lt_size ho'
 have hI4:h4.get? h1.objs.size=some (sP 0 0 S es.size ep):=by
  rw [e4 _ (by rw [sz1];exact Nat.succ_ne_self _)];exact eI
 have hS4:h4.get? S=some o:=by rw [e4 _ (Ne.symm hne)];exact e2 _ _ (e1 _ _ ho)
 have T4:TS (intKind prog w) h4 es t kas:=T2.heap fun p hp=>iW (T2.keys p hp) fun o' e=>by
  rw [e4 _ (Nat.ne_of_lt (klt p hp))];exact e
 have hIS:h1.objs.size ≠ S:=by rw [sz1];exact Ne.symm (Nat.ne_of_lt (Nat.lt_succ_of_lt hSlt))
 have hkI:∀p∈kas,p.2 ≠ h1.objs.size:=fun p hp=>by rw [sz1];exact Nat.ne_of_lt (Nat.lt_succ_of_lt (klt p hp))
 have W:=aPf (prog:=prog) (w:=w) (A:=A.in1) (I:=h1.objs.size) (S:=S) (o:=o) (es:=es) (ep:=ep) (t:=t) (kas:=kas) (by simpa using hh) hd hpl hled hIS hkI
 have hLf:s.heap.objs.size ∉ h1.objs.size::S::kas.map (·.2):=fun z=>by
  rcases List.mem_cons.mp z with z | z
  ·rw [sz1] at z;exact Nat.succ_ne_self _ z.symm
  ·rcases List.mem_cons.mp z with z | z
   ·exact hne z
   ·obtain ⟨p,hp,e⟩:=List.mem_map.mp z
    exact Nat.ne_of_lt (klt p hp) e
 have hn:es.size<=sizeLine:=by
  rw [sizeLine_eq,T.len]
  rcases hsz with ⟨_,h⟩ | ⟨_,h⟩<;>omega
 refine wpAny_pure ⟨plainId_quiet PySem.F.plain_extend_loop _,codeAny_extend_loopS W.toS hn _ hLf _ es.size 0 _ _ _ rfl (Nat.zero_le _) ⟨0,hI4,fun _=>aC8 T.ok.rise,hS4,T4⟩ hL4 (ItemsOf.nil _) fun s' acc' c' hm hS' hacc=>?_⟩
 show wpAny _ A (load s.heap.objs.size >>= _) _ _ s'
 refine wpAny_bind (wpAny_load hS' ?_)
 refine wpAny_pure ?_
 have eacc:=aCd (ws:=fO w S ep es) (by rw [qS];exact hacc) (fun i v h=>h)
 show Q acc'.toList s'
 have pm:(fO w S ep es).toList.Perm (kas.map fun p=>(tupleKeyHash (intKind prog w) p.1,Value.ref p.2)):=by
  have:=yA (w:=w) (S:=S) (ep:=ep) (es:=es)
  rw [T.ents] at this;exact this
 obtain ⟨kas',ek,pk⟩:=xI pm
 rw [eacc,ek,List.map_map]
 refine hQ kas' s' pk ⟨fun b o' _ e=>?_,hm.gens,hm.drawn,hm.os,hm.toks⟩ (Nat.le_of_lt (Heap.lt_size hS'))
 have hb1:b ≠ s.heap.objs.size:=Nat.ne_of_lt (Heap.lt_size e)
 have hb2:b ≠ h1.objs.size:=by rw [sz1];exact Nat.ne_of_lt (Nat.lt_succ_of_lt (Heap.lt_size e))
 refine hm.heap b o' (fun z=>?_) (by show h4.get? b=some o';rw [e4 b hb1];exact e2 _ _ (e1 _ _ e))
 rcases List.mem_cons.mp z with z | z
 ·exact hb1 z
 ·exact hb2 (List.mem_singleton.mp z)
end
end ST
end
section
namespace ST
open PySem PySem.W PyProof.Rows
section
variable {n:Nat} {lt:Nat->Nat->Bool} {cmp:Nat->Nat->(Bool->Shared->Prop)->Shared->Prop} {s:Shared}
structure Ord (n:Nat) (lt:Nat->Nat->Bool):Prop where
 irr:∀i,lt i i=false
 tr:∀i j k,lt i j=true->lt j k=true->lt i k=true
 tot:∀i j,i<n->j<n->i ≠ j->lt i j=true\/lt j i=true
structure Arr (n:Nat) (p:Array Nat):Prop where
 size:p.size=n
 lt:∀i,i<n->p.getD i 0<n
 inj:∀i j,i<n->j<n->p.getD i 0=p.getD j 0->i=j
def Up (lt:Nat->Nat->Bool) (p:Array Nat) (k:Nat):Prop:=∀i j,i<j->j<k->lt (p.getD i 0) (p.getD j 0)=true
def Down (lt:Nat->Nat->Bool) (p:Array Nat) (k:Nat):Prop:=∀i j,i<j->j<k->lt (p.getD j 0) (p.getD i 0)=true
theorem aLq (o:Ord n lt) {p:Array Nat} {k:Nat} (hk:1<=k) (h:Up lt p k) (h1:lt (p.getD (k - 1) 0) (p.getD k 0)=true):Up lt p (k+1):=fun i j hij hj=>by
 by_cases q:j=k
 ·subst q
  by_cases q2:i=j - 1
  ·subst q2;exact h1
  ·exact o.tr _ _ _ (h i (j - 1) (by omega) (by omega)) h1
 ·exact h i j hij (by omega)
theorem aFy (o:Ord n lt) {p:Array Nat} {k:Nat} (hk:1<=k) (h:Down lt p k) (h1:lt (p.getD k 0) (p.getD (k - 1) 0)=true):Down lt p (k+1):=fun i j hij hj=>by
 by_cases q:j=k
 ·subst q
  by_cases q2:i=j - 1
  ·subst q2;exact h1
  ·exact o.tr _ _ _ h1 (h i (j - 1) (by omega) (by omega))
 ·exact h i j hij (by omega)
variable (o:Ord n lt) (hc:∀i j,i<n->j<n->∀C:Bool->Shared->Prop,C (lt i j) s->cmp i j C s)
include o hc
theorem aC7 {p:Array Nat} (a:Arr n p):∀(f m:Nat) {Q:Nat->Shared->Prop},m+f=n->1<=m->Up lt p m->(∀m',m<=m'->m'<=n->Up lt p m'->(m'<n->lt (p.getD m' 0) (p.getD (m' - 1) 0)=true)->Q m' s)->(kas_asc p f m).kasWp cmp Q s
 | 0,m,Q,e,h1,hu,hq=>hq m (Nat.le_refl _) (by omega) hu fun z=>by omega
 | f+1,m,Q,e,h1,hu,hq=>by
  refine hc _ _ (a.lt m (by omega)) (a.lt (m - 1) (by omega)) _ ?_
  cases ec:lt (p.getD m 0) (p.getD (m - 1) 0) with
  | true =>
   dsimp only;rw [if_pos rfl]
   exact hq m (Nat.le_refl _) (by omega) hu fun _=>ec
  | false =>
   dsimp only;rw [if_neg (by simp)]
   have h2:lt (p.getD (m - 1) 0) (p.getD m 0)=true:=by
    rcases o.tot _ _ (a.lt (m - 1) (by omega)) (a.lt m (by omega)) (fun z=>by have:=a.inj _ _ (by omega) (by omega) z;omega) with q | q
    ·exact q
    ·rw [ec] at q;cases q
   exact aC7 a f (m+1) (by omega) (by omega) (aLq o h1 hu h2) fun m' g1 g2 g3 g4=>hq m' (by omega) g2 g3 g4
theorem aEo {p:Array Nat} (a:Arr n p):∀(f k:Nat) {Q:Array Nat×Nat×Nat->Shared->Prop},k+f=n->2<=k->Down lt p k->(∀k',k<=k'->k'<=n->Down lt p k'->Q (p,k',0) s)->(kas_desc f p k 0).kasWp cmp Q s
 | 0,k,Q,e,h1,hd,hq=>hq k (Nat.le_refl _) (by omega) hd
 | f+1,k,Q,e,h1,hd,hq=>by
  refine hc _ _ (a.lt k (by omega)) (a.lt (k - 1) (by omega)) _ ?_
  cases ec:lt (p.getD k 0) (p.getD (k - 1) 0) with
  | true =>
   dsimp only;rw [if_pos rfl,if_neg (by omega)]
   exact aEo a f (k+1) (by omega) (by omega) (aFy o (by omega) hd ec) fun k' g1 g2 g3=>hq k' (by omega) g2 g3
  | false =>
   dsimp only;rw [if_neg (by simp)]
   refine hc _ _ (a.lt (k - 1) (by omega)) (a.lt k (by omega)) _ ?_
   have h2:lt (p.getD (k - 1) 0) (p.getD k 0)=true:=by
    rcases o.tot _ _ (a.lt (k - 1) (by omega)) (a.lt k (by omega)) (fun z=>by have:=a.inj _ _ (by omega) (by omega) z;omega) with q | q
    ·exact q
    ·rw [ec] at q;cases q
   rw [h2];dsimp only;rw [if_pos rfl]
   exact hq k (Nat.le_refl _) (by omega) hd
end
theorem getD_eq {p:Array Nat} {i:Nat}:p.getD i 0=(p[i]?).getD 0:=by
 by_cases h:i<p.size
 ·simp [Array.getD,h]
 ·simp [Array.getD,h,Array.getElem?_eq_none (Nat.le_of_not_lt h)]
theorem rev_getD {n:Nat} {p:Array Nat} (hs:p.size=n) {k:Nat} (hk:k<=n) (i:Nat):(kas_rev p 0 k).getD i 0=if i<k then p.getD (k - 1 - i) 0 else p.getD i 0:=by
 rw [getD_eq]
 unfold kas_rev
 rw [getElem?_mirror (by omega) _ (by omega)]
 by_cases h1:i<k
 ·rw [if_pos h1]
  by_cases h2:(0<=i/\i<0+(k - 0) / 2)\/(k - (k - 0) / 2<=i/\i<k)
  ·rw [if_pos h2,getD_eq,show 0+k - 1 - i=k - 1 - i by omega]
  ·rw [if_neg h2,getD_eq]
   have:i=k - 1 - i:=by omega
   rw [<- this]
 ·rw [if_neg h1,if_neg (by omega),getD_eq]
theorem aEz {n:Nat} {p:Array Nat} (a:Arr n p) {k:Nat} (hk:k<=n):Arr n (kas_rev p 0 k):=by
 refine ⟨by rw [kas_rev_size];exact a.size,fun i hi=>?_,fun i j hi hj e=>?_⟩
 ·rw [rev_getD a.size hk];split<;>exact a.lt _ (by omega)
 ·rw [rev_getD a.size hk,rev_getD a.size hk] at e
  split at e
  ·split at e
   ·have:=a.inj _ _ (by omega) (by omega) e;omega
   ·have:=a.inj _ _ (by omega) (by omega) e;omega
  ·split at e
   ·have:=a.inj _ _ (by omega) (by omega) e;omega
   ·exact a.inj _ _ (by omega) (by omega) e
theorem mT {n:Nat} {p:Array Nat} (hs:p.size=n) {k l:Nat} (hk:k<n) (hl:l<=k) (i:Nat):(bubble p k (k - l)).getD i 0=if i=l then p.getD k 0 else if l<i/\i<=k then p.getD (i - 1) 0 else p.getD i 0:=by
 rw [getD_eq,getElem?_bubble (by omega) _ (by omega),show k - (k - l)=l by omega]
 split
 ·rw [getD_eq]
 ·split
  ·rw [getD_eq]
  ·rw [getD_eq]
theorem aKp {n:Nat} {p:Array Nat} (a:Arr n p) {k l:Nat} (hk:k<n) (hl:l<=k):Arr n (bubble p k (k - l)):=by
 refine ⟨by rw [bubble_size];exact a.size,fun i hi=>?_,fun i j hi hj e=>?_⟩
 ·rw [mT a.size hk hl];split
  ·exact a.lt _ hk
  ·split<;>exact a.lt _ (by omega)
 ·rw [mT a.size hk hl,mT a.size hk hl] at e
  have iv:∀x y,x<n->y<n->p.getD x 0=p.getD y 0->x=y:=a.inj
  split at e
  ·split at e
   ·omega
   ·split at e
    ·have:=iv _ _ (by omega) (by omega) e;omega
    ·have:=iv _ _ (by omega) (by omega) e;omega
  ·split at e
   ·split at e
    ·have:=iv _ _ (by omega) (by omega) e;omega
    ·split at e
     ·have:=iv _ _ (by omega) (by omega) e;omega
     ·have:=iv _ _ (by omega) (by omega) e;omega
   ·split at e
    ·have:=iv _ _ (by omega) (by omega) e;omega
    ·split at e
     ·have:=iv _ _ (by omega) (by omega) e;omega
     ·exact iv _ _ (by omega) (by omega) e
section
variable {n:Nat} {lt:Nat->Nat->Bool} {cmp:Nat->Nat->(Bool->Shared->Prop)->Shared->Prop} {s:Shared}
variable (o:Ord n lt) (hc:∀i j,i<n->j<n->∀C:Bool->Shared->Prop,C (lt i j) s->cmp i j C s)
include o hc
theorem aMi {p:Array Nat} (a:Arr n p) {k:Nat} (hk:1<=k) (hkn:k<=n) (hd:Down lt p k) {Q:Nat×Array Nat->Shared->Prop} (hq:∀m p',Arr n p'->1<=m->m<=n->Up lt p' m->Q (m,p') s):(kas_tail3 k n p).kasWp cmp Q s:=by
 unfold kas_tail3
 rw [KasT.kasWp_bind]
 refine aC7 o hc (aEz a hkn) (n - k) k (by omega) hk (fun i j hij hj=>?_) fun m' g1 g2 g3 g4=>hq m' _ (aEz a hkn) (by omega) g2 g3
 rw [rev_getD a.size hkn,rev_getD a.size hkn,if_pos (by omega),if_pos (by omega)]
 exact hd _ _ (by omega) (by omega)
theorem aJg {p:Array Nat} (a:Arr n p) (hn:1<=n) {Q:Nat×Array Nat->Shared->Prop} (hq:∀m p',Arr n p'->1<=m->m<=n->Up lt p' m->Q (m,p') s):(kas_count n p).kasWp cmp Q s:=by
 unfold kas_count
 rw [KasT.kasWp_bind]
 refine aC7 o hc a (n - 1) 1 (by omega) (Nat.le_refl _) (fun i j h1 h2=>by omega) fun m g1 g2 g3 g4=>?_
 by_cases hm:m=n
 ·rw [if_pos (by simp [hm])]
  exact hq m p a g1 g2 g3
 ·rw [if_neg (by simpa using hm)]
  by_cases h1:m > 1
  ·rw [if_pos h1]
   refine hc _ _ (a.lt 0 (by omega)) (a.lt (m - 1) (by omega)) _ ?_
   rw [g3 0 (m - 1) (by omega) (by omega)];dsimp only;rw [if_pos rfl]
   exact hq m p a g1 g2 g3
  ·rw [if_neg h1]
   have e1:m=1:=by omega
   subst e1
   have h10:=g4 (by omega)
   unfold kas_descPart
   rw [KasT.kasWp_bind]
   refine aEo o hc a (n - 2) 2 (by omega) (Nat.le_refl _) (fun i j hij hj=>?_) fun k' q1 q2 q3=>?_
   ·have:i=0:=by omega
    have:j=1:=by omega
    subst i;subst j;exact h10
   ·dsimp only
    rw [if_neg (by omega)]
    exact aMi o hc a (by omega) q2 q3 hq
theorem vO {p:Array Nat} (a:Arr n p) {k:Nat} (hk:k<n) (hu:Up lt p k):∀(f l r:Nat) {Q:Nat->Shared->Prop},r - l<=f->l<=r->r<=k->(∀i,i<l->lt (p.getD i 0) (p.getD k 0)=true)->(∀i,r<=i->i<k->lt (p.getD k 0) (p.getD i 0)=true) ->
  (∀l',l'<=k->(∀i,i<l'->lt (p.getD i 0) (p.getD k 0)=true)->(∀i,l'<=i->i<k->lt (p.getD k 0) (p.getD i 0)=true)->Q l' s)->(kas_place p k f l r).kasWp cmp Q s
 | 0,l,r,Q,h1,h2,h3,h4,h5,hq=>by
  have:l=r:=by omega
  subst this
  exact hq l h3 h4 h5
 | f+1,l,r,Q,h1,h2,h3,h4,h5,hq=>by
  unfold kas_place
  by_cases hlr:l >= r
  ·rw [if_pos hlr]
   have:l=r:=by omega
   subst this
   exact hq l h3 h4 h5
  ·rw [if_neg hlr]
   refine hc _ _ (a.lt k hk) (a.lt _ (by omega)) _ ?_
   cases ec:lt (p.getD k 0) (p.getD ((l+r) / 2) 0) with
   | true =>
    dsimp only;rw [if_pos rfl]
    refine vO a hk hu f l ((l+r) / 2) (by omega) (by omega) (by omega) h4 (fun i g1 g2=>?_) hq
    by_cases q:i=(l+r) / 2
    ·subst q;exact ec
    ·exact o.tr _ _ _ ec (hu _ _ (by omega) g2)
   | false =>
    dsimp only;rw [if_neg (by simp)]
    have h6:lt (p.getD ((l+r) / 2) 0) (p.getD k 0)=true:=by
     rcases o.tot _ _ (a.lt ((l+r) / 2) (by omega)) (a.lt k hk) (fun z=>by have:=a.inj _ _ (by omega) (by omega) z;omega) with q | q
     ·exact q
     ·rw [ec] at q;cases q
    refine vO a hk hu f ((l+r) / 2+1) r (by omega) (by omega) h3 (fun i g1=>?_) h5 hq
    by_cases q:i=(l+r) / 2
    ·subst q;exact h6
    ·exact o.tr _ _ _ (hu _ _ (by omega) (by omega)) h6
theorem aKh:∀(f k:Nat) (p:Array Nat) {Q:Array Nat->Shared->Prop},Arr n p->k+f=n->Up lt p k->(∀p',Arr n p'->Up lt p' n->Q p' s)->(kas_bin f p k).kasWp cmp Q s
 | 0,k,p,Q,a,e,hu,hq=>by
  have:k=n:=by omega
  subst this
  exact hq p a hu
 | f+1,k,p,Q,a,e,hu,hq=>by
  unfold kas_bin
  rw [KasT.kasWp_bind]
  refine vO o hc a (show k<n by omega) hu k 0 k (by omega) (by omega) (Nat.le_refl _) (fun i hi=>by omega) (fun i h1 h2=>by omega) fun l h1 h2 h3=>?_
  refine aKh f (k+1) _ (aKp a (by omega) h1) (by omega) (fun i j hij hj=>?_) hq
  rw [mT a.size (by omega) h1,mT a.size (by omega) h1]
  by_cases q1:i=l
  ·rw [if_pos q1,if_neg (by omega),if_pos (by omega)]
   exact h3 _ (by omega) (by omega)
  ·rw [if_neg q1]
   by_cases q2:l<i/\i<=k
   ·rw [if_pos q2,if_neg (by omega),if_pos (by omega)]
    exact hu _ _ (by omega) (by omega)
   ·rw [if_neg q2]
    by_cases q3:j=l
    ·rw [if_pos q3];exact h2 _ (by omega)
    ·rw [if_neg q3]
     by_cases q4:l<j/\j<=k
     ·rw [if_pos q4];exact hu _ _ (by omega) (by omega)
     ·rw [if_neg q4];exact hu _ _ (by omega) (by omega)
theorem aKy (hn:1<=n) {Q:Array Nat->Shared->Prop} (hq:∀p,Arr n p->Up lt p n->Q p s):(kas_sort n).kasWp cmp Q s:=by
 have a0:Arr n (List.toArray (List.range n)):=by
  have g:∀i,i<n->(List.toArray (List.range n)).getD i 0=i:=fun i hi=>by rw [getD_eq,List.getElem?_toArray,List.getElem?_range hi];rfl
  exact ⟨by simp,fun i hi=>by rw [g i hi];exact hi,fun i j hi hj e=>by rwa [g i hi,g j hj] at e⟩
 unfold kas_sort
 rw [KasT.kasWp_bind]
 refine aJg o hc a0 hn fun m p' a' h1 h2 hu=>?_
 dsimp only
 by_cases hm:m<n
 ·rw [if_pos hm,show max m 1=m by omega]
  exact aKh o hc (n - m) m p' a' (by omega) hu hq
 ·rw [if_neg hm]
  have:m=n:=by omega
  subst this
  exact hq p' a' hu
end
end ST
end
section
namespace ST
open PySem PySem.W PyProof.Rows
def ltL:Y0->Y0->Bool
 | [],[]=>false
 | [],_::_=>true
 | _::_,[]=>false
 | x::xs,y::ys=>if x=y then ltL xs ys else decide (x<y)
theorem ltL_irr:∀x,ltL x x=false
 | []=>rfl
 | x::xs=>by unfold ltL;rw [if_pos rfl];exact ltL_irr xs
theorem ltL_tr:∀x y z,ltL x y=true->ltL y z=true->ltL x z=true
 | [],[],z,h,_=>by cases h
 | [],_::_,[],_,h=>by cases h
 | [],_::_,_::_,_,_=>rfl
 | _::_,[],_,h,_=>by cases h
 | _::_,_::_,[],_,h=>by cases h
 | x::xs,y::ys,z::zs,h1,h2=>by
  unfold ltL at h1 h2 ⊢
  by_cases e1:x=y
  ·rw [if_pos e1] at h1
   subst e1
   by_cases e2:x=z
   ·rw [if_pos e2] at h2 ⊢;exact ltL_tr xs ys zs h1 h2
   ·rw [if_neg e2] at h2 ⊢;exact h2
  ·rw [if_neg e1] at h1
   have h1:=of_decide_eq_true h1
   by_cases e2:y=z
   ·subst e2;rw [if_neg e1];exact decide_eq_true h1
   ·rw [if_neg e2] at h2
    have h2:=of_decide_eq_true h2
    rw [if_neg (by omega)];exact decide_eq_true (by omega)
theorem ltL_tot:∀x y,x ≠ y->ltL x y=true\/ltL y x=true
 | [],[],h=>absurd rfl h
 | [],_::_,_=>.inl rfl
 | _::_,[],_=>.inr rfl
 | x::xs,y::ys,h=>by
  unfold ltL
  by_cases e:x=y
  ·subst e
   rw [if_pos rfl,if_pos rfl]
   exact ltL_tot xs ys fun z=>h (by rw [z])
  ·rw [if_neg e,if_neg (Ne.symm e)]
   rcases Int.lt_or_gt_of_ne e with q | q
   ·exact .inl (decide_eq_true q)
   ·exact .inr (decide_eq_true q)
section
variable {prog:Program} {w:World} {A:Around} {E:Y9} {s:Shared}
theorem aH4 {b:Bool} {Q:Bool->Shared->Prop}:∀ {x y:Y0} {xs ys:Y1} {fin:Bool} (i:Nat),ItemsAre (intKind prog w) x xs->ItemsAre (intKind prog w) y ys->fin=decide (x.length<y.length)->Q (ltL x y) s->KatLex prog w A b fin Q (xs.zip ys) i s
 | _,_,_,_,fin,i,.nil,.nil,hf,hq=>by
  have:fin=false:=by rw [hf];rfl
  subst this
  exact kat_nil hq
 | _,_,_,_,fin,i,.nil,.cons _ _,hf,hq=>by
  have:fin=true:=by rw [hf];simp
  subst this
  exact kat_nil hq
 | _,_,_,_,fin,i,.cons _ _,.nil,hf,hq=>by
  have:fin=false:=by rw [hf];simp
  subst this
  exact kat_nil hq
 | x::x',y::y',_,_,fin,i,.cons h1 hx,.cons h2 hy,hf,hq=>by
  refine kat_cons ((intKind prog w).eqBool h1 h2 ?_)
  unfold ltL at hq
  by_cases e:x=y
  ·rw [decide_eq_true e]
   rw [if_pos e] at hq
   have hf':fin=decide (x'.length<y'.length):=by
    rw [hf];simp only [List.length_cons,Nat.add_lt_add_iff_right]
   exact kat_yes (aH4 (i+1) hx hy hf' hq)
  ·rw [decide_eq_false e]
   rw [if_neg e] at hq
   obtain ⟨t,rfl⟩:=Value.isInt_shape h1
   obtain ⟨u,rfl⟩:=Value.isInt_shape h2
   refine kat_no ?_
   cases (b && i == 0) with
   | true=>exact oneLt_int hq
   | false=>exact kat_one _ _ (PyProof.Rows.lt_int (show W.BoolBack Q (.bool _) s from hq))
theorem aUm {b:Bool} {Q:Bool->Shared->Prop} {x y:Y0} {a c:Addr} (hx:IsTupleKey (intKind prog w) s.heap x a) (hy:IsTupleKey (intKind prog w) s.heap y c) (hq:Q (ltL x y) s):wpAny (model prog w) A (keyLt' (tuples' b) (.ref a) (.ref c)) Q E s:=by
 obtain ⟨ox,xs,n,hox,_,hdx,hix⟩:=hx
 obtain ⟨oy,ys,k,hoy,_,hdy,hiy⟩:=hy
 refine kat_lt hox hdx hoy hdy (aH4 0 hix hiy ?_ hq)
 have l1:=hix.length;have l2:=hiy.length
 simp at l1 l2
 rw [l1,l2]
end
end ST
end
section
namespace ST
open PySem PySem.W PyProof.Rows
section
variable {prog:Program} {w:World} {A:Around} {E:Y9} {s:Shared}
def refs (kas:Y7):Y1:=kas.map fun p=>Value.ref p.2
theorem uJ (kas:Y7) {i:Nat} (h:i<kas.length):(refs kas).getD i Value.none=Value.ref (kas[i].2):=by
 simp [refs,h]
theorem uU {h:Heap}:∀ {kas:Y7},(∀p∈kas,IsTupleKey (intKind prog w) h p.1 p.2)->(∀p∈kas,p.1 ≠ [])->∃fs,KatTups h (refs kas) fs/\fs.length=kas.length/\∀v∈fs,∃x t,v=.int x t
 | [],_,_=>⟨[],KatTups.nil,rfl,fun v hv=>by simp at hv⟩
 | p::kas,hk,hn=>by
  obtain ⟨fs,h1,h2,h3⟩:=uU (fun q hq=>hk q (List.mem_cons_of_mem _ hq)) fun q hq=>hn q (List.mem_cons_of_mem _ hq)
  obtain ⟨o,items,m,ho,hc,hd,hi⟩:=hk p List.mem_cons_self
  have hne:=hn p List.mem_cons_self
  obtain ⟨ks,ad⟩:=p
  cases hq:items.toList with
  | nil=>rw [hq] at hi;cases hi;exact absurd rfl hne
  | cons v vs =>
   rw [hq] at hi
   cases hi with
   | @cons k _ _ _ h4 _ =>
    obtain ⟨t,rfl⟩:=Value.isInt_shape h4
    refine ⟨.int k t::fs,KatTups.cons ho hc hd ?_ h1,by simp [h2],fun v hv=>?_⟩
    ·rw [<- Array.getElem?_toList,hq];rfl
    ·rcases List.mem_cons.mp hv with rfl | hv
     ·exact ⟨_,t,rfl⟩
     ·exact h3 v hv
theorem aBm {a:Addr} {kas:Y7} {n:Nat} {P:PySem.Fin->Shared->Prop} (ho:s.heap.get? a=some (seqObj "list" (refs kas).toArray n)) (hk:∀p∈kas,IsTupleKey (intKind prog w) s.heap p.1 p.2) (hne:∀p∈kas,p.1 ≠ []) (nd:(kas.map (·.1)).Nodup) (h64:kas.length<64)
  (h:∀kas':Y7,kas'.Perm kas->kas'.Pairwise (fun x y=>ltL x.1 y.1=true)->P (.done (.ret .none)) { s with heap:=sortedHeap s.heap a (refs kas) (refs kas').toArray }) :
  wpAny (model prog w) A (Builtin.«list.sort» ⟨[.ref a],[]⟩) P E s:=by
 rw [list_sort_plain]
 have ha:a<s.heap.objs.size:=Heap.lt_size ho
 have hl:(refs kas).length=kas.length:=by simp [refs]
 refine wpAny_bind (listItems_at ho rfl ?_)
 refine wpAny_bind (listUpdate_at ho rfl ?_ (by rw [List.size_toArray,sizeLine_eq,hl];omega) (Nat.zero_le _))
 obtain ⟨e1,ho1⟩:∃e1,(s.heap.update a (Obj.mapSeq fun _=>#[])).get? a=some (seqObj "list" #[] e1):=⟨_,get?_update_seq ho (fun _=>#[])⟩
 refine wpAny_bind (seqEpoch_at ho1 rfl ?_)
 refine wpAny_bind (wpAny_newTuple ?_ (by show (refs kas).length<=_;rw [sizeLine_eq,hl];omega))
 refine wpAny_bind (wpAny_newList ?_ (Nat.zero_le _))
 refine wpAny_holding ?_
 have ho6:(((s.heap.update a (Obj.mapSeq fun _=>#[])).push (seqObj "tuple" (refs kas).toArray 0)).push (seqObj "list" #[] 0)).get? a=some (seqObj "list" #[] e1) :=
  Heap.get?_push_of_some _ (Heap.get?_push_of_some _ ho1)
 have hk6:∀p∈kas,IsTupleKey (intKind prog w) (((s.heap.update a (Obj.mapSeq fun _=>#[])).push (seqObj "tuple" (refs kas).toArray 0)).push (seqObj "list" #[] 0)) p.1 p.2:=fun p hp=>by
  obtain ⟨o,items,m,h1,h2,h3,h4⟩:=hk p hp
  have hpa:p.2 ≠ a:=fun z=>by
   rw [z] at h1
   rw [ho] at h1
   cases h1
   exact absurd (show Value.type "list" = Value.type "tuple" from h2) (by decide)
  refine ⟨o,items,m,Heap.get?_push_of_some _ (Heap.get?_push_of_some _ ?_),h2,h3,h4⟩
  rw [Heap.get?_update_other _ _ (Ne.symm hpa)];exact h1
 show wpAny (model prog w) A _ P E { s with heap:=((s.heap.update a (Obj.mapSeq fun _=>#[])).push (seqObj "tuple" (refs kas).toArray 0)).push (seqObj "list" #[] 0) }
 dsimp only
 by_cases h2:(refs kas).toArray.size<2
 ·rw [if_pos h2,if_pos h2]
  refine wpAny_bind (wpAny_pure ?_)
  rw [StateT.run_pure]
  refine wpAny_bind (wpAny_pure ?_)
  dsimp only
  refine wpAny_bind (seqEpoch_at ho6 rfl ?_)
  have e0:((arrOf (SortSt.mk' general' ((refs kas).toArray.zip (refs kas).toArray) #[] 7 none)).map (·.2))=(refs kas).toArray:=by
   show ((refs kas).toArray.zip (refs kas).toArray).map (·.2)=_
   apply Array.toList_inj.mp
   simp
   exact List.map_snd_zip (Nat.le_refl _)
  refine wpAny_bind (listUpdate_at ho6 rfl ?_ (Nat.zero_le _) (hsz2:=by rw [e0,List.size_toArray,sizeLine_eq,hl];omega))
  rw [e0]
  simp only [bne_self_eq_false,Bool.false_eq_true,if_false]
  refine wpAny_pure (h kas (.refl _) ?_)
  rw [List.size_toArray,hl] at h2
  match kas,h2 with
  | [],_=>exact .nil
  | [x],_=>exact List.pairwise_singleton _ _
  | _::_::_,h2=>simp at h2;omega
 ·rw [if_neg h2,if_neg h2]
  rw [List.size_toArray,hl] at h2
  obtain ⟨fs,t1,t2,t3⟩:=uU hk6 hne
  refine wpAny_bind (kat_kind (T:=.type "int") t1 (by omega) (fun v hv=>?_) (by decide) ?_)
  ·obtain ⟨x,t,rfl⟩:=t3 v hv
   exact Looks.of_pure rfl
  ·have inj:∀i j (hi:i<kas.length) (hj:j<kas.length),kas[i].1=kas[j].1->i=j:=fun i j hi hj e=>by
    have:=(List.getElem_inj (xs:=kas.map (·.1)) (i:=i) (j:=j) (h₀:=by simpa using hi) (h₁:=by simpa using hj) nd).mp (by simpa using e)
    exact this
   have o:Ord kas.length (fun i j=>ltL ((kas[i]?.map (·.1)).getD []) ((kas[j]?.map (·.1)).getD [])):=by
    refine ⟨fun i=>ltL_irr _,fun i j k=>ltL_tr _ _ _,fun i j hi hj hij=>ltL_tot _ _ fun z=>hij (inj i j hi hj ?_)⟩
    simpa [hi,hj] using z
   refine wpAny_bind (wpAny_mono (kat_run (ks:=refs kas) (vs:=refs kas) (κ:=tuples' (Value.type "int" != Value.type "tuple")) (Q:=fun st' s'=>∃p:Array Nat,arrOf st'=p.map (kas_item ((refs kas).toArray.zip (refs kas).toArray))/\failedOf st'=none/\Arr kas.length p/\Up (fun i j=>ltL ((kas[i]?.map (·.1)).getD []) ((kas[j]?.map (·.1)).getD [])) p kas.length/\s'={ s with heap:=((s.heap.update a (Obj.mapSeq fun _=>#[])).push (seqObj "tuple" (refs kas).toArray 0)).push (seqObj "list" #[] 0) })
    (G:=fun p s'=>Arr kas.length p/\Up (fun i j=>ltL ((kas[i]?.map (·.1)).getD []) ((kas[j]?.map (·.1)).getD [])) p kas.length/\s'={ s with heap:=((s.heap.update a (Obj.mapSeq fun _=>#[])).push (seqObj "tuple" (refs kas).toArray 0)).push (seqObj "list" #[] 0) })
    rfl (by omega) (by omega) (fun p st' s' _ a2 a3 a4=>⟨p,a2,a3,a4⟩) ?_) ?_ fun _ _ e=>e)
   ·rw [hl]
    refine aKy o (fun i j hi hj C hC=>?_) (by omega) fun p a1 a2=>⟨a1,a2,rfl⟩
    unfold kas_ask
    rw [uJ kas hi,uJ kas hj]
    refine aUm (hk6 _ (List.getElem_mem hi)) (hk6 _ (List.getElem_mem hj)) ?_
    simpa [hi,hj] using hC
   ·rintro ⟨⟨⟩,st'⟩ s' ⟨p,har,hf,ar,up,rfl⟩
    dsimp only
    have hout:=kat_snds (ks:=refs kas) (vs:=refs kas) rfl har
    obtain ⟨kas',ek⟩:∃kas',kas'=p.toList.map fun i=>kas.getD i ([],0):=⟨_,rfl⟩
    have psz:p.toList.length=kas.length:=by rw [Array.length_toList,ar.size]
    have plt:∀i∈p.toList,i<kas.length:=fun i hi=>by
     obtain ⟨k,hk',e⟩:=List.mem_iff_getElem.mp hi
     have:=ar.lt k (by omega)
     rw [getD_eq,Array.getElem?_eq_getElem (by rw [ar.size];omega)] at this
     rw [<- e];simpa using this
    have pget:∀k (hk':k<kas.length),p.getD k 0=p.toList[k]'(by omega):=fun k hk'=>by
     rw [getD_eq,Array.getElem?_eq_getElem (by rw [ar.size];omega)];simp
    have er:(p.toList.map fun i=>(refs kas).getD i Value.none)=refs kas':=by
     rw [ek]
     show _=List.map (fun p:Y0×Addr=>Value.ref p.2) (List.map (fun i=>kas.getD i ([],0)) p.toList)
     rw [List.map_map]
     refine List.map_congr_left fun i hi=>?_
     have:=plt i hi
     rw [uJ kas this]
     simp [this]
    rw [er] at hout
    have hsz:(refs kas').length=kas.length:=by rw [<- er,List.length_map,psz]
    refine wpAny_bind (seqEpoch_at ho6 rfl ?_)
    refine wpAny_bind (listUpdate_at ho6 rfl ?_ (Nat.zero_le _) (hsz2:=by rw [hout,List.size_toArray,hsz,sizeLine_eq];omega))
    rw [hf,hout]
    simp only [bne_self_eq_false,Bool.false_eq_true,if_false]
    refine wpAny_pure (h kas' ?_ ?_)
    ·have pp:p.toList.Perm (List.range kas.length):=by
      refine (List.perm_ext_iff_of_nodup ?_ List.nodup_range).mpr fun k=>?_
      ·refine List.pairwise_iff_getElem.mpr fun i j hi hj hij z=>?_
       have:=ar.inj i j (by omega) (by omega) (by rw [pget i (by omega),pget j (by omega)];exact z)
       omega
      ·constructor
       ·intro hk';exact List.mem_range.mpr (plt k hk')
       ·intro hk'
        refine Classical.byContradiction fun z=>?_
        have nd2:p.toList.Nodup:=by
         refine List.pairwise_iff_getElem.mpr fun i j hi hj hij z=>?_
         have:=ar.inj i j (by omega) (by omega) (by rw [pget i (by omega),pget j (by omega)];exact z)
         omega
        have sub:(k::p.toList) ⊆ List.range kas.length:=fun y hy=>by
         rcases List.mem_cons.mp hy with rfl | hy
         ·exact hk'
         ·exact List.mem_range.mpr (plt y hy)
        have:=(List.nodup_cons.mpr ⟨z,nd2⟩).length_le_of_subset sub
        rw [List.length_cons,psz,List.length_range] at this
        omega
     have:=pp.map fun i=>kas.getD i ([],0)
     rw [<- ek] at this
     refine this.trans (List.Perm.of_eq ?_)
     refine List.ext_getElem (by simp) fun i h1 h2=>?_
     simp at h1
     simp [h1]
    ·rw [ek]
     refine List.pairwise_iff_getElem.mpr fun i j hi hj hij=>?_
     rw [List.length_map] at hi hj
     have u:=up i j hij (by omega)
     rw [pget i (by omega),pget j (by omega)] at u
     have l1:=plt _ (List.getElem_mem (l:=p.toList) (n:=i) hi)
     have l2:=plt _ (List.getElem_mem (l:=p.toList) (n:=j) hj)
     rw [List.getElem_map,List.getElem_map]
     have gd:∀k,k<kas.length->(kas.getD k ([],0)).1=((kas[k]?.map (·.1)).getD []):=fun k hk'=>by simp [hk']
     rw [gd _ l1,gd _ l2]
     exact u
end
end ST
end
section
namespace ST
open PySem PySem.W PyProof.Rows
section
variable {prog:Program} {w:World} {A:Around} {E:Y9} {s:Shared}
theorem sorted_set {S:Addr} {kas:Y7} {Q:Y9} (hh:A.handled=none) (hS:kB prog w s.heap S kas) (hne:∀p∈kas,p.1 ≠ [])
  (h:∀(kas':Y7) (D:Addr) (e:Nat) (h':Heap) (tk:Nat),kas'.Perm kas->kas'.Pairwise (fun x y=>ltL x.1 y.1=true)->h'.get? D=some (seqObj "list" (refs kas').toArray e)->s.heap.objs.size<=D->s.toks<=tk->(∀b o,s.heap.get? b=some o->h'.get? b=some o) ->
   Q (.ref D) { s with heap:=h',toks:=tk }):wpAny (model prog w) A (call (.builtin "sorted") [.ref S]) Q E s:=by
 have hlen:=hS.len
 refine Calls.call_function_entry kind_sorted plain_sorted entry_sorted (args_sorted1 _) ?_
 unfold Builtin.«sorted»
 refine wpAny_bind (m:=checkCount "sorted" 1 1 _) (wpAny_pure ?_)
 refine wpAny_bind (aAk (by simpa using hh) hS fun kas1 s1 pk hm hsz=>?_)
 have hk1:∀p∈kas1,IsTupleKey (intKind prog w) s1.heap p.1 p.2:=fun p hp=>iW (hS.keys p (pk.subset hp)) fun o e=>hm.heap _ o (by simp) e
 have hl1:kas1.length=kas.length:=pk.length_eq
 refine wpAny_bind (wpAny_newList ?_ (by show (refs kas1).length<=_;rw [sizeLine_eq];simp [refs];omega))
 have hoL:(s1.heap.push (seqObj "list" (refs kas1).toArray 0)).get? s1.heap.objs.size=some (seqObj "list" (refs kas1).toArray 0):=Heap.get?_push_size _ rfl
 refine wpAny_bind (wpAny_holding (wpAny_call_entry slot_list_sort ⟨_,hoL,rfl⟩ entry_list_sort ?body (args_list_sort _)))
 case body =>
  refine aBm (s:={ s1 with heap:=s1.heap.push (seqObj "list" (refs kas1).toArray 0) }) hoL (fun p hp=>iW (hk1 p hp) fun o e=>Heap.get?_push_of_some _ e) (fun p hp=>hne p (pk.subset hp)) ((pk.map (·.1)).nodup_iff.mpr hS.nd) (by omega) fun kas2 pk2 up2=>?_
  refine ⟨_,rfl,wpAny_pure ⟨_,rfl,?_⟩⟩
  obtain ⟨h1,g1,d1,t1,o1⟩:=s1
  have eg:g1=s.gens:=hm.gens
  have ed:d1=s.drawn:=hm.drawn
  have eo:o1=s.os:=hm.os
  subst eg;subst ed;subst eo
  have hlt:h1.objs.size<(h1.push (seqObj "list" (refs kas1).toArray 0)).objs.size:=by rw [size_push'];exact Nat.lt_succ_self _
  obtain ⟨e2,he2⟩:∃e2,(sortedHeap (h1.push (seqObj "list" (refs kas1).toArray 0)) h1.objs.size (refs kas1) (refs kas2).toArray).get? h1.objs.size=some (seqObj "list" (refs kas2).toArray e2):=by
   unfold sortedHeap
   obtain ⟨e1,ho1⟩:∃e1,((h1.push (seqObj "list" (refs kas1).toArray 0)).update h1.objs.size (Obj.mapSeq fun _=>#[])).get? h1.objs.size=some (seqObj "list" #[] e1):=⟨_,get?_update_seq hoL (fun _=>#[])⟩
   exact ⟨_,get?_update_seq (Heap.get?_push_of_some _ (Heap.get?_push_of_some _ ho1)) fun _=>(refs kas2).toArray⟩
  refine h kas2 h1.objs.size e2 _ t1 (pk2.trans pk) up2 he2 hsz hm.toks fun b o e=>?_
  have e':h1.get? b=some o:=hm.heap b o (by simp) e
  have hne':h1.objs.size ≠ b:=Ne.symm (Nat.ne_of_lt (Heap.lt_size e'))
  unfold sortedHeap
  rw [Heap.get?_update_other _ _ hne']
  refine Heap.get?_push_of_some _ (Heap.get?_push_of_some _ ?_)
  rw [Heap.get?_update_other _ _ hne']
  exact Heap.get?_push_of_some _ e'
end
end ST
end
section
namespace ST
open PySem PySem.SetTable
end ST
end
section
namespace SU
open ST
open PySem PySem.SetTable
section
variable {prog:Program} {w:World} {A:Around} {E:Y9} {s:Shared}
end
end SU
end
section
namespace SU
open ST
open PySem PySem.SetTable
namespace F
end F
section
variable {prog:Program} {w:World} {A:Around} {E:Y9} {s:Shared}
end
end SU
end
section
namespace SU
open ST
open PySem PySem.SetTable
section
variable {prog:Program} {w:World} {A:Around} {E:Y9} {s:Shared}
end
end SU
end
section
namespace SU
open PySem PySem.SetTable ST
section
variable {prog:Program} {w:World} {A:Around} {E:Y9} {s:Shared}
end
end SU
end
section
namespace SU
open PySem PySem.SetTable ST
section
variable {prog:Program} {w:World} {A:Around} {E:Y9} {s:Shared}
end
end SU
end
section
namespace SU
open PySem PySem.W PyProof.Rows ST
section
variable {prog:Program} {w:World} {A:Around} {E:Y9} {s:Shared}
end
end SU
end
section
namespace VL
open PySem L2
def lY:List D->Option (LI)
 | []=>some []
 | d::ds=>match d with
  | .tup es=>(match dR es,lY ds with | some k,some ks=>some (k::ks) | _,_=>none)
  | _=>none
def sG (k:Y0):LI->LI
 | []=>[k]
 | x::xs=>if ST.ltL k x=true then k::x::xs else if k=x then x::xs else x::sG k xs
def jB (ks:LI):LI:=ks.foldr sG []
def TI (k:Y0):D:=.tup (k.map .int)
def kSS:List (D×Bool)->R (D×Bool)
 | [(.lst _ ds,_)]=>(match lY ds with
  | some ks=>if decide (ks.length<=18) && ks.all (fun k=>!k.isEmpty) then .ok (.lst true ((jB ks).map TI),true) else .bad
  | none=>.bad)
 | _=>.bad
def aL9:D×Bool->D×Bool->R (D×Bool):=fun x y=>match x.1,y.1 with
 | .tup ds,.tup es=>(match dR ds,dR es with | some a,some b=>.ok (.bl (!ST.ltL b a),true) | _,_=>.bad)
 | _,_=>.bad
def aFj (d:D):Option D:=match d with | .lst true ds=>if D.bL ds && decide (ds.length<1000000) then some (.lst true ds.reverse) else none | _=>none
def aFk (i:Nat):aX:=fun ρ=>match (getD ρ i).bind aFj with | some d=>.next (putD ρ i d) | none=>.bad
end VL
end
section
namespace VL
open PySem PySem.Spec PyProof.Rows L2
abbrev UpL (xs:LI):Prop:=xs.Pairwise fun x y=>ST.ltL x y=true
theorem uO {k y:Y0}:∀ {xs:LI},y∈sG k xs ↔ y=k\/y∈xs
 | []=>by simp [sG]
 | x::xs=>by
  unfold sG
  by_cases h1:ST.ltL k x=true
  ·rw [if_pos h1];simp
  ·rw [if_neg h1]
   by_cases h2:k=x
   ·rw [if_pos h2];subst h2;simp
   ·rw [if_neg h2,List.mem_cons,uO (xs:=xs),List.mem_cons]
    constructor
    ·rintro (h | h | h)
     ·exact .inr (.inl h)
     ·exact .inl h
     ·exact .inr (.inr h)
    ·rintro (h | h | h)
     ·exact .inr (.inl h)
     ·exact .inl h
     ·exact .inr (.inr h)
theorem aEf {k:Y0}:∀ {xs:LI},UpL xs->UpL (sG k xs)
 | [],_=>by simp [sG]
 | x::xs,h=>by
  obtain ⟨h1,h2⟩:=List.pairwise_cons.mp h
  unfold sG
  by_cases q1:ST.ltL k x=true
  ·rw [if_pos q1]
   refine List.pairwise_cons.mpr ⟨fun y hy=>?_,h⟩
   rcases List.mem_cons.mp hy with rfl | hy
   ·exact q1
   ·exact ST.ltL_tr _ _ _ q1 (h1 y hy)
  ·rw [if_neg q1]
   by_cases q2:k=x
   ·rw [if_pos q2];exact h
   ·rw [if_neg q2]
    refine List.pairwise_cons.mpr ⟨fun y hy=>?_,aEf h2⟩
    rcases uO.mp hy with rfl | hy
    ·rcases ST.ltL_tot _ _ q2 with z | z
     ·exact absurd z q1
     ·exact z
    ·exact h1 y hy
theorem uB:∀ks:LI,UpL (jB ks)
 | []=>List.Pairwise.nil
 | k::ks=>aEf (uB ks)
theorem qL {y:Y0}:∀ {ks:LI},y∈jB ks ↔ y∈ks
 | []=>by simp [jB]
 | k::ks=>by
  show y∈sG k (jB ks) ↔ _
  rw [uO,qL (ks:=ks),List.mem_cons]
theorem aJw:∀ {xs ys:LI},UpL xs->UpL ys->(∀z,z∈xs ↔ z∈ys)->xs=ys
 | [],[],_,_,_=>rfl
 | [],y::ys,_,_,h=>by have:=(h y).mpr List.mem_cons_self;cases this
 | x::xs,[],_,_,h=>by have:=(h x).mp List.mem_cons_self;cases this
 | x::xs,y::ys,h1,h2,h=>by
  obtain ⟨p1,p2⟩:=List.pairwise_cons.mp h1
  obtain ⟨q1,q2⟩:=List.pairwise_cons.mp h2
  have e:x=y:=by
   rcases List.mem_cons.mp ((h x).mp List.mem_cons_self) with e | e
   ·exact e
   ·rcases List.mem_cons.mp ((h y).mpr List.mem_cons_self) with e' | e'
    ·exact e'.symm
    ·have:=ST.ltL_tr _ _ _ (p1 y e') (q1 x e)
     rw [ST.ltL_irr] at this;cases this
  subst e
  congr 1
  refine aJw p2 q2 fun z=>?_
  constructor
  ·intro hz
   rcases List.mem_cons.mp ((h z).mp (List.mem_cons_of_mem _ hz)) with e | e
   ·subst e;have:=p1 _ hz;rw [ST.ltL_irr] at this;cases this
   ·exact e
  ·intro hz
   rcases List.mem_cons.mp ((h z).mpr (List.mem_cons_of_mem _ hz)) with e | e
   ·subst e;have:=q1 _ hz;rw [ST.ltL_irr] at this;cases this
   ·exact e
section
variable {X:Cx} {W:XW} {e:Expr} {pos:Pos}
def vU (rs:Y7):List V:=rs.map fun p=>V.ref p.2
def rSS (K:FG):List V->Hp->VK->Prop:=fun vs H Q=>∃l rs,vs=[.ref l]/\SqL K H l (vU rs)/\(∀p∈rs,SqT K H p.2 (p.1.map V.int))/\rs.length<=18/\(∀p∈rs,p.1 ≠ []) /\
 ∀p rs',H p=none->rs'.map (·.1)=jB (rs.map (·.1))->(∀q∈rs',q∈rs)->Q (.ref p) (upd H p (.lst (vU rs')))
theorem aBz {prog:Program} {w:World}:∀ {ns:Y0} {us:Y1},Vals (ns.map V.int) us->ItemsAre (intKind prog w) ns us
 | [],us,r=>by rw [List.map_nil] at r;cases r;exact .nil
 | n::ns,us,r=>by
  rw [List.map_cons] at r
  cases r with
  | cons h t =>
   obtain ⟨t',rfl⟩:=h
   exact .cons (by simp [intKind,Value.isInt]) (aBz t)
theorem xD:∀ {rs:Y7} {us:Y1},Vals (vU rs) us->us=ST.refs rs
 | [],us,r=>by cases r;rfl
 | p::rs,us,r=>by
  have r:Vals (V.ref p.2::vU rs) us:=r
  cases r with
  | cons h t=>rw [xD t];cases h;rfl
theorem xG:∀ {rs:Y7},Vals (vU rs) (ST.refs rs)
 | []=>.nil
 | p::rs=>.cons rfl xG
theorem aB7 {k:Nat} {t:TA} {p p2 pos2:Pos} (hr:Room k X.A) (hc:X.calm=true) (hm1:X.mg "sorted" = none) (hm2:X.mg "set" = none) (ha:PA X [e] t) (hg1:Gl X "sorted" :=by rfl) (hg2:Gl X "set" :=by rfl)
  (hs1:starEach [.Call (.Name "set" p2) [e] [] pos2] X.env=(false,eval (.Call (.Name "set" p2) [e] [] pos2) X.env)::starEach [] X.env:=by rfl)
  (hs2:starEach [e] X.env=(false,eval e X.env)::starEach [] X.env:=by rfl) (hpl1:(backTo pos (starEach [] X.env)).any (·.1)=false:=by rfl) (hpl2:(backTo pos2 (starEach [] X.env)).any (·.1)=false:=by rfl)
  (hb0:backTo pos (starEach [] X.env)=[]:=by rfl)
  (hv1:bootBuiltins "sorted" = some (.builtin "sorted"):=by decide +kernel) (hv2:bootBuiltins "set" = some (.type "set"):=by decide +kernel) :
  PE X (.Call (.Name "sorted" p) [.Call (.Name "set" p2) [e] [] pos2] [] pos) (tCB (rSS X.K) t):=by
 intro pins s σ H Q I h
 refine wpAny_Call_Name_kw (mU I hg1 hm1 hv1 ?_ (by decide) (by decide))
 refine PyProof.Rows.callWith_builtin1 ?_ hs1 hpl1
 rw [hs1]
 show wpAny _ _ (spliced ((false,eval (.Call (.Name "set" p2) [e] [] pos2) X.env)::backTo pos (starEach [] X.env))) _ _ s
 refine Calls.spliced_cons ?_
 refine wpAny_Call_Name_kw (mU I hg2 hm2 hv2 ?_ (by decide) (by decide))
 refine PyProof.Rows.callWith_type1 (thn (ha pos2 pins s σ H _ I h) fun us s1 ⟨vs,H1,I1,r1,q1⟩=>?_) hs2 hpl2
 obtain ⟨l,rs,rfl,hl,ht,hlen,hne,q⟩:=q1
 obtain ⟨u,rfl,ru⟩:=vals1 r1
 cases ru
 obtain ⟨its,rv,pl,hz⟩:=I1.list hl
 have eits:=xD rv
 subst eits
 have hkey:∀p∈rs,IsTupleKey (intKind X.prog X.w) s1.heap p.1 p.2:=fun p hp=>by
  obtain ⟨its,r,⟨o,ho,hc,n,hd⟩,_⟩:=I1.tuple (ht p hp)
  exact ⟨o,_,n,ho,hc,hd,aBz (by simpa using r)⟩
 have hsz:(ST.refs rs).toArray.size=rs.length:=by simp [ST.refs]
 refine ST.call_setT (key:=fun i=>((rs[i]?).getD ([],0)).1) (adr:=fun i=>((rs[i]?).getD ([],0)).2) (I1.ok.hd hc) (fun B hB=>by have:=hr.un;omega) pl.isList (fun i v e=>?_) (fun i hi=>?_) (by rw [hsz];exact hlen) fun h' tk kas hS hD keep=>?_
 ·simp [ST.refs] at e
  obtain ⟨a,b,e1,e2⟩:=e
  rw [e1,<- e2];rfl
 ·rw [hsz] at hi
  rw [List.getElem?_eq_getElem hi]
  exact hkey _ (List.getElem_mem hi)
 ·rw [hsz] at hD
  rw [hb0]
  refine Calls.spliced_nil ?_
  have hin:∀p∈kas,p∈rs:=fun p hp=>by
   obtain ⟨i,hi,e⟩:=hD.2.1 p hp
   dsimp only at e
   rw [List.getElem?_eq_getElem hi] at e
   rw [e];exact List.getElem_mem hi
  refine ST.sorted_set (s:={ s1 with heap:=h',toks:=tk }) (I1.ok.hd hc) hS (fun p hp=>hne p (hin p hp)) fun kas' D ep h2 tk2 hp hu hD2 hsz2 _ keep2=>?_
  obtain ⟨oS,_,_,_,hoS,_⟩:=hS
  have hlt:s1.heap.objs.size<=D:=Nat.le_trans (Nat.le_of_lt (Heap.lt_size hoS)) hsz2
  have k2:∀b u,s1.heap.get? b=some u->h2.get? b=some u:=fun b u e=>keep2 b u (keep b u (Heap.lt_size e) e)
  refine ⟨.ref D,upd H1 D (.lst (vU kas')),I1.laid (t':=tk2) (o:=.lst (vU kas')) k2 hlt ?_,rfl,q D kas' (I1.hok.fresh hlt) ?_ fun p hp'=>hin p (hp.mem_iff.mp hp')⟩
  ·refine ⟨?_,ST.refs kas',ep,xG,hD2⟩
   have e1:=hp.length_eq
   have e2:=hD.2.2
   refine gX ?_
   simp [vU];omega
  ·refine aJw ?_ (uB _) fun z=>?_
   ·exact List.pairwise_map.mpr hu
   ·rw [qL,(hp.map (·.1)).mem_iff,hD.1 z]
    constructor
    ·rintro ⟨i,hi,e⟩
     dsimp only at e
     rw [List.getElem?_eq_getElem hi] at e
     rw [<- e];exact List.mem_map_of_mem (List.getElem_mem hi)
    ·intro hz'
     obtain ⟨p,hp',e⟩:=List.mem_map.mp hz'
     obtain ⟨i,hi,e'⟩:=List.getElem_of_mem hp'
     exact ⟨i,hi,by dsimp only;rw [List.getElem?_eq_getElem hi];show rs[i].1=z;rw [e',e]⟩
theorem xV {K:FG} {F H:Hp} (hs:bD F H):∀(ds:List D) {ks:LI} {xs:List V} {fp:Y2},lY ds=some ks->aH K F H ds xs fp->∃rs:Y7,rs.map (·.1)=ks/\xs=vU rs/\∀p∈rs,Own K F H (TI p.1) (.ref p.2) []
 | [],ks,xs,fp,e,o=>by
  unfold lY at e;cases e
  unfold aH at o
  exact ⟨[],rfl,o.1,fun p hp=>by cases hp⟩
 | d::ds,ks,xs,fp,e,o=>by
  unfold lY at e
  cases d<;>try cases e
  rename_i es
  dsimp only at e
  cases q1:dR es with
  | none=>rw [q1] at e;cases e
  | some k =>
   cases q2:lY ds with
   | none=>rw [q1,q2] at e;cases e
   | some ks' =>
    rw [q1,q2] at e
    have e:some (k::ks')=some ks:=e
    cases e
    unfold aH at o
    obtain ⟨v,r,f1,f2,e1,o1,o2,e2⟩:=o
    obtain ⟨rs,h1,h2,h3⟩:=xV hs ds q2 o2
    unfold Own at o1
    obtain ⟨_,a,ys,ev,hq,ho⟩:=o1
    have ey:=gA es q1 ho
    refine ⟨(k,a)::rs,by rw [List.map_cons,h1],by rw [e1,h2,ev];rfl,fun p hp=>?_⟩
    rcases List.mem_cons.mp hp with rfl | hp
    ·unfold TI Own
     exact ⟨rfl,a,ys,rfl,hq,by rw [ey];exact uN k⟩
    ·exact h3 p hp
theorem aBt:∀ns:Y0,dR (ns.map D.int)=some ns
 | []=>rfl
 | n::ns=>by
  show (dR (ns.map D.int)).map (n::·)=_
  rw [aBt ns];rfl
theorem aD4 {K:FG} {F H:Hp}:∀(rs:Y7),(∀p∈rs,Own K F H (TI p.1) (.ref p.2) [])->aH K F H ((rs.map (·.1)).map TI) (vU rs) []
 | [],_=>aH.nil
 | p::rs,h=>aH.cons (h p List.mem_cons_self) (aD4 rs fun q hq=>h q (List.mem_cons_of_mem _ hq))
theorem aQn {K:FG}:OpA K kSS (rSS K):=by
 intro F0 H0 F H xs vs fa Q gr a n k h
 match xs,h,a with
 | [(.lst o ds,b)],h,a =>
  unfold Args at a
  obtain ⟨v,r,fp,f2,e,o1,n1,t,w⟩:=a
  unfold Args at t
  obtain ⟨p,ys,fq,e1,q1,r1,_⟩:=Own.lst gr.inn o1
  have h:(match lY ds with | some ks=>(if (decide (ks.length<=18) && ks.all (fun k=>!k.isEmpty))=true then R.ok (D.lst true ((jB ks).map TI),true) else .bad) | none=>.bad).holds (EPost K F0 H0 Q):=h
  cases qt:lY ds with
  | none=>rw [qt] at h;exact h.elim
  | some ks =>
   rw [qt] at h
   dsimp only at h
   by_cases hc:(decide (ks.length<=18) && ks.all (fun k=>!k.isEmpty))=true
   ·rw [if_pos hc] at h
    rw [Bool.and_eq_true,decide_eq_true_iff] at hc
    obtain ⟨rs,h1,h2,h3⟩:=xV gr.inn ds qt r1
    subst h1
    rw [List.length_map] at hc
    refine ⟨p,rs,by rw [e,t.1,e1],h2 ▸ q1,fun p hp=>?_,hc.1,fun p hp z=>?_,fun q rs' hq e1 e2=>?_⟩
    ·have:=h3 p hp
     unfold TI Own at this
     obtain ⟨_,a,xs,ea,sq,ow⟩:=this
     cases ea
     have ow':=gA (p.1.map D.int) (ns:=p.1) (aBt p.1) ow
     rw [<- ow']
     exact bD.wL gr.inn sq
    ·have:=List.all_eq_true.mp hc.2 p.1 (List.mem_map_of_mem hp)
     rw [z] at this;cases this
    ·rw [<- e1] at h
     exact EPost.aG0 gr h hq (aD4 rs' fun p hp=>h3 p (e2 p hp))
   ·rw [if_neg hc] at h;exact h.elim
 | [],h,a=>exact h.elim
 | [(.non,_)],h,a=>exact h.elim
 | [(.bl _,_)],h,a=>exact h.elim
 | [(.int _,_)],h,a=>exact h.elim
 | [(.str _,_)],h,a=>exact h.elim
 | [(.tup _,_)],h,a=>exact h.elim
 | [(.ext _ _,_)],h,a=>exact h.elim
 | (x,bx)::y::ys,h,a=>cases x<;>exact h.elim
theorem aDd {k:Nat} {f:aQ} {p p2 pos2:Pos} (hr:Room k X.A) (hc:X.calm=true) (hm1:X.mg "sorted" = none) (hm2:X.mg "set" = none) (ha:SE X e f) (hg1:Gl X "sorted" :=by rfl) (hg2:Gl X "set" :=by rfl)
  (hs1:starEach [.Call (.Name "set" p2) [e] [] pos2] X.env=(false,eval (.Call (.Name "set" p2) [e] [] pos2) X.env)::starEach [] X.env:=by rfl)
  (hs2:starEach [e] X.env=(false,eval e X.env)::starEach [] X.env:=by rfl) (hpl1:(backTo pos (starEach [] X.env)).any (·.1)=false:=by rfl) (hpl2:(backTo pos2 (starEach [] X.env)).any (·.1)=false:=by rfl)
  (hb0:backTo pos (starEach [] X.env)=[]:=by rfl)
  (hv1:bootBuiltins "sorted" = some (.builtin "sorted"):=by decide +kernel) (hv2:bootBuiltins "set" = some (.type "set"):=by decide +kernel) :
  SE X (.Call (.Name "sorted" p) [.Call (.Name "set" p2) [e] [] pos2] [] pos) (vCB kSS (aE f aN)) :=
 L2.PE.imp (aB7 hr hc hm1 hm2 (aC ha aJ hs2) hg1 hg2 hs1 hs2 hpl1 hpl2 hb0 hv1 hv2) fun _ _ _ h=>aJa aQn h
end
end VL
end
section
namespace HT
open PySem PyProof.Rows
section
open PySem.SeqAt
open PySem.AutoSeq1 (wpAny_loadPart')
open PySem.MeetsSeq PySem.MeetsSeq2 PySem.MeetsSeq3
def lexLe (a b:Y0):Bool:=!ST.ltL b a
theorem aDn (x y:Int) (xs ys:Y0):lexLe (x::xs) (y::ys)=if x=y then lexLe xs ys else decide (x<=y):=by
 unfold lexLe;rw [ST.ltL]
 by_cases h:x=y
 ·rw [if_pos h,if_pos h.symm]
 ·rw [if_neg h,if_neg (Ne.symm h)]
  by_cases h2:x<=y
  ·rw [decide_eq_true h2,decide_eq_false (show ¬ y<x by omega)];rfl
  ·rw [decide_eq_false h2,decide_eq_true (show y<x by omega)];rfl
theorem aIk (A:Around) (s:Shared) (a:Int) (t:Tok) (c:Int) (u:Tok) (prog:Program) (w:World) (E:Y9) (Q:Y9) (h:Q (.bool (decide (a<=c))) s) :
  wpAny (model prog w) A (richCompare .LtE (.int a t) (.int c u)) Q E s :=
 (PyProof.Rows.le_int h:wpAny (model prog w) A (compareOp .LtE (.int a t) (.int c u)) Q E s)
theorem wF (l b:Addr) (items items2:Array Value) (n n2:Nat) (dd dd2:Option Addr) (sl sl2:Array (Option Value)) (ns ms:Y0) (hi:IntsAre items.toList ns) (hj:IntsAre items2.toList ms) :
  Meets (Builtin.«tuple.__le__» ⟨[.ref l,.ref b],[]⟩)
   (fun _ R s=>s.heap.get? l=some { cls:=.type "tuple",dict:=dd,data:=.seq items n,slots:=sl }/\s.heap.get? b=some { cls:=.type "tuple",dict:=dd2,data:=.seq items2 n2,slots:=sl2 } /\
    R (.ok (.ret (.bool (lexLe ns ms)))) s) :=
 .of_wp fun prog w A R s h=>by
  obtain ⟨hp,g,d,tk,os⟩:=s;obtain ⟨hl,hb,h⟩:=h
  have f2:=AutoSeq1.sub_tuple_tuple
  have z1:items.size=ns.length:=by rw [<- hi.length];simp
  have z2:items2.size=ms.length:=by rw [<- hj.length];simp
  wp_walk using wpAny_loadPart' hl,wpAny_loadPart' hb,wpAny_forIn_list _ (fun rest b s'=>b.1=none/\s'=⟨hp,g,d,tk,os⟩/\∃(vs ws:Y1) (ns' ms':Y0),rest=vs.zip ws /\
   IntsAre vs ns'/\IntsAre ws ms'/\ns'.length+items2.size=ms'.length+items.size/\R (.ok (.ret (.bool (lexLe ns' ms')))) ⟨hp,g,d,tk,os⟩) _
  case turn =>
   rintro ⟨y,x⟩ rest b s' ⟨hb',rfl,vs,ws,ns',ms',hz,hvi,hwi,hlen,hR⟩
   cases hvi with
   | nil=>rw [List.zip_nil_left] at hz;cases hz
   | cons a t hvi' =>
    cases hwi with
    | nil=>rw [List.zip_nil_right] at hz;cases hz
    | cons c u hwi' =>
     rw [List.zip_cons_cons] at hz
     injection hz with hyx hrest
     injection hyx with hy hx
     subst hy hx
     rw [aDn] at hR
     simp only [List.length_cons] at hlen
     obtain ⟨e,he,hiff⟩:=aG8 A.in1 ⟨hp,g,d,tk,os⟩ a t c u
     refine wpAny_bind (he prog w _ _ ?_)
     cases e with
     | true =>
      rw [if_pos (hiff.mp rfl)] at hR
      wp_walk
      exact ⟨rfl,rfl,_,_,_,_,hrest,hvi',hwi',by omega,hR⟩
     | false =>
      rw [if_neg (fun q=>absurd (hiff.mpr q) Bool.false_ne_true)] at hR
      have hri:=aIk A.in1 ⟨hp,g,d,tk,os⟩ a t c u prog w
      wp_walk using hri
      exact ⟨_,rfl,by simpa using hR⟩
  case fin =>
   rintro ⟨b1,b2⟩ s' ⟨hb',rfl,vs,ws,ns',ms',hz,hvi,hwi,hlen,hR⟩
   simp only at hb'
   subst hb'
   have hv:lexLe ns' ms'=decide (items.size<=items2.size):=by
    cases hvi with
    | nil =>
     cases hwi with
     | nil =>
      simp only [List.length_nil] at hlen
      exact (decide_eq_true (by omega)).symm
     | cons c u hw =>
      simp only [List.length_nil,List.length_cons] at hlen
      exact (decide_eq_true (by omega)).symm
    | cons a t hv =>
     cases hwi with
     | nil =>
      simp only [List.length_nil,List.length_cons] at hlen
      exact (decide_eq_false (by omega)).symm
     | cons c u hw =>
      rw [List.zip_cons_cons] at hz
      cases hz
   rw [hv] at hR
   wp_walk
   exact ⟨_,rfl,by simpa [Builtin.Tuple.tupleCompareSizes] using hR⟩
  case h =>
   exact ⟨rfl,rfl,items.toList,items2.toList,ns,ms,rfl,hi,hj,by omega,h⟩
end
section
variable {prog:Program} {w:World} {A:Around} {E:Y9} {s:Shared}
theorem le_tupInts {l b:Addr} {items items2:Array Value} {ns ms:Y0} {Q:Y9} (hl:IsTup s.heap l items) (hb:IsTup s.heap b items2) (hi:IntsAre items.toList ns) (hj:IntsAre items2.toList ms)
  (hu:A.units<cLine) (h:Q (.bool (lexLe ns ms)) s):wpAny (model prog w) A (compareOp .LtE (.ref l) (.ref b)) Q E s:=by
 obtain ⟨⟨cls,dd,data,sl⟩,ho,hc,n,hd⟩:=id hl
 obtain ⟨⟨cls2,dd2,data2,sl2⟩,ho2,hc2,n2,hd2⟩:=id hb
 simp only at hc hd hc2 hd2
 subst hc hd hc2 hd2
 exact richCompare_meets_room (op:=.LtE) ⟨_,ho,rfl⟩ ⟨_,ho2,rfl⟩ PySem.F.slot_tuple_le PySem.F.entry_tuple_le (PySem.F.args_tuple_le_2 _ _) (wF l b items items2 n n2 dd dd2 sl sl2 ns ms hi hj)
  ⟨ho,ho2,show Value.bool (lexLe ns ms) ≠ Value.notImplemented/\Q (.bool (lexLe ns ms)) s from ⟨(fun x=>nomatch x),h⟩⟩ hu
end
end HT
namespace VL
open PySem PySem.Spec PyProof.Rows L2
section
variable {X:Cx} {W:XW} {a b e:Expr} {pos:Pos}
def aT5 (K:FG):R2:=fun x y H Q=>∃a b ns ms,x=.ref a/\y=.ref b/\SqT K H a (ns.map V.int)/\SqT K H b (ms.map V.int)/\Q (.bl (HT.lexLe ns ms)) H
theorem aRa (hu:X.A.units<cLine):OpR X (compareOp .LtE) (aT5 X.K):=by
 intro pins s σ H x y v u Q I rx ry h
 obtain ⟨a,b,ns,ms,rfl,rfl,ha,hb,q⟩:=h
 cases rx
 cases ry
 obtain ⟨its,r1,p1,_⟩:=I.tuple ha
 obtain ⟨its2,r2,p2,_⟩:=I.tuple hb
 have i1:IntsAre its.toArray.toList ns:=intsAre_of r1
 have i2:IntsAre its2.toArray.toList ms:=intsAre_of r2
 exact HT.le_tupInts p1 p2 i1 i2 hu ⟨.bl (HT.lexLe ns ms),H,I,rfl,q⟩
theorem aKr {K:FG}:Op2 K aL9 (aT5 K):=by
 intro F0 H0 F H x y v u fx fy Q gr o1 n1 k1 o2 n2 k2 h
 obtain ⟨x,bx⟩:=x
 obtain ⟨y,by'⟩:=y
 cases x<;>try exact h.elim
 cases y<;>try exact h.elim
 rename_i ds es
 have h:(match dR ds,dR es with | some a,some b=>R.ok (D.bl (!ST.ltL b a),true) | _,_=>.bad).holds (EPost K F0 H0 Q):=h
 cases q1:dR ds with
 | none=>rw [q1] at h;exact h.elim
 | some a =>
  cases q2:dR es with
  | none=>rw [q1,q2] at h;exact h.elim
  | some b =>
   rw [q1,q2] at h
   obtain ⟨p1,xs,e1,s1,r1,_⟩:=Own.tup gr.inn o1
   obtain ⟨p2,ys,e2,s2,r2,_⟩:=Own.tup gr.inn o2
   rw [gA ds q1 r1] at s1
   rw [gA es q2 r2] at s2
   exact ⟨p1,p2,a,b,e1,e2,s1,s2,EPost.eL gr h rfl⟩
theorem aRh {k:Nat} {f g:aQ} (hr:Room k X.A) (ha:SE X a f) (hb:SE X b g):ST X (.Compare a [.LtE] [b] pos) (aZ (v2 aL9 f g)):=kR (aRa (by have:=hr.un;omega)) aKr ha hb (gC _)
theorem aPl:PA X [] (oK []):=fun _ _ _ _ H Q I h=>Calls.spliced_nil ⟨[],H,I,.nil,h⟩
theorem aBo (i:Nat) {x:Str} {p:Pos} {es:List Expr} {is:T0} (hr:PA X es (oK is)) (hN:X.N[i]?=some x:=by rfl) (hv:Vis X.env.scope x:=by first | exact Or.inl rfl | exact Or.inr (Or.inl rfl) | exact Or.inr (Or.inr rfl)) (hd:(x == ("__debug__" : Str))=false:=by decide)
  (hcd:(x == ("__classdict__" : Str))=false:=by decide) (hs:starEach (.Name x p::es) X.env=(false,eval (.Name x p) X.env)::starEach es X.env:=by rfl):PA X (.Name x p::es) (oK (i::is)):=by
 have:=iC (mL (pos:=p) hN hv hd hcd) hr hs
 intro pos pins s σ H Q I h
 exact this pos pins s σ H Q I h
theorem aH5 {k n:Nat} {x:Str} {fn:Fn} {is:T0} {p:Pos} {es:List Expr} (F:Kn X.prog X.w X.K X.mg X.base k x n fn) (hr:Room k X.A) (ha:PA X (e::es) (oK is)) (hn:is.length=n) (hg:Gl X x:=by rfl) (hdb:(x == ("__debug__" : Str))=false:=by decide)
  (he:starEach (e::es) X.env=(false,eval e X.env)::starEach es X.env:=by rfl) (hpl:(backTo pos (starEach es X.env)).any (·.1)=false:=by rfl):SX X W (.Call (.Name x p) (e::es) [] pos) (oN fn is):=by
 obtain ⟨f,fd,ps,F,hm,hk,hb⟩:=F.ex
 exact (aDs F hr hg hm hk hb .nil (fun _ _ _ _ _ _ _ h=>by obtain ⟨_,_,_,_,_,_,_,_,_,_,_,_,_,z⟩:=h;exact z.elim) ha hdb he hpl).imp fun _ _ _ h=>aHu hn h
theorem aA2 (i:Nat) {x:Str} {f g:aQ} {p sp ap cp pos':Pos} (hi:SE X b g) (he:SE X e f) (hN:X.N[i]?=some x:=by rfl) (hv:Vis X.env.scope x:=by first | exact Or.inl rfl | exact Or.inr (Or.inl rfl) | exact Or.inr (Or.inr rfl)) (hd:(x == ("__debug__" : Str))=false:=by decide)
  (hcd:(x == ("__classdict__" : Str))=false:=by decide) (hix:yP b:=by intro _ _;rfl) (hs:swapsWith (.Call (.Attribute (.Subscript (.Name x p) b sp) "append" ap) [e] [] cp) none pos'.line X.env=pure false:=by rfl)
  (hbase:attributeBase (.Subscript (.Name x p) b sp) "append" X.env (eval (.Subscript (.Name x p) b sp) X.env)=eval (.Subscript (.Name x p) b sp) X.env:=by rfl)
  (hfew:((backTo cp (starEach [e] X.env)).all (fun x=>!x.1) && (backToKw cp (keywordEach [] X.env)).all (fun x=>x.1.isSome)
   && decide (([e]:List Expr).length+([]:List Keyword).length+(if ([]:List Keyword).isEmpty then 0 else 1)<30))=true:=by rfl)
  (hline:(ap.endLine == cp.line)=true:=by rfl) (hst:starEach [e] X.env=(false,eval e X.env)::starEach [] X.env:=by rfl) (hplain:(backTo cp (starEach [] X.env)).any (·.1)=false:=by rfl) :
  SS X W (.Expr (.Call (.Attribute (.Subscript (.Name x p) b sp) "append" ap) [e] [] cp) pos') (iF i g f) :=
 (sR (aN2 PySem.F.plainAttrs_list PySem.F.slot_list_append PySem.F.type_list_append qK (aNf aEe (mL hN hv hd hcd) hi hix) (iC he qP hst) hbase hfew hline hst hplain) hs).imp fun _ _ _ h=>aBu h
theorem aIa {K:FG} {F H:Hp} {ds:List D} {xs:List V} (h:aH K F H ds xs []):aH K F H ds.reverse xs.reverse []:=by
 have hl:=aH.length ds h
 refine aH.of_get _ (by simpa using hl) fun i d v e1 e2=>?_
 have hi:i<ds.length:=by simpa using (List.getElem?_eq_some_iff.mp e1).1
 rw [List.getElem?_reverse hi] at e1
 rw [List.getElem?_reverse (by omega)] at e2
 rw [<- hl] at e2
 exact aH.aR3 h e1 e2
theorem aQe {K:FG} {σ:L2.St} {H:Hp} {D':Ends} {i:Nat} (h:sv K W (aFk i) D' σ H):aBa (aUl K "list" aBp (yK i)) D' σ H:=by
 obtain ⟨ρ,F,fps,S,h⟩:=h
 unfold aFk at h
 cases eg:getD ρ i with
 | none=>rw [eg] at h;exact h.elim
 | some d0 =>
  rw [eg] at h
  have h:cT K W F H fps.flatten ρ σ D' (match aFj d0 with | some d=>.next (putD ρ i d) | none=>.bad):=h
  cases ek:aFj d0 with
  | none=>rw [ek] at h;exact h.elim
  | some d1 =>
   rw [ek] at h
   unfold aFj at ek
   split at ek<;>try cases ek
   rename_i ds
   by_cases hc:(D.bL ds && decide (ds.length<1000000))=true
   ·rw [if_pos hc] at ek;cases ek
    rw [Bool.and_eq_true,decide_eq_true_iff] at hc
    obtain ⟨v,fp,h1,h2,h3⟩:=S.get eg
    obtain ⟨a,xs,fq,ev,r,w1,w2,w3⟩:=Own.opened h3
    subst ev;subst w3
    have nfp:=S.sub h2
    have:=aH.eD ds hc.1 r
    subst this
    refine ⟨.ref a,h1,.inl ⟨rfl,xs,SqL.of w2⟩,a,xs,rfl,rfl,w2,?_⟩
    refine eE.mut (fu:=[]) h S (Grow.refl S.same) (fun b hb=>by cases hb) eg h1 h2 List.mem_cons_self (Own.closed (aIa (r.other (by simp))) w1 bU) (by simp) fun b hb=>.inl hb
   ·rw [if_neg hc] at ek;cases ek
theorem aPi (i:Nat) {x:Str} {p ap cp pos':Pos} (hN:X.N[i]?=some x:=by rfl) (hv:Vis X.env.scope x:=by first | exact Or.inl rfl | exact Or.inr (Or.inl rfl) | exact Or.inr (Or.inr rfl)) (hd:(x == ("__debug__" : Str))=false:=by decide)
  (hcd:(x == ("__classdict__" : Str))=false:=by decide) (hs:swapsWith (.Call (.Attribute (.Name x p) "reverse" ap) [] [] cp) none pos'.line X.env=pure false:=by rfl)
  (hbase:attributeBase (.Name x p) "reverse" X.env (eval (.Name x p) X.env)=eval (.Name x p) X.env:=by rfl) (hline:(ap.endLine == cp.line)=true:=by rfl) :
  SS X W (.Expr (.Call (.Attribute (.Name x p) "reverse" ap) [] [] cp) pos') (aFk i) :=
 (sR (aQu PySem.F.plainAttrs_list PySem.F.slot_list_reverse PySem.F.type_list_reverse aCr (mL hN hv hd hcd) hbase hline) hs).imp fun _ _ _ h=>aQe h
end
end VL
end
section
namespace VL
open PySem PySem.Spec PyProof.Rows L2
section
variable {X:Cx} {W:XW} {e:Expr} {pos:Pos}
end
end VL
end
section
namespace VL.PY
open VL PySem
def fuel:Nat:=1000
def vJ:aX:=(bX (xOf (oW (v1 (jU "int") (aB 0)) (v1 aIc (v1 (jU "bool") (aB 0))))))
def iZ:Fn:=fnOf 1 vJ
def oV:aX:=(bX (xOf (oW (bB iZ (aE (aB 0) aN)) (yV (fun i j=>decide (i<=j)) (fun i j=>decide (i<=j)) (aB 1) (aB 0) (aB 2)))))
def bZ:Fn:=fnOf 3 oV
def xE:aX:=(aS (sIf (gP (cW (dC (v1 (jU "tuple") (aB 1)))) (aZ (v2 (kEq true) (vCB dN (aE (aB 1) aN)) (vC (.int 4))))) (bX (xOf (vC (.bl false)))) bJ) (aS (aY 2 (xOf (v2 sI (v2 kIx (aB 0) (vC (.int 0))) (vC (.int 1))))) (aS (sIf (gP (cW (dC (bB bZ (aE (v2 kIx (aB 1) (vC (.int 0))) (aE (vC (.int 0)) (aE (aB 2) aN)))))) (cW (dC (bB bZ (aE (v2 kIx (aB 1) (vC (.int 2))) (aE (vC (.int 0)) (aE (aB 2) aN))))))) (bX (xOf (vC (.bl false)))) bJ) (bX (xOf (oW (bB bZ (aE (v2 kIx (aB 1) (vC (.int 1))) (aE (vC (.int 0)) (aE (v2 sI (v2 kIx (aB 0) (vC (.int 1))) (vC (.int 1))) aN)))) (bB bZ (aE (v2 kIx (aB 1) (vC (.int 3))) (aE (vC (.int 0)) (aE (vC (.int 1000)) aN))))))))))
def qQ:Fn:=fnOf 3 xE
def qB:aX:=(aS (aY 1 (xOf (v2 kIx (aB 0) (vC (.int 2))))) (aS (sIf (gP (cW (dC (v1 (jU "list") (aB 1)))) (aZ (v2 kGt (vCB dN (aE (aB 1) aN)) (vC (.int 600))))) (lD "BadMachine" (zTop (lQ (fun _=>some ("the deeds are a list of " : Str).length) (lQ (aBj (vC (.int 600))) (lQ (fun _=>some (" at most" : Str).length) (fun _=>some 0)))))) bJ) (aS (fW (vW (aB 1)) (dH [2,3]) (sIf (cW (dC (bB qQ (aE (aB 0) (aE (aB 3) aN))))) (lD "BadMachine" (zTop (lQ (fun _=>some ("number " : Str).length) (lQ (aBj (aB 2)) (lQ (fun _=>some (" is no deed of such a machine" : Str).length) (fun _=>some 0)))))) bJ)) (fW (iR2 (aE (vC (.int 1)) (aE (vCB dN (aE (aB 1) aN)) aN))) (bA 2) (sIf (aZ (v2 aL9 (v2 kIx (aB 1) (aB 2)) (v2 kIx (aB 1) (v2 sI (aB 2) (vC (.int 1)))))) (lD "BadMachine" (zTop (lQ (fun _=>some ("deed " : Str).length) (lQ (aBj (aB 2)) (lQ (fun _=>some (" does not rise above the one ahead of it" : Str).length) (fun _=>some 0)))))) bJ)))))
def kW:Fn:=fnOf 4 qB
def mZ:aX:=(aS (sIf (gP (cW (dC (v1 (jU "tuple") (aB 0)))) (aZ (v2 (kEq true) (vCB dN (aE (aB 0) aN)) (vC (.int 3))))) (lD "BadMachine" (fun _=>some ("a machine is a triple of places, kinds and deeds" : Str).length)) bJ) (aS (sIf (cW (dC (bB bZ (aE (v2 kIx (aB 0) (vC (.int 0))) (aE (vC (.int 1)) (aE (vC (.int 200)) aN)))))) (lD "BadMachine" (zTop (lQ (fun _=>some ("a machine has 1 to " : Str).length) (lQ (aBj (vC (.int 200))) (lQ (fun _=>some (" places" : Str).length) (fun _=>some 0)))))) bJ) (aS (sIf (cW (dC (bB bZ (aE (v2 kIx (aB 0) (vC (.int 1))) (aE (vC (.int 1)) (aE (vC (.int 8)) aN)))))) (lD "BadMachine" (zTop (lQ (fun _=>some ("a machine has 1 to " : Str).length) (lQ (aBj (vC (.int 8))) (lQ (fun _=>some (" kinds of deeds" : Str).length) (fun _=>some 0)))))) bJ) (nR (fY kW (aE (aB 0) aN))))))
def fU:Fn:=fnOf 1 mZ
def pM:aX:=(aS (aY 1 (xOf (bQ (iR1 (aE (v2 kIx (aB 0) (vC (.int 0))) aN)) 1 [] (bA 0) bY (pN aN)))) (aS (fW (vW (v2 kIx (aB 0) (vC (.int 2)))) (dH [2,3]) (iF 1 (v2 kIx (aB 3) (vC (.int 0))) (aB 2))) (gT 1)))
def lG:Fn:=fnOf 4 pM
def xA:aX:=(aS (aY 1 (xOf (bB lG (aE (aB 0) aN)))) (aS (aY 2 (xOf (bQ (iR1 (aE (v2 kIx (aB 0) (vC (.int 0))) aN)) 1 [] (bA 0) bY (vC .non)))) (aS (aY 3 (xOf (pN (aE (vC (.int 0)) aN)))) (aS (aY 4 (xOf (vC (.int 0)))) (aS (nO [1] (bS (aZ (v2 kLt (aB 4) (vCB dN (aE (aB 3) aN)))) (aS (fW (eZ (v2 kIx (aB 1) (v2 kIx (aB 3) (aB 4)))) (bA 5) (aS (aY 6 (xOf (v2 kIx (v2 kIx (v2 kIx (aB 0) (vC (.int 2))) (aB 5)) (vC (.int 2))))) (sIf (lK (aZ (v2 (kEq true) (aB 6) (vC (.int 0)))) (aZ (v2 (iP false) (v2 kIx (aB 2) (aB 6)) (vC .non)))) (aS (dQ 2 (aB 6) (aB 5)) (eK 3 (aB 6))) bJ))) (uH 4 (fun i j=>i+j) (vC (.int 1)))) fuel)) (gT 2))))))
def nF:Fn:=fnOf 7 xA
def xC:aX:=(aS (nR (fY fU (aE (aB 0) aN))) (bX (xOf (bQ (vW (bB nF (aE (aB 0) aN))) 2 [] (dH [0,1]) bY (vOr (v2 (kEq false) (aB 0) (vC (.int 0))) (v2 (iP true) (aB 1) (vC .non)))))))
def nH:Fn:=fnOf 1 xC
def gY:aX:=(aS (aY 5 (xOf (vC .non))) (aS (fW (eZ (aB 2)) (bA 6) (aS (aY 7 (xOf (v2 kIx (v2 kIx (aB 0) (vC (.int 2))) (aB 6)))) (aS (aY 8 (xOf (v2 cJ (v2 kIx (aB 1) (aB 6)) (v2 kIx (aB 3) (v2 kIx (aB 7) (vC (.int 2))))))) (sIf (aZ (v2 kGt (aB 8) (v2 kIx (aB 3) (v2 kIx (aB 7) (vC (.int 0)))))) (aS (dQ 3 (v2 kIx (aB 7) (vC (.int 0))) (aB 8)) (aS (dQ 4 (v2 kIx (aB 7) (vC (.int 0))) (aB 6)) (aY 5 (xOf (v2 kIx (aB 7) (vC (.int 0))))))) bJ)))) (gT 5)))
def fV:Fn:=fnOf 9 gY
def oY:aX:=(aS (aY 2 (fY nH (aE (aB 0) aN))) (aS (aY 3 (xOf (bQ (vW (v2 kIx (aB 0) (vC (.int 2)))) 2 [2] (dH [0,1]) (dC (v2 kIx (aB 2) (v2 kIx (aB 1) (vC (.int 0))))) (aB 0)))) (aS (aY 4 (xOf (bQ (iR1 (aE (v2 kIx (aB 0) (vC (.int 0))) aN)) 1 [] (bA 0) bY (vC (.int 0))))) (aS (aY 5 (xOf (bQ (iR1 (aE (v2 kIx (aB 0) (vC (.int 0))) aN)) 1 [] (bA 0) bY (vC .non)))) (aS (aY 6 (xOf (vC (.int 0)))) (aS (aY 7 (xOf (vC (.int 0)))) (aS (nO [3] (bS (lK (aZ (v2 (iP true) (aB 6) (vC .non))) (aZ (v2 kLt (aB 7) (v2 kIx (aB 0) (vC (.int 0)))))) (aS (aY 6 (oN fV [0,1,3,4,5])) (uH 7 (fun i j=>i+j) (vC (.int 1)))) fuel)) (nO [4,5] (bX (xOf (nP (aE (aB 4) (aE (aB 5) (aE (aB 6) aN))))))))))))))
def hG:Fn:=fnOf 8 oY
end VL.PY
end
section
namespace VL
open PySem PySem.Spec PyProof.Rows L2
def kvM (kvs:List (Key×Int)):List (Key×V):=kvs.map fun p=>(p.1,V.int p.2)
def oE (kvs:List (Key×Int)) (k:Key):Option Int:=(kvs.find? fun kv=>decide (kv.1=k)).map (·.2)
def aAo (kvs:List (Key×Int)) (k:Key) (v:Int):List (Key×Int):=if kvs.any (fun kv=>decide (kv.1=k)) then kvs.map (fun kv=>if kv.1=k then (kv.1,v) else kv) else kvs ++ [(k,v)]
theorem aCt (k:Key):∀kvs:List (Key×Int),oO (kvM kvs) k=(oE kvs k).map V.int
 | []=>rfl
 | p::kvs=>by
  unfold oO oE kvM
  rw [List.map_cons,List.find?_cons,List.find?_cons]
  by_cases h:p.1=k
  ·simp [h]
  ·simp [h]
   have:=aCt k kvs
   unfold oO oE kvM at this
   simpa using this
theorem aOy (k:Key) (v:Int) (kvs:List (Key×Int)):putK (kvM kvs) k (V.int v)=kvM (aAo kvs k v):=by
 unfold putK aAo kvM
 have e:(List.any (kvs.map fun p=>(p.1,V.int p.2)) fun kv=>decide (kv.1=k))=kvs.any fun kv=>decide (kv.1=k):=by rw [List.any_map];rfl
 rw [e]
 by_cases h:(kvs.any fun kv=>decide (kv.1=k))=true
 ·rw [if_pos h,if_pos h,List.map_map,List.map_map]
  refine List.map_congr_left fun p _=>?_
  show (if p.1=k then (p.1,V.int v) else (p.1,V.int p.2))=((if p.1=k then (p.1,v) else p).1,V.int (if p.1=k then (p.1,v) else p).2)
  split<;>rfl
 ·rw [if_neg h,if_neg h,List.map_append];rfl
section
variable {X:Cx} {W:XW} {a b e:Expr} {pos:Pos} {K:FG} {F H:Hp}
theorem Own.dk {o:Bool} {kvs:List (Key×Int)} {v:V} {fp:Y2} (g:bD F H) (h:Own K F H (.ext o (.dK kvs)) v fp):∃p,v=.ref p/\H p=some (.dK (kvM kvs)):=by
 unfold Own at h
 obtain ⟨a,u,e,t,h⟩:=h
 have t:u=.dK (kvM kvs):=t
 subst t
 rcases h with ⟨_,_,h,_⟩ | ⟨_,h,_⟩
 ·exact ⟨a,e,h⟩
 ·exact ⟨a,e,g a _ h⟩
def aJv:D×Bool->D×Bool->R (D×Bool):=fun x y=>match x.1,y.1 with
 | .int k,.ext _ (.dK kvs)=>.ok (.bl (oE kvs (.inl k)).isSome,true)
 | _,_=>.bad
def aH1:D×Bool->D×Bool->R (D×Bool):=fun x y=>match x.1,y.1 with
 | .ext _ (.dK kvs),.int k=>(match oE kvs (.inl k) with | some v=>.ok (.int v,true) | none=>.bad)
 | _,_=>.bad
theorem aPh {f g:aQ} {σ:L2.St} {Q:VK} (h:tv K (v2 aJv f g) σ H Q):aTu (tv K f) (tv K g) σ H Q:=by
 obtain ⟨ρ,F,fps,S,h⟩:=h
 refine ⟨ρ,F,fps,S,R.aM (R.aO.mp h) fun x hx v F1 H1 fx g1 o1 n1 k1=>?_⟩
 refine ⟨ρ,F1,fps,S.grow g1,R.aM (R.aO.mp hx) fun y hy u F2 H2 fy g2 o2 n2 k2=>?_⟩
 obtain ⟨x,bx⟩:=x
 obtain ⟨y,by'⟩:=y
 cases x<;>try exact hy.elim
 cases y<;>try exact hy.elim
 rename_i k ow t
 cases t<;>try exact hy.elim
 rename_i kvs
 obtain ⟨p,ep,hp⟩:=Own.dk g2.inn o2
 unfold Own at o1
 refine ⟨p,oO (kvM kvs) (.inl k),ep,?_,?_⟩
 ·rw [o1.1];exact yZ.k (k:=.inl k) hp
 ·rw [aCt,Option.isSome_map]
  exact EPost.eL (g1.trans g2) hy rfl
theorem aRc {k:Nat} {f g:aQ} (hr:Room k X.A) (ha:SE X a f) (hb:SE X b g) (hm:behindInMarks .In b=false:=by with_unfolding_all rfl):ST X (.Compare a [.In] [b] pos) (aZ (v2 aJv f g)):=by
 have:=aRp (pos:=pos) (aP6 (X:=X) (by have:=hr.un;omega) ha hb) hm
 exact L2.PT.imp this fun σ H Q h=>aPh (aAj h)
theorem aRx {f g:aQ} {σ:L2.St} {Q:VK} (h:tv K (v2 aH1 f g) σ H Q):aOa (tv K f) (tv K g) σ H Q:=by
 obtain ⟨ρ,F,fps,S,h⟩:=h
 refine ⟨ρ,F,fps,S,R.aM (R.aO.mp h) fun x hx v F1 H1 fx g1 o1 n1 k1=>?_⟩
 refine ⟨ρ,F1,fps,S.grow g1,R.aM (R.aO.mp hx) fun y hy u F2 H2 fy g2 o2 n2 k2=>?_⟩
 obtain ⟨x,bx⟩:=x
 obtain ⟨y,by'⟩:=y
 cases x<;>try exact hy.elim
 rename_i ow t
 cases t<;>try exact hy.elim
 rename_i kvs
 cases y<;>try exact hy.elim
 rename_i k
 have hy:(match oE kvs (.inl k) with | some v=>R.ok (D.int v,true) | none=>.bad).holds (EPost K F H Q):=hy
 cases ev:oE kvs (.inl k) with
 | none=>rw [ev] at hy;exact hy.elim
 | some i =>
  rw [ev] at hy
  obtain ⟨p,ep,hp⟩:=Own.dk g2.inn (o1.grow g2)
  unfold Own at o2
  refine ⟨p,.int i,ep,?_,EPost.eL (g1.trans g2) hy rfl⟩
  have:=yZ.k (k:=.inl k) hp
  rw [aCt,ev] at this
  rw [o2.1];exact this
theorem aOx {k:Nat} {f g:aQ} (hr:Room k X.A) (ha:SE X a f) (hb:SE X b g) (hs:aO6 b:=by intro _ _;rfl):SE X (.Subscript a b pos) (v2 aH1 f g) :=
 (aLp (by have:=hr.un;omega) ha hb hs).imp fun _ _ _ h=>aRx h
def uP (f g:aQ):aQ:=fun ρ=>(f ρ).bind fun x=>(g ρ).bind fun y=>match x.1,y.1 with
 | .int k,.int v=>.ok (.ext true (.dK [(.inl k,v)]),true)
 | _,_=>.bad
theorem aIw {f g:aQ} {σ:L2.St} {Q:VK} (h:tv K (uP f g) σ H Q):aNh [(tv K f,tv K g)] σ H Q:=by
 obtain ⟨ρ,F,fps,S,h⟩:=h
 intro p hp
 have g0:Grow F H F (upd H p (.dK [])):=Grow.one S.same hp
 have hF:F p=none:=S.same.free hp
 unfold uP at h
 refine ⟨ρ,F,fps,S.grow g0,R.aM (R.aO.mp h) fun x hx v F1 H1 fx g1 o1 n1 k1=>?_⟩
 refine ⟨ρ,F1,fps,(S.grow g0).grow g1,R.aM (R.aO.mp hx) fun y hy u F2 H2 fy g2 o2 n2 k2=>?_⟩
 obtain ⟨x,bx⟩:=x
 obtain ⟨y,by'⟩:=y
 cases x<;>try exact hy.elim
 cases y<;>try exact hy.elim
 rename_i k i
 have gg:=(g0.trans g1).trans g2
 have g12:=g1.trans g2
 have hp2:H2 p=some (.dK []):=g12.all p _ bU
 have hF2:F2 p=none:=by
  cases e:F2 p with
  | none=>rfl
  | some o =>
   rcases g12.new p o e with q | q
   ·rw [hF] at q;cases q
   ·rw [bU] at q;cases q
 unfold Own at o1 o2
 refine ⟨hp2,[(.inl k,.int i)],by rw [o1.1,o2.1];rfl,by simp,?_⟩
 have G:Grow F H F2 (upd H2 p (.dK (kvM [(.inl k,i)]))):=by
  refine ⟨gg.fr,fun b o e=>?_,fun b o e=>?_,fun b o e=>?_⟩
  ·rw [bF (bO e hp)];exact gg.all b o e
  ·rw [bF fun z=>by rw [z,hF2] at e;cases e];exact gg.inn b o e
  ·exact gg.new b o e
 have hy:EPost K F H Q (.ext true (.dK [(.inl k,i)]),true):=hy
 refine hy (.ref p) F2 _ [p] G ?_ (by simp) fun _ b hb=>by
  have:b=p:=by simpa using hb
  rw [this];exact hp
 unfold Own
 exact ⟨p,_,rfl,rfl,.inl ⟨rfl,hF2,bU,rfl⟩⟩
theorem aI5 {f g:aQ} (ha:SE X a f) (hb:SE X b g):SE X (.Dict [some a] [b] pos) (uP f g) :=
 (aKz (aJ4 ha hb aMc) rfl rfl (by simp) (by simp)).imp fun _ _ _ h=>aIw h
end
section
variable {K:FG} {W:XW} {F H F' H' F1 H1:Hp} {Z Z' Z1:Y2} {σ σ1:L2.St} {ρ ρ1:VL.Env} {D':Ends}
theorem Sim.mutateO {fps:Y5} (S:Sim K F H σ ρ fps) {i:Nat} {d d':D} {v:V} {fp fp':Y2} {a:Addr} {uu:HO} (e:getD ρ i=some d) (es:σ[i]?=some (some v)) (ef:fps[i]?=some fp)
  (ha:a∈fp) (o:Own K F (upd H a uu) d' v fp') (n:fp'.Nodup) (dj:∀b∈fp',b∈fp\/(b ∉ fps.flatten)) :
  Sim K F (upd H a uu) σ (putD ρ i d') (fps.set i fp'):=by
 have hz:a∈fps.flatten:=List.mem_flatten.mpr ⟨fp,List.mem_of_getElem? ef,ha⟩
 have fa:=(S.zone a hz).1
 refine ⟨fun b u q=>?_,by rw [gK];exact S.ls,by rw [gK,List.length_set];exact S.lf,fun j s c e1 e2=>?_,eB S.nd ef n dj,fun b hb=>?_⟩
 ·rw [bF (bO q fa)];exact S.same b u q
 ·rcases tJ e1 e2 (by rw [e];rfl) with ⟨rfl,rfl⟩ | ⟨hj,e3⟩
  ·exact ⟨v,fp',es,List.getElem?_set_self (List.getElem?_eq_some_iff.mp ef).1,o⟩
  ·obtain ⟨w,f,h1,h2,h3⟩:=S.at_ j s c e3 e2
   exact ⟨w,f,h1,by rw [List.getElem?_set_ne hj];exact h2,h3.other (apart S.nd ef h2 hj ha)⟩
 ·rcases bM hb with h | h
  ·refine ⟨(S.zone b h).1,?_⟩
   by_cases hba:b=a
   ·subst hba;rw [bU];simp
   ·rw [bF hba];exact (S.zone b h).2
  ·obtain ⟨q1,ys,q2⟩:=Own.zone d' o b h
   exact ⟨q1,by rw [q2];simp⟩
theorem eE.aWx {fps:Y5} {P:L2.St->Hp->Prop} {i:Nat} {d d':D} {v:V} {fp fp' fu:Y2} {a:Addr} {uu:HO} (h:eE K F H fps.flatten ρ σ P (putD ρ i d')) (S:Sim K F H σ ρ fps) (g2:Grow F H F1 H1) (k3:∀b∈fu,H b=none)
  (eg:getD ρ i=some d) (h1:σ[i]?=some (some v)) (h2:fps[i]?=some fp) (ha:a∈fp) (o:Own K F1 (upd H1 a uu) d' v fp') (n:fp'.Nodup) (dj:∀b∈fp',b∈fp\/b∈fu):P σ (upd H1 a uu):=by
 have S3:=(S.grow g2).mutateO eg h1 h2 ha o n fun b hb=>(dj b hb).imp_right (S.aB2 k3 b)
 have ez:Evo F H fps.flatten F1 H1 (fps.flatten++fu):=g2.aUt fun b hb=>(List.mem_append.mp hb).imp_right (k3 b)
 have hz:∀b∈fp,b∈fps.flatten:=fun b hb=>List.mem_flatten.mpr ⟨_,List.mem_of_getElem? h2,hb⟩
 refine h σ F1 _ _ (ez.trans (aDt (List.mem_append_left _ (hz a ha)) fun b hb=>?_)) S3 (vE.pins)
 rcases bM hb with q | q
 ·exact List.mem_append_left _ q
 ·rcases dj b q with q | q
  ·exact List.mem_append_left _ (hz b q)
  ·exact List.mem_append_right _ q
end
section
variable {X:Cx} {W:XW} {a b e:Expr} {pos:Pos} {K:FG} {F H:Hp}
def vH (i:Nat) (g f:aQ):aX:=fun ρ=>match f ρ with
 | .ok (.int v,_)=>(match g ρ with
  | .ok (.int k,_)=>(match getD ρ i with | some (.ext true (.dK kvs))=>if kvs.length<1000000 then .next (putD ρ i (.ext true (.dK (aAo kvs (.inl k) v)))) else .bad | _=>.bad)
  | _=>.bad)
 | _=>.bad
theorem aKu {σ:L2.St} {D':Ends} {i:Nat} {g f:aQ} (h:sv K W (vH i g f) D' σ H):aOe (yK i) (tv K g) (tv K f) D' σ H:=by
 obtain ⟨ρ,F,fps,S,h⟩:=h
 unfold vH at h
 refine ⟨ρ,F,fps,S,?_⟩
 cases ef:f ρ with
 | exc _=>rw [ef] at h;exact h.elim
 | bad=>rw [ef] at h;exact h.elim
 | ok x =>
  rw [ef] at h
  obtain ⟨x,bx⟩:=x
  cases x<;>try exact h.elim
  rename_i v
  dsimp only at h
  intro u F1 H1 fx g1 o1 n1 k1
  cases eg:g ρ with
  | exc _=>rw [eg] at h;exact h.elim
  | bad=>rw [eg] at h;exact h.elim
  | ok y =>
   rw [eg] at h
   obtain ⟨y,by'⟩:=y
   cases y<;>try exact h.elim
   rename_i k
   dsimp only at h
   cases ed:getD ρ i with
   | none=>rw [ed] at h;exact h.elim
   | some d0 =>
    rw [ed] at h
    cases d0<;>try exact h.elim
    rename_i ow t
    cases t<;>try (cases ow<;>exact h.elim)
    rename_i kvs
    cases ow
    ·exact h.elim
    have h:cT K W F H fps.flatten ρ σ D' (if kvs.length<1000000 then .next (putD ρ i (.ext true (.dK (aAo kvs (.inl k) v)))) else .bad):=h
    by_cases hlen:kvs.length<1000000
    ·rw [if_pos hlen] at h
     have S1:=S.grow g1
     obtain ⟨w,fp,h1,h2,h3⟩:=S1.get ed
     unfold Own at h3
     obtain ⟨a,uu,ew,tu,hh⟩:=h3
     have tu:uu=.dK (kvM kvs):=tu
     subst tu
     rcases hh with ⟨_,w1,w2,w3⟩ | ⟨w0,_⟩
     ·subst ew;subst w3
      refine ⟨.ref a,h1,ρ,F1,fps,S1,?_⟩
      rw [eg]
      intro q F2 H2 fy g2 o2 n2 k2
      unfold Own at o1 o2
      have w2':=g2.all a _ w2
      refine ⟨a,upd H2 a (.dK (kvM (aAo kvs (.inl k) v))),rfl,?_,?_⟩
      ·rw [o1.1,o2.1,<- aOy]
       exact aHc.k (k:=.inl k) w2' (by unfold kvM;rw [List.length_map];exact sM hlen)
      ·have gg:=g1.trans g2
       have w1':=(S1.grow g2).zone1 h2 List.mem_cons_self
       refine eE.aWx (fu:=[]) h S gg (fun b hb=>by cases hb) ed h1 h2 List.mem_cons_self ?_ (by simp) fun b hb=>.inl hb
       unfold Own
       exact ⟨a,_,rfl,rfl,.inl ⟨rfl,w1',bU,rfl⟩⟩
     ·cases w0
    ·rw [if_neg hlen] at h;exact h.elim
theorem aL7 {k:Nat} (i:Nat) {x:Str} {f g:aQ} {p tp:Pos} (hr:Room k X.A) (hi:SE X b g) (he:SE X e f) (hN:X.N[i]?=some x:=by rfl) (hv:Vis X.env.scope x:=by first | exact Or.inl rfl | exact Or.inr (Or.inl rfl) | exact Or.inr (Or.inr rfl)) (hd:(x == ("__debug__" : Str))=false:=by decide)
  (hcd:(x == ("__classdict__" : Str))=false:=by decide) (hs:swapsWith e (some (.Subscript (.Name x p) b tp)) pos.line X.env=pure false:=by rfl):SS X W (.Assign [.Subscript (.Name x p) b tp] e pos) (vH i g f) :=
 (aKn (by have:=hr.un;omega) (mL hN hv hd hcd) hi he hs).imp fun _ _ _ h=>aKu h
end
end VL
end
section
namespace VL
open PySem PySem.Spec PyProof.Rows L2
section
variable {X:Cx} {W:XW} {a b e:Expr} {pos:Pos} {K:FG} {F H:Hp}
def aMv (f:aQ):aQ:=fun ρ=>(f ρ).bind fun x=>if x.2 then .ok (x.1.frz,true) else .bad
theorem aMw {f:aQ} {σ:L2.St} {Q:VK} (h:tv K (aMv f) σ H Q):tv K f σ H Q:=by
 obtain ⟨ρ,F,fps,S,h⟩:=h
 refine ⟨ρ,F,fps,S,R.aM (R.aO.mp h) fun x hx v F1 H1 fx g1 o1 n1 k1=>?_⟩
 obtain ⟨x,b⟩:=x
 cases b
 ·exact hx.elim
 ·have hx:EPost K F H Q (x.frz,true):=hx
  have z:∀a∈fx,F1 a=none:=fun a ha=>(Own.zone x o1 a ha).1
  exact hx v (fK F1 H1 fx) H1 [] (g1.frz (k1 rfl) z) (Own.freeze z x (fun _ h=>h) o1) (by simp) (fun _ b hb=>by cases hb)
theorem aPy {f:aQ} (h:SE X e f):SE X e (aMv f):=h.imp fun _ _ _ h=>aMw h
end
end VL
end
section
namespace VL
open PySem PySem.Spec PyProof.Rows L2
open Sem (wp)
section
variable {prog:Program} {w:World} {A:Around} {E:Y9} {s:Shared}
end
section
variable {prog:Program} {w:World} {A:Around} {E:Y9} {s:Shared}
end
end VL
namespace VL
open PySem PySem.Spec PyProof.Rows L2
section
variable {X:Cx} {pins:Y8} {σ:L2.St} {H:Hp} {s:Shared}
end
section
variable {K:FG} {F H:Hp} {σ:L2.St}
end
end VL
end
section
namespace VL
open PySem PySem.Spec PyProof.Rows L2
open Sem (wp)
section
variable {X:Cx} {a b e:Expr} {pos:Pos}
theorem any_range {ns:List Bool}:((List.range ns.length).any fun i=>ns.getD i false)=ns.any id:=by
 induction ns with
 | nil=>rfl
 | cons n r ih =>
  rw [List.length_cons,List.range_succ_eq_map,List.any_cons,List.any_map,List.any_cons,<- ih]
  rfl
theorem aFm (hc:X.calm=true):lW X (.builtin "any") (fun xs H Q=>∃(p:Addr) (ns:List Bool),xs=[.ref p]/\SqL X.K H p (ns.map V.bl)/\Q (.bl (ns.any id)) H):=by
 intro pins s σ H xs us Q I r h
 obtain ⟨p,ns,rfl,hq,q⟩:=h
 obtain ⟨u,rfl,ru⟩:=vals1 r
 cases ru
 obtain ⟨its,rv,pl,_⟩:=I.list hq
 have hl:=rv.length
 rw [List.length_map] at hl
 refine call_any_walk (wpAny_pyIter_list pl.isList ?_)
 have hne:p ≠ s.heap.objs.size:=fun z=>by
  obtain ⟨o,ho,_⟩:=pl.isList
  exact absurd (Heap.lt_size ho) (by rw [z];exact Nat.lt_irrefl _)
 refine ⟨s.heap.objs.size,_,_,its.toArray.size,_,_,fun i=>ns.getD i false,rfl,Walks.list (A:=X.A.in1) (show X.A.in1.handled=none from I.ok.hd hc) s.heap.objs.size p hne its.toArray,⟨⟨_,Heap.get?_push_size _ rfl,rfl,rfl⟩,pl.isList.push _⟩,fun i v s' Q' E' hP hQ=>?_,fun h' tk hk=>?_⟩
 ·have hP:its[i]?=some v:=by simpa using hP
  have hi:i<ns.length:=by rw [hl];exact (List.getElem?_eq_some_iff.mp hP).1
  obtain ⟨u',e',ru'⟩:=rv.get (i:=i) (x:=V.bl ns[i]) (by rw [List.getElem?_map,List.getElem?_eq_getElem hi];rfl)
  rw [hP] at e';cases e'
  cases ru'
  have:ns.getD i false=ns[i]:=by simp [List.getD,List.getElem?_eq_getElem hi]
  have hQ:Q' (ns.getD i false) s':=hQ
  rw [this] at hQ
  exact wpAny_truthy_bool hQ
 ·rw [List.size_toArray,<- hl,any_range]
  refine ⟨.bl _,H,?_,rfl,q⟩
  refine I.kept (t':=tk) fun b o e=>hk b o (fun z=>?_) (Heap.get?_push_of_some _ e)
  have z':b=s.heap.objs.size:=by simpa using z
  exact absurd (Heap.lt_size e) (by rw [z'];exact Nat.lt_irrefl _)
def xN:List (D×Bool)->R (D×Bool)
 | [(.lst _ ds,_)]=>(match eW ds with | some ns=>.ok (.bl (ns.any id),true) | none=>.bad) | _=>.bad
theorem aK1 {K:FG}:OpA K xN (fun xs H Q=>∃(p:Addr) (ns:List Bool),xs=[.ref p]/\SqL K H p (ns.map V.bl)/\Q (.bl (ns.any id)) H):=by
 intro F0 H0 F H xs vs fa Q gr a n k h
 match xs,h,a with
 | [(.lst o ds,b)],h,a =>
  unfold Args at a
  obtain ⟨v,r,fp,f2,e,o1,n1,t,w⟩:=a
  unfold Args at t
  obtain ⟨p,ys,fq,e1,q1,r1,_⟩:=Own.lst gr.inn o1
  have h:(match eW ds with | some ns=>R.ok (D.bl (ns.any id),true) | none=>R.bad).holds (EPost K F0 H0 Q):=h
  cases q:eW ds with
  | none=>rw [q] at h;exact h.elim
  | some ns =>
   rw [q] at h
   rw [mY ds q r1] at q1
   exact ⟨p,ns,by rw [e,t.1,e1],q1,EPost.eL gr h rfl⟩
theorem aQ6 {f:aQ} {p:Pos} (hc:X.calm=true) (hm:X.mg "any" = none) (ha:SE X a f) (hg:Gl X "any" :=by rfl) (hs:starEach [a] X.env=(false,eval a X.env)::starEach [] X.env:=by rfl) (hv:bootBuiltins "any" = some (.builtin "any"):=by decide +kernel):SE X (.Call (.Name "any" p) [a] [] pos) (vCB xN (aE f aN)) :=
 aAs (aFm hc) aK1 hm hv (aC ha aJ hs) hg (by decide) (by decide) hs
def aV9:List (D×Bool)->R (D×Bool)
 | [(.int i,_)]=>.ok (.int i,true) | [(.bl b,_)]=>.ok (.int (if b then 1 else 0),true) | _=>.bad
end
end VL
end
section
namespace VL
open PySem PySem.Spec PyProof.Rows L2
def aBy (i j:Nat) (f g:aQ):aX:=fun ρ=>match f ρ,g ρ with
 | .ok (.int a,_),.ok (.int b,_)=>if free ρ i && free (ρ.set i (.val (.int a))) j then .next ((ρ.set i (.val (.int a))).set j (.val (.int b))) else .bad
 | _,_=>.bad
section
variable {X:Cx} {W:XW} {a b:Expr} {pos:Pos} {K:FG} {σ:L2.St} {H:Hp} {D':Ends}
theorem aRg {i j:Nat} {f g:aQ} (h:sv K W (aBy i j f g) D' σ H):aTt i j (rS (tv K f) (rS (tv K g) aDg)) D' σ H:=by
 obtain ⟨ρ,F,fps,S,h⟩:=h
 refine ⟨ρ,F,fps,S,?_⟩
 unfold aBy at h
 split at h
 ·rename_i x bx y by' ef eg
  rw [ef]
  intro v F1 H1 fx g1 o1 n1 k1
  refine ⟨ρ,F1,fps,S.grow g1,?_⟩
  rw [eg]
  intro u F2 H2 fy g2 o2 n2 k2
  unfold Own at o1 o2
  refine ⟨v,u,rfl,?_⟩
  by_cases hc:(free ρ i && free (ρ.set i (.val (.int x))) j)=true
  ·rw [if_pos hc] at h
   rw [Bool.and_eq_true] at hc
   rw [o1.1,o2.1]
   have gg:=g1.trans g2
   have S1:=(S.grow gg).store (i:=i) (eO (K:=K) (F:=F2) (H:=H2) (d:=.int x) rfl) List.nodup_nil fun b hb=>by cases hb
   have S2:=S1.store (i:=j) (eO (K:=K) (F:=F2) (H:=H2) (d:=.int y) rfl) List.nodup_nil fun b hb=>by cases hb
   exact h _ F2 H2 _ (sT (sT (gg.evo (Z:=fps.flatten)) fun b hb=>by cases hb) fun b hb=>by cases hb) S2 ((kE hc.1).trans (kE hc.2))
  ·rw [if_neg hc] at h;exact h.elim
 ·exact h.elim
theorem aI8 (i j:Nat) {x y:Str} {f g:aQ} {px py pt:Pos} {kt k2 pt2} (hc:X.calm=true) (nd:X.N.Nodup) (ha:SE X a f) (hb:SE X b g) (hij:i ≠ j:=by decide) (hi:X.N[i]?=some x:=by rfl) (hj:X.N[j]?=some y:=by rfl)
  (hx:X.env.scope.names.lookup x=some .local:=by rfl) (hy:X.env.scope.names.lookup y=some .local:=by rfl) (hs1:starEach [a,b] X.env=(false,eval a X.env)::starEach [b] X.env:=by rfl) (hs2:starEach [b] X.env=(false,eval b X.env)::starEach [] X.env:=by rfl)
  (hw:swappedStores [.Tuple [.Name x px,.Name y py] kt pt] (.Tuple [a,b] k2 pt2) X.env=pure (some [x,y]):=by rfl) (hs:swapsWithSole [.Tuple [.Name x px,.Name y py] kt pt] (.Tuple [a,b] k2 pt2) pos.line X.env=pure false:=by rfl) :
  SS X W (.Assign [.Tuple [.Name x px,.Name y py] kt pt] (.Tuple [a,b] k2 pt2) pos) (aBy i j f g) :=
 (aOt hc nd hi hj hij hx hy (iC ha (iC hb qP hs2) hs1) hw hs).imp fun _ _ _ h=>aRg h
end
end VL
end
section
namespace VL.K10
open VL PySem PY
def tW:aX:=(aS (sIf (dC (aB 0)) (bX (xOf (v2 kIx (aB 0) (v2 lH (aB 1) (vCB dN (aE (aB 0) aN)))))) bJ) (bX (xOf (vC (.int 0)))))
def tR:Fn:=fnOf 2 tW
def aEp:aX:=(aS (aY 2 (xOf (v2 lH (v2 cJ (bB tR (aE (aB 0) (aE (aB 1) aN))) (v2 bH (vC (.int 104729)) (v2 cJ (aB 1) (vC (.int 1))))) (vC (.int 4294967291))))) (aS (aY 2 (xOf (v2 lH (v2 bH (aB 2) (vC (.int 48271))) (vC (.int 4294967279))))) (bX (xOf (v2 lH (v2 cJ (v2 bH (v2 sY (aB 2) (vC (.int 64))) (vC (.int 69621))) (aB 2)) (vC (.int 4294967231)))))))
def eU:Fn:=fnOf 3 aEp
def rK:aX:=(aS (aY 3 (xOf (v2 cJ (vC (.int 1)) (v2 lH (bB eU (aE (aB 0) (aE (aB 1) aN))) (aB 2))))) (aS (aY 4 (xOf (v2 cJ (vC (.int 1)) (v2 lH (bB eU (aE (aB 0) (aE (v2 cJ (aB 1) (vC (.int 1))) aN))) (vC (.int 3)))))) (aS (aY 5 (xOf (pN aN))) (aS (fW (iR1 (aE (v2 lH (bB eU (aE (aB 0) (aE (v2 cJ (aB 1) (vC (.int 2))) aN))) (v2 cJ (v2 bH (vC (.int 2)) (aB 2)) (vC (.int 1)))) aN)) (bA 6) (aS (aY 7 (xOf (bB eU (aE (aB 0) (aE (v2 cJ (v2 cJ (aB 1) (vC (.int 3))) (aB 6)) aN))))) (aS (aY 8 (xOf (v2 kIx (pN (aE (vC (.int 0)) (aE (vC (.int 1)) (aE (vC (.int 2)) (aE (vC (.int 3)) (aE (vC (.int 5)) (aE (vC (.int 9)) (aE (vC (.int 1)) (aE (vC (.int 0)) aN))))))))) (v2 lH (v2 sY (aB 7) (vC (.int 4096))) (vC (.int 8)))))) (eK 5 (nP (aE (v2 lH (aB 7) (aB 3)) (aE (v2 lH (v2 sY (aB 7) (vC (.int 16))) (aB 4)) (aE (v2 lH (v2 sY (aB 7) (vC (.int 64))) (aB 3)) (aE (aB 8) aN))))))))) (nO [5] (bX (xOf (nP (aE (aB 3) (aE (aB 4) (aE (vCB kSS (aE (aB 5) aN)) aN)))))))))))
def jL:Fn:=fnOf 9 rK
def aE3:aX:=(aS (aY 4 (xOf (pN aN))) (aS (aY 5 (xOf (vC (.int 0)))) (aS (fW (iR1 (aE (v2 lH (bB eU (aE (aB 0) (aE (aB 1) aN))) (v2 cJ (aB 3) (vC (.int 1)))) aN)) (bA 6) (aS (aY 7 (xOf (bQ (iR1 (aE (vCB dN (aE (v2 kIx (aB 2) (vC (.int 2))) aN)) aN)) 1 [5,2] (bA 0) (aZ (v2 (kEq false) (v2 kIx (v2 kIx (v2 kIx (aB 2) (vC (.int 2))) (aB 0)) (vC (.int 0))) (aB 1))) (aB 0)))) (sIf (dC (aB 7)) (aS (eK 4 (v2 kIx (aB 7) (v2 lH (bB eU (aE (aB 0) (aE (v2 cJ (v2 cJ (aB 1) (vC (.int 1))) (aB 6)) aN))) (vCB dN (aE (aB 7) aN))))) (aY 5 (xOf (v2 kIx (v2 kIx (v2 kIx (aB 2) (vC (.int 2))) (v2 kIx (aB 4) (v1 (kU fun i=>.int (-i)) (vC (.int 1))))) (vC (.int 2)))))) bJ))) (gT 4))))
def pS:Fn:=fnOf 8 aE3
def rH:aX:=(aS (aY 1 (xOf (pN (aE (vC (.int 0)) aN)))) (aS (aY 2 (xOf (vC (.int 0)))) (aS (bS (aZ (v2 kLt (aB 2) (vCB dN (aE (aB 1) aN)))) (aS (fW (eZ (v2 kIx (aB 0) (vC (.int 2)))) (dH [3,4,5,6]) (sIf (lK (aZ (v2 (kEq false) (aB 3) (v2 kIx (aB 1) (aB 2)))) (aZ (v2 (kIn true) (aB 5) (aB 1)))) (eK 1 (aB 5)) bJ)) (aY 2 (xOf (v2 cJ (aB 2) (vC (.int 1)))))) fuel) (gT 1))))
def gJ:Fn:=fnOf 7 rH
end VL.K10
end
section
namespace VL.K11
open VL PySem PY K10
def wR:aX:=(bX (xOf (oW (v1 (jU "int") (aB 0)) (v1 aIc (v1 (jU "bool") (aB 0))))))
def nL:Fn:=fnOf 1 wR
end VL.K11
end
section
namespace VL.K20
open VL PySem PY K10 K11
def kF:aX:=(aS (aY 0 (xOf (vCB aFg (aE (aB 0) aN)))) (aS (aY 1 (xOf (vCB aFg (aE (aB 1) aN)))) (aS (bS (aZ (v2 (kEq true) (aB 1) (vC (.int 0)))) (aS (aY 2 (xOf (v2 lH (aB 0) (aB 1)))) (aS (aY 0 (xOf (aB 1))) (aY 1 (xOf (aB 2))))) fuel) (gT 0))))
def eS:Fn:=fnOf 3 kF
def tS:aX:=(aS (aY 2 (xOf (bB eS (aE (aB 0) (aE (aB 1) aN))))) (bX (xOf (nP (aE (v2 sY (aB 0) (aB 2)) (aE (v2 sY (aB 1) (aB 2)) aN))))))
def eM:Fn:=fnOf 3 tS
def nU:aX:=(aS (sIf (gP (cW (dC (v1 (jU "tuple") (aB 0)))) (aZ (v2 (kEq true) (vCB dN (aE (aB 0) aN)) (vC (.int 2))))) (bX (xOf (vC (.bl false)))) bJ) (aS (sIf (gP (cW (dC (bB iZ (aE (v2 kIx (aB 0) (vC (.int 0))) aN)))) (cW (dC (bB iZ (aE (v2 kIx (aB 0) (vC (.int 1))) aN))))) (bX (xOf (vC (.bl false)))) bJ) (bX (xOf (oW (v2 kGt (v2 kIx (aB 0) (vC (.int 1))) (vC (.int 0))) (v2 (kEq false) (bB eS (aE (v2 kIx (aB 0) (vC (.int 0))) (aE (v2 kIx (aB 0) (vC (.int 1))) aN))) (vC (.int 1))))))))
def jR:Fn:=fnOf 1 nU
def jF:aX:=(aS (fW (eZ (aB 0)) (bA 1) (sIf (gP (cW (dC (bB jR (aE (aB 1) aN)))) (aZ (v2 kLt (v2 kIx (aB 1) (vC (.int 0))) (vC (.int 0))))) (bX (xOf (vC (.bl false)))) bJ)) (bX (xOf (vC (.bl true)))))
def fQ:Fn:=fnOf 2 jF
def wO:aX:=(bX (xOf (v2 kLt (v2 bH (v2 kIx (aB 0) (vC (.int 0))) (v2 kIx (aB 1) (vC (.int 1)))) (v2 bH (v2 kIx (aB 1) (vC (.int 0))) (v2 kIx (aB 0) (vC (.int 1)))))))
def iE:Fn:=fnOf 2 wO
def aH0:aX:=(bX (xOf (bB eM (aE (v2 cJ (v2 bH (v2 kIx (aB 0) (vC (.int 0))) (v2 kIx (aB 1) (vC (.int 1)))) (v2 bH (v2 kIx (aB 1) (vC (.int 0))) (v2 kIx (aB 0) (vC (.int 1))))) (aE (v2 bH (v2 kIx (aB 0) (vC (.int 1))) (v2 kIx (aB 1) (vC (.int 1)))) aN)))))
def uI:Fn:=fnOf 2 aH0
def rP:aX:=(aS (aY 2 (xOf (bQ (iR1 (aE (v2 kIx (aB 0) (vC (.int 0))) aN)) 1 [] (bA 0) bY (vC .non)))) (aS (fW (vW (v2 kIx (aB 0) (vC (.int 2)))) (dH [3,4]) (aS (aY 5 (xOf (v2 kIx (aB 1) (v2 kIx (aB 4) (vC (.int 0)))))) (sIf (aZ (v2 (iP true) (aB 5) (vC .non))) (aS (aY 6 (xOf (v2 cJ (v2 kIx (aB 5) (vC (.int 0))) (v2 kIx (aB 4) (vC (.int 3)))))) (sIf (gP (aZ (v2 (iP false) (v2 kIx (aB 2) (v2 kIx (aB 4) (vC (.int 2)))) (vC .non))) (aZ (v2 kGt (aB 6) (v2 kIx (v2 kIx (aB 2) (v2 kIx (aB 4) (vC (.int 2)))) (vC (.int 0)))))) (dQ 2 (v2 kIx (aB 4) (vC (.int 2))) (nP (aE (aB 6) (aE (aB 3) aN)))) bJ)) bJ))) (gT 2)))
def mX:Fn:=fnOf 7 rP
def mH:aX:=(aS (aY 1 (xOf (bQ (iR1 (aE (v2 kIx (aB 0) (vC (.int 0))) aN)) 1 [] (bA 0) bY (vC .non)))) (aS (dQ 1 (vC (.int 0)) (nP (aE (vC (.int 0)) (aE (vC .non) aN)))) (aS (nO [1] (aY 2 (xOf (pN (aE (aB 1) aN))))) (aS (fW (iR1 (aE (v2 kIx (aB 0) (vC (.int 0))) aN)) (bA 3) (eK 2 (aMv (bB mX (aE (aB 0) (aE (v2 kIx (aB 2) (v1 (kU fun i=>.int (-i)) (vC (.int 1)))) aN)))))) (gT 2)))))
def iJ:Fn:=fnOf 4 mH
def lI:aX:=(aS (aY 2 (xOf (v2 sI (vCB dN (aE (aB 0) aN)) (vC (.int 1))))) (aS (sIf (aZ (v2 (iP false) (v2 kIx (v2 kIx (aB 0) (aB 2)) (aB 1)) (vC .non))) (bX (xOf (vC .non))) bJ) (aS (aY 3 (xOf (vC .non))) (aS (fW (iR1 (aE (aB 2) aN)) (bA 4) (sIf (aZ (v2 (iP true) (v2 kIx (v2 kIx (aB 0) (aB 4)) (aB 1)) (vC .non))) (aS (aY 5 (xOf (nP (aE (v2 sI (v2 kIx (v2 kIx (v2 kIx (aB 0) (aB 2)) (aB 1)) (vC (.int 0))) (v2 kIx (v2 kIx (v2 kIx (aB 0) (aB 4)) (aB 1)) (vC (.int 0)))) (aE (v2 sI (aB 2) (aB 4)) aN))))) (sIf (gP (aZ (v2 (iP false) (aB 3) (vC .non))) (dC (bB iE (aE (aB 5) (aE (aB 3) aN))))) (aY 3 (xOf (aB 5))) bJ)) bJ)) (gT 3)))))
def lC:Fn:=fnOf 6 lI
def lJ:aX:=(aS (aY 1 (xOf (vC .non))) (aS (aY 2 (xOf (vC .non))) (aS (fW (iR1 (aE (vCB dN (aE (v2 kIx (aB 0) (vC (.int 0))) aN)) aN)) (bA 3) (aS (aY 4 (xOf (bB lC (aE (aB 0) (aE (aB 3) aN))))) (sIf (lK (aZ (v2 (iP true) (aB 4) (vC .non))) (gP (aZ (v2 (iP false) (aB 2) (vC .non))) (dC (bB iE (aE (aB 2) (aE (aB 4) aN)))))) (aS (aY 1 (xOf (aB 3))) (aY 2 (xOf (aB 4)))) bJ))) (gT 1))))
def gO:Fn:=fnOf 5 lJ
def rR:aX:=(aS (aY 3 (xOf (uP (aB 2) (vC (.int 0))))) (aS (aY 4 (xOf (pN aN))) (aS (aY 5 (xOf (v2 sI (vCB dN (aE (aB 1) aN)) (vC (.int 1))))) (bS (dC (vC (.bl true))) (aS (eK 4 (v2 kIx (v2 kIx (v2 kIx (aB 1) (aB 5)) (aB 2)) (vC (.int 1)))) (aS (aY 2 (xOf (v2 kIx (v2 kIx (v2 kIx (aB 0) (vC (.int 2))) (v2 kIx (aB 4) (v1 (kU fun i=>.int (-i)) (vC (.int 1))))) (vC (.int 0))))) (aS (sIf (aZ (v2 aJv (aB 2) (aB 3))) (aS (aY 6 (xOf (vSl (aB 4) (aIi (v2 aH1 (aB 3) (aB 2))) aBb))) (aS (aFk 6) (gT 6))) bJ) (aS (vH 3 (aB 2) (vCB dN (aE (aB 4) aN))) (uH 5 (fun i j=>i - j) (vC (.int 1))))))) fuel))))
def mJ:Fn:=fnOf 7 rR
def jD:aX:=(aS (aY 1 (xOf (bB iJ (aE (aB 0) aN)))) (aS (nO [1] (aY 2 (xOf (bB gO (aE (aB 1) aN))))) (aS (sIf (aZ (v2 (iP false) (aB 2) (vC .non))) (bX (xOf (pN aN))) bJ) (bX (xOf (bB mJ (aE (aB 0) (aE (aB 1) (aE (aB 2) aN)))))))))
def iL:Fn:=fnOf 3 jD
def lO:aX:=(bX (xOf (vCB yL (aE (bQ (eZ (aB 1)) 1 [0] (bA 0) bY (v2 kIx (v2 kIx (v2 kIx (aB 1) (vC (.int 2))) (aB 0)) (vC (.int 3)))) aN))))
def fE:Fn:=fnOf 2 lO
def rG:aX:=(aS (aY 2 (xOf (bQ (eZ (v2 kIx (aB 0) (vC (.int 2)))) 1 [1] (bA 0) bY (v2 sI (v2 bH (v2 kIx (aB 0) (vC (.int 3))) (v2 kIx (aB 1) (vC (.int 1)))) (v2 kIx (aB 1) (vC (.int 0))))))) (nO [2] (bX (xOf (bQ (eZ (v2 kIx (bB hG (aE (aB 0) (aE (aB 2) aN))) (vC (.int 0)))) 1 [1] (bA 0) bY (bB eM (aE (aB 0) (aE (v2 kIx (aB 1) (vC (.int 1))) aN))))))))
def jG:Fn:=fnOf 3 rG
def jY:aX:=(aS (nR (fY fU (aE (aB 0) aN))) (aS (aY 1 (xOf (bB iL (aE (aB 0) aN)))) (aS (nO [1] (aY 2 (xOf (vC (.tup (([0,1]:Y0).map D.int)))))) (aS (sIf (aZ (v2 kGt (vCB dN (aE (aB 1) aN)) (vC (.int 0)))) (nO [1] (aY 2 (xOf (bB eM (aE (bB fE (aE (aB 0) (aE (aB 1) aN))) (aE (vCB dN (aE (aB 1) aN)) aN)))))) bJ) (bX (xOf (nP (aE (aB 2) (aE (aB 1) (aE (bB jG (aE (aB 0) (aE (aB 2) aN))) aN))))))))))
def gI:Fn:=fnOf 3 jY
def nE:aX:=(aS (sIf (gP (aZ (v2 (kEq true) (vCB dN (aE (aB 3) aN)) (v2 kIx (aB 0) (vC (.int 0))))) (cW (dC (bB fQ (aE (aB 3) aN))))) (bX (xOf (vC (.bl false)))) bJ) (aS (fW (eZ (v2 kIx (aB 0) (vC (.int 2)))) (bA 4) (sIf (dC (v2 kIx (aB 1) (v2 kIx (aB 4) (vC (.int 0))))) (aS (aY 5 (xOf (bB uI (aE (v2 kIx (aB 3) (v2 kIx (aB 4) (vC (.int 2)))) (aE (nP (aE (v2 kIx (aB 4) (vC (.int 3))) (aE (vC (.int 1)) aN))) aN))))) (sIf (dC (bB iE (aE (bB uI (aE (v2 kIx (aB 3) (v2 kIx (aB 4) (vC (.int 0)))) (aE (aB 2) aN))) (aE (aB 5) aN)))) (bX (xOf (vC (.bl false)))) bJ)) bJ)) (bX (xOf (vC (.bl true))))))
def rF:Fn:=fnOf 6 nE
def nS:aX:=(aS (aY 3 (xOf (v2 kIx (aB 0) (vC (.int 2))))) (aS (fW (eZ (aB 2)) (bA 4) (sIf (cW (dC (bB bZ (aE (aB 4) (aE (vC (.int 0)) (aE (v2 sI (vCB dN (aE (aB 3) aN)) (vC (.int 1))) aN)))))) (bX (xOf (vC (.bl false)))) bJ)) (aS (aY 5 (xOf (v2 kIx (v2 kIx (aB 3) (v2 kIx (aB 2) (v1 (kU fun i=>.int (-i)) (vC (.int 1))))) (vC (.int 2))))) (aS (sIf (cW (dC (v2 kIx (aB 1) (aB 5)))) (bX (xOf (vC (.bl false)))) bJ) (aS (fW (eZ (aB 2)) (bA 4) (aS (sIf (aZ (v2 (kEq true) (v2 kIx (v2 kIx (aB 3) (aB 4)) (vC (.int 0))) (aB 5))) (bX (xOf (vC (.bl false)))) bJ) (aY 5 (xOf (v2 kIx (v2 kIx (aB 3) (aB 4)) (vC (.int 2))))))) (bX (xOf (vC (.bl true)))))))))
def jM:Fn:=fnOf 6 nS
def hV:aX:=(aS (sIf (aZ (v2 (kEq false) (vCB dN (aE (aB 3) aN)) (vC (.int 0)))) (bX (xOf (v2 (kEq false) (aB 2) (vC (.tup (([0,1]:Y0).map D.int)))))) bJ) (aS (sIf (cW (dC (bB jM (aE (aB 0) (aE (aB 1) (aE (aB 3) aN)))))) (bX (xOf (vC (.bl false)))) bJ) (bX (xOf (v2 (kEq false) (aB 2) (bB eM (aE (bB fE (aE (aB 0) (aE (aB 3) aN))) (aE (vCB dN (aE (aB 3) aN)) aN))))))))
def kS:Fn:=fnOf 4 hV
def jX:aX:=(aS (aY 4 (fY nH (aE (aB 0) aN))) (bX (xOf (oW (bB kS (aE (aB 0) (aE (aB 4) (aE (aB 1) (aE (aB 2) aN))))) (bB rF (aE (aB 0) (aE (aB 4) (aE (aB 1) (aE (aB 3) aN)))))))))
def gF:Fn:=fnOf 5 jX
def rO:aX:=(aS (sIf (gP (cW (dC (v1 (jU "tuple") (aB 0)))) (gP (aZ (v2 (kEq true) (vCB dN (aE (aB 0) aN)) (vC (.int 2)))) (gP (cW (dC (bB nL (aE (v2 kIx (aB 0) (vC (.int 0))) aN)))) (cW (dC (bB nL (aE (v2 kIx (aB 0) (vC (.int 1))) aN))))))) (bX (xOf (vC (.bl false)))) bJ) (aS (aBy 1 2 (vCB aFg (aE (v2 kIx (aB 0) (vC (.int 0))) aN)) (v2 kIx (aB 0) (vC (.int 1)))) (aS (bS (aZ (v2 kGt (aB 2) (vC (.int 0)))) (aBy 1 2 (aB 2) (v2 lH (aB 1) (aB 2))) fuel) (bX (xOf (oW (v2 kGt (v2 kIx (aB 0) (vC (.int 1))) (vC (.int 0))) (v2 (kEq false) (aB 1) (vC (.int 1)))))))))
def eN:Fn:=fnOf 3 rO
def tE:aX:=(aS (sIf (aZ (v2 (kEq false) (aB 2) (pN aN))) (bX (xOf (v2 (kEq false) (aB 1) (nP (aE (vC (.int 0)) (aE (vC (.int 1)) aN)))))) bJ) (aS (fW (iR1 (aE (vCB dN (aE (aB 2) aN)) aN)) (bA 3) (sIf (aZ (v2 (kEq true) (v2 kIx (v2 kIx (v2 kIx (aB 0) (vC (.int 2))) (v2 kIx (aB 2) (v2 sI (aB 3) (vC (.int 1))))) (vC (.int 2))) (v2 kIx (v2 kIx (v2 kIx (aB 0) (vC (.int 2))) (v2 kIx (aB 2) (aB 3))) (vC (.int 0))))) (bX (xOf (vC (.bl false)))) bJ)) (aS (aY 4 (xOf (vCB yL (aE (bQ (eZ (aB 2)) 1 [0] (bA 0) bY (v2 kIx (v2 kIx (v2 kIx (aB 1) (vC (.int 2))) (aB 0)) (vC (.int 3)))) aN)))) (bX (xOf (oW (v2 (kIn false) (v2 kIx (v2 kIx (v2 kIx (aB 0) (vC (.int 2))) (v2 kIx (aB 2) (vC (.int 0)))) (vC (.int 0))) (bB gJ (aE (aB 0) aN))) (v2 (kEq false) (v2 bH (aB 4) (v2 kIx (aB 1) (vC (.int 1)))) (v2 bH (v2 kIx (aB 1) (vC (.int 0))) (vCB dN (aE (aB 2) aN))))))))))
def qC:Fn:=fnOf 5 tE
def b_law:aX:=(aS (aY 1 (xOf (bB jL (aE (aB 0) (aE (vC (.int 0)) (aE (vC (.int 6)) aN)))))) (aS (aY 2 (fY gI (aE (aB 1) aN))) (aS (sIf (gP (cW (dC (v1 (jU "tuple") (aB 2)))) (gP (aZ (v2 (kEq true) (vCB dN (aE (aB 2) aN)) (vC (.int 3)))) (cW (dC (bB eN (aE (v2 kIx (aB 2) (vC (.int 0))) aN)))))) (bX (xOf (vC (.bl false)))) bJ) (aS (kO [3,4,5] (xOf (aB 2))) (aS (sIf (gP (cW (dC (vCB aGv (aE (bQ (eZ (aB 5)) 1 [] (bA 0) bY (oW (bB eN (aE (aB 0) aN)) (v2 kGe (v2 kIx (aB 0) (vC (.int 0))) (vC (.int 0))))) aN)))) (aZ (v2 (kEq true) (vCB dN (aE (aB 5) aN)) (v2 kIx (aB 1) (vC (.int 0)))))) (bX (xOf (vC (.bl false)))) bJ) (aS (aY 6 (xOf (bB gJ (aE (aB 1) aN)))) (aS (aY 7 (xOf (bQ (iR1 (aE (v2 kIx (aB 1) (vC (.int 0))) aN)) 1 [6] (bA 0) (aZ (v2 (kIn true) (aB 0) (aB 1))) (aB 0)))) (aS (nO [7] (sIf (gP (cW (dC (bB qC (aE (aB 1) (aE (aB 3) (aE (aB 4) aN)))))) (dC (vCB xN (aE (bQ (eZ (aB 7)) 1 [5] (bA 0) bY (v2 (kEq true) (v2 kIx (aB 1) (aB 0)) (nP (aE (vC (.int 0)) (aE (vC (.int 1)) aN))))) aN)))) (bX (xOf (vC (.bl false)))) bJ)) (aS (fW (eZ (v2 kIx (aB 1) (vC (.int 2)))) (dH [8,9,10,11]) (aS (aY 12 (xOf (v2 cJ (v2 bH (v2 kIx (v2 kIx (aB 5) (aB 8)) (vC (.int 0))) (v2 kIx (aB 3) (vC (.int 1)))) (v2 bH (v2 kIx (aB 3) (vC (.int 0))) (v2 kIx (v2 kIx (aB 5) (aB 8)) (vC (.int 1))))))) (aS (aY 13 (xOf (v2 bH (v2 cJ (v2 bH (aB 11) (v2 kIx (v2 kIx (aB 5) (aB 10)) (vC (.int 1)))) (v2 kIx (v2 kIx (aB 5) (aB 10)) (vC (.int 0)))) (v2 kIx (aB 3) (vC (.int 1)))))) (sIf (lK (aZ (v2 (kIn false) (aB 8) (aB 6))) (aZ (v2 kLt (v2 bH (aB 12) (v2 kIx (v2 kIx (aB 5) (aB 10)) (vC (.int 1)))) (v2 bH (aB 13) (v2 kIx (v2 kIx (aB 5) (aB 8)) (vC (.int 1))))))) (bX (xOf (vC (.bl false)))) bJ)))) (aS (fW (iR1 (aE (vC (.int 4)) aN)) (bA 14) (aS (aY 15 (xOf (bB pS (aE (aB 0) (aE (v2 cJ (vC (.int 40)) (v2 bH (vC (.int 12)) (aB 14))) (aE (aB 1) (aE (vC (.int 10)) aN))))))) (aS (nO [15] (aY 16 (xOf (vIf (dC (aB 15)) (v2 kIx (v2 kIx (v2 kIx (aB 1) (vC (.int 2))) (v2 kIx (aB 15) (v1 (kU fun i=>.int (-i)) (vC (.int 1))))) (vC (.int 2))) (vC (.int 0)))))) (aS (aY 11 (xOf (vCB yL (aE (bQ (eZ (aB 15)) 1 [1] (bA 0) bY (v2 kIx (v2 kIx (v2 kIx (aB 1) (vC (.int 2))) (aB 0)) (vC (.int 3)))) aN)))) (aS (aY 12 (xOf (v2 cJ (v2 bH (v2 kIx (v2 kIx (aB 5) (vC (.int 0))) (vC (.int 0))) (v2 kIx (aB 3) (vC (.int 1)))) (v2 bH (v2 bH (vCB dN (aE (aB 15) aN)) (v2 kIx (aB 3) (vC (.int 0)))) (v2 kIx (v2 kIx (aB 5) (vC (.int 0))) (vC (.int 1))))))) (aS (aY 13 (xOf (v2 bH (v2 cJ (v2 bH (aB 11) (v2 kIx (v2 kIx (aB 5) (aB 16)) (vC (.int 1)))) (v2 kIx (v2 kIx (aB 5) (aB 16)) (vC (.int 0)))) (v2 kIx (aB 3) (vC (.int 1)))))) (sIf (aZ (v2 kGt (v2 bH (aB 13) (v2 kIx (v2 kIx (aB 5) (vC (.int 0))) (vC (.int 1)))) (v2 bH (aB 12) (v2 kIx (v2 kIx (aB 5) (aB 16)) (vC (.int 1)))))) (bX (xOf (vC (.bl false)))) bJ))))))) (bX (fY gF (aE (aB 1) (aE (aB 3) (aE (vCB pF (aE (aB 4) aN)) (aE (vCB pF (aE (aB 5) aN)) aN))))))))))))))))
def f_law:Fn:=fnOf 17 b_law
end VL.K20
end
section
namespace VL
open PySem PySem.Spec PyProof.Rows L2
theorem iU {X:Cx} {pos:Pos} {x:Str} {i:Int} (hm:∃t,X.mg x=some (.int i t)) (hg:Gl X x:=by rfl) (hd:(x == ("__debug__" : Str))=false:=by decide):SE X (.Name x pos) (vC (.int i)):=by
 obtain ⟨t,hm⟩:=hm
 exact aMr hm hg hd
theorem xQ {X:Cx} {pos:Pos} {x:Str} {ns:Y0} (h:∃(p:Addr) (o:Obj) (its:Array Value) (n:Nat),X.mg x=some (.ref p)/\X.K.lookup p=some o/\o.cls=.type "tuple" /\o.data=.seq its n/\IntsAre its.toList ns) (hz:ns.length<=1000000) (hg:Gl X x:=by rfl) (hdb:(x == ("__debug__" : Str))=false:=by decide):SE X (.Name x pos) (vC (.tup (ns.map D.int))):=by
 obtain ⟨p,o,its,n,h1,h2,h3,h4,h5⟩:=h
 exact aKc h1 h2 h3 h4 h5 hz hg hdb
theorem al1 {f0:aQ}:zK 1 (aE f0 aN):=nJ aJh
theorem al2 {f0 f1:aQ}:zK 2 (aE f0 (aE f1 aN)):=nJ al1
theorem al3 {f0 f1 f2:aQ}:zK 3 (aE f0 (aE f1 (aE f2 aN))):=nJ al2
theorem al4 {f0 f1 f2 f3:aQ}:zK 4 (aE f0 (aE f1 (aE f2 (aE f3 aN)))):=nJ al3
namespace K20
open PY K10 K11
structure XT (K:FG) (mg:Y6) (M:Addr):Prop where
 mM:mg "BadMachine" = some (.ref M)
 cM:xR K "BadMachine" M
 xM:PySem.W.excIn K M bmV "ValueError.__new__" = true
def top (i:Nat):Stmt:=PySem.Challenge.pw_pursehall_k20_whole_least_price.main.body.getD i (.Pass ⟨0,0,0,0⟩)
structure Txt (K:FG) (mg:Y6):Prop where
 n_abs:mg "abs" = none
 n_all:mg "all" = none
 n_any:mg "any" = none
 n_bool:mg "bool" = none
 n_enumerate:mg "enumerate" = none
 n_int:mg "int" = none
 n_isinstance:mg "isinstance" = none
 n_len:mg "len" = none
 n_list:mg "list" = none
 n_range:mg "range" = none
 n_set:mg "set" = none
 n_sorted:mg "sorted" = none
 n_sum:mg "sum" = none
 n_tuple:mg "tuple" = none
 i_MOST_PLACES:∃t,mg "MOST_PLACES" = some (.int 200 t)
 i_MOST_KINDS:∃t,mg "MOST_KINDS" = some (.int 8 t)
 i_MOST_DEEDS:∃t,mg "MOST_DEEDS" = some (.int 600 t)
 i_MOST_COST:∃t,mg "MOST_COST" = some (.int 1000 t)
 t_NOUGHT:∃(p:Addr) (o:Obj) (its:Array Value) (n:Nat),mg "NOUGHT" = some (.ref p)/\K.lookup p=some o/\o.cls=.type "tuple" /\o.data=.seq its n/\IntsAre its.toList [0,1]
 d_is_whole:FnAt K "is_whole" (top 2)
 d_is_between:FnAt K "is_between" (top 3)
 d_common_divisor:FnAt K "common_divisor" (top 4)
 d_fraction:FnAt K "fraction" (top 5)
 d_is_fraction:FnAt K "is_fraction" (top 6)
 d_are_from_nought:FnAt K "are_from_nought" (top 7)
 d_is_less:FnAt K "is_less" (top 8)
 d_plus:FnAt K "plus" (top 9)
 d_is_deed:FnAt K "is_deed" (top 18)
 d_look_deeds:FnAt K "look_deeds" (top 19)
 d_look_machine:FnAt K "look_machine" (top 20)
 d_deeds_from:FnAt K "deeds_from" (top 21)
 d_came_by:FnAt K "came_by" (top 22)
 d_reached:FnAt K "reached" (top 23)
 d_raise_once:FnAt K "raise_once" (top 25)
 d_most_gains:FnAt K "most_gains" (top 26)
 d_next_rows:FnAt K "next_rows" (top 28)
 d_dearest_rows:FnAt K "dearest_rows" (top 29)
 d_least_rise:FnAt K "least_rise" (top 30)
 d_place_of_most:FnAt K "place_of_most" (top 31)
 d_ring_back:FnAt K "ring_back" (top 32)
 d_dearest_ring:FnAt K "dearest_ring" (top 33)
 d_cost_together:FnAt K "cost_together" (top 34)
 d_purse_for:FnAt K "purse_for" (top 35)
 d_least_price:FnAt K "least_price" (top 36)
 d_is_paid:FnAt K "is_paid" (top 37)
 d_leads_round:FnAt K "leads_round" (top 38)
 d_ring_shows:FnAt K "ring_shows" (top 39)
 d_shows_price:FnAt K "shows_price" (top 40)
 d_q_cell:FnAt K "_law_cell" (top 42)
 d_q_mix:FnAt K "_law_mix" (top 43)
 d_q_whole:FnAt K "_law_whole" (top 44)
 d_q_machine:FnAt K "_law_machine" (top 45)
 d_q_row:FnAt K "_law_row" (top 46)
 d_q_reached:FnAt K "_law_reached" (top 47)
 d_q_is_part:FnAt K "_law_is_part" (top 48)
 d_q_ring:FnAt K "_law_ring" (top 49)
 d_law:FnAt K "law" (top 50)
 xc:∃M,XT K mg M
abbrev KnT (P:Program) (w:World) (K:FG) (mg:Y6) (base:Heap) (l:Nat) (n:Str) (k:Nat) (f:Fn):Prop:=Txt K mg->K.In base->base.Ns mainGlobals mg->Kn P w K mg base l n k f
section
variable {P:Program} {w:World} {K:FG} {mg:Y6} {base:Heap}
def aC3:List Str:=["thing"]
theorem aA4:FnScope aC3 ["thing"] (aI (top 2)):=⟨rfl,rfl,rfl,by decide +kernel,rfl,by decide +kernel,by decide +kernel⟩
theorem lZ:KnT P w K mg base 1 "is_whole" 1 iZ:=fun T kb nb =>
 cC T.d_is_whole kb nb aA4 rfl rfl (by decide) (fun _ _ _ _ _ _ us hl=>match us,hl with | [_],_=>rfl) fun f cdv A outer s H E hr =>
  (aL (bC (aR (kT (jW (T' := "int") (by decide) (aA 0) T.n_isinstance T.n_int (by decide +kernel)) (jP (aJ8 (jW (T' := "bool") (by decide) (aA 0) T.n_isinstance T.n_bool (by decide +kernel))))))))
def yM:List Str:=["thing", "least", "most"]
theorem vT:FnScope yM ["thing", "least", "most"] (aI (top 3)):=⟨rfl,rfl,rfl,by decide +kernel,rfl,by decide +kernel,by decide +kernel⟩
theorem dE:KnT P w K mg base 2 "is_between" 3 bZ:=fun T kb nb =>
 cC T.d_is_between kb nb vT rfl rfl (by decide) (fun _ _ _ _ _ _ us hl=>match us,hl with | [_,_,_],_=>rfl) fun f cdv A outer s H E hr =>
  (aL (bC (aR (kT (aW (lZ T kb nb) (hr.mono (by decide)) (aC (aA 0) aJ) al1) (jP (aJs aNg aNg (aA 1) (aA 0) (aA 2)))))))
def qX:List Str:=["one", "other", "rest"]
theorem cL:FnScope qX ["one", "other"] (aI (top 4)):=⟨rfl,rfl,rfl,by decide +kernel,rfl,by decide +kernel,by decide +kernel⟩
theorem jE:KnT P w K mg base 1 "common_divisor" 2 eS:=fun T kb nb =>
 cC T.d_common_divisor kb nb cL rfl rfl (by decide) (fun _ _ _ _ _ _ us hl=>match us,hl with | [_,_],_=>rfl) fun f cdv A outer s H E hr =>
  (aF (aV 0 cL.nd (aR (aB9 T.n_abs (aA 0)))) (aF (aV 1 cL.nd (aR (aB9 T.n_abs (aA 1)))) (aF (kH fuel cQ.own (mF hr (aA 1) aD) (aF (aV 2 cL.nd (aR (fJ (aA 0) (aA 1)))) (aF (aV 0 cL.nd (aR (aA 1))) (aL (aV 1 cL.nd (aR (aA 2))))))) (aL (fP 0)))))
def aDo:List Str:=["top", "bottom", "divisor"]
theorem rQ:FnScope aDo ["top", "bottom"] (aI (top 5)):=⟨rfl,rfl,rfl,by decide +kernel,rfl,by decide +kernel,by decide +kernel⟩
theorem jI:KnT P w K mg base 2 "fraction" 2 eM:=fun T kb nb =>
 cC T.d_fraction kb nb rQ rfl rfl (by decide) (fun _ _ _ _ _ _ us hl=>match us,hl with | [_,_],_=>rfl) fun f cdv A outer s H E hr =>
  (aF (aV 2 rQ.nd (aR (aW (jE T kb nb) (hr.mono (by decide)) (aC (aA 0) (aC (aA 1) aJ)) al2))) (aL (bC (aR (iV (aC (nD (aA 0) (aA 2)) (aC (nD (aA 1) (aA 2)) aJ)))))))
def wH:List Str:=["thing"]
theorem vB:FnScope wH ["thing"] (aI (top 6)):=⟨rfl,rfl,rfl,by decide +kernel,rfl,by decide +kernel,by decide +kernel⟩
theorem tF:KnT P w K mg base 2 "is_fraction" 1 jR:=fun T kb nb =>
 cC T.d_is_fraction kb nb vB rfl rfl (by decide) (fun _ _ _ _ _ _ us hl=>match us,hl with | [_],_=>rfl) fun f cdv A outer s H E hr =>
  (aF (bW (jZ (fZ (cS (bT (jW (T' := "tuple") (by decide) (aA 0) T.n_isinstance T.n_tuple (by decide +kernel)))) (fF (mF hr (cI T.n_len (aA 0)) aD)))) (aL (bC (aR eV))) bI) (aF (bW (jZ (fZ (cS (bT (aW (lZ T kb nb) (hr.mono (by decide)) (aC (aG (aA 0) aD) aJ) al1))) (fF (cS (bT (aW (lZ T kb nb) (hr.mono (by decide)) (aC (aG (aA 0) aD) aJ) al1)))))) (aL (bC (aR eV))) bI) (aL (bC (aR (kT (aOi (aG (aA 0) aD) aD) (jP (tQ hr (aW (jE T kb nb) (hr.mono (by decide)) (aC (aG (aA 0) aD) (aC (aG (aA 0) aD) aJ)) al2) aD))))))))
def pO:List Str:=["things", "thing"]
theorem jC:FnScope pO ["things"] (aI (top 7)):=⟨rfl,rfl,rfl,by decide +kernel,rfl,by decide +kernel,by decide +kernel⟩
theorem oR:KnT P w K mg base 3 "are_from_nought" 1 fQ:=fun T kb nb =>
 cC T.d_are_from_nought kb nb jC rfl rfl (by decide) (fun _ _ _ _ _ _ us hl=>match us,hl with | [_],_=>rfl) fun f cdv A outer s H E hr =>
  (aF (dW cQ.own rfl (fG (aA 0)) (cO 1 jC.nd) bG (aL (bW (jZ (fZ (cS (bT (aW (tF T kb nb) (hr.mono (by decide)) (aC (aA 1) aJ) al1))) (fF (aBq (aG (aA 1) aD) aD)))) (aL (bC (aR eV))) bI))) (aL (bC (aR eV))))
def aGh:List Str:=["one", "other"]
theorem aCx:FnScope aGh ["one", "other"] (aI (top 8)):=⟨rfl,rfl,rfl,by decide +kernel,rfl,by decide +kernel,by decide +kernel⟩
theorem oJ:KnT P w K mg base 1 "is_less" 2 iE:=fun T kb nb =>
 cC T.d_is_less kb nb aCx rfl rfl (by decide) (fun _ _ _ _ _ _ us hl=>match us,hl with | [_,_],_=>rfl) fun f cdv A outer s H E hr =>
  (aL (bC (aR (aSs (bK (aG (aA 0) aD) (aG (aA 1) aD)) (bK (aG (aA 1) aD) (aG (aA 0) aD))))))
def aRn:List Str:=["one", "other"]
theorem aMf:FnScope aRn ["one", "other"] (aI (top 9)):=⟨rfl,rfl,rfl,by decide +kernel,rfl,by decide +kernel,by decide +kernel⟩
theorem aEd:KnT P w K mg base 3 "plus" 2 uI:=fun T kb nb =>
 cC T.d_plus kb nb aMf rfl rfl (by decide) (fun _ _ _ _ _ _ us hl=>match us,hl with | [_,_],_=>rfl) fun f cdv A outer s H E hr =>
  (aL (bC (aR (aW (jI T kb nb) (hr.mono (by decide)) (aC (cA (bK (aG (aA 0) aD) (aG (aA 1) aD)) (bK (aG (aA 1) aD) (aG (aA 0) aD))) (aC (bK (aG (aA 0) aD) (aG (aA 1) aD)) aJ)) al2))))
def aGs:List Str:=["machine", "deed", "last_place"]
theorem tX:FnScope aGs ["machine", "deed"] (aI (top 18)):=⟨rfl,rfl,rfl,by decide +kernel,rfl,by decide +kernel,by decide +kernel⟩
theorem aCa:KnT P w K mg base 3 "is_deed" 2 qQ:=fun T kb nb =>
 cC T.d_is_deed kb nb tX rfl rfl (by decide) (fun _ _ _ _ _ _ us hl=>match us,hl with | [_,_],_=>rfl) fun f cdv A outer s H E hr =>
  (aF (bW (jZ (fZ (cS (bT (jW (T' := "tuple") (by decide) (aA 1) T.n_isinstance T.n_tuple (by decide +kernel)))) (fF (mF hr (cI T.n_len (aA 1)) aD)))) (aL (bC (aR eV))) bI) (aF (aV 2 tX.nd (aR (jV (aG (aA 0) aD) aD))) (aF (bW (jZ (fZ (cS (bT (aW (dE T kb nb) (hr.mono (by decide)) (aC (aG (aA 1) aD) (aC aD (aC (aA 2) aJ))) al3))) (fF (cS (bT (aW (dE T kb nb) (hr.mono (by decide)) (aC (aG (aA 1) aD) (aC aD (aC (aA 2) aJ))) al3)))))) (aL (bC (aR eV))) bI) (aL (bC (aR (kT (aW (dE T kb nb) (hr.mono (by decide)) (aC (aG (aA 1) aD) (aC aD (aC (jV (aG (aA 0) aD) aD) aJ))) al3) (jP (aW (dE T kb nb) (hr.mono (by decide)) (aC (aG (aA 1) aD) (aC aD (aC (iU T.i_MOST_COST) aJ))) al3)))))))))
def yJ:List Str:=["machine", "deeds", "number", "deed"]
theorem eY:FnScope yJ ["machine"] (aI (top 19)):=⟨rfl,rfl,rfl,by decide +kernel,rfl,by decide +kernel,by decide +kernel⟩
theorem vP (T:Txt K mg) (kb:K.In base) (nb:base.Ns mainGlobals mg):Kn P w K mg base 4 "look_deeds" 1 kW:=by
 obtain ⟨_,XX⟩:=T.xc
 exact cC T.d_look_deeds kb nb eY rfl rfl (by decide) (fun _ _ _ _ _ _ us hl=>match us,hl with | [_],_=>rfl) fun f cdv A outer s H E hr =>
   (aF (aV 1 eY.nd (aR (aG (aA 0) aD))) (aF (bW (jZ (fZ (cS (bT (jW (T' := "list") (by decide) (aA 1) T.n_isinstance T.n_list (by decide +kernel)))) (fF (xS (cI T.n_len (aA 1)) (iU T.i_MOST_DEEDS))))) (aL (kJ qI rfl XX.cM XX.xM XX.mM (pA (cU iQ (cU (pW (iU T.i_MOST_DEEDS)) (cU iQ pV)))))) bI) (aF (dW cQ.own rfl (oT T.n_enumerate (aA 1)) (mW rfl (fA (cO 2 eY.nd) (fA (cO 3 eY.nd) rJ)) rfl rfl) (kQ rfl) (aL (bW (cS (bT (aW (aCa T kb nb) (hr.mono (by decide)) (aC (aA 0) (aC (aA 3) aJ)) al2))) (aL (kJ qI rfl XX.cM XX.xM XX.mM (pA (cU iQ (cU (pW (aA 2)) (cU iQ pV)))))) bI))) (aL (dW cQ.own rfl (aGb T.n_range (aC aD (aC (cI T.n_len (aA 1)) aJ))) (cO 2 eY.nd) bG (aL (bW (aRh hr (aG (aA 1) (aA 2)) (aG (aA 1) (jV (aA 2) aD))) (aL (kJ qI rfl XX.cM XX.xM XX.mM (pA (cU iQ (cU (pW (aA 2)) (cU iQ pV)))))) bI)))))))
def tT:List Str:=["machine"]
theorem sC:FnScope tT ["machine"] (aI (top 20)):=⟨rfl,rfl,rfl,by decide +kernel,rfl,by decide +kernel,by decide +kernel⟩
theorem lL (T:Txt K mg) (kb:K.In base) (nb:base.Ns mainGlobals mg):Kn P w K mg base 5 "look_machine" 1 fU:=by
 obtain ⟨_,XX⟩:=T.xc
 exact cC T.d_look_machine kb nb sC rfl rfl (by decide) (fun _ _ _ _ _ _ us hl=>match us,hl with | [_],_=>rfl) fun f cdv A outer s H E hr =>
   (aF (bW (jZ (fZ (cS (bT (jW (T' := "tuple") (by decide) (aA 0) T.n_isinstance T.n_tuple (by decide +kernel)))) (fF (mF hr (cI T.n_len (aA 0)) aD)))) (aL (kJ qI rfl XX.cM XX.xM XX.mM iQ)) bI) (aF (bW (cS (bT (aW (dE T kb nb) (hr.mono (by decide)) (aC (aG (aA 0) aD) (aC aD (aC (iU T.i_MOST_PLACES) aJ))) al3))) (aL (kJ qI rfl XX.cM XX.xM XX.mM (pA (cU iQ (cU (pW (iU T.i_MOST_PLACES)) (cU iQ pV)))))) bI) (aF (bW (cS (bT (aW (dE T kb nb) (hr.mono (by decide)) (aC (aG (aA 0) aD) (aC aD (aC (iU T.i_MOST_KINDS) aJ))) al3))) (aL (kJ qI rfl XX.cM XX.xM XX.mM (pA (cU iQ (cU (pW (iU T.i_MOST_KINDS)) (cU iQ pV)))))) bI) (aL (yT (kP cQ (vP T kb nb) (hr.mono (by decide)) (aC (aA 0) aJ) al1))))))
def pX:List Str:=["machine", "numbers", "number", "deed"]
theorem gG:FnScope pX ["machine"] (aI (top 21)):=⟨rfl,rfl,rfl,by decide +kernel,rfl,by decide +kernel,by decide +kernel⟩
theorem wJ:KnT P w K mg base 1 "deeds_from" 1 lG:=fun T kb nb =>
 cC T.d_deeds_from kb nb gG rfl rfl (by decide) (fun _ _ _ _ _ _ us hl=>match us,hl with | [_],_=>rfl) fun f cdv A outer s H E hr =>
  (aF (cR 1 gG.nd (aI (top 21)) pX ["place"] 1 [] rfl rfl rfl (cE T.n_range (aC (aG (aA 0) aD) aJ)) bG (by decide +kernel) fun _ _ _ _=>⟨(cO 0 (show List.Nodup (["place"]:List Str) from (by decide +kernel))),pE,(jN aJ)⟩) (aF (dW cQ.own rfl (oT T.n_enumerate (aG (aA 0) aD)) (mW rfl (fA (cO 2 gG.nd) (fA (cO 3 gG.nd) rJ)) rfl rfl) (kQ rfl) (aL (aA2 1 (aG (aA 3) aD) (aA 2)))) (aL (fP 1))))
def xU:List Str:=["machine", "onward", "came", "places", "at", "number", "place"]
theorem eP:FnScope xU ["machine"] (aI (top 22)):=⟨rfl,rfl,rfl,by decide +kernel,rfl,by decide +kernel,by decide +kernel⟩
theorem aCu:KnT P w K mg base 2 "came_by" 1 nF:=fun T kb nb =>
 cC T.d_came_by kb nb eP rfl rfl (by decide) (fun _ _ _ _ _ _ us hl=>match us,hl with | [_],_=>rfl) fun f cdv A outer s H E hr =>
  (aF (aV 1 eP.nd (aR (aW (wJ T kb nb) (hr.mono (by decide)) (aC (aA 0) aJ) al1))) (aF (cR 2 eP.nd (aI (top 22)) xU ["place"] 1 [] rfl rfl rfl (cE T.n_range (aC (aG (aA 0) aD) aJ)) bG (by decide +kernel) fun _ _ _ _=>⟨(cO 0 (show List.Nodup (["place"]:List Str) from (by decide +kernel))),pE,dD⟩) (aF (aV 3 eP.nd (aR (jN (aC aD aJ)))) (aF (aV 4 eP.nd (aR aD)) (aF (iN [1] (kH fuel cQ.own (aBq (aA 4) (cI T.n_len (aA 3))) (aF (dW cQ.own rfl (fG (aG (aA 1) (aG (aA 3) (aA 4)))) (cO 5 eP.nd) bG (aF (aV 6 eP.nd (aR (aG (aG (aG (aA 0) aD) (aA 5)) aD))) (aL (bW (jZ (tI (mF hr (aA 6) aD) (oU (qY (aG (aA 2) (aA 6)) dD)))) (aF (jA 2 (aA 6) (aA 5)) (aL (iD 3 (aA 6)))) bI)))) (aL (aCl 4 eP.nd aHk aD))))) (aL (fP 2)))))))
def xB:List Str:=["machine"]
theorem aDi:FnScope xB ["machine"] (aI (top 23)):=⟨rfl,rfl,rfl,by decide +kernel,rfl,by decide +kernel,by decide +kernel⟩
theorem tY:KnT P w K mg base 6 "reached" 1 nH:=fun T kb nb =>
 cC T.d_reached kb nb aDi rfl rfl (by decide) (fun _ _ _ _ _ _ us hl=>match us,hl with | [_],_=>rfl) fun f cdv A outer s H E hr =>
  (aF (yT (kP cQ (lL T kb nb) (hr.mono (by decide)) (aC (aA 0) aJ) al1)) (aL (bC (aR (iS (aI (top 23)) xB ["place", "number"] 2 [] rfl rfl rfl (oT T.n_enumerate (aW (aCu T kb nb) (hr.mono (by decide)) (aC (aA 0) aJ) al1)) (kQ rfl) (by decide +kernel) fun _ _ _ _=>⟨(mW rfl (fA (cO 0 (show List.Nodup (["place", "number"]:List Str) from (by decide +kernel))) (fA (cO 1 (show List.Nodup (["place", "number"]:List Str) from (by decide +kernel))) rJ)) rfl rfl),pE,(aS2 (tQ hr (aA 0) aD) (jP (aL8 (aA 1) dD)))⟩)))))
def zC:List Str:=["machine", "gains", "numbers", "most", "onward", "raised", "number", "deed", "gain"]
theorem eF:FnScope zC ["machine", "gains", "numbers", "most", "onward"] (aI (top 25)):=⟨rfl,rfl,rfl,by decide +kernel,rfl,by decide +kernel,by decide +kernel⟩
theorem vZ:KnT P w K mg base 1 "raise_once" 5 fV:=fun T kb nb =>
 cC T.d_raise_once kb nb eF rfl rfl (by decide) (fun _ _ _ _ _ _ us hl=>match us,hl with | [_,_,_,_,_],_=>rfl) fun f cdv A outer s H E hr =>
  (aF (aV 5 eF.nd (aR dD)) (aF (dW cQ.own rfl (fG (aA 2)) (cO 6 eF.nd) bG (aF (aV 7 eF.nd (aR (aG (aG (aA 0) aD) (aA 6)))) (aF (aV 8 eF.nd (aR (cA (aG (aA 1) (aA 6)) (aG (aA 3) (aG (aA 7) aD))))) (aL (bW (xS (aA 8) (aG (aA 3) (aG (aA 7) aD))) (aF (jA 3 (aG (aA 7) aD) (aA 8)) (aF (jA 4 (aG (aA 7) aD) (aA 6)) (aL (aV 5 eF.nd (aR (aG (aA 7) aD)))))) bI))))) (aL (fP 5))))
def hX:List Str:=["machine", "gains", "come_to", "numbers", "most", "onward", "raised", "rounds"]
theorem cH:FnScope hX ["machine", "gains"] (aI (top 26)):=⟨rfl,rfl,rfl,by decide +kernel,rfl,by decide +kernel,by decide +kernel⟩
theorem wI:KnT P w K mg base 7 "most_gains" 2 hG:=fun T kb nb =>
 cC T.d_most_gains kb nb cH rfl rfl (by decide) (fun _ _ _ _ _ _ us hl=>match us,hl with | [_,_],_=>rfl) fun f cdv A outer s H E hr =>
  (aF (aV 2 cH.nd (kP cQ (tY T kb nb) (hr.mono (by decide)) (aC (aA 0) aJ) al1)) (aF (cR 3 cH.nd (aI (top 26)) hX ["number", "deed", "come_to"] 2 [2] rfl rfl rfl (oT T.n_enumerate (aG (aA 0) aD)) (kQ rfl) (by decide +kernel) fun _ _ _ _=>⟨(mW rfl (fA (cO 0 (show List.Nodup (["number", "deed", "come_to"]:List Str) from (by decide +kernel))) (fA (cO 1 (show List.Nodup (["number", "deed", "come_to"]:List Str) from (by decide +kernel))) rJ)) rfl rfl),(aOp (bT (aG (aA 2) (aG (aA 1) aD)))),(aA 0)⟩) (aF (cR 4 cH.nd (aI (top 26)) hX ["place"] 1 [] rfl rfl rfl (cE T.n_range (aC (aG (aA 0) aD) aJ)) bG (by decide +kernel) fun _ _ _ _=>⟨(cO 0 (show List.Nodup (["place"]:List Str) from (by decide +kernel))),pE,aD⟩) (aF (cR 5 cH.nd (aI (top 26)) hX ["place"] 1 [] rfl rfl rfl (cE T.n_range (aC (aG (aA 0) aD) aJ)) bG (by decide +kernel) fun _ _ _ _=>⟨(cO 0 (show List.Nodup (["place"]:List Str) from (by decide +kernel))),pE,dD⟩) (aF (aV 6 cH.nd (aR aD)) (aF (aV 7 cH.nd (aR aD)) (aF (iN [3] (kH fuel cQ.own (jZ (tI (sS (aA 6) dD) (oU (aBq (aA 7) (aG (aA 0) aD))))) (aF (aV 6 cH.nd (aH5 (vZ T kb nb) (hr.mono (by decide)) (aBo 0 (aBo 1 (aBo 3 (aBo 4 (aBo 5 aPl))))) rfl)) (aL (aCl 7 cH.nd aHk aD))))) (aL (iN [4,5] (bC (aR (iV (aC (aA 4) (aC (aA 5) (aC (aA 6) aJ)))))))))))))))
def rL:List Str:=["machine", "rows", "dearest", "number", "deed", "ahead", "cost"]
theorem eQ:FnScope rL ["machine", "rows"] (aI (top 28)):=⟨rfl,rfl,rfl,by decide +kernel,rfl,by decide +kernel,by decide +kernel⟩
theorem zV:KnT P w K mg base 1 "next_rows" 2 mX:=fun T kb nb =>
 cC T.d_next_rows kb nb eQ rfl rfl (by decide) (fun _ _ _ _ _ _ us hl=>match us,hl with | [_,_],_=>rfl) fun f cdv A outer s H E hr =>
  (aF (cR 2 eQ.nd (aI (top 28)) rL ["place"] 1 [] rfl rfl rfl (cE T.n_range (aC (aG (aA 0) aD) aJ)) bG (by decide +kernel) fun _ _ _ _=>⟨(cO 0 (show List.Nodup (["place"]:List Str) from (by decide +kernel))),pE,dD⟩) (aF (dW cQ.own rfl (oT T.n_enumerate (aG (aA 0) aD)) (mW rfl (fA (cO 3 eQ.nd) (fA (cO 4 eQ.nd) rJ)) rfl rfl) (kQ rfl) (aF (aV 5 eQ.nd (aR (aG (aA 1) (aG (aA 4) aD)))) (aL (bW (sS (aA 5) dD) (aF (aV 6 eQ.nd (aR (cA (aG (aA 5) aD) (aG (aA 4) aD)))) (aL (bW (jZ (fZ (qY (aG (aA 2) (aG (aA 4) aD)) dD) (fF (xS (aA 6) (aG (aG (aA 2) (aG (aA 4) aD)) aD))))) (aL (jA 2 (aG (aA 4) aD) (iV (aC (aA 6) (aC (aA 3) aJ))))) bI))) bI)))) (aL (fP 2))))
def lU:List Str:=["machine", "begun", "dearest", "step"]
theorem fC:FnScope lU ["machine"] (aI (top 29)):=⟨rfl,rfl,rfl,by decide +kernel,rfl,by decide +kernel,by decide +kernel⟩
theorem sA:KnT P w K mg base 2 "dearest_rows" 1 iJ:=fun T kb nb =>
 cC T.d_dearest_rows kb nb fC rfl rfl (by decide) (fun _ _ _ _ _ _ us hl=>match us,hl with | [_],_=>rfl) fun f cdv A outer s H E hr =>
  (aF (cR 1 fC.nd (aI (top 29)) lU ["place"] 1 [] rfl rfl rfl (cE T.n_range (aC (aG (aA 0) aD) aJ)) bG (by decide +kernel) fun _ _ _ _=>⟨(cO 0 (show List.Nodup (["place"]:List Str) from (by decide +kernel))),pE,dD⟩) (aF (jA 1 aD (iV (aC aD (aC dD aJ)))) (aF (iN [1] (aV 2 fC.nd (aR (jN (aC (aA 1) aJ))))) (aF (dW cQ.own rfl (cE T.n_range (aC (aG (aA 0) aD) aJ)) (cO 3 fC.nd) bG (aL (iD 2 (aPy (aW (zV T kb nb) (hr.mono (by decide)) (aC (aA 0) (aC (aG (aA 2) (tO aD)) aJ)) al2))))) (aL (fP 2))))))
def yD:List Str:=["dearest", "place", "many", "least", "step", "rise"]
theorem eG:FnScope yD ["dearest", "place"] (aI (top 30)):=⟨rfl,rfl,rfl,by decide +kernel,rfl,by decide +kernel,by decide +kernel⟩
theorem wA:KnT P w K mg base 2 "least_rise" 2 lC:=fun T kb nb =>
 cC T.d_least_rise kb nb eG rfl rfl (by decide) (fun _ _ _ _ _ _ us hl=>match us,hl with | [_,_],_=>rfl) fun f cdv A outer s H E hr =>
  (aF (aV 2 eG.nd (aR (jV (cI T.n_len (aA 0)) aD))) (aF (bW (qY (aG (aG (aA 0) (aA 2)) (aA 1)) dD) (aL (bC (aR dD))) bI) (aF (aV 3 eG.nd (aR dD)) (aF (dW cQ.own rfl (cE T.n_range (aC (aA 2) aJ)) (cO 4 eG.nd) bG (aL (bW (sS (aG (aG (aA 0) (aA 4)) (aA 1)) dD) (aF (aV 5 eG.nd (aR (iV (aC (jV (aG (aG (aG (aA 0) (aA 2)) (aA 1)) aD) (aG (aG (aG (aA 0) (aA 4)) (aA 1)) aD)) (aC (jV (aA 2) (aA 4)) aJ))))) (aL (bW (jZ (fZ (qY (aA 3) dD) (fF (bT (aW (oJ T kb nb) (hr.mono (by decide)) (aC (aA 5) (aC (aA 3) aJ)) al2))))) (aL (aV 3 eG.nd (aR (aA 5)))) bI))) bI))) (aL (fP 3))))))
def rY:List Str:=["dearest", "best", "most", "place", "rise"]
theorem cD:FnScope rY ["dearest"] (aI (top 31)):=⟨rfl,rfl,rfl,by decide +kernel,rfl,by decide +kernel,by decide +kernel⟩
theorem rC:KnT P w K mg base 3 "place_of_most" 1 gO:=fun T kb nb =>
 cC T.d_place_of_most kb nb cD rfl rfl (by decide) (fun _ _ _ _ _ _ us hl=>match us,hl with | [_],_=>rfl) fun f cdv A outer s H E hr =>
  (aF (aV 1 cD.nd (aR dD)) (aF (aV 2 cD.nd (aR dD)) (aF (dW cQ.own rfl (cE T.n_range (aC (cI T.n_len (aG (aA 0) aD)) aJ)) (cO 3 cD.nd) bG (aF (aV 4 cD.nd (aR (aW (wA T kb nb) (hr.mono (by decide)) (aC (aA 0) (aC (aA 3) aJ)) al2))) (aL (bW (jZ (tI (sS (aA 4) dD) (oU (jZ (fZ (qY (aA 2) dD) (fF (bT (aW (oJ T kb nb) (hr.mono (by decide)) (aC (aA 2) (aC (aA 4) aJ)) al2)))))))) (aF (aV 1 cD.nd (aR (aA 3))) (aL (aV 2 cD.nd (aR (aA 4))))) bI)))) (aL (fP 1)))))
def aBi:List Str:=["machine", "dearest", "place", "passed", "back", "step", "ring"]
theorem dZ:FnScope aBi ["machine", "dearest", "place"] (aI (top 32)):=⟨rfl,rfl,rfl,by decide +kernel,rfl,by decide +kernel,by decide +kernel⟩
theorem zO:KnT P w K mg base 1 "ring_back" 3 mJ:=fun T kb nb =>
 cC T.d_ring_back kb nb dZ rfl rfl (by decide) (fun _ _ _ _ _ _ us hl=>match us,hl with | [_,_,_],_=>rfl) fun f cdv A outer s H E hr =>
  (aF (aV 3 dZ.nd (aR (aI5 (aA 2) aD))) (aF (aV 4 dZ.nd (aR (jN aJ))) (aF (aV 5 dZ.nd (aR (jV (cI T.n_len (aA 1)) aD))) (aL (kH fuel cQ.own (bT eV) (aF (iD 4 (aG (aG (aG (aA 1) (aA 5)) (aA 2)) aD)) (aF (aV 2 dZ.nd (aR (aG (aG (aG (aA 0) aD) (aG (aA 4) (tO aD))) aD))) (aF (bW (aRc hr (aA 2) (aA 3)) (aF (aV 6 dZ.nd (aR (aSr (aA 4) (aRd (aOx hr (aA 3) (aA 2))) aMa))) (aF (aPi 6) (aL (fP 6)))) bI) (aF (aL7 3 hr (aA 2) (cI T.n_len (aA 4))) (aL (aCl 5 dZ.nd aP3 aD)))))))))))
def uT:List Str:=["machine", "dearest", "place"]
theorem gM:FnScope uT ["machine"] (aI (top 33)):=⟨rfl,rfl,rfl,by decide +kernel,rfl,by decide +kernel,by decide +kernel⟩
theorem sE:KnT P w K mg base 4 "dearest_ring" 1 iL:=fun T kb nb =>
 cC T.d_dearest_ring kb nb gM rfl rfl (by decide) (fun _ _ _ _ _ _ us hl=>match us,hl with | [_],_=>rfl) fun f cdv A outer s H E hr =>
  (aF (aV 1 gM.nd (aR (aW (sA T kb nb) (hr.mono (by decide)) (aC (aA 0) aJ) al1))) (aF (iN [1] (aV 2 gM.nd (aR (aW (rC T kb nb) (hr.mono (by decide)) (aC (aA 1) aJ) al1)))) (aF (bW (qY (aA 2) dD) (aL (bC (aR (jN aJ)))) bI) (aL (bC (aR (aW (zO T kb nb) (hr.mono (by decide)) (aC (aA 0) (aC (aA 1) (aC (aA 2) aJ))) al3)))))))
def lN:List Str:=["machine", "ring"]
theorem qW:FnScope lN ["machine", "ring"] (aI (top 34)):=⟨rfl,rfl,rfl,by decide +kernel,rfl,by decide +kernel,by decide +kernel⟩
theorem kN:KnT P w K mg base 1 "cost_together" 2 fE:=fun T kb nb =>
 cC T.d_cost_together kb nb qW rfl rfl (by decide) (fun _ _ _ _ _ _ us hl=>match us,hl with | [_,_],_=>rfl) fun f cdv A outer s H E hr =>
  (aL (bC (aR (aC5 rfl T.n_sum (iS (aI (top 34)) lN ["number", "machine"] 1 [0] rfl rfl rfl (fG (aA 1)) bG (by decide +kernel) fun _ _ _ _=>⟨(cO 0 (show List.Nodup (["number", "machine"]:List Str) from (by decide +kernel))),pE,(aG (aG (aG (aA 1) aD) (aA 0)) aD)⟩)))))
def mC:List Str:=["machine", "price", "gains"]
theorem pU:FnScope mC ["machine", "price"] (aI (top 35)):=⟨rfl,rfl,rfl,by decide +kernel,rfl,by decide +kernel,by decide +kernel⟩
theorem yR:KnT P w K mg base 8 "purse_for" 2 jG:=fun T kb nb =>
 cC T.d_purse_for kb nb pU rfl rfl (by decide) (fun _ _ _ _ _ _ us hl=>match us,hl with | [_,_],_=>rfl) fun f cdv A outer s H E hr =>
  (aF (cR 2 pU.nd (aI (top 35)) mC ["deed", "price"] 1 [1] rfl rfl rfl (fG (aG (aA 0) aD)) bG (by decide +kernel) fun _ _ _ _=>⟨(cO 0 (show List.Nodup (["deed", "price"]:List Str) from (by decide +kernel))),pE,(jV (bK (aG (aA 0) aD) (aG (aA 1) aD)) (aG (aA 1) aD))⟩) (aL (iN [2] (bC (aR (iS (aI (top 35)) mC ["parts", "price"] 1 [1] rfl rfl rfl (fG (aG (aW (wI T kb nb) (hr.mono (by decide)) (aC (aA 0) (aC (aA 2) aJ)) al2) aD)) bG (by decide +kernel) fun _ _ _ _=>⟨(cO 0 (show List.Nodup (["parts", "price"]:List Str) from (by decide +kernel))),pE,(aW (jI T kb nb) (hr.mono (by decide)) (aC (aA 0) (aC (aG (aA 1) aD) aJ)) al2)⟩))))))
def vS:List Str:=["machine", "ring", "price"]
theorem fT:FnScope vS ["machine"] (aI (top 36)):=⟨rfl,rfl,rfl,by decide +kernel,rfl,by decide +kernel,by decide +kernel⟩
theorem uC:KnT P w K mg base 9 "least_price" 1 gI:=fun T kb nb =>
 cC T.d_least_price kb nb fT rfl rfl (by decide) (fun _ _ _ _ _ _ us hl=>match us,hl with | [_],_=>rfl) fun f cdv A outer s H E hr =>
  (aF (yT (kP cQ (lL T kb nb) (hr.mono (by decide)) (aC (aA 0) aJ) al1)) (aF (aV 1 fT.nd (aR (aW (sE T kb nb) (hr.mono (by decide)) (aC (aA 0) aJ) al1))) (aF (iN [1] (aV 2 fT.nd (aR (xQ T.t_NOUGHT (by decide))))) (aF (bW (xS (cI T.n_len (aA 1)) aD) (aL (iN [1] (aV 2 fT.nd (aR (aW (jI T kb nb) (hr.mono (by decide)) (aC (aW (kN T kb nb) (hr.mono (by decide)) (aC (aA 0) (aC (aA 1) aJ)) al2) (aC (cI T.n_len (aA 1)) aJ)) al2))))) bI) (aL (bC (aR (iV (aC (aA 2) (aC (aA 1) (aC (aW (yR T kb nb) (hr.mono (by decide)) (aC (aA 0) (aC (aA 2) aJ)) al2) aJ)))))))))))
def aGo:List Str:=["machine", "come_to", "price", "purse", "deed", "need"]
theorem nZ:FnScope aGo ["machine", "come_to", "price", "purse"] (aI (top 37)):=⟨rfl,rfl,rfl,by decide +kernel,rfl,by decide +kernel,by decide +kernel⟩
theorem aDl:KnT P w K mg base 4 "is_paid" 4 rF:=fun T kb nb =>
 cC T.d_is_paid kb nb nZ rfl rfl (by decide) (fun _ _ _ _ _ _ us hl=>match us,hl with | [_,_,_,_],_=>rfl) fun f cdv A outer s H E hr =>
  (aF (bW (jZ (fZ (mF hr (cI T.n_len (aA 3)) (aG (aA 0) aD)) (fF (cS (bT (aW (oR T kb nb) (hr.mono (by decide)) (aC (aA 3) aJ) al1)))))) (aL (bC (aR eV))) bI) (aF (dW cQ.own rfl (fG (aG (aA 0) aD)) (cO 4 nZ.nd) bG (aL (bW (bT (aG (aA 1) (aG (aA 4) aD))) (aF (aV 5 nZ.nd (aR (aW (aEd T kb nb) (hr.mono (by decide)) (aC (aG (aA 3) (aG (aA 4) aD)) (aC (iV (aC (aG (aA 4) aD) (aC aD aJ))) aJ)) al2))) (aL (bW (bT (aW (oJ T kb nb) (hr.mono (by decide)) (aC (aW (aEd T kb nb) (hr.mono (by decide)) (aC (aG (aA 3) (aG (aA 4) aD)) (aC (aA 2) aJ)) al2) (aC (aA 5) aJ)) al2)) (aL (bC (aR eV))) bI))) bI))) (aL (bC (aR eV)))))
def vQ:List Str:=["machine", "come_to", "ring", "deeds", "number", "place"]
theorem dP:FnScope vQ ["machine", "come_to", "ring"] (aI (top 38)):=⟨rfl,rfl,rfl,by decide +kernel,rfl,by decide +kernel,by decide +kernel⟩
theorem uY:KnT P w K mg base 3 "leads_round" 3 jM:=fun T kb nb =>
 cC T.d_leads_round kb nb dP rfl rfl (by decide) (fun _ _ _ _ _ _ us hl=>match us,hl with | [_,_,_],_=>rfl) fun f cdv A outer s H E hr =>
  (aF (aV 3 dP.nd (aR (aG (aA 0) aD))) (aF (dW cQ.own rfl (fG (aA 2)) (cO 4 dP.nd) bG (aL (bW (cS (bT (aW (dE T kb nb) (hr.mono (by decide)) (aC (aA 4) (aC aD (aC (jV (cI T.n_len (aA 3)) aD) aJ))) al3))) (aL (bC (aR eV))) bI))) (aF (aV 5 dP.nd (aR (aG (aG (aA 3) (aG (aA 2) (tO aD))) aD))) (aF (bW (cS (bT (aG (aA 1) (aA 5)))) (aL (bC (aR eV))) bI) (aF (dW cQ.own rfl (fG (aA 2)) (cO 4 dP.nd) bG (aF (bW (mF hr (aG (aG (aA 3) (aA 4)) aD) (aA 5)) (aL (bC (aR eV))) bI) (aL (aV 5 dP.nd (aR (aG (aG (aA 3) (aA 4)) aD)))))) (aL (bC (aR eV))))))))
def zJ:List Str:=["machine", "come_to", "price", "ring"]
theorem vX:FnScope zJ ["machine", "come_to", "price", "ring"] (aI (top 39)):=⟨rfl,rfl,rfl,by decide +kernel,rfl,by decide +kernel,by decide +kernel⟩
theorem vR:KnT P w K mg base 4 "ring_shows" 4 kS:=fun T kb nb =>
 cC T.d_ring_shows kb nb vX rfl rfl (by decide) (fun _ _ _ _ _ _ us hl=>match us,hl with | [_,_,_,_],_=>rfl) fun f cdv A outer s H E hr =>
  (aF (bW (aD1 hr (cI T.n_len (aA 3)) aD) (aL (bC (aR (tQ hr (aA 2) (xQ T.t_NOUGHT (by decide)))))) bI) (aF (bW (cS (bT (aW (uY T kb nb) (hr.mono (by decide)) (aC (aA 0) (aC (aA 1) (aC (aA 3) aJ))) al3))) (aL (bC (aR eV))) bI) (aL (bC (aR (tQ hr (aA 2) (aW (jI T kb nb) (hr.mono (by decide)) (aC (aW (kN T kb nb) (hr.mono (by decide)) (aC (aA 0) (aC (aA 3) aJ)) al2) (aC (cI T.n_len (aA 3)) aJ)) al2)))))))
def wK:List Str:=["machine", "price", "ring", "purse", "come_to"]
theorem mE:FnScope wK ["machine", "price", "ring", "purse"] (aI (top 40)):=⟨rfl,rfl,rfl,by decide +kernel,rfl,by decide +kernel,by decide +kernel⟩
theorem vL:KnT P w K mg base 7 "shows_price" 4 gF:=fun T kb nb =>
 cC T.d_shows_price kb nb mE rfl rfl (by decide) (fun _ _ _ _ _ _ us hl=>match us,hl with | [_,_,_,_],_=>rfl) fun f cdv A outer s H E hr =>
  (aF (aV 4 mE.nd (kP cQ (tY T kb nb) (hr.mono (by decide)) (aC (aA 0) aJ) al1)) (aL (bC (aR (kT (aW (vR T kb nb) (hr.mono (by decide)) (aC (aA 0) (aC (aA 4) (aC (aA 1) (aC (aA 2) aJ)))) al4) (jP (aW (aDl T kb nb) (hr.mono (by decide)) (aC (aA 0) (aC (aA 4) (aC (aA 1) (aC (aA 3) aJ)))) al4)))))))
def aJp:List Str:=["_law_script", "_law_k"]
theorem aGj:FnScope aJp ["_law_script", "_law_k"] (aI (top 42)):=⟨rfl,rfl,rfl,by decide +kernel,rfl,by decide +kernel,by decide +kernel⟩
theorem aGi:KnT P w K mg base 1 "_law_cell" 2 tR:=fun T kb nb =>
 cC T.d_q_cell kb nb aGj rfl rfl (by decide) (fun _ _ _ _ _ _ us hl=>match us,hl with | [_,_],_=>rfl) fun f cdv A outer s H E hr =>
  (aF (bW (bT (aA 0)) (aL (bC (aR (aG (aA 0) (fJ (aA 1) (cI T.n_len (aA 0))))))) bI) (aL (bC (aR aD))))
def aMs:List Str:=["_law_script", "_law_k", "_law_number"]
theorem sZ:FnScope aMs ["_law_script", "_law_k"] (aI (top 43)):=⟨rfl,rfl,rfl,by decide +kernel,rfl,by decide +kernel,by decide +kernel⟩
theorem kG:KnT P w K mg base 2 "_law_mix" 2 eU:=fun T kb nb =>
 cC T.d_q_mix kb nb sZ rfl rfl (by decide) (fun _ _ _ _ _ _ us hl=>match us,hl with | [_,_],_=>rfl) fun f cdv A outer s H E hr =>
  (aF (aV 2 sZ.nd (aR (fJ (cA (aW (aGi T kb nb) (hr.mono (by decide)) (aC (aA 0) (aC (aA 1) aJ)) al2) (bK aD (cA (aA 1) aD))) aD))) (aF (aV 2 sZ.nd (aR (fJ (bK (aA 2) aD) aD))) (aL (bC (aR (fJ (cA (bK (nD (aA 2) aD) aD) (aA 2)) aD))))))
def aFe:List Str:=["_law_found"]
theorem aC1:FnScope aFe ["_law_found"] (aI (top 44)):=⟨rfl,rfl,rfl,by decide +kernel,rfl,by decide +kernel,by decide +kernel⟩
theorem uL:KnT P w K mg base 1 "_law_whole" 1 nL:=fun T kb nb =>
 cC T.d_q_whole kb nb aC1 rfl rfl (by decide) (fun _ _ _ _ _ _ us hl=>match us,hl with | [_],_=>rfl) fun f cdv A outer s H E hr =>
  (aL (bC (aR (kT (jW (T' := "int") (by decide) (aA 0) T.n_isinstance T.n_int (by decide +kernel)) (jP (aJ8 (jW (T' := "bool") (by decide) (aA 0) T.n_isinstance T.n_bool (by decide +kernel))))))))
def aAp:List Str:=["_law_script", "_law_k", "_law_most", "_law_places", "_law_kinds", "_law_deeds", "_law_j", "_law_number", "_law_cost"]
theorem eA:FnScope aAp ["_law_script", "_law_k", "_law_most"] (aI (top 45)):=⟨rfl,rfl,rfl,by decide +kernel,rfl,by decide +kernel,by decide +kernel⟩
theorem yF:KnT P w K mg base 3 "_law_machine" 3 jL:=fun T kb nb =>
 cC T.d_q_machine kb nb eA rfl rfl (by decide) (fun _ _ _ _ _ _ us hl=>match us,hl with | [_,_,_],_=>rfl) fun f cdv A outer s H E hr =>
  (aF (aV 3 eA.nd (aR (cA aD (fJ (aW (kG T kb nb) (hr.mono (by decide)) (aC (aA 0) (aC (aA 1) aJ)) al2) (aA 2))))) (aF (aV 4 eA.nd (aR (cA aD (fJ (aW (kG T kb nb) (hr.mono (by decide)) (aC (aA 0) (aC (cA (aA 1) aD) aJ)) al2) aD)))) (aF (aV 5 eA.nd (aR (jN aJ))) (aF (dW cQ.own rfl (cE T.n_range (aC (fJ (aW (kG T kb nb) (hr.mono (by decide)) (aC (aA 0) (aC (cA (aA 1) aD) aJ)) al2) (cA (bK aD (aA 2)) aD)) aJ)) (cO 6 eA.nd) bG (aF (aV 7 eA.nd (aR (aW (kG T kb nb) (hr.mono (by decide)) (aC (aA 0) (aC (cA (cA (aA 1) aD) (aA 6)) aJ)) al2))) (aF (aV 8 eA.nd (aR (aG (jN (aC aD (aC aD (aC aD (aC aD (aC aD (aC aD (aC aD (aC aD aJ))))))))) (fJ (nD (aA 7) aD) aD)))) (aL (iD 5 (iV (aC (fJ (aA 7) (aA 3)) (aC (fJ (nD (aA 7) aD) (aA 4)) (aC (fJ (nD (aA 7) aD) (aA 3)) (aC (aA 8) aJ)))))))))) (aL (iN [5] (bC (aR (iV (aC (aA 3) (aC (aA 4) (aC (aDd hr rfl T.n_sorted T.n_set (aA 5)) aJ))))))))))))
def aEg:List Str:=["_law_script", "_law_k", "_law_machine_here", "_law_most", "_law_found", "_law_here", "_law_j", "_law_some"]
theorem kL:FnScope aEg ["_law_script", "_law_k", "_law_machine_here", "_law_most"] (aI (top 46)):=⟨rfl,rfl,rfl,by decide +kernel,rfl,by decide +kernel,by decide +kernel⟩
theorem aHw:KnT P w K mg base 3 "_law_row" 4 pS:=fun T kb nb =>
 cC T.d_q_row kb nb kL rfl rfl (by decide) (fun _ _ _ _ _ _ us hl=>match us,hl with | [_,_,_,_],_=>rfl) fun f cdv A outer s H E hr =>
  (aF (aV 4 kL.nd (aR (jN aJ))) (aF (aV 5 kL.nd (aR aD)) (aF (dW cQ.own rfl (cE T.n_range (aC (fJ (aW (kG T kb nb) (hr.mono (by decide)) (aC (aA 0) (aC (aA 1) aJ)) al2) (cA (aA 3) aD)) aJ)) (cO 6 kL.nd) bG (aF (cR 7 kL.nd (aI (top 46)) aEg ["_law_number", "_law_here", "_law_machine_here"] 1 [5,2] rfl rfl rfl (cE T.n_range (aC (cI T.n_len (aG (aA 2) aD)) aJ)) bG (by decide +kernel) fun _ _ _ _=>⟨(cO 0 (show List.Nodup (["_law_number", "_law_here", "_law_machine_here"]:List Str) from (by decide +kernel))),(aOp (aD1 hr (aG (aG (aG (aA 2) aD) (aA 0)) aD) (aA 1))),(aA 0)⟩) (aL (bW (bT (aA 7)) (aF (iD 4 (aG (aA 7) (fJ (aW (kG T kb nb) (hr.mono (by decide)) (aC (aA 0) (aC (cA (cA (aA 1) aD) (aA 6)) aJ)) al2) (cI T.n_len (aA 7))))) (aL (aV 5 kL.nd (aR (aG (aG (aG (aA 2) aD) (aG (aA 4) (tO aD))) aD))))) bI)))) (aL (fP 4)))))
def aA1:List Str:=["_law_machine_here", "_law_found", "_law_at", "_law_one", "_law_kind", "_law_other", "_law_cost"]
theorem cZ:FnScope aA1 ["_law_machine_here"] (aI (top 47)):=⟨rfl,rfl,rfl,by decide +kernel,rfl,by decide +kernel,by decide +kernel⟩
theorem pK:KnT P w K mg base 1 "_law_reached" 1 gJ:=fun T kb nb =>
 cC T.d_q_reached kb nb cZ rfl rfl (by decide) (fun _ _ _ _ _ _ us hl=>match us,hl with | [_],_=>rfl) fun f cdv A outer s H E hr =>
  (aF (aV 1 cZ.nd (aR (jN (aC aD aJ)))) (aF (aV 2 cZ.nd (aR aD)) (aF (kH fuel cQ.own (aBq (aA 2) (cI T.n_len (aA 1))) (aF (dW cQ.own rfl (fG (aG (aA 0) aD)) (mW rfl (fA (cO 3 cZ.nd) (fA (cO 4 cZ.nd) (fA (cO 5 cZ.nd) (fA (cO 6 cZ.nd) rJ)))) rfl rfl) (kQ rfl) (aL (bW (jZ (tI (aD1 hr (aA 3) (aG (aA 1) (aA 2))) (oU (aJ7 hr (aA 5) (aA 1))))) (aL (iD 1 (aA 5))) bI))) (aL (aV 2 cZ.nd (aR (cA (aA 2) aD)))))) (aL (fP 1)))))
def aBc:List Str:=["_law_found", "_law_one", "_law_other"]
theorem lF:FnScope aBc ["_law_found"] (aI (top 48)):=⟨rfl,rfl,rfl,by decide +kernel,rfl,by decide +kernel,by decide +kernel⟩
theorem pR:KnT P w K mg base 2 "_law_is_part" 1 eN:=fun T kb nb =>
 cC T.d_q_is_part kb nb lF rfl rfl (by decide) (fun _ _ _ _ _ _ us hl=>match us,hl with | [_],_=>rfl) fun f cdv A outer s H E hr =>
  (aF (bW (jZ (fZ (cS (bT (jW (T' := "tuple") (by decide) (aA 0) T.n_isinstance T.n_tuple (by decide +kernel)))) (fZ (mF hr (cI T.n_len (aA 0)) aD) (fZ (cS (bT (aW (uL T kb nb) (hr.mono (by decide)) (aC (aG (aA 0) aD) aJ) al1))) (fF (cS (bT (aW (uL T kb nb) (hr.mono (by decide)) (aC (aG (aA 0) aD) aJ) al1)))))))) (aL (bC (aR eV))) bI) (aF (aI8 1 2 rfl lF.nd (aB9 T.n_abs (aG (aA 0) aD)) (aG (aA 0) aD)) (aF (kH fuel cQ.own (xS (aA 2) aD) (aL (aI8 1 2 rfl lF.nd (aA 2) (fJ (aA 1) (aA 2))))) (aL (bC (aR (kT (aOi (aG (aA 0) aD) aD) (jP (tQ hr (aA 1) aD)))))))))
def aBw:List Str:=["_law_machine_here", "_law_price", "_law_ring_here", "_law_k", "_law_cost"]
theorem qO:FnScope aBw ["_law_machine_here", "_law_price", "_law_ring_here"] (aI (top 49)):=⟨rfl,rfl,rfl,by decide +kernel,rfl,by decide +kernel,by decide +kernel⟩
theorem aFz:KnT P w K mg base 2 "_law_ring" 3 qC:=fun T kb nb =>
 cC T.d_q_ring kb nb qO rfl rfl (by decide) (fun _ _ _ _ _ _ us hl=>match us,hl with | [_,_,_],_=>rfl) fun f cdv A outer s H E hr =>
  (aF (bW (aD1 hr (aA 2) (jN aJ)) (aL (bC (aR (tQ hr (aA 1) (iV (aC aD (aC aD aJ))))))) bI) (aF (dW cQ.own rfl (cE T.n_range (aC (cI T.n_len (aA 2)) aJ)) (cO 3 qO.nd) bG (aL (bW (mF hr (aG (aG (aG (aA 0) aD) (aG (aA 2) (jV (aA 3) aD))) aD) (aG (aG (aG (aA 0) aD) (aG (aA 2) (aA 3))) aD)) (aL (bC (aR eV))) bI))) (aF (aV 4 qO.nd (aR (aC5 rfl T.n_sum (iS (aI (top 49)) aBw ["_law_number", "_law_machine_here"] 1 [0] rfl rfl rfl (fG (aA 2)) bG (by decide +kernel) fun _ _ _ _=>⟨(cO 0 (show List.Nodup (["_law_number", "_law_machine_here"]:List Str) from (by decide +kernel))),pE,(aG (aG (aG (aA 1) aD) (aA 0)) aD)⟩)))) (aL (bC (aR (kT (aSu hr (aG (aG (aG (aA 0) aD) (aG (aA 2) aD)) aD) (aW (pK T kb nb) (hr.mono (by decide)) (aC (aA 0) aJ) al1)) (jP (tQ hr (bK (aA 4) (aG (aA 1) aD)) (bK (aG (aA 1) aD) (cI T.n_len (aA 2))))))))))))
def xY:List Str:=["_law_script", "_law_machine_here", "_law_found", "_law_price", "_law_ring_here", "_law_purse", "_law_some", "_law_bare", "_law_one", "_law_kind", "_law_other", "_law_cost", "_law_had", "_law_need", "_law_k", "_law_row_here", "_law_here"]
theorem dO:FnScope xY ["_law_script"] (aI (top 50)):=⟨rfl,rfl,rfl,by decide +kernel,rfl,by decide +kernel,by decide +kernel⟩
theorem aRi (T:Txt K mg) (base:Heap) (kb:K.In base) (nb:base.Ns mainGlobals mg) (f:Addr) (cdv:Value) (A:Around) (outer:List PySem.Env) (s:Shared) (H:Hp) (E:XK) (hr:Room 9 (A.deeper (envOfC "law" (aI (top 50)) s.heap.objs.size f cdv))):SSs (nN (CX1 P w) P w K mg base xY "law" (aI (top 50)) f cdv A outer s H E) (wOf K E) (fR (top 50)) b_law :=
 (aF (aV 1 dO.nd (aR (aW (yF T kb nb) (hr.mono (by decide)) (aC (aA 0) (aC aD (aC aD aJ))) al3))) (aF (aV 2 dO.nd (kP cQ (uC T kb nb) (hr.mono (by decide)) (aC (aA 1) aJ) al1)) (aF (bW (jZ (fZ (cS (bT (jW (T' := "tuple") (by decide) (aA 2) T.n_isinstance T.n_tuple (by decide +kernel)))) (fZ (mF hr (cI T.n_len (aA 2)) aD) (fF (cS (bT (aW (pR T kb nb) (hr.mono (by decide)) (aC (aG (aA 2) aD) aJ) al1))))))) (aL (bC (aR eV))) bI) (aF (aF1 rfl (aR (aA 2)) (fA (cO 3 dO.nd) (fA (cO 4 dO.nd) (fA (cO 5 dO.nd) rJ))) rfl) (aF (bW (jZ (fZ (cS (bT (aQf rfl T.n_all (iS (aI (top 50)) xY ["_law_one"] 1 [] rfl rfl rfl (fG (aA 5)) bG (by decide +kernel) fun _ _ _ _=>⟨(cO 0 (show List.Nodup (["_law_one"]:List Str) from (by decide +kernel))),pE,(kT (aW (pR T kb nb) (hr.mono (by decide)) (aC (aA 0) aJ) al1) (jP (aUb (aG (aA 0) aD) aD)))⟩)))) (fF (mF hr (cI T.n_len (aA 5)) (aG (aA 1) aD))))) (aL (bC (aR eV))) bI) (aF (aV 6 dO.nd (aR (aW (pK T kb nb) (hr.mono (by decide)) (aC (aA 1) aJ) al1))) (aF (cR 7 dO.nd (aI (top 50)) xY ["_law_place", "_law_some"] 1 [6] rfl rfl rfl (cE T.n_range (aC (aG (aA 1) aD) aJ)) bG (by decide +kernel) fun _ _ _ _=>⟨(cO 0 (show List.Nodup (["_law_place", "_law_some"]:List Str) from (by decide +kernel))),(aOp (aJ7 hr (aA 0) (aA 1))),(aA 0)⟩) (aF (iN [7] (bW (jZ (fZ (cS (bT (aW (aFz T kb nb) (hr.mono (by decide)) (aC (aA 1) (aC (aA 3) (aC (aA 4) aJ))) al3))) (fF (bT (aQ6 rfl T.n_any (iS (aI (top 50)) xY ["_law_place", "_law_purse"] 1 [5] rfl rfl rfl (fG (aA 7)) bG (by decide +kernel) fun _ _ _ _=>⟨(cO 0 (show List.Nodup (["_law_place", "_law_purse"]:List Str) from (by decide +kernel))),pE,(aS7 hr (aG (aA 1) (aA 0)) (iV (aC aD (aC aD aJ))))⟩)))))) (aL (bC (aR eV))) bI)) (aF (dW cQ.own rfl (fG (aG (aA 1) aD)) (mW rfl (fA (cO 8 dO.nd) (fA (cO 9 dO.nd) (fA (cO 10 dO.nd) (fA (cO 11 dO.nd) rJ)))) rfl rfl) (kQ rfl) (aF (aV 12 dO.nd (aR (cA (bK (aG (aG (aA 5) (aA 8)) aD) (aG (aA 3) aD)) (bK (aG (aA 3) aD) (aG (aG (aA 5) (aA 8)) aD))))) (aF (aV 13 dO.nd (aR (bK (cA (bK (aA 11) (aG (aG (aA 5) (aA 10)) aD)) (aG (aG (aA 5) (aA 10)) aD)) (aG (aA 3) aD)))) (aL (bW (jZ (tI (aT2 hr (aA 8) (aA 6)) (oU (aBq (bK (aA 12) (aG (aG (aA 5) (aA 10)) aD)) (bK (aA 13) (aG (aG (aA 5) (aA 8)) aD)))))) (aL (bC (aR eV))) bI))))) (aF (dW cQ.own rfl (cE T.n_range (aC aD aJ)) (cO 14 dO.nd) bG (aF (aV 15 dO.nd (aR (aW (aHw T kb nb) (hr.mono (by decide)) (aC (aA 0) (aC (cA aD (bK aD (aA 14))) (aC (aA 1) (aC aD aJ)))) al4))) (aF (iN [15] (aV 16 dO.nd (aR (aUn (bT (aA 15)) (aG (aG (aG (aA 1) aD) (aG (aA 15) (tO aD))) aD) aD)))) (aF (aV 11 dO.nd (aR (aC5 rfl T.n_sum (iS (aI (top 50)) xY ["_law_number", "_law_machine_here"] 1 [1] rfl rfl rfl (fG (aA 15)) bG (by decide +kernel) fun _ _ _ _=>⟨(cO 0 (show List.Nodup (["_law_number", "_law_machine_here"]:List Str) from (by decide +kernel))),pE,(aG (aG (aG (aA 1) aD) (aA 0)) aD)⟩)))) (aF (aV 12 dO.nd (aR (cA (bK (aG (aG (aA 5) aD) aD) (aG (aA 3) aD)) (bK (bK (cI T.n_len (aA 15)) (aG (aA 3) aD)) (aG (aG (aA 5) aD) aD))))) (aF (aV 13 dO.nd (aR (bK (cA (bK (aA 11) (aG (aG (aA 5) (aA 16)) aD)) (aG (aG (aA 5) (aA 16)) aD)) (aG (aA 3) aD)))) (aL (bW (xS (bK (aA 13) (aG (aG (aA 5) aD) aD)) (bK (aA 12) (aG (aG (aA 5) (aA 16)) aD))) (aL (bC (aR eV))) bI)))))))) (aL (bC (kP cQ (vL T kb nb) (hr.mono (by decide)) (aC (aA 1) (aC (aA 3) (aC (aEm T.n_list (aA 4)) (aC (aEm T.n_list (aA 5)) aJ)))) al4)))))))))))))
end
end K20
end VL
end
section
namespace VL
open PySem L2
def gW (r:R (D×Bool)) (k:D->Bool->Out):Out:=match r with | .ok (d,b)=>k d b | _=>.bad
def onT (r:R Bool) (a b:Out):Out:=match r with | .ok true=>a | .ok false=>b | _=>.bad
def onI (r:R (List D)) (k:List D->Out):Out:=match r with | .ok ds=>k ds | _=>.bad
def aAz (fn:Fn) (ds:List D) (k:Bool):R (D×Bool):=(fn ds).bind fun y=>if k || isScal y.1 then .ok (y.1,true) else .bad
def Ret (fn:Fn) (ds:List D) (d:D):Prop:=∃os,fn ds=.ok (d,os)
theorem aBf {fn:Fn} {ds:List D} {k:Bool} {d:D} (h:Ret fn ds d):aAz fn ds k=if k || isScal d then .ok (d,true) else .bad:=by
 obtain ⟨os,h⟩:=h
 unfold aAz;rw [h];rfl
theorem aP {fn:Fn} {ds:List D} {d:D} (h:Ret fn ds d):aAz fn ds true=.ok (d,true):=by rw [aBf h];rfl
theorem sU {fn:Fn} {ds:List D} {k:Bool} {d:D} (h:Ret fn ds d) (hs:isScal d=true):aAz fn ds k=.ok (d,true):=by rw [aBf h,hs,Bool.or_true];rfl
theorem rE {n:Nat} {body:aX} {ds:List D} {d:D} (h:∃ρ,body (entry n ds)=.ret d ρ):Ret (fnOf n body) ds d:=by
 obtain ⟨ρ,h⟩:=h
 exact ⟨_,by unfold fnOf;rw [h]⟩
theorem aR2 {n:Nat} {body:aX} {ds:List D} (h:∃ρ,body (entry n ds)=.next ρ):Ret (fnOf n body) ds .non:=by
 obtain ⟨ρ,h⟩:=h
 exact ⟨_,by unfold fnOf;rw [h]⟩
@[simp] theorem jH {d:D} {b:Bool} {k:D->Bool->Out}:gW (.ok (d,b)) k=k d b:=rfl
@[simp] theorem aJe {a b:Out}:onT (.ok true) a b=a:=rfl
@[simp] theorem aAr {a b:Out}:onT (.ok false) a b=b:=rfl
@[simp] theorem aI3 {ds:List D} {k:List D->Out}:onI (.ok ds) k=k ds:=rfl
@[simp] theorem bR {α β:Type} {a:α} {f:α->R β}:(R.ok a).bind f=f a:=rfl
@[simp] theorem aSi {α β:Type} {f:α->R β}:(R.bad:R α).bind f=.bad:=rfl
@[simp] theorem bP {ρ:Env} {g:aX}:(Out.next ρ).andThen g=g ρ:=rfl
@[simp] theorem aA7 {ρ:Env} {d:D} {g:aX}:(Out.ret d ρ).andThen g=.ret d ρ:=rfl
@[simp] theorem dB {f g:aX} {ρ:Env}:aS f g ρ=(f ρ).andThen g:=rfl
@[simp] theorem mS {ρ:Env}:bJ ρ=.next ρ:=rfl
@[simp] theorem aVo {ρ:Env}:aV7 ρ=.bad:=rfl
@[simp] theorem mG {d:D} {ρ:Env}:vC d ρ=.ok (d,true):=rfl
@[simp] theorem pQ {k:D×Bool->D×Bool->R (D×Bool)} {f g:aQ} {ρ:Env}:v2 k f g ρ=(f ρ).bind fun x=>(g ρ).bind fun y=>k x y:=rfl
@[simp] theorem aN0 {k:D×Bool->R (D×Bool)} {f:aQ} {ρ:Env}:v1 k f ρ=(f ρ).bind k:=rfl
@[simp] theorem kY {ρ:Env}:aN ρ=.ok []:=rfl
@[simp] theorem iY {f:aQ} {g:dI} {ρ:Env}:aE f g ρ=(f ρ).bind fun x=>(g ρ).bind fun xs=>.ok (x::xs):=rfl
@[simp] theorem aDf {k:List (D×Bool)->R (D×Bool)} {g:dI} {ρ:Env}:vCB k g ρ=(g ρ).bind k:=rfl
@[simp] theorem aV3 {c:cG} {f g:aQ} {ρ:Env}:vIf c f g ρ=(c ρ).bind fun b=>if b=true then f ρ else g ρ:=rfl
@[simp] theorem aMy {f g:aQ} {ρ:Env}:oW f g ρ=(f ρ).bind fun x=>match x.1 with | .bl true=>g ρ | .bl false=>.ok (.bl false,true) | _=>.bad:=rfl
@[simp] theorem aVe {b c:Bool}:aIc (.bl b,c)=.ok (.bl (!b),true):=rfl
@[simp] theorem aSe {p q:Int->Int->Bool} {f g h:aQ} {ρ:Env}:yV p q f g h ρ=(f ρ).bind fun x=>(g ρ).bind fun y=>match x.1,y.1 with
 | .int i,.int j=>if p i j then (h ρ).bind fun z=>(match z.1 with | .int k=>.ok (.bl (q j k),true) | _=>.bad) else .ok (.bl false,true)
 | _,_=>.bad:=rfl
@[simp] theorem tZ {fn:Fn} {g:dI} {ρ:Env}:bB fn g ρ=(g ρ).bind fun xs=>aAz fn (D.frzs (xs.map (·.1))) (xs.all aU):=rfl
@[simp] theorem pH {f:aQ} {ρ:Env}:aZ f ρ=(f ρ).bind fun x=>match x.1 with | .bl b=>.ok b | _=>.bad:=rfl
@[simp] theorem yI {f:aQ} {ρ:Env}:dC f ρ=(f ρ).bind fun x=>if cB x.1 then .ok (eJ x.1) else .bad:=rfl
@[simp] theorem aVr {f g:cG} {ρ:Env}:lK f g ρ=(f ρ).bind fun c=>if c=true then g ρ else .ok false:=rfl
@[simp] theorem aV0 {f g:cG} {ρ:Env}:gP f g ρ=(f ρ).bind fun c=>if c=true then .ok true else g ρ:=rfl
@[simp] theorem aU5 {f:cG} {ρ:Env}:cW f ρ=(f ρ).bind fun c=>.ok (!c):=rfl
@[simp] theorem aTf {ρ:Env}:bY ρ=.ok true:=rfl
@[simp] theorem aQ5 {f:aQ} {lo hi:aAy} {ρ:Env}:vSl f lo hi ρ=(f ρ).bind fun x=>(lo ρ).bind fun l=>(hi ρ).bind fun u=>kSl x l u:=rfl
@[simp] theorem aKa {ρ:Env}:aBb ρ=.ok none:=rfl
@[simp] theorem aLf {f:aQ} {ρ:Env}:aIi f ρ=(f ρ).bind fun x=>match x.1 with | .int i=>.ok (some i) | _=>.bad:=rfl
@[simp] theorem aUw {g:dI} {ρ:Env}:pN g ρ=(g ρ).bind fun xs=>if xs.all aU && decide (xs.length<=1000000) then .ok (.lst true (xs.map (·.1)),true) else .bad:=rfl
@[simp] theorem yG {g:dI} {ρ:Env}:nP g ρ=(g ρ).bind fun xs=>if xs.all aU && decide (xs.length<=1000000) then .ok (.tup (D.frzs (xs.map (·.1))),true) else .bad:=rfl
@[simp] theorem aK6 {f:aQ} {ρ:Env}:eZ f ρ=(f ρ).bind aGx:=rfl
@[simp] theorem aVn {f:aQ} {ρ:Env}:vW f ρ=(f ρ).bind fun x=>(zG x).bind fun ds=>.ok (oX ds):=rfl
@[simp] theorem aWo {ds:List D} {b:Bool}:zG (.lst false ds,b)=if aU (.lst false ds,b) then .ok (D.frzs ds) else .bad:=rfl
@[simp] theorem aWg {o:Bool} {ds:List D}:zG (.lst o ds,true)=.ok (D.frzs ds):=rfl
@[simp] theorem aWp {o:Bool} {ds:List D}:aGx (.lst o ds,true)=.ok (D.frzs ds):=rfl
@[simp] theorem aRu {b:Bool} {ds:List D}:aGx (.lst false ds,b)=if aU (.lst false ds,b) then .ok (D.frzs ds) else .bad:=rfl
@[simp] theorem aVw {b:Bool} {ds:List D}:aGx (.tup ds,b)=.ok ds:=rfl
@[irreducible] def aFq (j:Int):R (List D):=if cK j then .ok (fS 0 j.toNat) else .bad
def kR1:List (D×Bool)->R (List D)
 | [(.int j,_)]=>aFq j | _=>.bad
@[simp] theorem aP1 {g:dI} {ρ:Env}:iR1 g ρ=(g ρ).bind kR1:=by
 unfold iR1 kR1 aFq;rfl
@[simp] theorem aP9 {j:Int} {b:Bool}:kR1 [(.int j,b)]=aFq j:=rfl
@[simp] theorem iR {d:D} {ρ:Env}:aB 0 (.val d::ρ)=.ok (d,false):=rfl
@[simp] theorem aWi {d:D} {ρ:Env}:aB 0 (.pin d::ρ)=.ok (d,false):=rfl
@[simp] theorem nA {i:Nat} {s:Slot} {ρ:Env}:aB (i+1) (s::ρ)=aB i ρ:=rfl
def np (s:Slot):Prop:=∀d,s ≠ .pin d
@[simp] theorem bN:np .un:=fun _ h=>by cases h
@[simp] theorem aK {d:D}:np (.val d):=fun _ h=>by cases h
@[simp] theorem aWt {d:D}:¬ np (.pin d):=fun h=>h d rfl
@[simp] theorem gD {s:Slot} {ρ:Env} (h:np s):free (s::ρ) 0=true:=by
 cases s<;>first | rfl | exact absurd rfl (h _)
@[simp] theorem lE {i:Nat} {s:Slot} {ρ:Env}:free (s::ρ) (i+1)=free ρ i:=by unfold free;simp
@[simp] theorem aDr {d:D} {ρ:Env}:getD (.val d::ρ) 0=some d:=rfl
@[simp] theorem aU3 {d:D} {ρ:Env}:getD (.pin d::ρ) 0=some d:=rfl
@[simp] theorem aU6 {ρ:Env}:getD (.un::ρ) 0=none:=rfl
@[simp] theorem aCo {i:Nat} {s:Slot} {ρ:Env}:getD (s::ρ) (i+1)=getD ρ i:=rfl
@[simp] theorem aD7 {c d:D} {ρ:Env}:putD (.val c::ρ) 0 d=.val d::ρ:=rfl
@[simp] theorem aIg {i:Nat} {d:D} {s:Slot} {ρ:Env}:putD (s::ρ) (i+1) d=s::putD ρ i d:=by
 unfold putD
 simp only [List.getElem?_cons_succ]
 cases ρ[i]? with
 | none=>rfl
 | some t=>cases t<;>rfl
@[simp] theorem kA {i:Nat} {d:D} {ρ:Env}:bA i d ρ=if free ρ i then some (ρ.set i (.val d)) else none:=rfl
@[simp] theorem aSk {is:T0} {ds:List D} {ρ:Env}:dH is (.tup ds) ρ=cX is ds ρ:=rfl
@[simp] theorem aPw {ρ:Env}:cX [] [] ρ=some ρ:=rfl
@[simp] theorem aNx {i:Nat} {is:T0} {d:D} {ds:List D} {ρ:Env}:cX (i::is) (d::ds) ρ=if d.calm then (bA i d ρ).bind (cX is ds) else none:=rfl
@[simp] theorem aM5 {g:Int->Int->D} {i j:Int} {b c:Bool}:kI g (.int i,b) (.int j,c)=.ok (g i j,true):=rfl
@[simp] theorem aWn {p:Int->Int->Bool} {g:Int->Int->D} {i j:Int} {b c:Bool}:kIc p g (.int i,b) (.int j,c)=if p i j=true then .ok (g i j,true) else .bad:=rfl
@[simp] theorem aN8 {g:Int->D} {i:Int} {b:Bool}:kU g (.int i,b)=.ok (g i,true):=rfl
@[simp] theorem aL0 {i:Int} {b:Bool}:aFg [(.int i,b)]=.ok (.int (if i<0 then -i else i),true):=rfl
@[simp] theorem aS6 {i j:Int} {b c:Bool}:cJ (.int i,b) (.int j,c)=.ok (.int (i+j),true):=rfl
@[simp] theorem aU2 {o p:Bool} {ds es:List D} {b c:Bool}:cJ (.lst o ds,b) (.lst p es,c)=if D.bL ds && D.bL es && decide (ds.length+es.length<=1000000) then .ok (.lst true (ds++es),true) else .bad:=rfl
@[simp] theorem aF6 {i j:Int} {b c:Bool}:bH (.int i,b) (.int j,c)=if (fits i && fits j)=true then .ok (.int (i * j),true) else .bad:=rfl
@[simp] theorem aSz {o b c:Bool} {ds:List D} {i:Int}:kIx (.lst o ds,b) (.int i,c)=R.of ((atI ds i).map (·,b)):=rfl
@[simp] theorem aW6 {b c:Bool} {ds:List D} {i:Int}:kIx (.tup ds,b) (.int i,c)=R.of ((atI ds i).map (·,b)):=rfl
@[simp] theorem aVc {α:Type} {a:α}:R.of (some a)=.ok a:=rfl
@[simp] theorem aI2 {o b:Bool} {ds:List D}:dN [(.lst o ds,b)]=.ok (.int ds.length,true):=rfl
@[simp] theorem aWb {b:Bool} {ds:List D}:dN [(.tup ds,b)]=.ok (.int ds.length,true):=rfl
@[simp] theorem aVa {b:Bool} {ds:List D}:pF [(.tup ds,b)]=.ok (.lst true ds,true):=rfl
@[simp] theorem aT1 {o b:Bool} {ds:List D} {lo hi:Option Int}:kSl (.lst o ds,b) lo hi=if D.bL ds then .ok (.lst true (cutD ds lo hi),true) else .bad:=rfl
@[simp] theorem aU9 {n:Bool} {d:D} {b c:Bool}:iP n (d,b) (.non,c)=.ok (.bl (if n then !dJ d else dJ d),true):=rfl
@[simp] theorem qZ {i:Nat} {f:aQ} {ρ:Env}:aY i (xOf f) ρ=gW (f ρ) fun d b=>if (b || d.calm) && free ρ i then .next (ρ.set i (.val d)) else .bad:=by
 unfold aY xOf gW;cases f ρ<;>rfl
@[simp] theorem uM {f:aQ} {ρ:Env}:bX (xOf f) ρ=gW (f ρ) fun d b=>if (b || d.calm) then .ret d ρ else .bad:=by
 unfold bX xOf gW;cases f ρ<;>rfl
@[simp] theorem aUv {f:aQ} {ρ:Env}:nR (xOf f) ρ=gW (f ρ) fun _ _=>.next ρ:=by
 unfold nR xOf gW;cases f ρ<;>rfl
@[simp] theorem vF {c:cG} {f g:aX} {ρ:Env}:sIf c f g ρ=onT (c ρ) (f ρ) (g ρ):=by
 unfold sIf onT;cases c ρ with
 | ok a=>cases a<;>rfl
 | exc c=>rfl
 | bad=>rfl
@[simp] theorem aIz {f:jQ} {set:D->Env->Option Env} {b:aX} {ρ:Env}:fW f set b ρ=onI (f ρ) fun ds=>forL set b ds ρ:=by
 unfold fW onI;cases f ρ<;>rfl
@[simp] theorem aIt {i:Nat} {f:aQ} {ρ:Env}:eK i f ρ=gW (f ρ) fun d b=>match (getD ρ i).bind fun e=>rX e (d,b) with | some e=>.next (putD ρ i e) | none=>.bad:=by
 unfold eK gW;cases f ρ<;>rfl
@[simp] theorem aEs {ds:List D} {x:D×Bool}:rX (.lst true ds) x=if aU x && decide (ds.length<1000000) then some (.lst true (ds ++ [x.1])) else none:=rfl
@[simp] theorem aEx {i:Nat} {ρ:Env}:gT i ρ=match ρ[i]? with | some (.val d)=>.ret d (ρ.set i .un) | some (.pin d)=>if d.calm then .ret d ρ else .bad | _=>.bad:=rfl
@[simp] theorem aR0 {is:T0} {g:aX} {ρ:Env}:nO is g ρ=g (is.foldl frz1 ρ):=rfl
@[simp] theorem aK0 {d:D} {ρ:Env}:frz1 (.val d::ρ) 0=.val d.frz::ρ:=rfl
@[simp] theorem aVh {ρ:Env}:frz1 (.un::ρ) 0=.un::ρ:=rfl
@[simp] theorem aQo {i:Nat} {s:Slot} {ρ:Env}:frz1 (s::ρ) (i+1)=s::frz1 ρ i:=by
 unfold frz1
 rw [aCo]
 cases getD ρ i<;>simp
@[simp] theorem aH8 {d:D}:aU (d,true)=true:=rfl
@[simp] theorem oC {d:D}:aU (d,false)=d.calm:=rfl
def I (xs:Y0):List D:=xs.map D.int
@[simp] theorem aW5:I []=[]:=rfl
@[simp] theorem aTm (xs:Y0):(I xs).length=xs.length:=by simp [I]
@[simp] theorem aV1 (xs:Y0) (x:Int):I xs ++ [.int x]=I (xs ++ [x]):=by simp [I]
def gt (xs:Y0) (k:Nat):Int:=xs.getD k 0
theorem aS4 {xs:Y0} {k:Nat} (h:k<xs.length):xs[k]?=some (gt xs k):=by simp [gt,List.getElem?_eq_getElem h]
theorem aM7 {xs:Y0} {k:Nat} (h:k<xs.length):(I xs)[k]?=some (.int (gt xs k)):=by simp [I,aS4 h]
@[simp] theorem aD3:∀xs:Y0,D.bL (I xs)=true
 | []=>rfl
 | _::xs=>by show (true && D.bL (I xs))=true;rw [aD3 xs];rfl
@[simp] theorem aHp:∀xs:Y0,D.frzs (I xs)=I xs
 | []=>rfl
 | x::xs=>by show D.int x::D.frzs (I xs)=_;rw [aHp xs];rfl
@[simp] theorem sO:∀xs:Y0,dR (I xs)=some xs
 | []=>rfl
 | x::xs=>by show (dR (I xs)).map (x::·)=_;rw [sO xs];rfl
@[simp] theorem mI {i:Int}:(D.int i).calm=true:=rfl
@[simp] theorem aUa {x:Str}:(D.str x).calm=true:=rfl
@[simp] theorem aS1:D.non.calm=true:=rfl
@[simp] theorem aVs {x:Bool}:(D.bl x).calm=true:=rfl
@[simp] theorem aTq {ds:List D}:(D.tup ds).calm=D.bL ds:=rfl
@[simp] theorem uQ {o:Bool} {ds:List D}:(D.lst o ds).calm=(!o && D.bL ds):=rfl
@[simp] theorem aSd:D.bL []=true:=rfl
@[simp] theorem tG {d:D} {ds:List D}:D.bL (d::ds)=(d.calm && D.bL ds):=rfl
@[simp] theorem aE2 {i:Int}:(D.int i).frz=.int i:=rfl
@[simp] theorem aVg {x:Str}:(D.str x).frz=.str x:=rfl
@[simp] theorem aU8:D.non.frz=.non:=rfl
@[simp] theorem aWh {x:Bool}:(D.bl x).frz=.bl x:=rfl
@[simp] theorem zA {ds:List D}:(D.tup ds).frz=.tup (D.frzs ds):=rfl
@[simp] theorem aDw {o:Bool} {ds:List D}:(D.lst o ds).frz=.lst false (D.frzs ds):=rfl
@[simp] theorem uV:D.frzs []=[]:=rfl
@[simp] theorem nM {d:D} {ds:List D}:D.frzs (d::ds)=d.frz::D.frzs ds:=rfl
mutual
theorem frz_calm:∀d:D,d.frz.calm=true
 | .non=>rfl | .bl _=>rfl | .int _=>rfl | .str _=>rfl
 | .tup ds=>frzs_calm ds
 | .lst _ ds=>by show (!false && D.bL (D.frzs ds))=true;rw [frzs_calm ds];rfl
 | .ext _ _=>rfl
theorem frzs_calm:∀ds:List D,D.bL (D.frzs ds)=true
 | []=>rfl
 | d::ds=>by show (d.frz.calm && D.bL (D.frzs ds))=true;rw [frz_calm d,frzs_calm ds];rfl
end
mutual
theorem pG:∀d:D,d.calm=true->d.frz=d
 | .non,_=>rfl | .bl _,_=>rfl | .int _,_=>rfl | .str _,_=>rfl
 | .tup ds,h=>by rw [zA,kD ds h]
 | .lst o ds,h=>by
  rw [uQ,Bool.and_eq_true] at h
  rw [aDw,kD ds h.2]
  cases o
  ·rfl
  ·cases h.1
 | .ext o t,h=>by
  cases o
  ·rfl
  ·cases h
theorem kD:∀ds:List D,D.bL ds=true->D.frzs ds=ds
 | [],_=>rfl
 | d::ds,h=>by
  rw [tG,Bool.and_eq_true] at h
  rw [nM,pG d h.1,kD ds h.2]
end
@[simp] theorem aVj (d:D):d.frz.frz=d.frz:=pG _ (frz_calm d)
@[simp] theorem aSb (ds:List D):D.frzs (D.frzs ds)=D.frzs ds:=kD _ (frzs_calm ds)
@[simp] theorem eq_int {n:Bool} {i j:Int} {b c:Bool}:kEq n (.int i,b) (.int j,c)=.ok (.bl (if n then !decide (i=j) else decide (i=j)),true):=by
 unfold kEq
 have:yW (.int i) (.int j)=true:=rfl
 rw [if_pos this]
 show R.ok (D.bl (if n then !(i == j) else (i == j)),true)=_
 rw [show (i == j)=decide (i=j) from by by_cases h:i=j<;>simp [h]]
@[simp] theorem aSc {lo:Int} {n:Nat}:(fS lo n).length=n:=by simp [fS]
theorem aLo {n:Nat}:fS 0 n=(List.range n).map fun i:Nat=>D.int (i:Int):=by simp [fS]
theorem xX {n:Nat} (h:n<=1000000):cK (n:Int)=true:=by
 unfold cK;rw [Bool.and_eq_true,decide_eq_true_iff,decide_eq_true_iff];omega
theorem dS {n:Nat} (h:n<=1000000):aFq (n:Int)=.ok ((List.range n).map fun i:Nat=>D.int (i:Int)):=by
 unfold aFq
 rw [if_pos (xX h),aLo,Int.toNat_natCast]
theorem dU {α:Type} {xs:List α} {k:Nat}:atI xs (k:Int)=xs[k]?:=by
 unfold atI ixN
 by_cases h:(k:Int)<xs.length
 ·rw [if_pos (by omega),if_pos h];simp
 ·rw [if_pos (by omega),if_neg h]
  have:xs.length<=k:=by omega
  simp [this]
theorem aAi {α:Type} {xs:List α}:atI xs (-1)=xs.getLast?:=by
 unfold atI ixN
 rw [if_neg (by omega)]
 by_cases h:xs=[]
 ·subst h;rfl
 ·have:0<xs.length:=List.length_pos_iff.mpr h
  rw [if_pos (by omega)]
  show xs[(-1+(xs.length:Int)).toNat]?=_
  rw [List.getLast?_eq_getElem?]
  congr 1;omega
theorem aOf {α:Type} {cF:Env} {e:aQ} {φ ψ:α->D} {b:α->Bool}:∀(xs:List α) (t:Slot),np t->(∀x∈xs,e (.val (φ x)::cF)=.ok (ψ x,b x)/\aU (ψ x,b x)=true)->gL (bA 0) bY e (xs.map φ) (t::cF)=.ok (xs.map ψ)
 | [],_,_,_=>rfl
 | x::xs,t,ht,h=>by
  obtain ⟨h1,h2⟩:=h x List.mem_cons_self
  have ih:=aOf xs (.val (φ x)) aK fun y hy=>h y (List.mem_cons_of_mem _ hy)
  show (match bA 0 (φ x) (t::cF) with | none=>R.bad | some ρ1=>_)=_
  rw [kA,if_pos (gD ht)]
  show (R.ok true).bind _=_
  rw [bR,if_pos rfl]
  show (e (.val (φ x)::cF)).bind _=_
  rw [h1,bR,if_pos h2]
  show (gL (bA 0) bY e (xs.map φ) (.val (φ x)::cF)).bind _=_
  rw [ih];rfl
theorem aNq {α:Type} {cF:Env} {e:aQ} {φ χ ψ:α->D} {b:α->Bool}:∀(xs:List α) (t u:Slot),np t->np u->(∀x∈xs,(φ x).calm=true/\(χ x).calm=true/\e (.val (φ x)::.val (χ x)::cF)=.ok (ψ x,b x)/\aU (ψ x,b x)=true) ->
  gL (dH [0,1]) bY e (xs.map fun x=>.tup [φ x,χ x]) (t::u::cF)=.ok (xs.map ψ)
 | [],_,_,_,_,_=>rfl
 | x::xs,t,u,ht,hu,h=>by
  obtain ⟨c1,c2,h1,h2⟩:=h x List.mem_cons_self
  have ih:=aNq xs (.val (φ x)) (.val (χ x)) aK aK fun y hy=>h y (List.mem_cons_of_mem _ hy)
  have hb:dH [0,1] (.tup [φ x,χ x]) (t::u::cF)=some (.val (φ x)::.val (χ x)::cF):=by
   simp [c1,c2,ht,hu]
  show (match dH [0,1] (.tup [φ x,χ x]) (t::u::cF) with | none=>R.bad | some ρ1=>_)=_
  rw [hb]
  show (R.ok true).bind _=_
  rw [bR,if_pos rfl]
  show (e (.val (φ x)::.val (χ x)::cF)).bind _=_
  rw [h1,bR,if_pos h2]
  show (gL (dH [0,1]) bY e (xs.map fun x=>.tup [φ x,χ x]) (.val (φ x)::.val (χ x)::cF)).bind _=_
  rw [ih];rfl
theorem gN {α:Type} {it:jQ} {js:T0} {e:aQ} {ρ:Env} (cF:Env) (xs:List α) (φ ψ:α->D) (b:α->Bool) (hi:it ρ=.ok (xs.map φ)) (hl:xs.length<=1000000) (hc:js.map (gZ ρ)=cF)
  (he:∀x∈xs,e (.val (φ x)::cF)=.ok (ψ x,b x)/\aU (ψ x,b x)=true) (hk:js.all (mO ρ)=true\/∀x∈xs,isScal (ψ x)=true):bQ it 1 js (bA 0) bY e ρ=.ok (.lst true (xs.map ψ),true):=by
 unfold bQ
 rw [hi,bR,if_pos (by simpa using hl),hc]
 show (gL (bA 0) bY e (xs.map φ) (.un::cF)).bind _=_
 rw [aOf xs .un bN he,bR,if_pos]
 rcases hk with h | h
 ·rw [h];rfl
 ·rw [Bool.or_eq_true];right;rw [List.all_eq_true]
  intro d hd
  obtain ⟨x,hx,rfl⟩:=List.mem_map.mp hd
  exact h x hx
theorem aQa {α:Type} {it:jQ} {js:T0} {e:aQ} {ρ:Env} (cF:Env) (xs:List α) (φ χ ψ:α->D) (b:α->Bool) (hi:it ρ=.ok (xs.map fun x=>.tup [φ x,χ x])) (hl:xs.length<=1000000) (hc:js.map (gZ ρ)=cF)
  (he:∀x∈xs,(φ x).calm=true/\(χ x).calm=true/\e (.val (φ x)::.val (χ x)::cF)=.ok (ψ x,b x)/\aU (ψ x,b x)=true) (hk:js.all (mO ρ)=true\/∀x∈xs,isScal (ψ x)=true):bQ it 2 js (dH [0,1]) bY e ρ=.ok (.lst true (xs.map ψ),true):=by
 unfold bQ
 rw [hi,bR,if_pos (by simpa using hl),hc]
 show (gL (dH [0,1]) bY e (xs.map fun x=>.tup [φ x,χ x]) (.un::.un::cF)).bind _=_
 rw [aNq xs .un .un bN bN he,bR,if_pos]
 rcases hk with h | h
 ·rw [h];rfl
 ·rw [Bool.or_eq_true];right;rw [List.all_eq_true]
  intro d hd
  obtain ⟨x,hx,rfl⟩:=List.mem_map.mp hd
  exact h x hx
theorem aBk {α:Type} {set:D->Env->Option Env} {b:aX} {φ:α->D} (J:List α->Env->Prop) (xs:List α):∀(post pre:List α) (ρ:Env),xs=pre++post ->
  (∀pre x post ρ,xs=pre++x::post->J pre ρ->∃ρ1 ρ2,set (φ x) ρ=some ρ1/\b ρ1=.next ρ2/\J (pre ++ [x]) ρ2)->J pre ρ->∃ρ',forL set b (post.map φ) ρ=.next ρ'/\J xs ρ'
 | [],pre,ρ,e,_,h0=>⟨ρ,rfl,by rw [e,List.append_nil];exact h0⟩
 | x::post,pre,ρ,e,h,h0=>by
  obtain ⟨ρ1,ρ2,h1,h2,h3⟩:=h pre x post ρ e h0
  obtain ⟨ρ',h4,h5⟩:=aBk J xs post (pre ++ [x]) ρ2 (by rw [e];simp) h h3
  refine ⟨ρ',?_,h5⟩
  show (match set (φ x) ρ with | none=>Out.bad | some ρ1=>iA (b ρ1) (forL set b (post.map φ)))=_
  rw [h1];dsimp only;rw [h2];exact h4
theorem aAm {α:Type} {xs:List α} {φ:α->D}:oX (xs.map φ)=(xs.zipIdx).map fun p=>.tup [.int (p.2:Nat),φ p.1]:=by
 unfold oX
 rw [List.zipIdx_map,List.map_map]
 rfl
theorem aE8 {c:cG} {b:aX} {n:Nat} {ρ ρ2:Env} (hc:c ρ=.ok true) (hb:b ρ=.next ρ2):bS c b (n+1) ρ=bS c b n ρ2:=by
 rw [bS,hc];dsimp only;rw [hb];rfl
theorem zU {c:cG} {b:aX} {n:Nat} {ρ:Env} (hc:c ρ=.ok false):bS c b (n+1) ρ=.next ρ:=by
 rw [bS,hc]
def out (o:Out) (P:Env->Prop) (Q:D->Prop):Prop:=match o with | .next ρ=>P ρ | .ret d _=>Q d | _=>False
def stp (o:Option Env) (b:aX):Out:=match o with | some ρ=>b ρ | none=>.bad
@[simp] theorem mR {ρ:Env} {P:Env->Prop} {Q:D->Prop}:out (.next ρ) P Q=P ρ:=rfl
@[simp] theorem nC {ρ:Env} {d:D} {P:Env->Prop} {Q:D->Prop}:out (.ret d ρ) P Q=Q d:=rfl
@[simp] theorem kK {ρ:Env} {b:aX}:stp (some ρ) b=b ρ:=rfl
theorem bV {o:Out} {g:aX} {P P':Env->Prop} {Q:D->Prop} (h:out o P' Q) (h2:∀ρ,P' ρ->out (g ρ) P Q):out (o.andThen g) P Q:=by
 cases o<;>first | exact h2 _ h | exact h | exact h.elim
theorem aAb {o:Out} {P P':Env->Prop} {Q Q':D->Prop} (h:out o P' Q') (h1:∀ρ,P' ρ->P ρ) (h2:∀d,Q' d->Q d):out o P Q:=by
 cases o<;>first | exact h1 _ h | exact h2 _ h | exact h.elim
def nY (fn:Fn) (ds:List D) (P:D->Prop):Prop:=∃d,Ret fn ds d/\P d
theorem dX {n:Nat} {body:aX} {ds:List D} {P:D->Prop} (h:out (body (entry n ds)) (fun _=>P .non) P):nY (fnOf n body) ds P:=by
 cases e:body (entry n ds) with
 | next ρ=>rw [e] at h;exact ⟨_,aR2 ⟨ρ,e⟩,h⟩
 | ret d ρ=>rw [e] at h;exact ⟨_,rE ⟨ρ,e⟩,h⟩
 | brk ρ=>rw [e] at h;exact h.elim
 | cont ρ=>rw [e] at h;exact h.elim
 | exc c ρ=>rw [e] at h;exact h.elim
 | bad=>rw [e] at h;exact h.elim
theorem lS {n:Nat} {body:aX} {ds:List D} {d:D} (h:out (body (entry n ds)) (fun _=>D.non=d) (·=d)):Ret (fnOf n body) ds d:=by
 obtain ⟨_,h1,rfl⟩:=dX (P:=(·=d)) h
 exact h1
theorem aEy {α:Type} {set:D->Env->Option Env} {b:aX} {φ:α->D} {Q:D->Prop} (J:List α->Env->Prop) (xs:List α) (h:∀pre x post ρ,xs=pre++x::post->J pre ρ->out (stp (set (φ x) ρ) b) (J (pre ++ [x])) Q):∀(post pre:List α) (ρ:Env),xs=pre++post->J pre ρ->out (forL set b (post.map φ) ρ) (J xs) Q
 | [],pre,ρ,e,h0=>by show J xs ρ;rw [e,List.append_nil];exact h0
 | x::post,pre,ρ,e,h0=>by
  have h1:=h pre x post ρ e h0
  show out (match set (φ x) ρ with | none=>Out.bad | some ρ1=>iA (b ρ1) (forL set b (post.map φ))) _ _
  cases es:set (φ x) ρ with
  | none=>rw [es] at h1;exact h1.elim
  | some ρ1 =>
   rw [es,kK] at h1
   dsimp only
   cases eb:b ρ1 with
   | next ρ2=>rw [eb] at h1;exact aEy J xs h post (pre ++ [x]) ρ2 (by rw [e];simp) h1
   | ret d ρ2=>rw [eb] at h1;exact h1
   | brk ρ=>rw [eb] at h1;exact h1.elim
   | cont ρ=>rw [eb] at h1;exact h1.elim
   | exc c ρ=>rw [eb] at h1;exact h1.elim
   | bad=>rw [eb] at h1;exact h1.elim
theorem cV {α:Type} {set:D->Env->Option Env} {b:aX} {φ:α->D} {Q:D->Prop} {ρ:Env} (J:List α->Env->Prop) (xs:List α) (h0:J [] ρ) (h:∀pre x post ρ,xs=pre++x::post->J pre ρ->out (stp (set (φ x) ρ) b) (J (pre ++ [x])) Q):out (forL set b (xs.map φ) ρ) (J xs) Q:=aEy J xs h xs [] ρ rfl h0
end VL
end
section
namespace VL
open PySem L2
@[simp] theorem aNd {ρ:Env} {c:Str} {g:aX}:(Out.exc c ρ).andThen g=.exc c ρ:=rfl
def rW (fn:Fn) (ds:List D) (k:Bool) (ρ:Env) (f:D->Out):Out:=match fn ds with
 | .ok y=>if k || isScal y.1 then f y.1 else .bad
 | .exc c=>.exc c ρ | .bad=>.bad
theorem iB {fn:Fn} {ds:List D} {d:D} {ρ:Env} {f:D->Out} (h:Ret fn ds d):rW fn ds true ρ f=f d:=by
 obtain ⟨os,h⟩:=h
 unfold rW;rw [h];rfl
def onA (r:R (List (D×Bool))) (k:List (D×Bool)->Out):Out:=match r with | .ok xs=>k xs | _=>.bad
@[simp] theorem aWm {xs:List (D×Bool)} {k:List (D×Bool)->Out}:onA (.ok xs) k=k xs:=rfl
@[simp] theorem aUq {fn:Fn} {g:dI} {ρ:Env}:nR (fY fn g) ρ=onA (g ρ) fun xs=>rW fn (D.frzs (xs.map (·.1))) (xs.all aU) ρ fun _=>.next ρ:=by
 unfold nR fY onA rW
 cases g ρ with
 | ok xs =>
  dsimp only
  cases fn (D.frzs (xs.map (·.1))) with
  | ok y=>by_cases hk:(xs.all aU || isScal y.1)=true<;>simp [hk]
  | exc c=>rfl
  | bad=>rfl
 | exc _=>rfl
 | bad=>rfl
@[simp] theorem aVb {i:Nat} {fn:Fn} {g:dI} {ρ:Env}:aY i (fY fn g) ρ=onA (g ρ) fun xs=>rW fn (D.frzs (xs.map (·.1))) (xs.all aU) ρ fun d=>if free ρ i then .next (ρ.set i (.val d)) else .bad:=by
 unfold aY fY onA rW
 cases g ρ with
 | ok xs =>
  dsimp only
  cases fn (D.frzs (xs.map (·.1))) with
  | ok y=>by_cases hk:(xs.all aU || isScal y.1)=true<;>simp [hk]
  | exc c=>rfl
  | bad=>rfl
 | exc _=>rfl
 | bad=>rfl
@[simp] theorem aTs {c:Str} {f:oQ} {ρ:Env}:lD c f ρ=match f ρ with | some _=>.exc c ρ | none=>.bad:=rfl
@[simp] theorem aVm {f:oQ} {ρ:Env}:zTop f ρ=(f ρ).bind fun n=>if n<=1000000 then some n else none:=rfl
@[simp] theorem aU0 {f g:oQ} {ρ:Env}:lQ f g ρ=(f ρ).bind fun a=>(g ρ).map fun b=>a+b:=rfl
def zI (r:R (D×Bool)):Option Nat:=match r with | .ok (.int a,_)=>if a.natAbs<=100000 then some 100002 else none | _=>none
@[simp] theorem aUx {g:aQ} {ρ:Env}:aBj g ρ=zI (g ρ):=rfl
@[simp] theorem aV8 {a:Int} {b:Bool}:zI (.ok (.int a,b))=if a.natAbs<=100000 then some 100002 else none:=rfl
end VL
end
section
namespace VL
open PySem L2
@[simp] theorem aWj {x b:Bool}:aV9 [(.bl x,b)]=.ok (.int (if x then 1 else 0),true):=rfl
theorem qN {α:Type} {f:α->Bool}:∀xs:List α,eW (xs.map fun x=>D.bl (f x))=some (xs.map f)
 | []=>rfl
 | x::xs=>by
  show (eW (xs.map fun x=>D.bl (f x))).map (f x::·)=_
  rw [qN xs];rfl
theorem aKe {α:Type} {f:α->Bool} {xs:List α} {o b:Bool}:xN [(.lst o (xs.map fun x=>D.bl (f x)),b)]=.ok (.bl (xs.any f),true):=by
 show (match eW (xs.map fun x=>D.bl (f x)) with | some ns=>R.ok (D.bl (ns.any id),true) | none=>R.bad)=_
 rw [qN]
 simp [List.any_map]
theorem aGg {α:Type} {f:α->Bool} {xs:List α} {o b:Bool}:aGv [(.lst o (xs.map fun x=>D.bl (f x)),b)]=.ok (.bl (xs.all f),true):=by
 show (match eW (xs.map fun x=>D.bl (f x)) with | some ns=>R.ok (D.bl (ns.all id),true) | none=>R.bad)=_
 rw [qN]
 simp [List.all_map]
end VL
end
section
namespace VL.QQ
open VL
structure E where
 a:Nat
 k:Nat
 b:Nat
 c:Int
 deriving Inhabited
inductive Reach (es:List E):Nat->Prop
 | zero:Reach es 0
 | step {e:E}:e∈es->Reach es e.a->Reach es e.b
theorem mK:∀(n:Nat) (xs:T0),xs.Nodup->(∀x∈xs,x<n)->xs.length<=n
 | 0,[],_,_=>Nat.le_refl _
 | 0,x::xs,_,h=>absurd (h x List.mem_cons_self) (Nat.not_lt_zero x)
 | n+1,xs,nd,h=>by
  have h1:=mK n (xs.erase n) (nd.erase n) fun x hx=>by
   have:=h x (List.mem_of_mem_erase hx)
   have ne:x ≠ n:=fun z=>by subst z;exact absurd hx (List.Nodup.not_mem_erase nd)
   omega
  rw [List.length_erase] at h1
  split at h1<;>omega
def ed (es:List E) (d:Nat):E:=es.getD d default
def og (ow:Y4) (v:Nat):Option Nat:=ow.getD v none
def Rel (es:List E) (gs:Y0) (most:Y0) (d:Nat):Prop:=gt gs d+gt most (ed es d).b<=gt most (ed es d).a
structure BF (es:List E) (gs:Y0) (num:T0) (n r:Nat) (most:Y0) (ow:Y4) (L rk:Nat->Nat) (cnt:Nat):Prop where
 lm:most.length=n
 lo:ow.length=n
 on:∀v d,og ow v=some d->d∈num/\(ed es d).a=v/\gt most v<=gt gs d+gt most (ed es d).b/\(gt most v=gt gs d+gt most (ed es d).b->rk (ed es d).b<rk v)/\L v<=L (ed es d).b+1
 no:∀v,v<n->og ow v=none->L v=0
 rc:∀v,rk v<=cnt
 lr:∀v,L v<=r
theorem aCs {xs:Y0} {a v:Nat} {x:Int} (ha:a<xs.length):gt (xs.set a x) v=if v=a then x else gt xs v:=by
 unfold gt
 rw [List.getD_eq_getElem?_getD,List.getD_eq_getElem?_getD]
 by_cases h:v=a
 ·subst h;rw [if_pos rfl,List.getElem?_set_self ha];rfl
 ·rw [if_neg h,List.getElem?_set_ne (Ne.symm h)]
theorem aCi {xs:Y4} {a v:Nat} {x:Option Nat} (ha:a<xs.length):og (xs.set a x) v=if v=a then x else og xs v:=by
 unfold og
 rw [List.getD_eq_getElem?_getD,List.getD_eq_getElem?_getD]
 by_cases h:v=a
 ·subst h;rw [if_pos rfl,List.getElem?_set_self ha];rfl
 ·rw [if_neg h,List.getElem?_set_ne (Ne.symm h)]
section
variable {es:List E} {gs:Y0} {num:T0} {n r:Nat} {most:Y0} {ow:Y4} {L rk:Nat->Nat} {cnt:Nat}
theorem BF.raise (h:BF es gs num n r most ow L rk cnt) {d:Nat} (hd:d∈num) (ha:(ed es d).a<n) (hv:gt most (ed es d).a<gt gs d+gt most (ed es d).b) (hl:r<=L (ed es d).b+1) :
  ∃L' rk',BF es gs num n r (most.set (ed es d).a (gt gs d+gt most (ed es d).b)) (ow.set (ed es d).a (some d)) L' rk' (cnt+1)/\L' (ed es d).a=r /\
   (Rel es gs (most.set (ed es d).a (gt gs d+gt most (ed es d).b)) d\/r<=L' (ed es d).b) /\
   ∀(d' m:Nat),m<=r->(Rel es gs most d'\/m<=L (ed es d').b)->(Rel es gs (most.set (ed es d).a (gt gs d+gt most (ed es d).b)) d'\/m<=L' (ed es d').b):=by
 generalize ea:(ed es d).a=A at *
 generalize eb:(ed es d).b=B at *
 have gm:∀v,gt (most.set A (gt gs d+gt most B)) v=if v=A then gt gs d+gt most B else gt most v:=fun v=>aCs (by rw [h.lm];exact ha)
 have go:∀v,og (ow.set A (some d)) v=if v=A then some d else og ow v:=fun v=>aCi (by rw [h.lo];exact ha)
 refine ⟨fun v=>if v=A then r else L v,fun v=>if v=A then rk B+1 else rk v,⟨by rw [List.length_set];exact h.lm,by rw [List.length_set];exact h.lo,fun v d' e=>?_,fun v hv' e=>?_,fun v=>?_,fun v=>?_⟩,by simp,?_,fun d' m hm hr=>?_⟩
 ·rw [go] at e
  rw [gm,gm]
  by_cases hva:v=A
  ·rw [if_pos hva] at e;cases e
   subst hva
   rw [eb,ea]
   refine ⟨hd,rfl,?_,?_,?_⟩
   ·by_cases hB:B=v
    ·rw [if_pos rfl,if_pos hB];rw [hB] at hv ⊢;omega
    ·rw [if_pos rfl,if_neg hB];omega
   ·by_cases hB:B=v
    ·rw [if_pos rfl,if_pos hB];rw [hB] at hv ⊢;omega
    ·intro _;rw [if_neg hB,if_pos rfl];omega
   ·rw [if_pos rfl]
    by_cases hB:B=v
    ·rw [if_pos hB];omega
    ·rw [if_neg hB];exact hl
  ·rw [if_neg hva] at e
   obtain ⟨o1,o2,o3,o4,o5⟩:=h.on v d' e
   rw [if_neg hva,if_neg hva,if_neg hva]
   refine ⟨o1,o2,?_,?_,?_⟩
   ·by_cases hB:(ed es d').b=A
    ·rw [if_pos hB];rw [hB] at o3;omega
    ·rw [if_neg hB];exact o3
   ·by_cases hB:(ed es d').b=A
    ·rw [if_pos hB];rw [hB] at o3;omega
    ·rw [if_neg hB,if_neg hB];exact o4
   ·by_cases hB:(ed es d').b=A
    ·rw [if_pos hB];have:=h.lr v;omega
    ·rw [if_neg hB];exact o5
 ·rw [go] at e
  by_cases hva:v=A
  ·rw [if_pos hva] at e;cases e
  ·rw [if_neg hva] at e ⊢;exact h.no v hv' e
 ·have h1:=h.rc v
  have h2:=h.rc B
  show (if v=A then rk B+1 else rk v)<=_
  split<;>omega
 ·have h1:=h.lr v
  show (if v=A then r else L v)<=_
  split<;>omega
 ·unfold Rel
  rw [gm,gm,ea,eb,if_pos rfl]
  by_cases hB:B=A
  ·right;show r<=(if B=A then r else L B);rw [if_pos hB];exact Nat.le_refl _
  ·left;rw [if_neg hB];exact Int.le_refl _
 ·dsimp only
  by_cases hB:(ed es d').b=A
  ·right;rw [if_pos hB];exact hm
  ·rw [if_neg hB]
   rcases hr with hr | hr
   ·left
    unfold Rel at hr ⊢
    rw [gm,gm,if_neg hB]
    by_cases hA:(ed es d').a=A
    ·rw [if_pos hA];rw [hA] at hr;omega
    ·rw [if_neg hA];exact hr
   ·exact .inr hr
def nx (es:List E) (ow:Y4) (v:Nat):Nat:=match og ow v with | some d=>(ed es d).b | none=>v
def ch (es:List E) (ow:Y4) (v:Nat):Nat->Nat
 | 0=>v
 | i+1=>nx es ow (ch es ow v i)
def dl (es:List E) (ow:Y4) (v k:Nat):T0:=(List.range k).map fun i=>(og ow (ch es ow v i)).getD 0
theorem zH {v k:Nat}:dl es ow v (k+1)=dl es ow v k ++ [(og ow (ch es ow v k)).getD 0]:=by
 unfold dl;rw [List.range_succ,List.map_append];rfl
theorem tL {v i:Nat}:∀j,ch es ow v (i+j)=ch es ow (ch es ow v i) j
 | 0=>rfl
 | j+1=>by show nx es ow (ch es ow v (i+j))=nx es ow (ch es ow (ch es ow v i) j);rw [tL j]
theorem aIr (hb:∀d∈num,(ed es d).b<n) (h:BF es gs num n r most ow L rk cnt) {v:Nat} (hv:v<n):∀i,ch es ow v i<n
 | 0=>hv
 | i+1=>by
  show nx es ow (ch es ow v i)<n
  unfold nx
  cases e:og ow (ch es ow v i) with
  | none=>exact aIr hb h hv i
  | some d=>exact hb d (h.on _ d e).1
theorem aKi (h:BF es gs num n r most ow L rk cnt) {v:Nat}:∀k,(∀i,i<k->og ow (ch es ow v i) ≠ none) ->
  gt most v<=((dl es ow v k).map (gt gs)).sum+gt most (ch es ow v k)/\(gt most v=((dl es ow v k).map (gt gs)).sum+gt most (ch es ow v k)->k=0\/rk (ch es ow v k)<rk v)
 | 0,_=>by simp [dl,ch]
 | k+1,hn=>by
  obtain ⟨h1,h2⟩:=aKi h k fun i hi=>hn i (Nat.lt_succ_of_lt hi)
  rw [zH,List.map_append,List.sum_append]
  cases e:og ow (ch es ow v k) with
  | none=>exact absurd e (hn k (Nat.lt_succ_self k))
  | some d =>
   obtain ⟨_,_,o3,o4,_⟩:=h.on _ d e
   have ec:ch es ow v (k+1)=(ed es d).b:=by show nx es ow _=_;unfold nx;rw [e]
   rw [ec]
   have es1:(([(some d:Option Nat).getD 0]).map (gt gs)).sum=gt gs d:=by simp
   rw [es1]
   refine ⟨by omega,fun q=>.inr ?_⟩
   have q1:gt most (ch es ow v k)=gt gs d+gt most (ed es d).b:=by omega
   have q2:gt most v=((dl es ow v k).map (gt gs)).sum+gt most (ch es ow v k):=by omega
   have r1:=o4 q1
   rcases h2 q2 with z | z
   ·subst z;exact r1
   ·omega
theorem aMk (hb:∀d∈num,(ed es d).b<n) (h:BF es gs num n n most ow L rk cnt) {v:Nat} (hv:v<n) (hL:L v=n) :
  (∀i,og ow (ch es ow v i) ≠ none)/\∃p,1<=p/\p<=n/\ch es ow v (n+p)=ch es ow v n:=by
 have lt:=aIr hb h hv
 have hLi:∀i,i<=n->n<=L (ch es ow v i)+i:=by
  intro i
  induction i with
  | zero=>intro _;show n<=L v+0;omega
  | succ i ih =>
   intro hi
   have h1:=ih (by omega)
   cases e:og ow (ch es ow v i) with
   | none=>have:=h.no _ (lt i) e;omega
   | some d =>
    have o5:=(h.on _ d e).2.2.2.2
    have ec:ch es ow v (i+1)=(ed es d).b:=by show nx es ow _=_;unfold nx;rw [e]
    rw [ec];omega
 have hne:∀i,i<n->og ow (ch es ow v i) ≠ none:=fun i hi z=>by
  have:=h.no _ (lt i) z
  have:=hLi i (by omega)
  omega
 obtain ⟨i,j,hij,hj,hch⟩:∃i j,i<j/\j<=n/\ch es ow v i=ch es ow v j:=by
  refine Classical.byContradiction fun hno=>?_
  have nd:((List.range (n+1)).map (ch es ow v)).Nodup:=by
   refine List.pairwise_map.mpr (List.Pairwise.imp_of_mem (R:=(· < ·)) (fun {a b} ha hb' hlt z=>hno ⟨a,b,hlt,?_,z⟩) List.pairwise_lt_range)
   have:=List.mem_range.mp hb';omega
  have:=mK n _ nd fun x hx=>by
   obtain ⟨i,_,rfl⟩:=List.mem_map.mp hx
   exact lt i
  simp at this
  omega
 have hper:∀t,ch es ow v (i+t)=ch es ow v (j+t):=fun t=>by rw [tL,tL,hch]
 refine ⟨fun k=>?_,j - i,by omega,by omega,?_⟩
 ·induction k using Nat.strongRecOn with
  | ind k ih =>
   rcases Nat.lt_or_ge k n with hk | hk
   ·exact hne k hk
   ·have e:=hper (k - j)
    rw [show j+(k - j)=k by omega] at e
    rw [<- e]
    exact ih _ (by omega)
 ·have e:=hper (n - i)
  rw [show i+(n - i)=n by omega] at e
  rw [show n+(j - i)=j+(n - i) by omega,<- e]
theorem aGf (h:BF es gs num n r most ow L rk cnt) {v k:Nat} (hk:1<=k) (hn:∀i,i<k->og ow (ch es ow v i) ≠ none) (hc:ch es ow v k=v):0<((dl es ow v k).map (gt gs)).sum:=by
 obtain ⟨h1,h2⟩:=aKi h k hn
 rw [hc] at h1 h2
 rcases Decidable.em (0<((dl es ow v k).map (gt gs)).sum) with q | q
 ·exact q
 ·rcases h2 (by omega) with z | z
  ·omega
  ·exact absurd z (Nat.lt_irrefl _)
theorem aLl (h:BF es gs num n r most ow L rk cnt) (hr:∀d∈num,Rel es gs most d) {v d:Nat} (e:og ow v=some d):rk (ed es d).b<rk v:=by
 obtain ⟨o1,o2,o3,o4,_⟩:=h.on v d e
 have:=hr d o1
 unfold Rel at this
 rw [o2] at this
 exact o4 (by omega)
theorem aB5 {v:Nat}:og (List.replicate n none) v=none:=by
 unfold og
 rw [List.getD_eq_getElem?_getD,List.getElem?_replicate]
 by_cases h:v<n
 ·rw [if_pos h];rfl
 ·rw [if_neg h];rfl
theorem BF.init {m:Nat}:BF es gs num n 0 (List.replicate n 0) (List.replicate n none) (fun _=>0) (fun _=>0) m :=
 ⟨by simp,by simp,fun v d e=>(by rw [aB5] at e;cases e),fun _ _ _=>rfl,fun _=>Nat.zero_le _,fun _=>Nat.le_refl _⟩
theorem BF.up {r':Nat} (h:BF es gs num n r most ow L rk cnt) (hr:r<=r'):BF es gs num n r' most ow L rk cnt:=⟨h.lm,h.lo,h.on,h.no,h.rc,fun v=>Nat.le_trans (h.lr v) hr⟩
end
end VL.QQ
end
section
namespace VL.QQ
open VL PySem L2 PY
abbrev nI (k:Nat):D:=.int (k:Int)
def E.l (e:E):Y0:=[(e.a:Int),(e.k:Int),(e.b:Int),e.c]
def E.d (e:E):D:=.tup [nI e.a,nI e.k,nI e.b,.int e.c]
def ME (es:List E):List D:=es.map E.d
def dM (n kd:Nat) (es:List E):D:=.tup [nI n,nI kd,.lst false (ME es)]
@[simp] theorem E.calm (e:E):e.d.calm=true:=rfl
@[simp] theorem E.frz (e:E):e.d.frz=e.d:=rfl
theorem dY {α:Type} {φ:α->D} (h:∀x,(φ x).calm=true):∀xs:List α,D.bL (xs.map φ)=true
 | []=>rfl
 | x::xs=>by rw [List.map_cons,tG,h x,dY h xs];rfl
theorem gE {α:Type} {φ:α->D} (h:∀x,(φ x).calm=true) (xs:List α):D.frzs (xs.map φ)=xs.map φ:=kD _ (dY h xs)
@[simp] theorem aJn (es:List E):D.bL (ME es)=true:=dY E.calm es
@[simp] theorem aL6 (es:List E):D.frzs (ME es)=ME es:=gE E.calm es
@[simp] theorem aWq (es:List E):(ME es).length=es.length:=by simp [ME]
@[simp] theorem aDz {n kd:Nat} {es:List E}:(dM n kd es).calm=true:=by simp [dM,nI]
@[simp] theorem aQh {n kd:Nat} {es:List E}:(dM n kd es).frz=dM n kd es:=pG _ aDz
theorem rZ {α:Type} {a:α} {xs:List α}:atI (a::xs) 0=some a:=by have:=dU (xs:=a::xs) (k:=0);simpa using this
theorem aKw {α:Type} {a b:α} {xs:List α}:atI (a::b::xs) 1=some b:=by have:=dU (xs:=a::b::xs) (k:=1);simpa using this
theorem aT3 {α:Type} {a b c:α} {xs:List α}:atI (a::b::c::xs) 2=some c:=by have:=dU (xs:=a::b::c::xs) (k:=2);simpa using this
theorem aV6 {α:Type} {a b c d:α} {xs:List α}:atI (a::b::c::d::xs) 3=some d:=by have:=dU (xs:=a::b::c::d::xs) (k:=3);simpa using this
@[simp] theorem aW8 {n kd:Nat} {es:List E} {b c:Bool}:kIx (dM n kd es,b) (.int 0,c)=.ok (nI n,b):=by simp [dM,rZ]
@[simp] theorem aW7 {n kd:Nat} {es:List E} {b c:Bool}:kIx (dM n kd es,b) (.int 1,c)=.ok (nI kd,b):=by simp [dM,aKw]
@[simp] theorem aIf {n kd:Nat} {es:List E} {b c:Bool}:kIx (dM n kd es,b) (.int 2,c)=.ok (.lst false (ME es),b):=by simp [dM,aT3]
@[simp] theorem E_0 {e:E} {b c:Bool}:kIx (e.d,b) (.int 0,c)=.ok (nI e.a,b):=by simp [E.d,rZ]
@[simp] theorem E_1 {e:E} {b c:Bool}:kIx (e.d,b) (.int 1,c)=.ok (nI e.k,b):=by simp [E.d,aKw]
@[simp] theorem E_2 {e:E} {b c:Bool}:kIx (e.d,b) (.int 2,c)=.ok (nI e.b,b):=by simp [E.d,aT3]
@[simp] theorem E_3 {e:E} {b c:Bool}:kIx (e.d,b) (.int 3,c)=.ok (.int e.c,b):=by simp [E.d,aV6]
theorem lM {es:List E} {k:Nat} (h:k<es.length):es[k]?=some (ed es k):=by simp [ed,List.getElem?_eq_getElem h]
theorem gQ {es:List E} {k:Nat} (h:k<es.length):ed es k∈es:=List.mem_of_getElem? (lM h)
theorem fB {es:List E} {k:Nat} {b c:Bool} (h:k<es.length):kIx (.lst false (ME es),b) (.int (k:Int),c)=.ok ((ed es k).d,b):=by
 simp [dU,ME,lM h]
theorem aQr {o:Bool} {xs:Y0} {k:Nat} {b c:Bool} (h:k<xs.length):kIx (.lst o (I xs),b) (.int (k:Int),c)=.ok (.int (gt xs k),b):=by
 simp [dU,aM7 h]
structure OkM (n kd:Nat) (es:List E):Prop where
 n1:1<=n
 n2:n<=20
 k1:1<=kd
 k2:kd<=8
 ls:es.length<=18
 a:∀e∈es,e.a<n
 k:∀e∈es,e.k<kd
 b:∀e∈es,e.b<n
 c:∀e∈es,0<=e.c/\e.c<=1000
 up:es.Pairwise fun x y=>ST.ltL x.l y.l=true
theorem oB (i:Int):Ret iZ [.int i] (.bl true):=by
 refine rE ⟨[.val (.int i)],?_⟩
 simp [vJ,entry,jU,qR,aFs]
theorem pP (i a b:Int):Ret bZ [.int i,.int a,.int b] (.bl (decide (a<=i) && decide (i<=b))):=by
 refine rE ⟨[.val (.int i),.val (.int a),.val (.int b)],?_⟩
 simp [oV,entry,aP (oB i)]
 by_cases h:a<=i<;>simp [h]
theorem uE {x a b:Int} (h1:a<=x) (h2:x<=b):Ret bZ [.int x,.int a,.int b] (.bl true):=by
 have:=pP x a b
 rwa [decide_eq_true h1,decide_eq_true h2] at this
theorem aTo {x a b:Int} (h:¬ (a<=x/\x<=b)):Ret bZ [.int x,.int a,.int b] (.bl false):=by
 have:=pP x a b
 have e:(decide (a<=x) && decide (x<=b))=false:=by
  rw [<- Bool.not_eq_true,Bool.and_eq_true,decide_eq_true_eq,decide_eq_true_eq];exact h
 rwa [e] at this
@[simp] theorem aW3 {e:E} {b:Bool}:jU "tuple" (e.d,b)=.ok (.bl true,true):=rfl
@[simp] theorem aW4 {n kd:Nat} {es:List E} {b:Bool}:jU "tuple" (dM n kd es,b)=.ok (.bl true,true):=rfl
@[simp] theorem aW1 {o:Bool} {ds:List D} {b:Bool}:jU "list" (.lst o ds,b)=.ok (.bl true,true):=rfl
@[simp] theorem aW0 {e:E} {b:Bool}:dN [(e.d,b)]=.ok (.int 4,true):=rfl
@[simp] theorem aW2 {n kd:Nat} {es:List E} {b:Bool}:dN [(dM n kd es,b)]=.ok (.int 3,true):=rfl
theorem aGw {n kd:Nat} {es:List E} {e:E} (ha:e.a<n) (hk:e.k<kd) (hb:e.b<n) (hc:0<=e.c/\e.c<=1000):Ret qQ [dM n kd es,e.d] (.bl true):=by
 refine lS ?_
 have e1:=aP (uE (x:=(e.a:Int)) (a:=0) (b:=(n:Int) - 1) (by omega) (by omega))
 have e2:=aP (uE (x:=(e.b:Int)) (a:=0) (b:=(n:Int) - 1) (by omega) (by omega))
 have e3:=aP (uE (x:=(e.k:Int)) (a:=0) (b:=(kd:Int) - 1) (by omega) (by omega))
 have e4:=aP (uE (x:=e.c) (a:=0) (b:=1000) hc.1 hc.2)
 simp [xE,entry,cB,eJ,nI,e1,e2,e3,e4]
theorem aQs {x y:E} (h:ST.ltL x.l y.l=true) {b c:Bool}:aL9 (y.d,b) (x.d,c)=.ok (.bl false,true):=by
 show R.ok (D.bl (!ST.ltL x.l y.l),true)=_
 rw [h];rfl
def kR2:List (D×Bool)->R (List D)
 | [(.int i,_),(.int j,_)]=>if cK i && cK j then .ok (fS i (j - i).toNat) else .bad
 | _=>.bad
@[simp] theorem aWf {g:dI} {ρ:Env}:iR2 g ρ=(g ρ).bind kR2:=by
 unfold iR2
 cases g ρ<;>rfl
theorem aV5 {n:Nat} {b c:Bool} (h:n<=1000000):kR2 [(.int 1,b),(.int (n:Int),c)]=.ok ((List.range (n - 1)).map fun i:Nat=>D.int (1+(i:Int))):=by
 show (if (cK 1 && cK (n:Int))=true then R.ok (fS 1 ((n:Int) - 1).toNat) else R.bad)=_
 rw [show (cK 1 && cK (n:Int))=true by rw [xX h];decide,if_pos rfl,show ((n:Int) - 1).toNat=n - 1 by omega]
 rfl
theorem sN (es:List E):oX (ME es)=es.zipIdx.map fun p=>.tup [.int (p.2:Nat),p.1.d]:=aAm
theorem yX {n kd:Nat} {es:List E} (h:OkM n kd es):Ret kW [dM n kd es] .non:=by
 refine lS ?_
 have hl:¬ ((600:Int)<(es.length:Int)):=by have:=h.ls;omega
 simp -implicitDefEqProofs [qB,entry,cB,eJ,nI,hl,sN]
 refine bV (cV (fun pre ρ=>∃t u,np t/\np u/\ρ=[.val (dM n kd es),.val (.lst false (ME es)),t,u]) es.zipIdx ⟨_,_,bN,bN,rfl⟩ ?_) ?_
 ·rintro pre ⟨x,k⟩ post ρ e ⟨t,u,ht,hu,rfl⟩
  have hx:x∈es:=by
   have:(x,k)∈es.zipIdx:=by rw [e];simp
   have:=List.mem_zipIdx this
   simp at this
   rw [this.2];exact List.getElem_mem _
  simp -implicitDefEqProofs [ht,hu,cB,eJ,aP (aGw (es:=es) (h.a x hx) (h.k x hx) (h.b x hx) (h.c x hx))]
 ·rintro ρ ⟨t,u,ht,hu,rfl⟩
  simp -implicitDefEqProofs [aV5 (show es.length<=1000000 by have:=h.ls;omega)]
  refine aAb (cV (fun pre ρ=>∃t,np t/\ρ=[.val (dM n kd es),.val (.lst false (ME es)),t,u]) (List.range (es.length - 1)) ⟨_,ht,rfl⟩ ?_) (fun ρ h=>trivial) (fun _ h=>h)
  rintro pre i post ρ e ⟨t,ht,rfl⟩
  have hi:i<es.length - 1:=List.mem_range.mp (by rw [e];simp)
  have e1:(1+(i:Int))=((i+1:Nat):Int):=by omega
  have e2:(((i+1:Nat):Int) - 1)=(i:Int):=by omega
  have q1:=fB (es:=es) (k:=i+1) (b:=false) (c:=false) (by omega)
  have q2:=fB (es:=es) (k:=i) (b:=false) (c:=true) (by omega)
  have up:ST.ltL (ed es i).l (ed es (i+1)).l=true:=by
   have:=List.pairwise_iff_getElem.mp h.up i (i+1) (by omega) (by omega) (by omega)
   have z1:=lM (es:=es) (k:=i) (by omega)
   have z2:=lM (es:=es) (k:=i+1) (by omega)
   rw [List.getElem?_eq_getElem (by omega)] at z1 z2
   rw [<- Option.some.inj z1,<- Option.some.inj z2];exact this
  rw [e1]
  simp only [kA,lE,gD ht,if_true,kK,List.set,vF,pH,pQ,nA,iR,bR,q1,mG,aM5,e2,q2,aQs up,aAr,mS,mR]
  exact ⟨_,aK,rfl⟩
end VL.QQ
end
section
namespace VL.QQ
open VL PySem L2 PY
def NN (xs:T0):List D:=xs.map nI
@[simp] theorem aV2:NN []=[]:=rfl
@[simp] theorem uF (xs:T0):(NN xs).length=xs.length:=by simp [NN]
@[simp] theorem aVl (xs:T0) (x:Nat):NN xs ++ [.int (x:Int)]=NN (xs ++ [x]):=by simp [NN]
@[simp] theorem aJq (xs:T0):D.bL (NN xs)=true:=dY (fun _=>rfl) xs
@[simp] theorem aVd (xs:T0):D.frzs (NN xs)=NN xs:=gE (fun _=>rfl) xs
def nt (xs:T0) (k:Nat):Nat:=xs.getD k 0
theorem aDv {xs:T0} {k:Nat} (h:k<xs.length):xs[k]?=some (nt xs k):=by simp [nt,List.getElem?_eq_getElem h]
theorem qH {xs:T0} {k:Nat} (h:k<xs.length):nt xs k∈xs:=List.mem_of_getElem? (aDv h)
theorem aAv {o:Bool} {xs:T0} {k:Nat} {b c:Bool} (h:k<xs.length):kIx (.lst o (NN xs),b) (.int (k:Int),c)=.ok (nI (nt xs k),b):=by
 simp [dU,NN,aDv h]
theorem nG {o:Bool} {xs:T0} {x:Nat} {b c:Bool} (h:xs.getLast?=some x):kIx (.lst o (NN xs),b) (.int (-1),c)=.ok (nI x,b):=by
 simp [aAi,NN,h]
def oD:Option Nat->D
 | none=>.non
 | some k=>nI k
def OD (ow:Y4):List D:=ow.map oD
@[simp] theorem pI (x:Option Nat):(oD x).calm=true:=by cases x<;>rfl
@[simp] theorem aHb (xs:Y4):D.bL (OD xs)=true:=dY pI xs
@[simp] theorem aLb (xs:Y4):D.frzs (OD xs)=OD xs:=gE pI xs
@[simp] theorem aPv (xs:Y4):(OD xs).length=xs.length:=by simp [OD]
theorem aTg {o:Bool} {ow:Y4} {v:Nat} {b c:Bool} (h:v<ow.length):kIx (.lst o (OD ow),b) (.int (v:Int),c)=.ok (oD (og ow v),b):=by
 simp [dU,OD,og,List.getElem?_eq_getElem h]
theorem iH {n kd:Nat} {es:List E} (h:OkM n kd es):Ret fU [dM n kd es] .non:=by
 refine lS ?_
 have e1:=aP (uE (x:=(n:Int)) (a:=1) (b:=200) (by have:=h.n1;omega) (by have:=h.n2;omega))
 have e2:=aP (uE (x:=(kd:Int)) (a:=1) (b:=8) (by have:=h.k1;omega) (by have:=h.k2;omega))
 simp -implicitDefEqProofs [mZ,entry,cB,eJ,nI,e1,e2,iB (yX h)]
@[simp] theorem l1:(Str.ofString "a machine has 1 to ").length=19:=by rfl
@[simp] theorem l2:(Str.ofString " places").length=7:=by rfl
@[simp] theorem l3:(Str.ofString "the price of kind ").length=18:=by rfl
@[simp] theorem l4:(Str.ofString " is not from 0 to ").length=18:=by rfl
@[simp] theorem l5:(Str.ofString "deed ").length=5:=by rfl
@[simp] theorem l6:(Str.ofString " does not begin where the row has come to").length=41:=by rfl
theorem aG3 {α:Type} {xs pre post:List α} {x:α} {k:Nat} {pr po:List (α×Nat)} (e:xs.zipIdx=pr++(x,k)::po):k=pr.length/\k<xs.length/\xs[k]?=some x:=by
 have h1:pr.length<xs.zipIdx.length:=by rw [e];simp
 have h2:xs.zipIdx[pr.length]?=some (x,k):=by rw [e];simp
 simp only [List.length_zipIdx] at h1
 rw [List.getElem?_zipIdx,List.getElem?_eq_getElem h1] at h2
 simp at h2
 obtain ⟨h2,h3⟩:=h2
 subst h3
 exact ⟨rfl,h1,by rw [List.getElem?_eq_getElem h1,h2]⟩
end VL.QQ
end
section
namespace VL.QQ
open VL PySem L2 PY
def ixP (pre:List (E×Nat)) (p:Nat):T0:=(pre.filter fun x=>x.1.a == p).map (·.2)
def LS (n:Nat) (f:Nat->T0):List D:=(List.range n).map fun p=>.lst true (NN (f p))
theorem aQ8 {n a x:Nat} {f:Nat->T0}:(LS n f).set a (.lst true (NN (f a ++ [x])))=LS n fun p=>if p=a then f a ++ [x] else f p:=by
 unfold LS
 refine List.ext_getElem (by simp) fun i h1 h2=>?_
 rw [List.getElem_set]
 by_cases h:a=i
 ·simp [h]
 ·simp [h,Ne.symm h]
@[simp] theorem aSg {i:Nat} {h f:aQ} {ρ:Env}:iF i h f ρ=gW (h ρ) fun d _=>match d with
  | .int k=>(match f ρ with
   | .ok x=>(match (getD ρ i).bind fun d=>aAn d k x with | some d=>.next (putD ρ i d) | none=>.bad)
   | .exc _=>.bad | .bad=>.bad)
  | _=>.bad:=by
 unfold iF gW
 cases h ρ with
 | ok x=>obtain ⟨d,b⟩:=x;cases d<;>rfl
 | exc _=>rfl
 | bad=>rfl
theorem aVy {n a x:Nat} {f:Nat->T0} {b:Bool} (ha:a<n) (hl:(f a).length<1000000):aAn (.lst true (LS n f)) (a:Int) (nI x,b)=some (.lst true (LS n fun p=>if p=a then f a ++ [x] else f p)):=by
 have e1:ixN (LS n f).length (a:Int)=some a:=by
  unfold ixN
  rw [if_pos (Int.natCast_nonneg a),if_pos (by simp [LS];omega)];simp
 have e2:(LS n f)[a]?=some (.lst true (NN (f a))):=by simp [LS,ha]
 show (ixN (LS n f).length (a:Int)).bind _=_
 rw [e1]
 show ((LS n f)[a]?).bind _=_
 rw [e2]
 show (rX (.lst true (NN (f a))) (nI x,b)).map _=_
 have e3:rX (.lst true (NN (f a))) (nI x,b)=some (.lst true (NN (f a ++ [x]))):=by
  cases b<;>simp [hl,nI]
 rw [e3]
 show some (D.lst true ((LS n f).set a (.lst true (NN (f a ++ [x])))))=_
 rw [aQ8]
theorem yS {n kd:Nat} {es:List E} (h:OkM n kd es):Ret lG [dM n kd es] (.lst true (LS n (ixP es.zipIdx))):=by
 refine lS ?_
 have ec:bQ (iR1 (aE (v2 kIx (aB 0) (vC (.int 0))) aN)) 1 [] (bA 0) bY (pN aN) [.val (dM n kd es),.un,.un,.un]=.ok (.lst true (LS n fun _=>[]),true):=by
  rw [gN [] (List.range n) (fun i=>.int (i:Int)) (fun _=>D.lst true []) (fun _=>true) (by simp -implicitDefEqProofs [nI,dS (show n<=1000000 by have:=h.n2;omega)]) (by have:=h.n2;simp;omega) rfl ?_ (.inl rfl)]
  ·rfl
  ·intro x _;exact ⟨rfl,rfl⟩
 simp -implicitDefEqProofs [pM,entry,ec,sN]
 refine bV (cV (fun pre ρ=>∃t u,np t/\np u/\ρ=[.val (dM n kd es),.val (.lst true (LS n (ixP pre))),t,u]) es.zipIdx ⟨_,_,bN,bN,rfl⟩ ?_) ?_
 ·rintro pre ⟨x,k⟩ post ρ e ⟨t,u,ht,hu,rfl⟩
  obtain ⟨hk1,hk2,hk3⟩:=aG3 (pre:=[]) (post:=[]) e
  have hx:x∈es:=List.mem_of_getElem? hk3
  have hlen:(ixP pre x.a).length<1000000:=by
   have h1:(ixP pre x.a).length<=pre.length:=by unfold ixP;rw [List.length_map];exact List.length_filter_le _ _
   have:=h.ls;omega
  have ea:=aVy (n:=n) (a:=x.a) (x:=k) (f:=ixP pre) (b:=false) (h.a x hx) hlen
  simp -implicitDefEqProofs [ht,hu,nI,ea]
  have ef:(fun p=>if p=x.a then ixP pre x.a ++ [k] else ixP pre p)=ixP (pre ++ [(x,k)]):=by
   funext p
   by_cases hp:p=x.a
   ·subst hp
    simp [ixP]
   ·simp [ixP,hp,Ne.symm hp]
  rw [ef]
  exact ⟨_,aK,_,aK,rfl,rfl,rfl⟩
 ·rintro ρ ⟨t,u,ht,hu,rfl⟩
  simp
end VL.QQ
end
section
namespace VL.QQ
open VL PySem L2 PY
theorem kC {c:cG} {b:aX} {P:Env->Prop} {Q:D->Prop} (J:Nat->Env->Prop) (h:∀m ρ,J m ρ->(c ρ=.ok false/\P ρ)\/(c ρ=.ok true/\∃m',m=m'+1/\out (b ρ) (J m') Q)) :
  ∀(N m:Nat) (ρ:Env),J m ρ->m<N->out (bS c b N ρ) P Q
 | 0,m,ρ,_,hm=>absurd hm (Nat.not_lt_zero m)
 | N+1,m,ρ,hj,hm=>by
  rcases h m ρ hj with ⟨h1,h2⟩ | ⟨h1,m',e,h2⟩
  ·rw [zU h1];exact h2
  ·show out (match c ρ with | .ok true=>iA (b ρ) (bS c b N) | .ok false=>.next ρ | .exc _=>.bad | .bad=>.bad) P Q
   rw [h1]
   show out (iA (b ρ) (bS c b N)) P Q
   cases eb:b ρ with
   | next ρ2 =>
    rw [eb] at h2
    exact kC J h N m' ρ2 h2 (by omega)
   | ret d ρ2=>rw [eb] at h2;exact h2
   | exc _ _=>rw [eb] at h2;exact h2.elim
   | brk _=>rw [eb] at h2;exact h2.elim
   | cont _=>rw [eb] at h2;exact h2.elim
   | bad=>rw [eb] at h2;exact h2.elim
@[simp] theorem aP5 {i:Nat} {h f:aQ} {ρ:Env}:dQ i h f ρ=gW (f ρ) fun d b=>gW (h ρ) fun k _=>match k with
  | .int k=>(match (getD ρ i).bind fun e=>aA5 e k (d,b) with | some e=>.next (putD ρ i e) | none=>.bad) | _=>.bad:=by
 unfold dQ gW
 cases f ρ with
 | ok x =>
  cases h ρ with
  | ok y=>obtain ⟨y,c⟩:=y;cases y<;>rfl
  | exc _=>rfl
  | bad=>rfl
 | exc _=>rfl
 | bad=>rfl
@[simp] theorem aQm {i:Nat} {op:Int->Int->Int} {f:aQ} {ρ:Env}:uH i op f ρ=match getD ρ i with
  | some (.int a)=>gW (f ρ) fun d _=>(match d with | .int b=>if free ρ i then .next (ρ.set i (.val (.int (op a b)))) else .bad | _=>.bad)
  | _=>.bad:=by
 unfold uH gW
 cases getD ρ i with
 | none=>rfl
 | some d =>
  cases d<;>try rfl
  cases f ρ with
  | ok x=>obtain ⟨x,b⟩:=x;cases x<;>rfl
  | exc _=>rfl
  | bad=>rfl
theorem aC2 {m k:Nat} (h:k<m):ixN m (k:Int)=some k:=by
 unfold ixN;rw [if_pos (Int.natCast_nonneg k),if_pos (by omega)];simp
theorem aE6 {ow:Y4} {v k:Nat} {b:Bool} (h:v<ow.length):aA5 (.lst true (OD ow)) (v:Int) (nI k,b)=some (.lst true (OD (ow.set v (some k)))):=by
 show (if aU (nI k,b)=true then (ixN (OD ow).length (v:Int)).map fun j=>D.lst true ((OD ow).set j (nI k)) else none)=_
 rw [if_pos (by cases b<;>rfl),aPv,aC2 h]
 show some (D.lst true ((OD ow).set v (nI k)))=_
 rw [OD,OD,List.map_set];rfl
theorem aRj {xs:Y0} {v:Nat} {x:Int} {b:Bool} (h:v<xs.length):aA5 (.lst true (I xs)) (v:Int) (.int x,b)=some (.lst true (I (xs.set v x))):=by
 show (if aU (.int x,b)=true then (ixN (I xs).length (v:Int)).map fun j=>D.lst true ((I xs).set j (.int x)) else none)=_
 rw [if_pos (by cases b<;>rfl),aTm,aC2 h]
 show some (D.lst true ((I xs).set v (.int x)))=_
 rw [I,I,List.map_set]
structure BS (n:Nat) (es:List E) (came:Y4) (pl:T0) (rk:Nat->Nat):Prop where
 len:came.length=n
 nd:pl.Nodup
 lt:∀p∈pl,p<n
 iff:∀p,p<n->(p∈pl ↔ (p=0\/og came p ≠ none))
 ok:∀p k,og came p=some k->k<es.length/\(ed es k).b=p/\p ≠ 0/\(ed es k).a∈pl/\rk (ed es k).a<rk p
 rl:∀p∈pl,rk p<pl.length
 rm:∀p,rk p<=pl.length
 so:∀p∈pl,Reach es p
theorem BS.le {n:Nat} {es:List E} {came:Y4} {pl:T0} {rk:Nat->Nat} (h:BS n es came pl rk):pl.length<=n:=mK n pl h.nd h.lt
theorem BS.add {n:Nat} {es:List E} {came:Y4} {pl:T0} {rk:Nat->Nat} (h:BS n es came pl rk) {k:Nat} (hk:k<es.length) (ha:(ed es k).a∈pl) (hb:(ed es k).b<n) (h0:(ed es k).b ≠ 0) (hn:og came (ed es k).b=none) :
  BS n es (came.set (ed es k).b (some k)) (pl ++ [(ed es k).b]) (fun p=>if p=(ed es k).b then pl.length else rk p):=by
 generalize eb:(ed es k).b=B at *
 have go:∀v,og (came.set B (some k)) v=if v=B then some k else og came v:=fun v=>aCi (by rw [h.len];exact hb)
 have hB:B ∉ pl:=fun z=>by
  rcases (h.iff B hb).mp z with q | q
  ·exact h0 q
  ·exact q hn
 have ne:∀p∈pl,p ≠ B:=fun p hp z=>hB (z ▸ hp)
 refine ⟨by rw [List.length_set];exact h.len,?_,fun p hp=>?_,fun p hp=>?_,fun p k' e=>?_,fun p hp=>?_,fun p=>?_,fun p hp=>?_⟩
 ·refine List.nodup_append.mpr ⟨h.nd,by simp,fun x hx y hy z=>?_⟩
  simp at hy;subst hy;exact ne x hx z
 ·rcases List.mem_append.mp hp with q | q
  ·exact h.lt p q
  ·simp at q;rw [q];exact hb
 ·rw [go,List.mem_append]
  by_cases q:p=B
  ·simp [q]
  ·rw [if_neg q,h.iff p hp];simp [q]
 ·rw [go] at e
  by_cases q:p=B
  ·rw [if_pos q] at e;cases e
   subst q
   refine ⟨hk,eb,h0,List.mem_append_left _ ha,?_⟩
   rw [if_pos rfl,if_neg (ne _ ha)]
   exact h.rl _ ha
  ·rw [if_neg q] at e
   obtain ⟨o1,o2,o3,o4,o5⟩:=h.ok p k' e
   refine ⟨o1,o2,o3,List.mem_append_left _ o4,?_⟩
   rw [if_neg (ne _ o4),if_neg q];exact o5
 ·rw [List.length_append]
  show (if p=B then pl.length else rk p)<pl.length+1
  by_cases q:p=B
  ·rw [if_pos q];omega
  ·rw [if_neg q]
   have:=h.rm p;omega
 ·rw [List.length_append]
  show (if p=B then pl.length else rk p)<=pl.length+1
  have:=h.rm p
  split<;>omega
 ·rcases List.mem_append.mp hp with q | q
  ·exact h.so p q
  ·simp at q
   rw [q,<- eb]
   exact .step (gQ hk) (h.so _ ha)
theorem aTh {es:List E} {e:E} (he:e∈es):∃k,k∈ixP es.zipIdx e.a/\ed es k=e:=by
 obtain ⟨k,hk,hke⟩:=List.getElem_of_mem he
 refine ⟨k,?_,?_⟩
 ·unfold ixP
  refine List.mem_map.mpr ⟨(e,k),List.mem_filter.mpr ⟨?_,by simp⟩,rfl⟩
  rw [List.mem_zipIdx_iff_getElem?,List.getElem?_eq_getElem hk,hke]
 ·have:=lM hk
  rw [List.getElem?_eq_getElem hk,hke] at this
  exact (Option.some.inj this).symm
theorem aQt {es:List E} {k p:Nat} (h:k∈ixP es.zipIdx p):k<es.length/\(ed es k).a=p:=by
 unfold ixP at h
 obtain ⟨⟨e,k'⟩,h1,h2⟩:=List.mem_map.mp h
 obtain ⟨h3,h4⟩:=List.mem_filter.mp h1
 have h2:k'=k:=h2
 subst h2
 rw [List.mem_zipIdx_iff_getElem?] at h3
 have h3:es[k']?=some e:=h3
 have hk:=(List.getElem?_eq_some_iff.mp h3).1
 refine ⟨hk,?_⟩
 have:=lM hk
 rw [h3] at this
 rw [<- Option.some.inj this]
 simpa using h4
structure CameOk (n:Nat) (es:List E) (came:Y4):Prop where
 len:came.length=n
 ok:∀p k,og came p=some k->k<es.length/\(ed es k).b=p/\p ≠ 0
 rk:∃rk:Nat->Nat,(∀p,rk p<=n)/\∀p k,og came p=some k->rk (ed es k).a<rk p
 re:∀p,p<n->((p=0\/og came p ≠ none) ↔ Reach es p)
 sr:∀p k,og came p=some k->Reach es (ed es k).a
theorem aOo {n p:Nat} {f:Nat->T0} (h:p<n):(D.frzs (LS n f))[p]?=some (.lst false (NN (f p))):=by
 rw [D.aFc];simp [LS,h]
def oI:cG:=(aZ (v2 kLt (aB 4) (vCB dN (aE (aB 3) aN))))
def tH:aX:=(aS (fW (eZ (v2 kIx (aB 1) (v2 kIx (aB 3) (aB 4)))) (bA 5) (aS (aY 6 (xOf (v2 kIx (v2 kIx (v2 kIx (aB 0) (vC (.int 2))) (aB 5)) (vC (.int 2))))) (sIf (lK (aZ (v2 (kEq true) (aB 6) (vC (.int 0)))) (aZ (v2 (iP false) (v2 kIx (aB 2) (aB 6)) (vC .non)))) (aS (dQ 2 (aB 6) (aB 5)) (eK 3 (aB 6))) bJ))) (uH 4 (fun i j=>i+j) (vC (.int 1))))
theorem aGc {n kd:Nat} {es:List E} (h:OkM n kd es):nY nF [dM n kd es] (fun d=>∃came,d=.lst true (OD came)/\CameOk n es came):=by
 refine dX ?_
 have ec:bQ (iR1 (aE (v2 kIx (aB 0) (vC (.int 0))) aN)) 1 [] (bA 0) bY (vC .non) [.val (dM n kd es),.val (.lst true (LS n (ixP es.zipIdx))),.un,.un,.un,.un,.un]=.ok (.lst true (OD (List.replicate n none)),true):=by
  rw [gN [] (List.range n) (fun i=>.int (i:Int)) (fun _=>D.non) (fun _=>true) (by simp -implicitDefEqProofs [nI,dS (show n<=1000000 by have:=h.n2;omega)]) (by have:=h.n2;simp;omega) rfl ?_ (.inl rfl)]
  ·rw [OD,List.map_replicate]
   congr 3
   exact List.eq_replicate_iff.mpr ⟨by simp,by simp [oD]⟩
  ·intro x _;exact ⟨rfl,rfl⟩
 have hn2:=h.n2
 simp -implicitDefEqProofs [xA,entry,aP (yS h),ec]
 show out ((bS oI tH fuel _).andThen _) _ _
 refine bV (P':=fun ρ=>∃came pl rk at' t u,np t/\np u/\BS n es came pl rk/\(∀e∈es,e.a∈pl->e.b∈pl)/\0∈pl/\ρ=[.val (dM n kd es),.val (.lst false (D.frzs (LS n (ixP es.zipIdx)))),.val (.lst true (OD came)),.val (.lst true (NN pl)),.val (.int at'),t,u]) (kC (fun m ρ=>∃came pl rk,∃a:Nat,∃t u,np t/\np u/\BS n es came pl rk/\(∀e∈es,e.a∈pl.take a->e.b∈pl)/\a<=pl.length/\0∈pl/\m=n - a/\ρ=[.val (dM n kd es),.val (.lst false (D.frzs (LS n (ixP es.zipIdx)))),.val (.lst true (OD came)),.val (.lst true (NN pl)),.val (nI a),t,u]) ?_ 1000 n _ ?_ (by omega)) ?_
 ·rintro m ρ ⟨came,pl,rk,a,t,u,ht,hu,B,cl,hal,h0,hm,rfl⟩
  by_cases hlt:a<pl.length
  ·refine .inr ⟨by simp [oI,nI,hlt],n - (a+1),by have:=B.le;omega,?_⟩
   have hp:=qH hlt
   have hpn:=B.lt _ hp
   have e1:atI (D.frzs (LS n (ixP es.zipIdx))) ((nt pl a:Nat):Int)=some (.lst false (NN (ixP es.zipIdx (nt pl a)))):=by rw [dU];exact aOo hpn
   simp -implicitDefEqProofs [tH,nI,aAv hlt,e1]
   refine bV (cV (fun pre ρ=>∃came pl' rk t u,np t/\np u/\BS n es came pl' rk/\(∀e∈es,e.a∈pl'.take a->e.b∈pl')/\a<pl'.length/\nt pl' a=nt pl a/\0∈pl'/\(∀x∈pre,(ed es x).b∈pl')/\ρ=[.val (dM n kd es),.val (.lst false (D.frzs (LS n (ixP es.zipIdx)))),.val (.lst true (OD came)),.val (.lst true (NN pl')),.val (nI a),t,u]) (ixP es.zipIdx (nt pl a)) ⟨came,pl,rk,t,u,ht,hu,B,cl,hlt,rfl,h0,by simp,rfl⟩ ?_) ?_
   ·rintro pre x post ρ e ⟨came,pl',rk,t,u,ht,hu,B,cl,hlt',hnt,h0,hpre,rfl⟩
    obtain ⟨hx,hxa⟩:=aQt (show x∈ixP es.zipIdx (nt pl a) by rw [e];simp)
    have hbn:=h.b _ (gQ hx)
    have ha':(ed es x).a∈pl':=by rw [hxa,<- hnt];exact qH hlt'
    have hoA:=aTg (o:=true) (b:=false) (c:=false) (show (ed es x).b<came.length by rw [B.len];exact hbn)
    by_cases hb0:(ed es x).b=0
    ·simp -implicitDefEqProofs [ht,hu,nI,fB hx,hb0]
     refine ⟨came,pl',rk,_,aK,_,aK,B,cl,hlt',hnt,h0,fun y hy=>?_,rfl,rfl,rfl,rfl⟩
     rcases hy with hy | hy
     ·exact hpre y hy
     ·rw [hy,hb0];exact h0
    ·have hb0':¬ ((ed es x).b:Int)=0:=by omega
     cases ho:og came (ed es x).b with
     | some k =>
      rw [ho] at hoA
      simp -implicitDefEqProofs [ht,hu,nI,fB hx,hb0',hb0,hoA,oD,dJ]
      refine ⟨came,pl',rk,_,aK,_,aK,B,cl,hlt',hnt,h0,fun y hy=>?_,rfl,rfl,rfl,rfl⟩
      rcases hy with hy | hy
      ·exact hpre y hy
      ·rw [hy];exact (B.iff _ hbn).mpr (.inr (by rw [ho];simp))
     | none =>
      rw [ho] at hoA
      have hpl:pl'.length<1000000:=by have:=B.le;omega
      have B':=B.add hx ha' hbn hb0 ho
      simp -implicitDefEqProofs [ht,hu,nI,fB hx,hb0',hb0,hoA,oD,dJ,aE6 (show (ed es x).b<came.length by rw [B.len];exact hbn),hpl]
      refine ⟨_,_,_,_,aK,_,aK,B',fun e he hea=>?_,?_,?_,?_,fun y hy=>?_,rfl,rfl,rfl,rfl⟩
      ·rw [List.take_append_of_le_length (by omega)] at hea
       exact List.mem_append_left _ (cl e he hea)
      ·simp;omega
      ·rw [<- hnt];unfold nt
       rw [List.getD_eq_getElem?_getD,List.getD_eq_getElem?_getD,List.getElem?_append_left hlt']
      ·exact List.mem_append_left _ h0
      ·rcases hy with hy | hy
       ·exact List.mem_append_left _ (hpre y hy)
       ·rw [hy];simp
   ·rintro ρ ⟨came,pl',rk,t,u,ht,hu,B,cl,hlt',hnt,h0,hpre,rfl⟩
    simp -implicitDefEqProofs [ht,hu,nI]
    refine ⟨came,pl',rk,a+1,t,ht,u,hu,B,fun e he hea=>?_,by omega,h0,rfl,rfl,rfl,by simp,rfl,rfl⟩
    rw [List.take_succ,List.mem_append] at hea
    rcases hea with hea | hea
    ·exact cl e he hea
    ·rw [aDv hlt'] at hea
     simp at hea
     obtain ⟨k,hk1,hk2⟩:=aTh he
     rw [hea,hnt] at hk1
     rw [<- hk2];exact hpre k hk1
  ·refine .inl ⟨by simp [oI,nI];omega,came,pl,rk,(a:Int),t,u,ht,hu,B,?_,h0,rfl⟩
   have:a=pl.length:=by omega
   subst this
   simpa using cl
 ·refine ⟨_,[0],fun _=>0,0,_,_,bN,bN,⟨by simp,by simp,by simp;exact h.n1,fun p hp=>by simp [aB5],fun p k e=>(by rw [aB5] at e;cases e),by simp,by simp,by simp;exact .zero⟩,by simp,by simp,by simp,by simp,rfl⟩
 ·rintro ρ ⟨came,pl,rk,a,t,u,ht,hu,B,cl,h0,rfl⟩
  simp
  refine ⟨came,rfl,B.len,fun p k e=>⟨(B.ok p k e).1,(B.ok p k e).2.1,(B.ok p k e).2.2.1⟩,⟨rk,fun p=>Nat.le_trans (B.rm p) B.le,fun p k e=>(B.ok p k e).2.2.2.2⟩,fun p hp=>?_,fun p k e=>B.so _ (B.ok p k e).2.2.2.1⟩
  rw [<- B.iff p hp]
  refine ⟨B.so p,fun hr=>?_⟩
  clear hp
  induction hr with
  | zero=>exact h0
  | step he _ ih=>exact cl _ he ih
end VL.QQ
end
section
namespace VL.QQ
open VL PySem L2 PY
def BB (n:Nat) (f:Nat->Bool):List D:=(List.range n).map fun p=>.bl (f p)
@[simp] theorem aUg (n:Nat) (f:Nat->Bool):D.bL (BB n f)=true:=dY (fun _=>rfl) _
@[simp] theorem aVp (n:Nat) (f:Nat->Bool):D.frzs (BB n f)=BB n f:=gE (fun _=>rfl) _
theorem aIo {o:Bool} {n p:Nat} {f:Nat->Bool} {b c:Bool} (h:p<n):kIx (.lst o (BB n f),b) (.int (p:Int),c)=.ok (.bl (f p),b):=by
 simp [dU,BB,h]
theorem aLe (xs:Y4):oX (OD xs)=xs.zipIdx.map fun p=>.tup [.int (p.2:Nat),oD p.1]:=aAm
@[simp] theorem aWc {f g:aQ} {ρ:Env}:vOr f g ρ=(f ρ).bind fun x=>match x.1 with | .bl false=>g ρ | .bl true=>.ok (.bl true,true) | _=>.bad:=rfl
theorem aJ0 (x:Option Nat):dJ (oD x)=x.isNone:=by cases x<;>rfl
theorem xJ {n kd:Nat} {es:List E} (h:OkM n kd es):nY nH [dM n kd es] (fun d=>∃f,d=.lst true (BB n f)/\∀p,p<n->(f p=true ↔ Reach es p)):=by
 refine dX ?_
 obtain ⟨d,hd,came,rfl,C⟩:=aGc h
 have ec:bQ (vW (bB nF (aE (aB 0) aN))) 2 [] (dH [0,1]) bY (vOr (v2 (kEq false) (aB 0) (vC (.int 0))) (v2 (iP true) (aB 1) (vC .non))) [.val (dM n kd es)]=.ok (.lst true (BB n fun p=>decide (p=0) || (og came p).isSome),true):=by
  rw [aQa [] came.zipIdx (fun p=>.int (p.2:Nat)) (fun p=>oD p.1) (fun p=>D.bl (decide (p.2=0) || p.1.isSome)) (fun _=>true) (by simp [aP hd,aLe]) (by have:=C.len;have:=h.n2;simp;omega) rfl ?_ (.inl rfl)]
  ·congr 3
   unfold BB
   refine List.ext_getElem (by simp [C.len]) fun i h1 h2=>?_
   simp at h1 h2
   simp [og,List.getElem?_eq_getElem h1]
  ·rintro ⟨x,i⟩ hx
   refine ⟨rfl,pI x,?_,rfl⟩
   by_cases hi:i=0
   ·subst hi;simp
   ·have hi':¬ (i:Int)=0:=by omega
    simp [hi,hi',aJ0]
 simp -implicitDefEqProofs [xC,entry,iB (iH h),ec]
 refine ⟨_,rfl,fun p hp=>?_⟩
 rw [<- C.re p hp]
 simp [Option.isSome_iff_ne_none]
@[simp] theorem aQb {i:Nat} {ρ:Env}:aFk i ρ=match (getD ρ i).bind aFj with | some d=>.next (putD ρ i d) | none=>.bad:=rfl
theorem aLk {xs:T0} (h:xs.length<1000000):aFj (.lst true (NN xs))=some (.lst true (NN xs.reverse)):=by
 show (if (D.bL (NN xs) && decide ((NN xs).length<1000000))=true then some (D.lst true (NN xs).reverse) else none)=_
 rw [if_pos (by simp [h])]
 simp [NN]
theorem yE {es:List E} {ow:Y4} {v d:Nat} (h:og ow v=some d):nx es ow v=(ed es d).b:=by unfold nx;rw [h]
end VL.QQ
end
section
namespace VL.QQ
open VL PySem L2 PY
@[simp] theorem aU7 {c d:D} {ρ:Env}:putD (.pin c::ρ) 0 d=.pin d::ρ:=rfl
end VL.QQ
end
section
namespace VL.QQ
open VL PySem L2 PY
theorem aJc {α:Type} {cF:Env} {c:cG} {e:aQ} {φ χ ψ:α->D} {b g:α->Bool}:∀(xs:List α) (t u:Slot),np t->np u->(∀x∈xs,(φ x).calm=true/\(χ x).calm=true/\c (.val (φ x)::.val (χ x)::cF)=.ok (g x)/\e (.val (φ x)::.val (χ x)::cF)=.ok (ψ x,b x)/\aU (ψ x,b x)=true) ->
  gL (dH [0,1]) c e (xs.map fun x=>.tup [φ x,χ x]) (t::u::cF)=.ok ((xs.filter g).map ψ)
 | [],_,_,_,_,_=>rfl
 | x::xs,t,u,ht,hu,h=>by
  obtain ⟨c1,c2,h0,h1,h2⟩:=h x List.mem_cons_self
  have ih:=aJc xs (.val (φ x)) (.val (χ x)) aK aK fun y hy=>h y (List.mem_cons_of_mem _ hy)
  have hb:dH [0,1] (.tup [φ x,χ x]) (t::u::cF)=some (.val (φ x)::.val (χ x)::cF):=by
   simp [c1,c2,ht,hu]
  show (match dH [0,1] (.tup [φ x,χ x]) (t::u::cF) with | none=>R.bad | some ρ1=>_)=_
  rw [hb]
  show (c (.val (φ x)::.val (χ x)::cF)).bind _=_
  rw [h0,bR]
  by_cases hg:g x=true
  ·rw [if_pos hg]
   show (e (.val (φ x)::.val (χ x)::cF)).bind _=_
   rw [h1,bR,if_pos h2]
   show (gL (dH [0,1]) c e (xs.map fun x=>.tup [φ x,χ x]) (.val (φ x)::.val (χ x)::cF)).bind _=_
   rw [ih,List.filter_cons_of_pos hg];rfl
  ·rw [if_neg hg,List.filter_cons_of_neg hg];exact ih
theorem aK9 {α:Type} {it:jQ} {js:T0} {c:cG} {e:aQ} {ρ:Env} (cF:Env) (xs:List α) (φ χ ψ:α->D) (b g:α->Bool) (hi:it ρ=.ok (xs.map fun x=>.tup [φ x,χ x])) (hl:xs.length<=1000000) (hc:js.map (gZ ρ)=cF)
  (he:∀x∈xs,(φ x).calm=true/\(χ x).calm=true/\c (.val (φ x)::.val (χ x)::cF)=.ok (g x)/\e (.val (φ x)::.val (χ x)::cF)=.ok (ψ x,b x)/\aU (ψ x,b x)=true) (hk:∀x,isScal (ψ x)=true):bQ it 2 js (dH [0,1]) c e ρ=.ok (.lst true ((xs.filter g).map ψ),true):=by
 unfold bQ
 rw [hi,bR,if_pos (by simpa using hl),hc]
 show (gL (dH [0,1]) c e (xs.map fun x=>.tup [φ x,χ x]) (.un::.un::cF)).bind _=_
 rw [aJc xs .un .un bN bN he,bR,if_pos]
 rw [Bool.or_eq_true];right;rw [List.all_eq_true]
 intro d hd
 obtain ⟨x,hx,rfl⟩:=List.mem_map.mp hd
 exact hk x
theorem qT {n:Nat} {d:D}:((List.range n).map fun _=>d)=List.replicate n d:=List.eq_replicate_iff.mpr ⟨by simp,by simp⟩
def gH:cG:=(lK (aZ (v2 (iP true) (aB 6) (vC .non))) (aZ (v2 kLt (aB 7) (v2 kIx (aB 0) (vC (.int 0))))))
def jS:aX:=(aS (aY 6 (oN fV [0,1,3,4,5])) (uH 7 (fun i j=>i+j) (vC (.int 1))))
end VL.QQ
end
section
namespace VL.QQ
open VL PySem L2 PY
def Sm (B:Int) (xs:Y0):Prop:=∀x∈xs,-B<=x/\x<=B
theorem aI1 {B:Int} (hB:0<=B):∀xs:Y0,Sm B xs->-(B * xs.length)<=xs.sum/\xs.sum<=B * xs.length
 | [],_=>by simp
 | x::xs,h=>by
  have h1:=h x List.mem_cons_self
  have h2:=aI1 hB xs fun y hy=>h y (List.mem_cons_of_mem _ hy)
  rw [List.sum_cons,List.length_cons]
  have:B * ((xs.length+1:Nat):Int)=B * xs.length+B:=by rw [show ((xs.length+1:Nat):Int)=(xs.length:Int)+1 by omega,Int.mul_add,Int.mul_one]
  rw [this];omega
theorem aSm {B:Int} {xs:Y0} (hB:0<=B) (h:Sm B xs) (k:Nat):-B<=gt xs k/\gt xs k<=B:=by
 unfold gt
 rw [List.getD_eq_getElem?_getD]
 cases e:xs[k]? with
 | none=>simp;omega
 | some x=>exact h x (List.mem_of_getElem? e)
theorem aKt {i:Int} (h1:-(2 ^ 100)<i) (h2:i<2 ^ 100):fits i=true:=by
 unfold fits
 rw [Bool.and_eq_true,decide_eq_true_iff,decide_eq_true_iff]
 have e:(2:Int) ^ 100<2 ^ 200:=by decide
 omega
theorem aWe {xs:T0} {x:Nat}:atI (NN (x::xs)) 0=some (nI x):=rZ
end VL.QQ
end
section
namespace VL.QQ
open VL PySem L2 PY
open Classical in
noncomputable
def rB (es:List E) (p:Nat):Bool:=if Reach es p then true else false
theorem aCf {es:List E} {p:Nat}:rB es p=true ↔ Reach es p:=by
 unfold rB
 by_cases h:Reach es p
 ·rw [if_pos h];simp [h]
 ·rw [if_neg h];simp [h]
theorem aSh {es:List E} {n p:Nat} {f:Nat->Bool} (hf:∀p,p<n->(f p=true ↔ Reach es p)) (hp:p<n):f p=rB es p:=by
 have h1:=hf p hp
 rw [<- aCf] at h1
 cases e1:f p<;>cases e2:rB es p<;>simp [e1,e2] at h1<;>rfl
end VL.QQ
end
section
namespace VL.QQ
open VL PySem L2 PY K10
def aDx (ns:Y0) (k:Nat):Int:=if ns=[] then 0 else gt ns (k % ns.length)
theorem aVx {xs:Y0}:(I xs).isEmpty=decide (xs=[]):=by cases xs<;>simp [I]
theorem aT6 {xs:Y0} {k:Nat} (h:k<xs.length):atI (I xs) (k:Int)=some (.int (gt xs k)):=by
 rw [dU,aM7 h]
theorem aRz {ns:Y0} {k:Nat}:Ret tR [.lst false (I ns),.int k] (.int (aDx ns k)):=by
 refine lS ?_
 by_cases h:ns=[]
 ·subst h
  simp -implicitDefEqProofs [tW,entry,cB,eJ,aDx]
 ·have hl:0<ns.length:=List.length_pos_iff.mpr h
  have e:((k:Int) % (ns.length:Nat))=((k % ns.length:Nat):Int):=by simp
  simp -implicitDefEqProofs [tW,entry,cB,eJ,aDx,aVx,h,hl,-Int.natCast_emod]
  rw [e,aT6 (Nat.mod_lt _ hl)]
  simp -implicitDefEqProofs
def aB8 (ns:Y0) (k:Nat):Int:=(aDx ns k+104729 * ((k:Int)+1)) % 4294967291
def aB4 (ns:Y0) (k:Nat):Int:=aB8 ns k * 48271 % 4294967279
def mB (ns:Y0) (k:Nat):Int:=(aB4 ns k / 64 * 69621+aB4 ns k) % 4294967231
theorem cN {x:Int} (h:-1000000000000<=x) (h2:x<=1000000000000):fits x=true:=aKt (by omega) (by omega)
theorem wY {ns:Y0} {k:Nat} (hk:k<=1000000):Ret eU [.lst false (I ns),.int k] (.int (mB ns k)):=by
 refine lS ?_
 have h1:0<=aB8 ns k:=Int.emod_nonneg _ (by decide)
 have h1':aB8 ns k<4294967291:=Int.emod_lt_of_pos _ (by decide)
 have h2:0<=aB4 ns k:=Int.emod_nonneg _ (by decide)
 have h2':aB4 ns k<4294967279:=Int.emod_lt_of_pos _ (by decide)
 have f0:fits 104729=true:=cN (by decide) (by decide)
 have f1:fits ((k:Int)+1)=true:=cN (by omega) (by omega)
 have f2:fits 48271=true:=cN (by decide) (by decide)
 have f3:fits 69621=true:=cN (by decide) (by decide)
 have f4:fits 64=true:=cN (by decide) (by decide)
 have f5:fits (aB8 ns k)=true:=cN (by omega) (by omega)
 have f6:fits (aB4 ns k / 64)=true:=cN (by omega) (by omega)
 unfold aB8 at f5
 unfold aB4 aB8 at f6
 simp -implicitDefEqProofs [aEp,entry,aP (aRz (ns:=ns) (k:=k)),f0,f1,f2,f3,f4,f5,f6,mB,aB4,aB8]
theorem aRo (e:E):dR [nI e.a,nI e.k,nI e.b,.int e.c]=some e.l:=rfl
theorem aDy:∀es:List E,lY (ME es)=some (es.map E.l)
 | []=>rfl
 | e::es=>by
  show (match dR [nI e.a,nI e.k,nI e.b,.int e.c],lY (ME es) with | some k,some ks=>some (k::ks) | _,_=>none)=_
  rw [aRo,aDy es];rfl
def ofL:Y0->E
 | [a,k,b,c]=>⟨a.toNat,k.toNat,b.toNat,c⟩
 | _=>default
theorem aKl (e:E):ofL e.l=e:=by
 show (⟨(e.a:Int).toNat,(e.k:Int).toNat,(e.b:Int).toNat,e.c⟩:E)=e
 simp
theorem aAt (k:Y0):∀xs:LI,(sG k xs).length<=xs.length+1
 | []=>Nat.le_refl _
 | x::xs=>by
  unfold sG
  by_cases h1:ST.ltL k x=true
  ·rw [if_pos h1];simp
  ·rw [if_neg h1]
   by_cases h2:k=x
   ·rw [if_pos h2];simp
   ·rw [if_neg h2];simp;exact aAt k xs
theorem xO:∀ks:LI,(jB ks).length<=ks.length
 | []=>Nat.le_refl _
 | k::ks=>by
  have h1:=aAt k (jB ks)
  have h2:=xO ks
  show (sG k (jB ks)).length<=ks.length+1
  omega
theorem aT4 (es:List E):∃es':List E,(jB (es.map E.l)).map TI=ME es'/\(∀e∈es',e∈es)/\es'.length<=es.length/\es'.Pairwise fun x y=>ST.ltL x.l y.l=true:=by
 have hm:∀k∈jB (es.map E.l),∃e∈es,e.l=k:=fun k hk=>by
  obtain ⟨e,he,rfl⟩:=List.mem_map.mp (qL.mp hk)
  exact ⟨e,he,rfl⟩
 refine ⟨(jB (es.map E.l)).map ofL,?_,fun e he=>?_,?_,?_⟩
 ·unfold ME
  rw [List.map_map]
  refine List.map_congr_left fun k hk=>?_
  obtain ⟨e,_,rfl⟩:=hm k hk
  show TI e.l=(ofL e.l).d
  rw [aKl];rfl
 ·obtain ⟨k,hk,rfl⟩:=List.mem_map.mp he
  obtain ⟨e,he',rfl⟩:=hm k hk
  rw [aKl];exact he'
 ·rw [List.length_map];have:=xO (es.map E.l);simpa using this
 ·refine List.pairwise_map.mpr (List.Pairwise.imp_of_mem (fun {a b} ha hb h=>?_) (uB (es.map E.l)))
  obtain ⟨e,_,rfl⟩:=hm a ha
  obtain ⟨e',_,rfl⟩:=hm b hb
  rw [aKl,aKl];exact h
theorem aP4 {es:List E} {o b:Bool} (h:es.length<=18):kSS [(.lst o (ME es),b)]=.ok (.lst true ((jB (es.map E.l)).map TI),true):=by
 show (match lY (ME es) with | some ks=>(if (decide (ks.length<=18) && ks.all (fun k=>!k.isEmpty))=true then R.ok (D.lst true ((jB ks).map TI),true) else .bad) | none=>.bad)=_
 rw [aDy]
 dsimp only
 rw [if_pos]
 simp [h]
 intro e _;simp [E.l]
theorem aUc {v:Int}:∃x,atI [D.int 0,D.int 1,D.int 2,D.int 3,D.int 5,D.int 9,D.int 1,D.int 0] (v % 8)=some (.int x)/\0<=x/\x<=1000:=by
 obtain ⟨k,hk,e⟩:∃k:Nat,k<8/\v % 8=(k:Int):=⟨(v % 8).toNat,by omega,by omega⟩
 rw [e,dU]
 match k,hk with
 | 0,_=>exact ⟨_,rfl,by decide,by decide⟩
 | 1,_=>exact ⟨_,rfl,by decide,by decide⟩
 | 2,_=>exact ⟨_,rfl,by decide,by decide⟩
 | 3,_=>exact ⟨_,rfl,by decide,by decide⟩
 | 4,_=>exact ⟨_,rfl,by decide,by decide⟩
 | 5,_=>exact ⟨_,rfl,by decide,by decide⟩
 | 6,_=>exact ⟨_,rfl,by decide,by decide⟩
 | 7,_=>exact ⟨_,rfl,by decide,by decide⟩
theorem aGe {v:Int} {m:Nat} (hm:0<m):∃k:Nat,k<m/\v % (m:Int)=(k:Int):=by
 have h1:=Int.emod_nonneg v (show (m:Int) ≠ 0 by omega)
 have h2:=Int.emod_lt_of_pos v (show (0:Int)<(m:Int) by omega)
 exact ⟨(v % (m:Int)).toNat,by omega,by omega⟩
@[simp] theorem aVq (es:List E) (e:E):ME es ++ [e.d]=ME (es ++ [e]):=by simp [ME]
end VL.QQ
end
section
namespace VL.QQ
open VL PySem L2 PY K10
theorem qU:∀xs:T0,D.nB (NN xs)=true
 | []=>rfl
 | x::xs=>by show (true && D.nB (NN xs))=true;rw [qU xs];rfl
theorem aDb:∀xs:T0,PyData.canLayAll0 (D.pys (NN xs))=true
 | []=>rfl
 | x::xs=>by show (true && PyData.canLayAll0 (D.pys (NN xs)))=true;rw [aDb xs];rfl
theorem aJk (x:Nat):∀xs:T0,((D.pys (NN xs)).any fun y=>PyData.eqv y (.int (x:Int)))=decide (x∈xs)
 | []=>rfl
 | y::xs=>by
  show (((y:Int) == (x:Int)) || (D.pys (NN xs)).any fun y=>PyData.eqv y (.int (x:Int)))=_
  rw [aJk x xs]
  by_cases h:x=y
  ·subst h;simp
  ·have:¬ (y:Int)=(x:Int):=by omega
   simp [h,this]
theorem aAh {neg o b c:Bool} {x:Nat} {xs:T0}:kIn neg (.int (x:Int),b) (.lst o (NN xs),c)=.ok (.bl (if neg then !decide (x∈xs) else decide (x∈xs)),true):=by
 have e1:sF (.int (x:Int)) (NN xs)=true:=by
  unfold sF
  rw [qU,aDb]
  have:(D.int (x:Int)).py.depth=0:=rfl
  rw [this,Nat.min_zero];rfl
 have e2:inD (.int (x:Int)) (NN xs)=decide (x∈xs):=aJk x xs
 show (if sF (.int (x:Int)) (NN xs)=true then R.ok (D.bl (if neg then !inD (.int (x:Int)) (NN xs) else inD (.int (x:Int)) (NN xs)),true) else .bad)=_
 rw [if_pos e1,e2]
@[simp] theorem aNa {is:T0} {e:E} {ρ:Env}:dH is e.d ρ=cX is [.int (e.a:Int),.int (e.k:Int),.int (e.b:Int),.int e.c] ρ:=rfl
structure LB (n:Nat) (es:List E) (pl:T0):Prop where
 nd:pl.Nodup
 lt:∀p∈pl,p<n
 z:0∈pl
 so:∀p∈pl,Reach es p
theorem LB.add {n:Nat} {es:List E} {pl:T0} (h:LB n es pl) {e:E} (he:e∈es) (ha:e.a∈pl) (hb:e.b<n) (hn:e.b ∉ pl):LB n es (pl ++ [e.b]):=by
 refine ⟨List.nodup_append.mpr ⟨h.nd,by simp,fun x hx y hy z=>?_⟩,fun p hp=>?_,List.mem_append_left _ h.z,fun p hp=>?_⟩
 ·simp at hy;subst hy;subst z;exact hn hx
 ·rcases List.mem_append.mp hp with q | q
  ·exact h.lt p q
  ·simp at q;rw [q];exact hb
 ·rcases List.mem_append.mp hp with q | q
  ·exact h.so p q
  ·simp at q;rw [q];exact .step he (h.so _ ha)
def kZ:cG:=(aZ (v2 kLt (aB 2) (vCB dN (aE (aB 1) aN))))
def pC:aX:=(aS (fW (eZ (v2 kIx (aB 0) (vC (.int 2)))) (dH [3,4,5,6]) (sIf (lK (aZ (v2 (kEq false) (aB 3) (v2 kIx (aB 1) (aB 2)))) (aZ (v2 (kIn true) (aB 5) (aB 1)))) (eK 1 (aB 5)) bJ)) (aY 2 (xOf (v2 cJ (aB 2) (vC (.int 1))))))
theorem rT {n kd:Nat} {es:List E} (h:OkM n kd es):nY gJ [dM n kd es] (fun d=>∃pl,d=.lst true (NN pl)/\∀p,(p∈pl ↔ Reach es p)):=by
 refine dX ?_
 have hn1:=h.n1
 have hn2:=h.n2
 simp -implicitDefEqProofs [rH,entry]
 show out ((bS kZ pC fuel _).andThen _) _ _
 refine bV (P':=fun ρ=>∃pl a t3 t4 t5 t6,LB n es pl/\(∀e∈es,e.a∈pl->e.b∈pl)/\ρ=[.val (dM n kd es),.val (.lst true (NN pl)),a,t3,t4,t5,t6])
  (kC (fun m ρ=>∃pl,∃a:Nat,∃t3 t4 t5 t6,np t3/\np t4/\np t5/\np t6/\LB n es pl/\(∀e∈es,e.a∈pl.take a->e.b∈pl)/\a<=pl.length/\m=n - a/\ρ=[.val (dM n kd es),.val (.lst true (NN pl)),.val (nI a),t3,t4,t5,t6]) ?_ 1000 n _ ?_ (by omega)) ?_
 ·rintro m ρ ⟨pl,a,t3,t4,t5,t6,h3,h4,h5,h6,B,cl,hal,hm,rfl⟩
  have hle:=mK n pl B.nd B.lt
  by_cases hlt:a<pl.length
  ·refine .inr ⟨by simp [kZ,nI,hlt],n - (a+1),by omega,?_⟩
   simp -implicitDefEqProofs [pC]
   refine bV (cV (fun pre ρ=>∃pl' t3 t4 t5 t6,np t3/\np t4/\np t5/\np t6/\LB n es pl'/\(∀e∈es,e.a∈pl'.take a->e.b∈pl')/\a<pl'.length/\nt pl' a=nt pl a/\(∀e∈pre,e.a=nt pl a->e.b∈pl')/\ρ=[.val (dM n kd es),.val (.lst true (NN pl')),.val (nI a),t3,t4,t5,t6]) es ⟨pl,t3,t4,t5,t6,h3,h4,h5,h6,B,cl,hlt,rfl,by simp,rfl⟩ ?_) ?_
   ·rintro pre e post ρ ee ⟨pl',t3,t4,t5,t6,h3,h4,h5,h6,B,cl,hlt',hnt,hpre,rfl⟩
    have he:e∈es:=by rw [ee];simp
    have y1:=aAv (o:=true) (xs:=pl') (b:=false) (c:=false) hlt'
    rw [hnt] at y1
    by_cases q1:e.a=nt pl a
    ·have q1':(e.a:Int)=((nt pl a:Nat):Int):=by omega
     by_cases q2:e.b∈pl'
     ·simp -implicitDefEqProofs [h3,h4,h5,h6,nI,y1,q1',aAh,q2]
      refine ⟨pl',_,aK,_,aK,_,aK,_,aK,B,cl,hlt',hnt,fun e' he' hea=>?_,rfl,rfl,rfl,rfl,rfl⟩
      rcases he' with q | q
      ·exact hpre e' q hea
      ·rw [q];exact q2
     ·have hpl:pl'.length<1000000:=by have:=mK n pl' B.nd B.lt;omega
      have B':=B.add he (by rw [q1,<- hnt];exact qH hlt') (h.b e he) q2
      simp -implicitDefEqProofs [h3,h4,h5,h6,nI,y1,q1',aAh,q2,hpl]
      refine ⟨pl' ++ [e.b],_,aK,_,aK,_,aK,_,aK,B',fun e' he' hea=>?_,by simp;omega,?_,fun e' he' hea=>?_,rfl,rfl,rfl,rfl,rfl⟩
      ·rw [List.take_append_of_le_length (by omega)] at hea
       exact List.mem_append_left _ (cl e' he' hea)
      ·rw [<- hnt];unfold nt
       rw [List.getD_eq_getElem?_getD,List.getD_eq_getElem?_getD,List.getElem?_append_left hlt']
      ·rcases he' with q | q
       ·exact List.mem_append_left _ (hpre e' q hea)
       ·rw [q];simp
    ·have q1':¬ (e.a:Int)=((nt pl a:Nat):Int):=by omega
     simp -implicitDefEqProofs [h3,h4,h5,h6,nI,y1,q1']
     refine ⟨pl',_,aK,_,aK,_,aK,_,aK,B,cl,hlt',hnt,fun e' he' hea=>?_,rfl,rfl,rfl,rfl,rfl⟩
     rcases he' with q | q
     ·exact hpre e' q hea
     ·rw [q] at hea;exact absurd hea q1
   ·rintro ρ ⟨pl',t3,t4,t5,t6,h3,h4,h5,h6,B,cl,hlt',hnt,hpre,rfl⟩
    simp -implicitDefEqProofs [nI]
    refine ⟨pl',a+1,t3,h3,t4,h4,t5,h5,t6,h6,B,fun e he hea=>?_,by omega,rfl,rfl,by simp,rfl,rfl,rfl,rfl⟩
    rw [List.take_succ,List.mem_append] at hea
    rcases hea with hea | hea
    ·exact cl e he hea
    ·rw [aDv hlt'] at hea
     simp at hea
     exact hpre e he (by rw [hea,hnt])
  ·refine .inl ⟨by simp [kZ,nI];omega,pl,_,t3,t4,t5,t6,B,?_,rfl⟩
   have:a=pl.length:=by omega
   subst this
   simpa using cl
 ·exact ⟨[0],0,_,_,_,_,bN,bN,bN,bN,⟨by simp,by simp;omega,by simp,by simp;exact .zero⟩,by simp,by simp,rfl,rfl⟩
 ·rintro ρ ⟨pl,a,t3,t4,t5,t6,B,cl,rfl⟩
  simp
  refine ⟨pl,rfl,fun p=>⟨B.so p,fun hr=>?_⟩⟩
  induction hr with
  | zero=>exact B.z
  | step he _ ih=>exact cl _ he ih
end VL.QQ
end
section
namespace VL.QQ
open VL PySem L2 PY K10
theorem aI4 {α:Type} {cF:Env} {c:cG} {e:aQ} {φ ψ:α->D} {b g:α->Bool}:∀(xs:List α) (t:Slot),np t->(∀x∈xs,c (.val (φ x)::cF)=.ok (g x)/\e (.val (φ x)::cF)=.ok (ψ x,b x)/\aU (ψ x,b x)=true) ->
  gL (bA 0) c e (xs.map φ) (t::cF)=.ok ((xs.filter g).map ψ)
 | [],_,_,_=>rfl
 | x::xs,t,ht,h=>by
  obtain ⟨h0,h1,h2⟩:=h x List.mem_cons_self
  have ih:=aI4 xs (.val (φ x)) aK fun y hy=>h y (List.mem_cons_of_mem _ hy)
  have hb:bA 0 (φ x) (t::cF)=some (.val (φ x)::cF):=by
   simp [ht]
  show (match bA 0 (φ x) (t::cF) with | none=>R.bad | some ρ1=>_)=_
  rw [hb]
  show (c (.val (φ x)::cF)).bind _=_
  rw [h0,bR]
  by_cases hg:g x=true
  ·rw [if_pos hg]
   show (e (.val (φ x)::cF)).bind _=_
   rw [h1,bR,if_pos h2]
   show (gL (bA 0) c e (xs.map φ) (.val (φ x)::cF)).bind _=_
   rw [ih,List.filter_cons_of_pos hg];rfl
  ·rw [if_neg hg,List.filter_cons_of_neg hg];exact ih
theorem aE4 {α:Type} {it:jQ} {js:T0} {c:cG} {e:aQ} {ρ:Env} (cF:Env) (xs:List α) (φ ψ:α->D) (b g:α->Bool) (hi:it ρ=.ok (xs.map φ)) (hl:xs.length<=1000000) (hc:js.map (gZ ρ)=cF)
  (he:∀x∈xs,c (.val (φ x)::cF)=.ok (g x)/\e (.val (φ x)::cF)=.ok (ψ x,b x)/\aU (ψ x,b x)=true) (hk:∀x,isScal (ψ x)=true):bQ it 1 js (bA 0) c e ρ=.ok (.lst true ((xs.filter g).map ψ),true):=by
 unfold bQ
 rw [hi,bR,if_pos (by simpa using hl),hc]
 show (gL (bA 0) c e (xs.map φ) (.un::cF)).bind _=_
 rw [aI4 xs .un bN he,bR,if_pos]
 rw [Bool.or_eq_true];right;rw [List.all_eq_true]
 intro d hd
 obtain ⟨x,hx,rfl⟩:=List.mem_map.mp hd
 exact hk x
theorem aEu {xs:T0}:(NN xs).isEmpty=decide (xs=[]):=by cases xs<;>simp [NN]
end VL.QQ
end
section
namespace VL.QQ
open VL PySem L2 PY K10
theorem jJ {N:Nat} {pre post:T0} {k:Nat} (e:List.range N=pre++k::post):k=pre.length/\k<N:=by
 have h1:pre.length<(List.range N).length:=by rw [e];simp
 have h2:(List.range N)[pre.length]?=some k:=by rw [e];simp
 simp at h1
 rw [List.getElem?_range h1] at h2
 cases h2
 exact ⟨rfl,h1⟩
theorem eq_nil {o b c:Bool} {xs:T0}:kEq false (.lst o (NN xs),b) (.lst true [],c)=.ok (.bl (decide (xs=[])),true):=by
 have e1:yW (.lst o (NN xs)) (.lst true [])=true:=by
  unfold yW
  have h1:(D.lst o (NN xs)).plain=true:=qU xs
  have h2:(D.lst o (NN xs)).py.canLay0=true:=aDb xs
  rw [h1,h2]
  have h3:(D.lst true []).py.depth=1:=rfl
  rw [h3]
  have h4:min (D.lst o (NN xs)).py.depth 1<=100:=by omega
  rw [decide_eq_true h4];rfl
 unfold kEq
 rw [if_pos e1]
 cases xs<;>rfl
end VL.QQ
end
section
namespace VL.QQ
open VL PySem L2 PY K10
@[simp] theorem aTz {t:Tg}:(D.ext false t).calm=true:=rfl
@[simp] theorem aVi {t:Tg}:(D.ext false t).frz=.ext false t:=rfl
end VL.QQ
end
section
namespace VL.QQ
open VL PySem L2 PY K10
end VL.QQ
end
section
namespace VL.QQ
open VL PySem L2 PY K10
@[simp] theorem aUy {o b:Bool} {ds:List D}:pF [(.lst o ds,b)]=if D.bL ds then .ok (.lst true ds,true) else .bad:=rfl
end VL.QQ
end
section
namespace VL.QQ
open VL PySem L2 PY
structure BF2 (es:List E) (gs:Y0) (num:T0) (n r:Nat) (most:Y0) (ow:Y4) (L rk:Nat->Nat) (cnt:Nat):Prop extends BF es gs num n r most ow L rk cnt where
 nn:∀v,0<=gt most v
 zz:∀v,og ow v=none->gt most v=0
section
variable {es:List E} {gs:Y0} {num:T0} {n r:Nat} {most:Y0} {ow:Y4} {L rk:Nat->Nat} {cnt:Nat}
theorem BF2.raise (h:BF2 es gs num n r most ow L rk cnt) {d:Nat} (hd:d∈num) (ha:(ed es d).a<n) (hv:gt most (ed es d).a<gt gs d+gt most (ed es d).b) (hl:r<=L (ed es d).b+1) :
  ∃L' rk',BF2 es gs num n r (most.set (ed es d).a (gt gs d+gt most (ed es d).b)) (ow.set (ed es d).a (some d)) L' rk' (cnt+1)/\L' (ed es d).a=r /\
   (Rel es gs (most.set (ed es d).a (gt gs d+gt most (ed es d).b)) d\/r<=L' (ed es d).b) /\
   ∀(d' m:Nat),m<=r->(Rel es gs most d'\/m<=L (ed es d').b)->(Rel es gs (most.set (ed es d).a (gt gs d+gt most (ed es d).b)) d'\/m<=L' (ed es d').b):=by
 obtain ⟨L',rk',B,r1,r2,r3⟩:=h.toBF.raise hd ha hv hl
 have h1:=h.nn (ed es d).a
 refine ⟨L',rk',⟨B,fun v=>?_,fun v e=>?_⟩,r1,r2,r3⟩
 ·rw [aCs (by rw [h.lm];exact ha)]
  have:=h.nn v
  split<;>omega
 ·rw [aCi (by rw [h.lo];exact ha)] at e
  rw [aCs (by rw [h.lm];exact ha)]
  by_cases q:v=(ed es d).a
  ·rw [if_pos q] at e;cases e
  ·rw [if_neg q] at e ⊢;exact h.zz v e
theorem aHj {v:Nat}:gt (List.replicate n 0) v=0:=by
 unfold gt
 rw [List.getD_eq_getElem?_getD,List.getElem?_replicate]
 by_cases h:v<n
 ·rw [if_pos h];rfl
 ·rw [if_neg h];rfl
theorem BF2.init {m:Nat}:BF2 es gs num n 0 (List.replicate n 0) (List.replicate n none) (fun _=>0) (fun _=>0) m :=
 ⟨BF.init,fun v=>by rw [aHj];exact Int.le_refl _,fun v _=>aHj⟩
theorem BF2.up {r':Nat} (h:BF2 es gs num n r most ow L rk cnt) (hr:r<=r'):BF2 es gs num n r' most ow L rk cnt:=⟨h.toBF.up hr,h.nn,h.zz⟩
end
def Lk (es:List E):Nat->T0->Nat->Prop
 | u,[],v=>u=v
 | u,d::ds,v=>d<es.length/\(ed es d).a=u/\Lk es (ed es d).b ds v
theorem Lk.app {es:List E}:∀ {r1:T0} {u v w:Nat} {r2:T0},Lk es u r1 v->Lk es v r2 w->Lk es u (r1++r2) w
 | [],u,v,w,r2,h1,h2=>by cases h1;exact h2
 | d::ds,u,v,w,r2,h1,h2=>⟨h1.1,h1.2.1,h1.2.2.app h2⟩
theorem Lk.snoc {es:List E} {u v d:Nat} {row:T0} (h:Lk es u row v) (hd:d<es.length) (ha:(ed es d).a=v):Lk es u (row ++ [d]) (ed es d).b:=h.app ⟨hd,ha,rfl⟩
theorem Lk.lt {es:List E}:∀ {row:T0} {u v:Nat},Lk es u row v->∀x∈row,x<es.length
 | [],_,_,_,x,hx=>by cases hx
 | d::ds,u,v,h,x,hx=>by
  rcases List.mem_cons.mp hx with rfl | hx
  ·exact h.1
  ·exact h.2.2.lt x hx
theorem Lk.reach {es:List E}:∀ {row:T0} {u v:Nat},Lk es u row v->Reach es u->Reach es v
 | [],_,_,h,r=>by cases h;exact r
 | d::ds,u,v,h,r=>h.2.2.reach (.step (gQ h.1) (by rw [h.2.1];exact r))
section
variable {es:List E} {gs:Y0} {num:T0} {n r:Nat} {most:Y0} {ow:Y4} {L rk:Nat->Nat} {cnt:Nat}
theorem aN4 (hn:∀d∈num,d<es.length) (h:BF es gs num n r most ow L rk cnt) {u:Nat}:∀k,(∀i,i<k->og ow (ch es ow u i) ≠ none)->Lk es u (dl es ow u k) (ch es ow u k)
 | 0,_=>rfl
 | k+1,hne=>by
  have ih:=aN4 hn h (u:=u) k fun i hi=>hne i (Nat.lt_succ_of_lt hi)
  cases e:og ow (ch es ow u k) with
  | none=>exact absurd e (hne k (Nat.lt_succ_self k))
  | some d =>
   obtain ⟨o1,o2,_⟩:=h.on _ d e
   have:=ih.snoc (hn d o1) o2
   rw [zH,e]
   show Lk es u (dl es ow u k ++ [d]) (nx es ow (ch es ow u k))
   rw [yE e];exact this
theorem aEj (h:BF2 es gs num n r most ow L rk cnt) (hr:∀d∈num,Rel es gs most d) {u:Nat}:∀k,(∀i,i<k->og ow (ch es ow u i) ≠ none)->gt most u=((dl es ow u k).map (gt gs)).sum+gt most (ch es ow u k)
 | 0,_=>by simp [dl,ch]
 | k+1,hne=>by
  have ih:=aEj h hr (u:=u) k fun i hi=>hne i (Nat.lt_succ_of_lt hi)
  cases e:og ow (ch es ow u k) with
  | none=>exact absurd e (hne k (Nat.lt_succ_self k))
  | some d =>
   obtain ⟨o1,o2,o3,_⟩:=h.on _ d e
   have:=hr d o1
   unfold Rel at this
   rw [o2] at this
   have ec:ch es ow u (k+1)=(ed es d).b:=by show nx es ow _=_;rw [yE e]
   rw [zH,List.map_append,List.sum_append,e,ec]
   have e1:(([(some d:Option Nat).getD 0]).map (gt gs)).sum=gt gs d:=by simp
   rw [e1];omega
theorem aHd (hb:∀d∈num,(ed es d).b<n) (h:BF2 es gs num n r most ow L rk cnt) (hr:∀d∈num,Rel es gs most d) {u:Nat} (hu:u<n):∃k,k<n/\og ow (ch es ow u k)=none/\∀i,i<k->og ow (ch es ow u i) ≠ none:=by
 have lt:=aIr hb h.toBF hu
 have dec:∀i j,i<j->(∀m,m<j->og ow (ch es ow u m) ≠ none)->rk (ch es ow u j)<rk (ch es ow u i):=by
  intro i j
  induction j with
  | zero=>intro hij;omega
  | succ j ih =>
   intro hij hne
   have step:rk (ch es ow u (j+1))<rk (ch es ow u j):=by
    cases e:og ow (ch es ow u j) with
    | none=>exact absurd e (hne j (Nat.lt_succ_self j))
    | some d =>
     have:=aLl h.toBF hr e
     show rk (nx es ow (ch es ow u j))<_
     rw [yE e];exact this
   rcases Nat.lt_or_ge i j with q | q
   ·have:=ih q fun m hm=>hne m (Nat.lt_succ_of_lt hm)
    omega
   ·have:i=j:=by omega
    subst this;exact step
 have ex:∃k,k<n/\og ow (ch es ow u k)=none:=by
  refine Classical.byContradiction fun hno=>?_
  have hne:∀m,m<n->og ow (ch es ow u m) ≠ none:=fun m hm z=>hno ⟨m,hm,z⟩
  have nd:((List.range (n+1)).map (ch es ow u)).Nodup:=by
   refine List.pairwise_map.mpr (List.Pairwise.imp_of_mem (R:=(· < ·)) (fun {a b} ha hb' hlt z=>?_) List.pairwise_lt_range)
   have hb'':b<n+1:=List.mem_range.mp hb'
   have:=dec a b hlt fun m hm=>hne m (by omega)
   rw [z] at this;omega
  have:=mK n _ nd fun x hx=>by
   obtain ⟨i,_,rfl⟩:=List.mem_map.mp hx
   exact lt i
  simp at this
  omega
 obtain ⟨k,hk,e⟩:=ex
 obtain ⟨k',h1,h2,h3⟩:=ST.exists_first (P:=fun k=>og ow (ch es ow u k)=none) k e
 exact ⟨k',by omega,h2,h3⟩
end
end VL.QQ
end
section
namespace VL.QQ
open VL PySem L2 PY
theorem wC {n kd r cnt:Nat} {es:List E} {gs:Y0} {num:T0} {most:Y0} {ow:Y4} {L rk:Nat->Nat} (h:OkM n kd es) (hg:gs.length=es.length) (hnum:∀d∈num,d<es.length)
  (B:BF2 es gs num n (r+1) most ow L rk cnt) (hr:∀d∈num,Rel es gs most d\/r<=L (ed es d).b) :
  ∃most' ow' L' rk' cnt' raised,fV [dM n kd es,.lst false (I gs),.lst false (NN num),.lst true (I most),.lst true (OD ow)]=.ok (oD raised,[dM n kd es,.lst false (I gs),.lst false (NN num),.lst true (I most'),.lst true (OD ow')]) /\
   BF2 es gs num n (r+1) most' ow' L' rk' cnt'/\cnt'<=cnt+num.length/\(∀d∈num,Rel es gs most' d\/r+1<=L' (ed es d).b)/\(raised=none->∀d∈num,Rel es gs most' d)/\(∀v,raised=some v->v<n/\L' v=r+1):=by
 let J:T0->Env->Prop:=fun pre ρ=>∃most' ow' L' rk' cnt' raised t6 t7 t8,np t6/\np t7/\np t8/\ρ=[.val (dM n kd es),.val (.lst false (I gs)),.val (.lst false (NN num)),.pin (.lst true (I most')),.pin (.lst true (OD ow')),.val (oD raised),t6,t7,t8] /\
  BF2 es gs num n (r+1) most' ow' L' rk' cnt'/\cnt'<=cnt+pre.length/\(∀d∈pre,Rel es gs most' d\/r+1<=L' (ed es d).b)/\(∀d∈num,Rel es gs most' d\/r<=L' (ed es d).b)/\(raised=none->∀d∈pre,Rel es gs most' d)/\(∀v,raised=some v->v<n/\L' v=r+1)
 let bd:aX:=(aS (aY 7 (xOf (v2 kIx (v2 kIx (aB 0) (vC (.int 2))) (aB 6)))) (aS (aY 8 (xOf (v2 cJ (v2 kIx (aB 1) (aB 6)) (v2 kIx (aB 3) (v2 kIx (aB 7) (vC (.int 2))))))) (sIf (aZ (v2 kGt (aB 8) (v2 kIx (aB 3) (v2 kIx (aB 7) (vC (.int 0)))))) (aS (dQ 3 (v2 kIx (aB 7) (vC (.int 0))) (aB 8)) (aS (dQ 4 (v2 kIx (aB 7) (vC (.int 0))) (aB 6)) (aY 5 (xOf (v2 kIx (aB 7) (vC (.int 0))))))) bJ)))
 have key:∃ρ',forL (bA 6) bd (num.map nI) [.val (dM n kd es),.val (.lst false (I gs)),.val (.lst false (NN num)),.pin (.lst true (I most)),.pin (.lst true (OD ow)),.val .non,.un,.un,.un]=.next ρ'/\J num ρ':=by
  refine aBk J num num [] _ rfl ?_ ⟨most,ow,L,rk,cnt,none,_,_,_,bN,bN,bN,rfl,B,by simp,by simp,hr,by simp,by simp⟩
  rintro pre d post ρ e ⟨most',ow',L',rk',cnt',raised,t6,t7,t8,h6,h7,h8,rfl,B',hc,hp1,hp2,hn,hs⟩
  have hdn:d∈num:=by rw [e];simp
  have hd:=hnum d hdn
  have ha:=h.a _ (gQ hd)
  have hb:=h.b _ (gQ hd)
  have x1:=aQr (o:=false) (xs:=gs) (b:=false) (c:=false) (show d<gs.length by rw [hg];exact hd)
  have x2:=aQr (o:=true) (xs:=most') (b:=false) (c:=false) (show (ed es d).b<most'.length by rw [B'.lm];exact hb)
  have x3:=aQr (o:=true) (xs:=most') (b:=false) (c:=false) (show (ed es d).a<most'.length by rw [B'.lm];exact ha)
  by_cases hv:gt most' (ed es d).a<gt gs d+gt most' (ed es d).b
  ·obtain ⟨L2,rk2,B2,hL2,hd2,hk2⟩:=B'.raise hdn ha hv (by
    rcases hp2 d hdn with q | q
    ·unfold Rel at q;omega
    ·omega)
   refine ⟨[.val (dM n kd es),.val (.lst false (I gs)),.val (.lst false (NN num)),.pin (.lst true (I most')),.pin (.lst true (OD ow')),.val (oD raised),.val (nI d),t7,t8],[.val (dM n kd es),.val (.lst false (I gs)),.val (.lst false (NN num)),.pin (.lst true (I (most'.set (ed es d).a (gt gs d+gt most' (ed es d).b)))),.pin (.lst true (OD (ow'.set (ed es d).a (some d)))),.val (nI (ed es d).a),.val (nI d),.val (ed es d).d,.val (.int (gt gs d+gt most' (ed es d).b))],by simp [h6],?_,?_⟩
   ·simp -implicitDefEqProofs [bd,h7,h8,nI,fB hd,x1,x2,x3,hv,aRj (show (ed es d).a<most'.length by rw [B'.lm];exact ha),aE6 (show (ed es d).a<ow'.length by rw [B'.lo];exact ha)]
   ·refine ⟨_,_,L2,rk2,cnt'+1,some (ed es d).a,_,_,_,aK,aK,aK,rfl,B2,by simp;omega,fun d' hd'=>?_,fun d' hd'=>?_,(fun z=>by cases z),fun v z=>by cases z;exact ⟨ha,hL2⟩⟩
    ·rcases List.mem_append.mp hd' with q | q
     ·exact hk2 d' (r+1) (Nat.le_refl _) (hp1 d' q)
     ·simp at q;subst q;exact hd2
    ·exact hk2 d' r (by omega) (hp2 d' hd')
  ·refine ⟨[.val (dM n kd es),.val (.lst false (I gs)),.val (.lst false (NN num)),.pin (.lst true (I most')),.pin (.lst true (OD ow')),.val (oD raised),.val (nI d),t7,t8],[.val (dM n kd es),.val (.lst false (I gs)),.val (.lst false (NN num)),.pin (.lst true (I most')),.pin (.lst true (OD ow')),.val (oD raised),.val (nI d),.val (ed es d).d,.val (.int (gt gs d+gt most' (ed es d).b))],by simp [h6],?_,?_⟩
   ·simp -implicitDefEqProofs [bd,h7,h8,nI,fB hd,x1,x2,x3,hv]
   ·have hrel:Rel es gs most' d:=by unfold Rel;omega
    refine ⟨_,_,L',rk',cnt',raised,_,_,_,aK,aK,aK,rfl,B',by simp;omega,fun d' hd'=>?_,hp2,fun z d' hd'=>?_,hs⟩
    ·rcases List.mem_append.mp hd' with q | q
     ·exact hp1 d' q
     ·simp at q;subst q;exact .inl hrel
    ·rcases List.mem_append.mp hd' with q | q
     ·exact hn z d' q
     ·simp at q;subst q;exact hrel
 obtain ⟨ρ',hf,most',ow',L',rk',cnt',raised,t6,t7,t8,h6,h7,h8,rfl,B',hc,hp1,hp2,hn,hs⟩:=key
 refine ⟨most',ow',L',rk',cnt',raised,?_,B',hc,hp1,hn,hs⟩
 have hb:gY (entry 9 [dM n kd es,.lst false (I gs),.lst false (NN num),.lst true (I most),.lst true (OD ow)])=.ret (oD raised) [.val (dM n kd es),.val (.lst false (I gs)),.val (.lst false (NN num)),.pin (.lst true (I most')),.pin (.lst true (OD ow')),.un,t6,t7,t8]:=by
  simp -implicitDefEqProofs [gY,entry]
  have hf:forL (bA 6) bd (NN num) _=_:=hf
  rw [hf]
  simp
 show (match gY (entry 9 [dM n kd es,.lst false (I gs),.lst false (NN num),.lst true (I most),.lst true (OD ow)]) with | .ret d ρ'=>R.ok (d,outs _ ρ') | .next ρ'=>.ok (.non,outs _ ρ') | .exc c _=>.exc c | _=>.bad)=_
 rw [hb]
 simp [outs]
structure MG2 (n:Nat) (es:List E) (gs:Y0) (most:Y0) (ow:Y4) (raised:Option Nat) (num:T0) (L rk:Nat->Nat) (cnt r:Nat):Prop where
 nm:∀k,k∈num ↔ k<es.length/\Reach es (ed es k).a
 bf:BF2 es gs num n r most ow L rk cnt
 ct:cnt<=20 * 18
 no:raised=none->∀d∈num,Rel es gs most d
 so:∀v,raised=some v->v<n/\r=n/\L v=n
theorem wB {n kd:Nat} {es:List E} {gs:Y0} (h:OkM n kd es) (hg:gs.length=es.length) :
  nY hG [dM n kd es,.lst false (I gs)] (fun d=>∃most ow raised num L rk cnt r,d=.tup [.lst false (I most),.lst false (OD ow),oD raised]/\MG2 n es gs most ow raised num L rk cnt r):=by
 refine dX ?_
 obtain ⟨d,hd,f,rfl,hf⟩:=xJ h
 have hn1:=h.n1
 have hn2:=h.n2
 have hls:=h.ls
 let num:T0:=(es.zipIdx.filter fun p=>f p.1.a).map (·.2)
 have hnum:∀k,k∈num ↔ k<es.length/\Reach es (ed es k).a:=fun k=>by
  constructor
  ·intro hk
   obtain ⟨⟨e,k'⟩,h1,h2⟩:=List.mem_map.mp hk
   have h2:k'=k:=h2
   subst h2
   obtain ⟨h3,h4⟩:=List.mem_filter.mp h1
   rw [List.mem_zipIdx_iff_getElem?] at h3
   have h3:es[k']?=some e:=h3
   have hk':=(List.getElem?_eq_some_iff.mp h3).1
   have h5:=lM hk'
   rw [h3] at h5
   rw [<- Option.some.inj h5]
   exact ⟨hk',(hf _ (h.a e (List.mem_of_getElem? h3))).mp h4⟩
  ·rintro ⟨hk,hr⟩
   refine List.mem_map.mpr ⟨(ed es k,k),List.mem_filter.mpr ⟨?_,(hf _ (h.a _ (gQ hk))).mpr hr⟩,rfl⟩
   rw [List.mem_zipIdx_iff_getElem?];exact lM hk
 have hnl:num.length<=18:=by
  have:num.length<=es.zipIdx.length:=by
   show ((es.zipIdx.filter fun p=>f p.1.a).map (·.2)).length<=_
   rw [List.length_map];exact List.length_filter_le _ _
  rw [List.length_zipIdx] at this;omega
 have e1:bQ (vW (v2 kIx (aB 0) (vC (.int 2)))) 2 [2] (dH [0,1]) (dC (v2 kIx (aB 2) (v2 kIx (aB 1) (vC (.int 0))))) (aB 0) [.val (dM n kd es),.val (.lst false (I gs)),.val (.lst true (BB n f)),.un,.un,.un,.un,.un]=.ok (.lst true (NN num),true):=by
  rw [aK9 [.val (.lst false (BB n f))] es.zipIdx (fun p=>nI p.2) (fun p=>p.1.d) (fun p=>nI p.2) (fun _=>false) (fun p=>f p.1.a) (by simp [sN]) (by simp;omega) (by simp [gZ]) ?_ (fun _=>rfl)]
  ·show _=R.ok (D.lst true (((es.zipIdx.filter fun p=>f p.1.a).map (·.2)).map nI),true)
   rw [List.map_map];rfl
  ·rintro ⟨e,k⟩ hx
   have he:e∈es:=by
    rw [List.mem_zipIdx_iff_getElem?] at hx
    exact List.mem_of_getElem? hx
   refine ⟨rfl,rfl,?_,rfl,rfl⟩
   simp [nI,aIo (h.a e he),cB,eJ]
 have e2:bQ (iR1 (aE (v2 kIx (aB 0) (vC (.int 0))) aN)) 1 [] (bA 0) bY (vC (.int 0)) [.val (dM n kd es),.val (.lst false (I gs)),.val (.lst true (BB n f)),.val (.lst true (NN num)),.un,.un,.un,.un]=.ok (.lst true (I (List.replicate n 0)),true):=by
  rw [gN [] (List.range n) (fun i=>.int (i:Int)) (fun _=>D.int 0) (fun _=>true) (by simp -implicitDefEqProofs [nI,dS (show n<=1000000 by omega)]) (by simp;omega) rfl (fun x _=>⟨rfl,rfl⟩) (.inl rfl)]
  rw [qT,I,List.map_replicate]
 have e3:bQ (iR1 (aE (v2 kIx (aB 0) (vC (.int 0))) aN)) 1 [] (bA 0) bY (vC .non) [.val (dM n kd es),.val (.lst false (I gs)),.val (.lst true (BB n f)),.val (.lst true (NN num)),.val (.lst true (I (List.replicate n 0))),.un,.un,.un]=.ok (.lst true (OD (List.replicate n none)),true):=by
  rw [gN [] (List.range n) (fun i=>.int (i:Int)) (fun _=>D.non) (fun _=>true) (by simp -implicitDefEqProofs [nI,dS (show n<=1000000 by omega)]) (by simp;omega) rfl (fun x _=>⟨rfl,rfl⟩) (.inl rfl)]
  rw [qT,OD,List.map_replicate];rfl
 simp -implicitDefEqProofs [oY,entry,iB hd,e1,e2,e3]
 show out ((bS gH jS fuel _).andThen _) _ _
 refine bV (P':=fun ρ=>∃k most ow L rk cnt raised,MG2 n es gs most ow raised num L rk cnt k/\ρ=[.val (dM n kd es),.val (.lst false (I gs)),.val (.lst true (BB n f)),.val (.lst false (NN num)),.val (.lst true (I most)),.val (.lst true (OD ow)),.val (oD raised),.val (nI k)])
  (kC (fun m ρ=>∃k most ow L rk cnt raised,m=n - k/\k<=n/\BF2 es gs num n k most ow L rk cnt/\cnt<=k * 18/\(∀d∈num,Rel es gs most d\/k<=L (ed es d).b)/\(raised=none->∀d∈num,Rel es gs most d)/\(∀v,raised=some v->v<n/\L v=k)/\ρ=[.val (dM n kd es),.val (.lst false (I gs)),.val (.lst true (BB n f)),.val (.lst false (NN num)),.val (.lst true (I most)),.val (.lst true (OD ow)),.val (oD raised),.val (nI k)]) ?_ 1000 n _
   ⟨0,_,_,_,_,0,some 0,by omega,by omega,BF2.init,by omega,(fun d _=>.inr (Nat.zero_le _)),(fun z=>by cases z),(fun v z=>by cases z;exact ⟨by omega,rfl⟩),rfl⟩ (by omega)) ?_
 ·rintro m ρ ⟨k,most,ow,L,rk,cnt,raised,hm,hkn,B,hc,hrel,hno,hso,rfl⟩
  cases raised with
  | none=>exact .inl ⟨by simp [gH,oD,dJ],k,most,ow,L,rk,cnt,none,⟨hnum,B,by omega,hno,fun v z=>by cases z⟩,rfl⟩
  | some v =>
   obtain ⟨hv,hLv⟩:=hso v rfl
   by_cases hkn':k<n
   ·refine .inr ⟨by simp [gH,oD,dJ,nI,hkn'],n - (k+1),by omega,?_⟩
    obtain ⟨most',ow',L',rk',cnt',raised',ef,B',hc',hr',hno',hso'⟩:=wC h hg (fun d hd=>((hnum d).mp hd).1) (B.up (Nat.le_succ k)) hrel
    have es6:aY 6 (oN fV [0,1,3,4,5]) [.val (dM n kd es),.val (.lst false (I gs)),.val (.lst true (BB n f)),.val (.lst false (NN num)),.val (.lst true (I most)),.val (.lst true (OD ow)),.val (oD (some v)),.val (nI k)]=.next [.val (dM n kd es),.val (.lst false (I gs)),.val (.lst true (BB n f)),.val (.lst false (NN num)),.val (.lst true (I most')),.val (.lst true (OD ow')),.val (oD raised'),.val (nI k)]:=by
     have eg:iK [0,1,3,4,5] [.val (dM n kd es),.val (.lst false (I gs)),.val (.lst true (BB n f)),.val (.lst false (NN num)),.val (.lst true (I most)),.val (.lst true (OD ow)),.val (oD (some v)),.val (nI k)]=some [dM n kd es,.lst false (I gs),.lst false (NN num),.lst true (I most),.lst true (OD ow)]:=rfl
     unfold aY oN
     rw [eg]
     dsimp only
     rw [if_pos (show jO [0,1,3,4,5]=true from rfl),ef]
     simp [cP]
    have eb:jS [.val (dM n kd es),.val (.lst false (I gs)),.val (.lst true (BB n f)),.val (.lst false (NN num)),.val (.lst true (I most)),.val (.lst true (OD ow)),.val (oD (some v)),.val (nI k)]=.next [.val (dM n kd es),.val (.lst false (I gs)),.val (.lst true (BB n f)),.val (.lst false (NN num)),.val (.lst true (I most')),.val (.lst true (OD ow')),.val (oD raised'),.val (nI (k+1))]:=by
     unfold jS
     rw [dB,es6]
     simp -implicitDefEqProofs [nI]
    rw [eb]
    exact ⟨k+1,most',ow',L',rk',cnt',raised',rfl,by omega,B',by omega,hr',hno',hso',rfl⟩
   ·refine .inl ⟨by simp [gH,oD,dJ,nI];omega,k,most,ow,L,rk,cnt,some v,⟨hnum,B,by omega,hno,fun v' z=>?_⟩,rfl⟩
    cases z
    exact ⟨hv,by omega,by omega⟩
 ·rintro ρ ⟨k,most,ow,L,rk,cnt,raised,M,rfl⟩
  have ef:(oD raised).frz=oD raised:=pG _ (pI raised)
  simp -implicitDefEqProofs only [aR0,List.foldl,aQo,aK0,aDw,aHp,aLb,uM,yG,iY,kY,nA,iR,bR,List.all,oC,uQ,aD3,aHb,pI,Bool.not_false,Bool.and_self,Bool.and_true,List.map,nM,uV,ef,jH,Bool.true_or,if_true,nC,List.length]
  exact ⟨most,ow,raised,rfl,num,L,rk,cnt,k,M⟩
end VL.QQ
end
section
namespace VL.QQ
open VL PySem L2 PY
end VL.QQ
end
section
namespace VL.QQ
open VL PySem L2 PY
section
variable {n kd:Nat} {es:List E} {ps:Y0} {most:Y0} {ow:Y4} {num:T0} {L rk:Nat->Nat} {cnt r:Nat}
end
end VL.QQ
end
section
namespace VL.QQ
open VL PySem L2 PY K10
section
variable {n kd:Nat} {es:List E} {ps:Y0} {most:Y0} {ow:Y4} {num:T0} {L rk:Nat->Nat} {cnt r:Nat}
end
theorem aO9 {ns:Y0} {n kd:Nat} {es:List E} {k0 most:Nat} (h:OkM n kd es) (hk0:k0<=200) (hm:most<=100):nY pS [.lst false (I ns),.int (k0:Int),dM n kd es,.int (most:Int)] (fun d=>∃row v,d=.lst true (NN row)/\Lk es 0 row v/\v<n/\row.length<=100):=by
 refine dX ?_
 have hls:=h.ls
 have hn1:=h.n1
 obtain ⟨c,hc1,hc⟩:=aGe (v:=mB ns k0) (m:=most+1) (by omega)
 have hc':mB ns k0 % ((most:Int)+1)=((c:Nat):Int):=by rw [<- hc];congr 1
 have hm0:(0:Int)<(most:Int)+1:=by omega
 simp -implicitDefEqProofs [aE3,entry,aP (wY (ns:=ns) (k:=k0) (by omega)),hm0,hc',dS (show c<=1000000 by omega)]
 refine bV (cV (fun pre ρ=>∃row,∃hr:Nat,∃t u,np t/\np u/\Lk es 0 row hr/\hr<n/\row.length<=pre.length/\ρ=[.val (.lst false (I ns)),.val (nI k0),.val (dM n kd es),.val (nI most),.val (.lst true (NN row)),.val (nI hr),t,u]) (List.range c) ⟨[],0,_,_,bN,bN,rfl,by omega,by simp,rfl⟩ ?_) ?_
 ·rintro pre j post ρ e ⟨row,hr,t,u,ht,hu,hrow,hrn,hlen,rfl⟩
  have hj:j<c:=List.mem_range.mp (by rw [e];simp)
  have hpl:pre.length<=c:=by have:=congrArg List.length e;simp at this;omega
  let ss:T0:=(List.range es.length).filter fun k=>decide ((ed es k).a=hr)
  have hss:∀x∈ss,x<es.length/\(ed es x).a=hr:=fun x hx=>by
   have:=List.mem_filter.mp hx
   exact ⟨List.mem_range.mp this.1,of_decide_eq_true this.2⟩
  have ec:bQ (iR1 (aE (vCB dN (aE (v2 kIx (aB 2) (vC (.int 2))) aN)) aN)) 1 [5,2] (bA 0) (aZ (v2 (kEq false) (v2 kIx (v2 kIx (v2 kIx (aB 2) (vC (.int 2))) (aB 0)) (vC (.int 0))) (aB 1))) (aB 0) [.val (.lst false (I ns)),.val (nI k0),.val (dM n kd es),.val (nI most),.val (.lst true (NN row)),.val (nI hr),.val (nI j),u]=.ok (.lst true (NN ss),true):=by
   rw [aE4 [.val (nI hr),.val (dM n kd es)] (List.range es.length) nI nI (fun _=>false) (fun k=>decide ((ed es k).a=hr)) (by simp -implicitDefEqProofs [dS (show es.length<=1000000 by omega)]) (by simp;omega) (by simp [gZ,nI]) ?_ (fun _=>rfl)]
   ·rfl
   ·intro x hx
    have hx':=List.mem_range.mp hx
    refine ⟨?_,rfl,rfl⟩
    simp -implicitDefEqProofs [nI,fB hx']
    by_cases q:(ed es x).a=hr
    ·simp [q]
    ·have q':¬ ((ed es x).a:Int)=(hr:Int):=by omega
     simp [q,q']
  have mj:Ret eU [.lst false (I ns),.int ((k0:Int)+1+(j:Int))] (.int (mB ns (k0+1+j))):=by
   have:=wY (ns:=ns) (k:=k0+1+j) (by omega)
   rwa [show ((k0+1+j:Nat):Int)=(k0:Int)+1+(j:Int) by omega] at this
  by_cases hs:ss=[]
  ·have ec':=ec
   simp only [nI] at ec'
   simp -implicitDefEqProofs [ht,hu,nI,ec',cB,eJ,aEu,hs]
   exact ⟨row,hr,_,aK,_,aK,hrow,hrn,by omega,rfl,rfl,rfl,rfl⟩
  ·have hsl:0<ss.length:=List.length_pos_iff.mpr hs
   obtain ⟨i,hi1,hi2⟩:=aGe (v:=mB ns (k0+1+j)) (m:=ss.length) hsl
   have y1:=aAv (o:=true) (xs:=ss) (b:=false) (c:=true) hi1
   obtain ⟨hx,hxa⟩:=hss _ (qH hi1)
   have hrl:row.length<1000000:=by omega
   have y2:=nG (o:=true) (xs:=row ++ [nt ss i]) (x:=nt ss i) (b:=false) (c:=true) (by simp)
   have ec':=ec
   simp only [nI] at ec'
   simp -implicitDefEqProofs [ht,hu,nI,ec',cB,eJ,aEu,hs,aP mj,hsl,hi2,y1,hrl,y2,fB hx]
   exact ⟨row ++ [nt ss i],(ed es (nt ss i)).b,_,aK,_,aK,hrow.snoc hx hxa,h.b _ (gQ hx),by simp;omega,rfl,rfl,rfl,rfl⟩
 ·rintro ρ ⟨row,hr,t,u,ht,hu,hrow,hrn,hlen,rfl⟩
  simp
  exact ⟨row,rfl,hr,hrow,hrn,by simp at hlen;omega⟩
end VL.QQ
end
section
namespace VL.QQ
open VL PySem L2 PY K10 K11
section
variable {n kd:Nat} {es:List E} {ps:Y0} {most:Y0} {ow:Y4} {num:T0} {L rk:Nat->Nat} {cnt r:Nat}
end
end VL.QQ
end
section
namespace VL.QQ
open VL PySem L2 PY K10 K11
end VL.QQ
end
section
namespace VL.QQ
open VL PySem L2 PY K10 K11
@[simp] theorem aSf {is:T0} {f:aQ} {ρ:Env}:kO is (xOf f) ρ=gW (f ρ) fun d _=>match d with | .tup ds=>(match cX is ds ρ with | some ρ2=>.next ρ2 | none=>.bad) | _=>.bad:=by
 unfold kO xOf gW
 cases f ρ with
 | ok x=>obtain ⟨d,b⟩:=x;cases d<;>rfl
 | exc c=>rfl
 | bad=>rfl
@[simp] theorem aUz {fn:Fn} {g:dI} {ρ:Env}:bX (fY fn g) ρ=onA (g ρ) fun xs=>rW fn (D.frzs (xs.map (·.1))) (xs.all aU) ρ fun d=>.ret d ρ:=by
 unfold bX fY onA rW
 cases g ρ with
 | ok xs =>
  dsimp only
  cases fn (D.frzs (xs.map (·.1))) with
  | ok y=>by_cases hk:(xs.all aU || isScal y.1)=true<;>simp [hk]
  | exc c=>rfl
  | bad=>rfl
 | exc _=>rfl
 | bad=>rfl
theorem wX (i:Int):Ret nL [.int i] (.bl true):=by
 refine rE ⟨[.val (.int i)],?_⟩
 simp [wR,entry,jU,qR,aFs]
theorem Lk.split {es:List E}:∀ {r1:T0} {u v:Nat} {r2:T0},Lk es u (r1++r2) v->∃w,Lk es u r1 w/\Lk es w r2 v
 | [],u,v,r2,h=>⟨u,rfl,h⟩
 | d::ds,u,v,r2,h=>by
  obtain ⟨w,h1,h2⟩:=Lk.split (r1:=ds) h.2.2
  exact ⟨w,⟨h.1,h.2.1,h1⟩,h2⟩
section
variable {ns:Y0} {n kd:Nat} {es:List E} {ps:Y0} {most:Y0} {ow:Y4} {num:T0} {L rk:Nat->Nat} {cnt r:Nat} {T:D}
end
end VL.QQ
end
section
namespace VL.QQ
open VL
def cs (es:List E) (row:T0):Int:=(row.map fun d=>(ed es d).c).sum
theorem zQ {es:List E} {d:Nat} {row:T0}:cs es (d::row)=(ed es d).c+cs es row:=by simp [cs]
theorem qV {es:List E} {r1 r2:T0}:cs es (r1++r2)=cs es r1+cs es r2:=by simp [cs]
theorem aDa {es:List E}:∀row:T0,cs es row.reverse=cs es row
 | []=>rfl
 | d::row=>by rw [List.reverse_cons,qV,aDa row,zQ];simp [cs,Int.add_comm]
abbrev PT:=Option (Int×Option Nat)
abbrev Rw:=List PT
def pt (R:Rw) (v:Nat):PT:=R.getD v none
def dr (Ds:List Rw) (k:Nat):Rw:=Ds.getD k []
structure NX (es:List E) (n:Nat) (R R':Rw):Prop where
 len:R'.length=n
 so:∀v c l,pt R' v=some (c,l)->∃d c' l',l=some d/\d<es.length/\(ed es d).b=v/\pt R (ed es d).a=some (c',l')/\c=c'+(ed es d).c
 up:∀d c' l',d<es.length->pt R (ed es d).a=some (c',l')->∃c l,pt R' (ed es d).b=some (c,l)/\c'+(ed es d).c<=c
structure DR (es:List E) (n:Nat) (Ds:List Rw):Prop where
 len:Ds.length=n+1
 l0:(dr Ds 0).length=n
 z:∀v c l,pt (dr Ds 0) v=some (c,l)->v=0/\c=0
 z0:pt (dr Ds 0) 0=some (0,none)
 nx:∀k,k<n->NX es n (dr Ds k) (dr Ds (k+1))
theorem aKd {R:Rw} {v:Nat} {x:Int×Option Nat} (h:pt R v=some x):v<R.length:=by
 rcases Nat.lt_or_ge v R.length with q | q
 ·exact q
 ·unfold pt at h;rw [List.getD_eq_getElem?_getD,List.getElem?_eq_none q] at h;cases h
section
variable {es:List E} {n:Nat} {Ds:List Rw}
theorem DR.ln (h:DR es n Ds) {k:Nat} (hk:k<=n):(dr Ds k).length=n:=by
 cases k with
 | zero=>exact h.l0
 | succ k=>exact (h.nx k hk).len
theorem DR.walk (h:DR es n Ds):∀ {k v:Nat} {c:Int} {l:Option Nat},k<=n->pt (dr Ds k) v=some (c,l)->∃row,Lk es 0 row v/\row.length=k/\cs es row=c
 | 0,v,c,l,_,e=>by
  obtain ⟨rfl,rfl⟩:=h.z v c l e
  exact ⟨[],rfl,rfl,rfl⟩
 | k+1,v,c,l,hk,e=>by
  obtain ⟨d,c',l',_,h1,h2,h3,h4⟩:=(h.nx k hk).so v c l e
  obtain ⟨row,r1,r2,r3⟩:=h.walk (k:=k) (by omega) h3
  refine ⟨row ++ [d],by rw [<- h2];exact r1.snoc h1 rfl,by simp [r2],?_⟩
  rw [qV,r3,h4];simp [cs]
theorem DR.top (h:DR es n Ds):∀(k:Nat) {row:T0} {v:Nat},row.length=k->k<=n->Lk es 0 row v->∃c l,pt (dr Ds k) v=some (c,l)/\cs es row<=c
 | 0,row,v,hl,_,hr=>by
  have:row=[]:=List.length_eq_zero_iff.mp hl
  subst this
  have:0=v:=hr
  subst this
  exact ⟨0,none,h.z0,Int.le_refl _⟩
 | k+1,row,v,hl,hk,hr=>by
  have hne:row ≠ []:=fun z=>by rw [z] at hl;cases hl
  have es1:=List.dropLast_concat_getLast hne
  rw [<- es1] at hr ⊢
  obtain ⟨w,w1,w2,w3,w4⟩:=hr.split
  have w4:(ed es (row.getLast hne)).b=v:=w4
  obtain ⟨c',l',e1,e2⟩:=h.top k (by rw [List.length_dropLast];omega) (by omega) w1
  rw [<- w3] at e1
  obtain ⟨c,l,e3,e4⟩:=(h.nx k hk).up _ c' l' w2 e1
  rw [w4] at e3
  refine ⟨c,l,e3,?_⟩
  rw [qV]
  have:cs es [row.getLast hne]=(ed es (row.getLast hne)).c:=by simp [cs]
  omega
def ld (Ds:List Rw) (s p:Nat):Nat:=((pt (dr Ds s) p).bind (·.2)).getD 0
def pb (es:List E) (Ds:List Rw) (n v:Nat):Nat->Nat
 | 0=>v
 | i+1=>(ed es (ld Ds (n - i) (pb es Ds n v i))).a
def bk (es:List E) (Ds:List Rw) (n v i:Nat):T0:=(List.range i).map fun j=>ld Ds (n - j) (pb es Ds n v j)
def cv (es:List E) (Ds:List Rw) (n v i:Nat):Int:=((pt (dr Ds (n - i)) (pb es Ds n v i)).map (·.1)).getD 0
theorem kX {v i:Nat}:(bk es Ds n v i).length=i:=by simp [bk]
theorem zL {v i:Nat}:bk es Ds n v (i+1)=bk es Ds n v i ++ [ld Ds (n - i) (pb es Ds n v i)]:=by
 unfold bk;rw [List.range_succ,List.map_append];rfl
theorem DR.step (h:DR es n Ds) {v i:Nat} {c:Int} {l:Option Nat} (hi:i<n) (e:pt (dr Ds (n - i)) (pb es Ds n v i)=some (c,l)) :
  l=some (ld Ds (n - i) (pb es Ds n v i))/\ld Ds (n - i) (pb es Ds n v i)<es.length/\(ed es (ld Ds (n - i) (pb es Ds n v i))).b=pb es Ds n v i/\∃c' l',pt (dr Ds (n - (i+1))) (pb es Ds n v (i+1))=some (c',l')/\c=c'+(ed es (ld Ds (n - i) (pb es Ds n v i))).c:=by
 have ek:n - i=(n - (i+1))+1:=by omega
 obtain ⟨d,c',l',h1,h2,h3,h4,h5⟩:=(h.nx (n - (i+1)) (by omega)).so _ c l (by rw [<- ek];exact e)
 have el:ld Ds (n - i) (pb es Ds n v i)=d:=by unfold ld;rw [e,h1];rfl
 rw [el]
 refine ⟨h1,h2,h3,c',l',?_,h5⟩
 show pt _ (ed es (ld Ds (n - i) (pb es Ds n v i))).a=_
 rw [el];exact h4
theorem DR.back (h:DR es n Ds) {v:Nat} {x:Int×Option Nat} (hv:pt (dr Ds n) v=some x):∀i,i<=n->∃l,pt (dr Ds (n - i)) (pb es Ds n v i)=some (cv es Ds n v i,l)
 | 0,_=>⟨x.2,by unfold cv;show pt (dr Ds n) v=some (((pt (dr Ds n) v).map (·.1)).getD 0,x.2);rw [hv];rfl⟩
 | i+1,hi=>by
  obtain ⟨l,e⟩:=h.back hv i (by omega)
  obtain ⟨_,_,_,c',l',e',_⟩:=h.step (by omega) e
  exact ⟨l',by unfold cv;rw [e'];rfl⟩
theorem DR.seg (h:DR es n Ds) {v:Nat} {x:Int×Option Nat} (hv:pt (dr Ds n) v=some x) {j:Nat}:∀i,j<=i->i<=n->Lk es (pb es Ds n v i) ((bk es Ds n v i).drop j).reverse (pb es Ds n v j)/\cs es ((bk es Ds n v i).drop j)=cv es Ds n v j - cv es Ds n v i
 | 0,hj,_=>by
  have:j=0:=by omega
  subst this
  exact ⟨rfl,by simp [bk,cs]⟩
 | i+1,hj,hi=>by
  rcases Nat.lt_or_ge i j with q | q
  ·have:j=i+1:=by omega
   subst this
   rw [List.drop_of_length_le (by rw [kX];omega)]
   exact ⟨rfl,by simp [cs]⟩
  ·obtain ⟨r1,r2⟩:=h.seg hv i q (by omega)
   obtain ⟨l,e⟩:=h.back hv i (by omega)
   obtain ⟨_,s2,s3,c',l',s4,s5⟩:=h.step (by omega) e
   have ec:cv es Ds n v (i+1)=c':=by
    unfold cv;rw [s4];rfl
   rw [zL,List.drop_append_of_le_length (by rw [kX];exact q),List.reverse_append]
   refine ⟨⟨s2,rfl,by rw [s3];exact r1⟩,?_⟩
   rw [qV,r2,ec]
   have:cs es [ld Ds (n - i) (pb es Ds n v i)]=(ed es (ld Ds (n - i) (pb es Ds n v i))).c:=by simp [cs]
   omega
theorem DR.aR8 (h:DR es n Ds) {v:Nat} {x:Int×Option Nat} (hv:pt (dr Ds n) v=some x) {i:Nat} (hi:i<=n):pb es Ds n v i<n:=by
 obtain ⟨l,e⟩:=h.back hv i hi
 have:=aKd e
 rwa [h.ln (by omega)] at this
theorem DR.cut (h:DR es n Ds) {v:Nat} {x:Int×Option Nat} (hv:pt (dr Ds n) v=some x) {i j:Nat} (hj:j<i) (hi:i<=n) (e:pb es Ds n v i=pb es Ds n v j) :
  ∃c l,pt (dr Ds (n - (i - j))) v=some (c,l)/\x.1 - cs es ((bk es Ds n v i).drop j)<=c:=by
 obtain ⟨l,ei⟩:=h.back hv i hi
 obtain ⟨w,w1,w2,w3⟩:=h.walk (by omega) ei
 obtain ⟨s1,s2⟩:=h.seg hv (j:=0) j (by omega) (by omega)
 obtain ⟨_,t2⟩:=h.seg hv (j:=j) i (by omega) hi
 rw [List.drop_zero] at s1 s2
 rw [e] at w1
 obtain ⟨c,l,q1,q2⟩:=h.top (n - (i - j)) (row:=w++(bk es Ds n v j).reverse) (by rw [List.length_append,w2,List.length_reverse,kX];omega) (by omega) (w1.app s1)
 refine ⟨c,l,q1,?_⟩
 rw [qV,aDa,w3,s2] at q2
 have e0:cv es Ds n v 0=x.1:=by unfold cv;show ((pt (dr Ds n) v).map (·.1)).getD 0=_;rw [hv];rfl
 omega
theorem DR.rep (h:DR es n Ds) {v:Nat} {x:Int×Option Nat} (hv:pt (dr Ds n) v=some x):∃i j,j<i/\i<=n/\pb es Ds n v i=pb es Ds n v j:=by
 refine Classical.byContradiction fun hno=>?_
 have nd:((List.range (n+1)).map (pb es Ds n v)).Nodup:=by
  refine List.pairwise_map.mpr (List.Pairwise.imp_of_mem (R:=(· < ·)) (fun {a b} ha hb' hlt z=>hno ⟨b,a,hlt,?_,z.symm⟩) List.pairwise_lt_range)
  have:=List.mem_range.mp hb';omega
 have:=mK n _ nd fun x hx=>by
  obtain ⟨i,hi,rfl⟩:=List.mem_map.mp hx
  exact h.aR8 hv (by have:=List.mem_range.mp hi;omega)
 simp at this
 omega
theorem aH3:∀ {u:Nat},Reach es u->∃way,Lk es 0 way u:=by
 intro u h
 induction h with
 | zero=>exact ⟨[],rfl⟩
 | @step e he _ ih =>
  obtain ⟨way,hw⟩:=ih
  obtain ⟨k,hk,ee⟩:=List.getElem_of_mem he
  have e1:ed es k=e:=by
   have:=lM hk
   rw [List.getElem?_eq_getElem hk,ee] at this
   exact (Option.some.inj this).symm
  have:=hw.snoc hk (by rw [e1])
  rw [e1] at this
  exact ⟨_,this⟩
theorem wU (hc:∀e∈es,0<=e.c/\e.c<=1000):∀ {row:T0},(∀x∈row,x<es.length)->0<=cs es row/\cs es row<=1000 * row.length
 | [],_=>by simp [cs]
 | d::row,h=>by
  have h1:=wU hc (row:=row) fun x hx=>h x (List.mem_cons_of_mem _ hx)
  have h2:=hc _ (gQ (h d List.mem_cons_self))
  rw [zQ,List.length_cons]
  omega
def ph (es:List E) (p q:Int) (row:T0):Int:=q * cs es row - p * row.length
theorem vI {p q:Int} {r1 r2:T0}:ph es p q (r1++r2)=ph es p q r1+ph es p q r2:=by
 unfold ph
 rw [qV,List.length_append,Int.natCast_add,Int.mul_add,Int.mul_add];omega
def rp (ring:T0):Nat->T0
 | 0=>[]
 | t+1=>ring++rp ring t
theorem aNv {u:Nat} {ring:T0} (h:Lk es u ring u):∀t,Lk es u (rp ring t) u
 | 0=>rfl
 | t+1=>h.app (aNv h t)
theorem aOc {p q:Int} {ring:T0} (h:1<=ph es p q ring):∀t:Nat,(t:Int)<=ph es p q (rp ring t)
 | 0=>by simp [rp,ph,cs]
 | t+1=>by
  have:=aOc h t
  show _<=ph es p q (ring++rp ring t)
  rw [vI];omega
theorem DR.short (h:DR es n Ds) {p q:Int} (hq:0<=q) (hn:1<=n) (H:∀w c l,pt (dr Ds n) w=some (c,l)->∃k c' l',k<n/\pt (dr Ds k) w=some (c',l')/\q * (c - c')<=p * ((n:Int) - k)) :
  ∀(N:Nat) {row:T0} {v:Nat},row.length<=N->Lk es 0 row v->∃row',Lk es 0 row' v/\row'.length<n/\ph es p q row<=ph es p q row'
 | 0,row,v,hl,hr=>⟨row,hr,by omega,Int.le_refl _⟩
 | N+1,row,v,hl,hr=>by
  rcases Nat.lt_or_ge row.length n with hlt | hge
  ·exact ⟨row,hr,hlt,Int.le_refl _⟩
  ·rw [<- List.take_append_drop n row] at hr
   obtain ⟨w,w1,w2⟩:=hr.split
   have tl:(row.take n).length=n:=by rw [List.length_take];omega
   obtain ⟨c,l,e1,e2⟩:=h.top n tl (Nat.le_refl _) w1
   obtain ⟨k,c',l',k1,k2,k3⟩:=H w c l e1
   obtain ⟨r2,r21,r22,r23⟩:=h.walk (by omega) k2
   obtain ⟨row',a1,a2,a3⟩:=h.short hq hn H N (row:=r2++row.drop n) (by rw [List.length_append,r22,List.length_drop];omega) (r21.app w2)
   refine ⟨row',a1,a2,Int.le_trans ?_ a3⟩
   have:=vI (es:=es) (p:=p) (q:=q) (r1:=row.take n) (r2:=row.drop n)
   rw [List.take_append_drop] at this
   rw [this,vI]
   have h1:ph es p q (row.take n)<=ph es p q r2:=by
    unfold ph
    rw [tl,r22,r23]
    have m1:q * cs es (row.take n)<=q * c:=Int.mul_le_mul_of_nonneg_left e2 hq
    rw [Int.mul_sub,Int.mul_sub] at k3
    omega
   omega
theorem DR.flat (h:DR es n Ds) {p q:Int} (hq:0<=q) (hn:1<=n) (hc:∀e∈es,0<=e.c/\e.c<=1000) (H:∀w c l,pt (dr Ds n) w=some (c,l)->∃k c' l',k<n/\pt (dr Ds k) w=some (c',l')/\q * (c - c')<=p * ((n:Int) - k))
  {u:Nat} {ring:T0} (hu:Reach es u) (hr:Lk es u ring u):q * cs es ring<=p * ring.length:=by
 refine Classical.byContradiction fun hno=>?_
 have h1:1<=ph es p q ring:=by unfold ph;omega
 obtain ⟨way,hw⟩:=aH3 hu
 have bd:∀row' v,Lk es 0 row' v->row'.length<n->ph es p q row'<=q * (1000 * n)+p.natAbs * n:=by
  intro row' v h2 h3
  have h4:=(wU hc h2.lt).2
  unfold ph
  have m1:q * cs es row'<=q * (1000 * n):=Int.mul_le_mul_of_nonneg_left (by omega) hq
  have m2:-(p * row'.length)<=p.natAbs * n:=by
   have:-(p * row'.length)<=(p.natAbs:Int) * row'.length:=by
    rw [<- Int.neg_mul]
    exact Int.mul_le_mul_of_nonneg_right (by omega) (by omega)
   have:(p.natAbs:Int) * row'.length<=(p.natAbs:Int) * n:=Int.mul_le_mul_of_nonneg_left (by omega) (by omega)
   omega
  omega
 generalize hB:q * (1000 * (n:Int))+p.natAbs * n=B at bd
 obtain ⟨t,ht⟩:∃t:Nat,B - ph es p q way+1<=(t:Int):=⟨(B - ph es p q way+1).toNat,Int.self_le_toNat _⟩
 obtain ⟨row',a1,a2,a3⟩:=h.short hq hn H _ (row:=way++rp ring t) (Nat.le_refl _) (hw.app (aNv hr t))
 have b1:=bd row' u a1 a2
 have b2:=aOc h1 t
 rw [vI] at a3
 omega
end
end VL.QQ
end
section
namespace VL.QQ
open VL PySem L2 PY K10 K11 K20
def cdC:cG:=aZ (v2 (kEq true) (aB 1) (vC (.int 0)))
def cdB:aX:=aS (aY 2 (xOf (v2 lH (aB 0) (aB 1)))) (aS (aY 0 (xOf (aB 1))) (aY 1 (xOf (aB 2))))
theorem aEk {n a b:Nat} {t:Slot} (ht:np t) (hb:0<b):bS cdC cdB (n+1) [.val (.int a),.val (.int b),t]=bS cdC cdB n [.val (.int b),.val (.int (a % b:Nat)),.val (.int (a % b:Nat))]:=by
 refine aE8 (by simp [cdC,Nat.ne_of_gt hb]) ?_
 simp [cdB,ht,hb]
theorem aC0 {n a:Nat} {t:Slot}:bS cdC cdB (n+1) [.val (.int a),.val (.int (0:Nat)),t]=.next [.val (.int a),.val (.int (0:Nat)),t]:=by
 exact zU (by simp [cdC])
theorem aEw:∀(k n a b:Nat) (t:Slot),np t->b<2 ^ k->2 * k+1<=n->∃t',bS cdC cdB n [.val (.int a),.val (.int b),t]=.next [.val (.int (Nat.gcd a b:Nat)),.val (.int (0:Nat)),t']
 | 0,n+1,a,b,t,ht,hb,hn=>by
  have:b=0:=by simp at hb;exact hb
  subst this
  exact ⟨t,by rw [aC0,Nat.gcd_zero_right]⟩
 | k+1,n+3,a,b,t,ht,hb,hn=>by
  by_cases h0:b=0
  ·subst h0;exact ⟨t,by rw [aC0,Nat.gcd_zero_right]⟩
  ·rw [aEk ht (by omega)]
   by_cases h1:a % b=0
   ·rw [h1];exact ⟨_,by rw [aC0,Nat.gcd_comm a b,Nat.gcd_rec,h1,Nat.gcd_zero_left]⟩
   ·rw [aEk aK (by omega)]
    have hlt:b % (a % b)<2 ^ k:=by
     have e1:a % b<b:=Nat.mod_lt _ (by omega)
     have e2:b % (a % b)<a % b:=Nat.mod_lt _ (by omega)
     have e3:b % (a % b)+(a % b)<=b:=by
      have:=Nat.div_add_mod b (a % b)
      have q:1<=b / (a % b):=Nat.div_pos (Nat.le_of_lt e1) (by omega)
      have:(a % b) * 1<=(a % b) * (b / (a % b)):=Nat.mul_le_mul_left _ q
      omega
     rw [Nat.pow_succ] at hb
     omega
    obtain ⟨t',e⟩:=aEw k (n+1) (a % b) (b % (a % b)) _ aK hlt (by omega)
    refine ⟨t',?_⟩
    rw [e]
    have g1:Nat.gcd a b=Nat.gcd (a % b) b:=by rw [Nat.gcd_comm a b,Nat.gcd_rec]
    have g2:Nat.gcd (a % b) (b % (a % b))=Nat.gcd (a % b) b:=by rw [Nat.gcd_comm,<- Nat.gcd_rec]
    rw [g2,<- g1]
 | 0,0,_,_,_,_,_,hn=>by omega
 | k+1,0,_,_,_,_,_,hn=>by omega
 | k+1,1,_,_,_,_,_,hn=>by omega
 | k+1,2,_,_,_,_,_,hn=>by omega
theorem aD2 (i:Int):(if i<0 then -i else i)=(i.natAbs:Int):=by split<;>omega
theorem kM {a b:Int} (hb:b.natAbs<2 ^ 400):Ret eS [.int a,.int b] (.int (Int.gcd a b:Nat)):=by
 obtain ⟨t,e⟩:=aEw 400 1000 a.natAbs b.natAbs .un bN hb (by omega)
 have e:bS (aZ (v2 (kEq true) (aB 1) (vC (.int 0)))) (aS (aY 2 (xOf (v2 lH (aB 0) (aB 1)))) (aS (aY 0 (xOf (aB 1))) (aY 1 (xOf (aB 2))))) fuel [.val (.int a.natAbs),.val (.int b.natAbs),.un]=_:=e
 refine rE ⟨[.un,.val (.int (0:Nat)),t],?_⟩
 simp only [kF,entry,mI,List.map,if_true,List.length,List.replicate,List.append,List.cons_append,List.nil_append,dB,qZ,aDf,iY,kY,bR,iR,nA,aL0,jH,aD2,Bool.true_or,Bool.true_and,gD,lE,aK,bP,List.set,e,aEx]
 rfl
theorem fits_of {i:Int} (h:i.natAbs<2 ^ 200):fits i=true:=by
 unfold fits;rw [Bool.and_eq_true,decide_eq_true_iff,decide_eq_true_iff];omega
theorem aCh {a b:Int} (hb:b.natAbs<2 ^ 200) (h0:b ≠ 0):Ret eM [.int a,.int b] (.tup [.int (a / (Int.gcd a b:Nat)),.int (b / (Int.gcd a b:Nat))]):=by
 have hg:0<Int.gcd a b:=Int.gcd_pos_of_ne_zero_right _ h0
 have hle:Int.gcd a b<=b.natAbs:=Nat.le_of_dvd (by omega) (Int.gcd_dvd_natAbs_right a b)
 have hf:fits (Int.gcd a b:Nat)=true:=fits_of (by omega)
 have hg':(0:Int)<(Int.gcd a b:Nat):=by omega
 refine rE ⟨[.val (.int a),.val (.int b),.val (.int (Int.gcd a b:Nat))],?_⟩
 have hb4:b.natAbs<2 ^ 400:=Nat.lt_trans hb (by decide)
 simp [tS,entry,aP (kM (a:=a) hb4),hf,hg]
abbrev Fr:=Int×Int
def fD (x:Fr):D:=.tup [.int x.1,.int x.2]
def fr (a b:Int):Fr:=(a / (Int.gcd a b:Nat),b / (Int.gcd a b:Nat))
structure Gd (x:Fr):Prop where
 p:0<x.2
 g:Int.gcd x.1 x.2=1
@[simp] theorem sW (x:Fr):(fD x).calm=true:=rfl
@[simp] theorem aJu (x:Fr):(fD x).frz=fD x:=rfl
@[simp] theorem aWr {x:Fr} {b c:Bool}:kIx (fD x,b) (.int 0,c)=.ok (.int x.1,b):=by simp [fD,rZ]
@[simp] theorem aWs {x:Fr} {b c:Bool}:kIx (fD x,b) (.int 1,c)=.ok (.int x.2,b):=by simp [fD,aKw]
theorem zB {a b:Int} (hb:b.natAbs<2 ^ 200) (h0:b ≠ 0):Ret eM [.int a,.int b] (fD (fr a b)):=aCh hb h0
theorem aCw {a b:Int} (h0:0<b):(fr a b).1 * b=a * (fr a b).2:=by
 have hg:0<Int.gcd a b:=Int.gcd_pos_of_ne_zero_right _ (by omega)
 obtain ⟨x,hx⟩:=Int.gcd_dvd_left a b
 obtain ⟨y,hy⟩:=Int.gcd_dvd_right a b
 show a / ((Int.gcd a b:Nat):Int) * b=a * (b / ((Int.gcd a b:Nat):Int))
 generalize ((Int.gcd a b:Nat):Int)=g at *
 have hg0:g ≠ 0:=by rintro rfl;simp at hy;omega
 rw [hx,hy,Int.mul_ediv_cancel_left _ hg0,Int.mul_ediv_cancel_left _ hg0]
 rw [Int.mul_comm g y,<- Int.mul_assoc,Int.mul_comm x y,Int.mul_comm (y * x) g,Int.mul_comm y x,Int.mul_assoc]
theorem qE {a b:Int} (h0:0<b):Gd (fr a b):=by
 have hg:0<Int.gcd a b:=Int.gcd_pos_of_ne_zero_right _ (by omega)
 refine ⟨?_,?_⟩
 ·exact Int.ediv_pos_of_pos_of_dvd h0 (by omega) (Int.gcd_dvd_right a b)
 ·exact Int.gcd_ediv_gcd_ediv_gcd hg
theorem aEi {a b:Int} (h0:0<b):(fr a b).2<=b:=Int.ediv_le_self _ (by omega)
theorem aEa {a b:Int}:(fr a b).1.natAbs<=a.natAbs:=by
 show (a / _).natAbs<=_
 exact Int.natAbs_ediv_le_natAbs _ _
theorem aOk {a b:Int} (h:0<=a):0<=(fr a b).1:=Int.ediv_nonneg h (by omega)
theorem aTi {x y:Fr} (hx:Gd x) (hy:Gd y) (e:x.1 * y.2=y.1 * x.2):x=y:=by
 have d1:x.2 ∣ y.2:=by
  have:x.2 ∣ x.1 * y.2:=by rw [e];exact Int.dvd_mul_left _ _
  have:=Int.dvd_gcd_mul_iff_dvd_mul.mpr this
  rw [Int.gcd_comm,hx.g] at this
  simpa using this
 have d2:y.2 ∣ x.2:=by
  have:y.2 ∣ y.1 * x.2:=by rw [<- e];exact Int.dvd_mul_left _ _
  have:=Int.dvd_gcd_mul_iff_dvd_mul.mpr this
  rw [Int.gcd_comm,hy.g] at this
  simpa using this
 have e2:x.2=y.2:=by
  have:=Int.le_of_dvd hy.p d1
  have:=Int.le_of_dvd hx.p d2
  omega
 rw [e2] at e
 have e1:=Int.eq_of_mul_eq_mul_right (by have:=hy.p;omega) e
 exact Prod.ext e1 e2
theorem iM {x y:Int} {A B:Nat} (hx:x.natAbs<=A) (hy:y.natAbs<=B):(x * y).natAbs<=A * B:=by
 rw [Int.natAbs_mul];exact Nat.mul_le_mul hx hy
theorem zR {x y:Int} {A B:Nat} (hx:x.natAbs<=A) (hy:y.natAbs<=B):(x+y).natAbs<=A+B:=by omega
theorem fit {x:Int} {A:Nat} (hx:x.natAbs<=A) (h:A<2 ^ 200:=by decide):fits x=true:=fits_of (Nat.lt_of_le_of_lt hx h)
structure Bd (x:Fr) (A B:Nat):Prop where
 t:x.1.natAbs<=A
 b:x.2.natAbs<=B
theorem qJ {x y:Fr} {A B:Nat} (hx:Bd x A B) (hy:Bd y A B) (hA:A<2 ^ 200) (hB:B<2 ^ 200):Ret iE [fD x,fD y] (.bl (decide (x.1 * y.2<y.1 * x.2))):=by
 refine lS ?_
 simp [wO,entry,fit hx.t hA,fit hx.b hB,fit hy.t hA,fit hy.b hB]
theorem aJf {x y:Fr} {A B:Nat} (hx:Bd x A B) (hy:Bd y A B) (hA:A<2 ^ 200) (hB:B * B<2 ^ 200) (px:0<x.2) (py:0<y.2):Ret uI [fD x,fD y] (fD (fr (x.1 * y.2+y.1 * x.2) (x.2 * y.2))):=by
 refine lS ?_
 have hB':B<2 ^ 200:=by
  cases B with
  | zero=>decide
  | succ B=>exact Nat.lt_of_le_of_lt (Nat.le_mul_of_pos_right _ (Nat.succ_pos _)) hB
 have h0:0<x.2 * y.2:=Int.mul_pos px py
 have e:=aP (zB (a:=x.1 * y.2+y.1 * x.2) (b:=x.2 * y.2) (Nat.lt_of_le_of_lt (iM hx.b hy.b) hB) (by omega))
 simp [aH0,entry,fit hx.t hA,fit hx.b hB',fit hy.t hA,fit hy.b hB',e]
theorem nW {x:Fr} (hx:Gd x) (hb:x.2.natAbs<2 ^ 200):Ret jR [fD x] (.bl true):=by
 refine lS ?_
 have h4:x.2.natAbs<2 ^ 400:=Nat.lt_trans hb (by decide)
 have hp:=hx.p
 have i1:∀b,jU "tuple" (fD x,b)=.ok (.bl true,true):=fun _=>rfl
 have i2:∀b,dN [(fD x,b)]=.ok (.int 2,true):=fun _=>rfl
 simp [nU,entry,cB,eJ,i1,i2,aP (oB x.1),aP (oB x.2),aP (kM (a:=x.1) h4),hx.g,hp]
def FF (xs:List Fr):List D:=xs.map fD
@[simp] theorem aTp (xs:List Fr):D.bL (FF xs)=true:=dY sW xs
@[simp] theorem aVk (xs:List Fr):D.frzs (FF xs)=FF xs:=gE sW xs
@[simp] theorem aVv (xs:List Fr):(FF xs).length=xs.length:=by simp [FF]
theorem pL {xs:List Fr} (hg:∀x∈xs,Gd x/\x.2.natAbs<2 ^ 200):Ret fQ [.lst false (FF xs)] (.bl (xs.all fun x=>decide (0<=x.1))):=by
 refine lS ?_
 simp -implicitDefEqProofs [jF,entry]
 refine bV (cV (fun pre ρ=>(pre.all fun x=>decide (0<=x.1))=true/\∃t,np t/\ρ=[.val (.lst false (FF xs)),t]) xs ⟨rfl,_,bN,rfl⟩ ?_) ?_
 ·rintro pre x post ρ e ⟨ha,t,ht,rfl⟩
  have hx:=hg x (by rw [e];simp)
  by_cases h0:0<=x.1
  ·have h0':¬ x.1<0:=by omega
   simp -implicitDefEqProofs [ht,cB,eJ,aP (nW hx.1 hx.2),h0']
   exact ⟨by simpa using ha,h0⟩
  ·have h0':x.1<0:=by omega
   simp -implicitDefEqProofs [ht,cB,eJ,aP (nW hx.1 hx.2),h0']
   exact ⟨x.1,⟨x.2,by rw [e];simp⟩,h0'⟩
 ·rintro ρ ⟨ha,t,ht,rfl⟩
  simp -implicitDefEqProofs
  simpa using ha
end VL.QQ
end
section
namespace VL.QQ
open VL PySem L2 PY K10 K11 K20
def pD:PT->D
 | none=>.non
 | some x=>.tup [.int x.1,oD x.2]
def RR (R:Rw):List D:=R.map pD
def QD (Ds:List Rw):List D:=Ds.map fun R=>.lst false (RR R)
@[simp] theorem aD0 (x:PT):(pD x).calm=true:=by cases x<;>simp [pD]
@[simp] theorem aS0 (R:Rw):D.bL (RR R)=true:=dY aD0 R
@[simp] theorem aVf (R:Rw):D.frzs (RR R)=RR R:=gE aD0 R
@[simp] theorem aOr (R:Rw):(RR R).length=R.length:=by simp [RR]
@[simp] theorem aTl (Ds:List Rw):D.bL (QD Ds)=true:=dY (fun R=>by simp) Ds
@[simp] theorem aU1 (Ds:List Rw):D.frzs (QD Ds)=QD Ds:=gE (fun R=>by simp) Ds
@[simp] theorem aVu (Ds:List Rw):(QD Ds).length=Ds.length:=by simp [QD]
theorem aBg {o:Bool} {R:Rw} {v:Nat} {b c:Bool} (h:v<R.length):kIx (.lst o (RR R),b) (.int (v:Int),c)=.ok (pD (pt R v),b):=by
 simp [dU,RR,pt,List.getElem?_eq_getElem h]
theorem aEh {o:Bool} {Ds:List Rw} {k:Nat} {b c:Bool} (h:k<Ds.length):kIx (.lst o (QD Ds),b) (.int (k:Int),c)=.ok (.lst false (RR (dr Ds k)),b):=by
 simp [dU,QD,dr,List.getElem?_eq_getElem h]
theorem aHv {R:Rw} {a v:Nat} {x:PT} (ha:a<R.length):pt (R.set a x) v=if v=a then x else pt R v:=by
 unfold pt
 rw [List.getD_eq_getElem?_getD,List.getD_eq_getElem?_getD]
 by_cases h:v=a
 ·subst h;rw [if_pos rfl,List.getElem?_set_self ha];rfl
 ·rw [if_neg h,List.getElem?_set_ne (Ne.symm h)]
theorem aEc {R:Rw} {v:Nat} {x:PT} {b:Bool} (h:v<R.length):aA5 (.lst true (RR R)) (v:Int) (pD x,b)=some (.lst true (RR (R.set v x))):=by
 show (if aU (pD x,b)=true then (ixN (RR R).length (v:Int)).map fun j=>D.lst true ((RR R).set j (pD x)) else none)=_
 rw [if_pos (by cases b<;>simp),aOr,aC2 h]
 show some (D.lst true ((RR R).set v (pD x)))=_
 rw [RR,RR,List.map_set]
theorem aJ2 {n v:Nat}:pt (List.replicate n none) v=none:=by
 unfold pt
 rw [List.getD_eq_getElem?_getD,List.getElem?_replicate]
 by_cases h:v<n
 ·rw [if_pos h];rfl
 ·rw [if_neg h];rfl
theorem aN1 {n kd:Nat} {es:List E} (h:OkM n kd es) (ρ:Env):bQ (iR1 (aE (v2 kIx (aB 0) (vC (.int 0))) aN)) 1 [] (bA 0) bY (vC .non) (.val (dM n kd es)::ρ)=.ok (.lst true (RR (List.replicate n none)),true):=by
 have:=h.n2
 rw [gN [] (List.range n) (fun i=>.int (i:Int)) (fun _=>D.non) (fun _=>true) (by simp -implicitDefEqProofs [nI,dS (show n<=1000000 by omega)]) (by simp;omega) rfl (fun x _=>⟨rfl,rfl⟩) (.inl rfl)]
 rw [qT,RR,List.map_replicate];rfl
structure Nz (es:List E) (n m:Nat) (R R':Rw):Prop where
 len:R'.length=n
 so:∀v c l,pt R' v=some (c,l)->∃d c' l',l=some d/\d<es.length/\(ed es d).b=v/\pt R (ed es d).a=some (c',l')/\c=c'+(ed es d).c
 up:∀d c' l',d<m->pt R (ed es d).a=some (c',l')->∃c l,pt R' (ed es d).b=some (c,l)/\c'+(ed es d).c<=c
theorem Nz.keep {es:List E} {n m:Nat} {R R':Rw} (h:Nz es n m R R') (u:∀c' l',pt R (ed es m).a=some (c',l')->∃c l,pt R' (ed es m).b=some (c,l)/\c'+(ed es m).c<=c):Nz es n (m+1) R R' :=
 ⟨h.len,h.so,fun d c' l' hd ep=>by
  rcases Nat.lt_or_ge d m with q | q
  ·exact h.up d c' l' q ep
  ·have:d=m:=by omega
   subst this;exact u c' l' ep⟩
theorem Nz.put {es:List E} {n m:Nat} {R R':Rw} (h:Nz es n m R R') (hm:m<es.length) (hb:(ed es m).b<n) {c1:Int} {l1:Option Nat} (e1:pt R (ed es m).a=some (c1,l1)) (hlt:∀c2 l2,pt R' (ed es m).b=some (c2,l2)->c2<c1+(ed es m).c) :
  Nz es n (m+1) R (R'.set (ed es m).b (some (c1+(ed es m).c,some m))):=by
 have ps:∀v,pt (R'.set (ed es m).b (some (c1+(ed es m).c,some m))) v=if v=(ed es m).b then some (c1+(ed es m).c,some m) else pt R' v:=fun v=>aHv (by rw [h.len];exact hb)
 refine Nz.keep ⟨by rw [List.length_set];exact h.len,fun v c l ep=>?_,fun d c' l' hd ep=>?_⟩ fun c' l' z=>?_
 ·rw [ps] at ep
  by_cases hv:v=(ed es m).b
  ·rw [if_pos hv] at ep;cases ep
   exact ⟨m,c1,l1,rfl,hm,hv.symm,e1,rfl⟩
  ·rw [if_neg hv] at ep;exact h.so v c l ep
 ·obtain ⟨c,l,q1,q2⟩:=h.up d c' l' hd ep
  rw [ps]
  by_cases hv:(ed es d).b=(ed es m).b
  ·rw [if_pos hv]
   rw [hv] at q1
   have:=hlt c l q1
   exact ⟨_,_,rfl,by omega⟩
  ·rw [if_neg hv];exact ⟨c,l,q1,q2⟩
 ·rw [e1] at z;cases z
  rw [ps,if_pos rfl]
  exact ⟨_,_,rfl,Int.le_refl _⟩
theorem aBl {n kd:Nat} {es:List E} {R:Rw} (h:OkM n kd es) (hl:R.length=n):nY mX [dM n kd es,.lst false (RR R)] (fun d=>∃R',d=.lst true (RR R')/\NX es n R R'):=by
 refine dX ?_
 have hls:=h.ls
 simp -implicitDefEqProofs [rP,entry,aN1 h,sN]
 refine bV (cV (fun pre ρ=>∃R' t3 t4 t5 t6,np t3/\np t4/\np t5/\np t6/\ρ=[.val (dM n kd es),.val (.lst false (RR R)),.val (.lst true (RR R')),t3,t4,t5,t6]/\Nz es n pre.length R R') es.zipIdx
  ⟨_,_,_,_,_,bN,bN,bN,bN,rfl,by simp,fun v c l e=>(by rw [aJ2] at e;cases e),fun d c' l' hd=>(by simp at hd)⟩ ?_) ?_
 ·rintro pre ⟨x,k⟩ post ρ e ⟨R',t3,t4,t5,t6,h3,h4,h5,h6,rfl,Z⟩
  obtain ⟨hk1,hk2,hk3⟩:=aG3 (pre:=[]) (post:=[]) e
  have hx:x∈es:=List.mem_of_getElem? hk3
  have hxe:ed es k=x:=by have:=lM hk2;rw [hk3] at this;exact (Option.some.inj this).symm
  rw [<- hk1] at Z
  have ha:=h.a x hx
  have hb:=h.b x hx
  have hl':=Z.len
  have kl:(pre ++ [(x,k)]).length=k+1:=by simp [hk1]
  have a1:=aBg (o:=false) (R:=R) (b:=false) (c:=false) (show x.a<R.length by omega)
  have a2:=aBg (o:=true) (R:=R') (b:=false) (c:=false) (show x.b<R'.length by omega)
  show out _ (fun ρ=>∃R' t3 t4 t5 t6,np t3/\np t4/\np t5/\np t6/\ρ=[.val (dM n kd es),.val (.lst false (RR R)),.val (.lst true (RR R')),t3,t4,t5,t6]/\Nz es n (pre ++ [(x,k)]).length R R') _
  rw [kl]
  cases e1:pt R x.a with
  | none =>
   rw [e1] at a1
   simp -implicitDefEqProofs [h3,h4,h5,h6,nI,a1,pD,dJ]
   exact ⟨R',_,aK,_,aK,_,aK,_,h6,⟨rfl,rfl,rfl,rfl,rfl⟩,Z.keep fun c' l' z=>by rw [hxe,e1] at z;cases z⟩
  | some y =>
   obtain ⟨c1,l1⟩:=y
   rw [e1] at a1
   have kset:aA5 (.lst true (RR R')) (x.b:Int) (.tup [.int (c1+x.c),.int (k:Int)],true)=some (.lst true (RR (R'.set x.b (some (c1+x.c,some k))))):=aEc (R:=R') (v:=x.b) (x:=some (c1+x.c,some k)) (b:=true) (by omega)
   have put:(∀c2 l2,pt R' x.b=some (c2,l2)->c2<c1+x.c)->Nz es n (k+1) R (R'.set x.b (some (c1+x.c,some k))):=fun hlt=>by
    have:=Z.put hk2 (by rw [hxe];exact hb) (by rw [hxe];exact e1) (by rw [hxe];exact hlt)
    rwa [hxe] at this
   cases e2:pt R' x.b with
   | none =>
    rw [e2] at a2
    have Z2:=put fun c2 l2 z=>by rw [e2] at z;cases z
    simp -implicitDefEqProofs [h3,h4,h5,h6,nI,a1,a2,pD,dJ,rZ,kset]
    exact ⟨_,_,aK,_,aK,_,aK,_,aK,⟨rfl,rfl,rfl,rfl,rfl⟩,Z2⟩
   | some z =>
    obtain ⟨c2,l2⟩:=z
    rw [e2] at a2
    by_cases hc:c2<c1+x.c
    ·have Z2:=put fun c3 l3 z=>by rw [e2] at z;cases z;exact hc
     simp -implicitDefEqProofs [h3,h4,h5,h6,nI,a1,a2,pD,dJ,rZ,kset,hc]
     exact ⟨_,_,aK,_,aK,_,aK,_,aK,⟨rfl,rfl,rfl,rfl,rfl⟩,Z2⟩
    ·simp -implicitDefEqProofs [h3,h4,h5,h6,nI,a1,a2,pD,dJ,rZ,hc]
     exact ⟨R',_,aK,_,aK,_,aK,_,aK,⟨rfl,rfl,rfl,rfl,rfl⟩,Z.keep fun c' l' z=>by rw [hxe,e1] at z;cases z;rw [hxe];exact ⟨c2,l2,e2,by omega⟩⟩
 ·rintro ρ ⟨R',t3,t4,t5,t6,h3,h4,h5,h6,rfl,Z⟩
  simp
  exact ⟨R',rfl,Z.len,Z.so,fun d c' l' hd=>Z.up d c' l' (by simpa using hd)⟩
@[simp] theorem aVt {f:aQ} {ρ:Env}:aMv f ρ=(f ρ).bind fun x=>if x.2 then .ok (x.1.frz,true) else .bad:=rfl
theorem vG {n kd:Nat} {es:List E} (h:OkM n kd es):nY iJ [dM n kd es] (fun d=>∃Ds,d=.lst true (QD Ds)/\DR es n Ds):=by
 refine dX ?_
 have hn1:=h.n1
 have hn2:=h.n2
 have k0:=aEc (R:=List.replicate n none) (v:=0) (x:=some (0,none)) (b:=true) (by simp;omega)
 simp -implicitDefEqProofs [pD,oD] at k0
 simp -implicitDefEqProofs [mH,entry,aN1 h,k0,nI,dS (show n<=1000000 by omega)]
 generalize eR:(List.replicate n (none:PT)).set 0 (some (0,none))=R0
 have r0:∀v,pt R0 v=if v=0 then some (0,none) else none:=fun v=>by rw [<- eR,aHv (by simp;omega),aJ2]
 have rl:R0.length=n:=by rw [<- eR];simp
 refine bV (cV (fun pre ρ=>∃Ds t,np t/\ρ=[.val (dM n kd es),.val (.lst false (RR R0)),.val (.lst true (QD Ds)),t]/\Ds.length=pre.length+1/\dr Ds 0=R0/\∀k,k<pre.length->NX es n (dr Ds k) (dr Ds (k+1))) (List.range n)
  ⟨[R0],_,bN,rfl,rfl,rfl,fun k hk=>(by simp at hk)⟩ ?_) ?_
 ·rintro pre i post ρ e ⟨Ds,t,ht,rfl,dl,d0,dn⟩
  have hp:pre.length<n:=by have:=congrArg List.length e;simp at this;omega
  have hlen:(dr Ds pre.length).length=n:=by
   cases q:pre.length with
   | zero=>rw [d0];exact rl
   | succ k=>exact (dn k (by omega)).len
  obtain ⟨d,hd,R',rfl,hR⟩:=aBl h hlen
  have hlast:atI (QD Ds) (-1)=some (.lst false (RR (dr Ds pre.length))):=by
   rw [aAi,QD,List.getLast?_map,List.getLast?_eq_getElem?,dl]
   simp [dr,List.getElem?_eq_getElem (show pre.length<Ds.length by omega)]
  have hsz:Ds.length<1000000:=by omega
  have eq:QD Ds ++ [.lst false (RR R')]=QD (Ds ++ [R']):=by simp [QD]
  have g1:∀k,k<Ds.length->dr (Ds ++ [R']) k=dr Ds k:=fun k hk=>by unfold dr;rw [List.getD_eq_getElem?_getD,List.getD_eq_getElem?_getD,List.getElem?_append_left hk]
  have g2:dr (Ds ++ [R']) (pre.length+1)=R':=by unfold dr;rw [List.getD_eq_getElem?_getD,<- dl];simp
  simp -implicitDefEqProofs [ht,hlast,aP hd,hsz,eq]
  refine ⟨Ds ++ [R'],_,aK,⟨rfl,rfl⟩,by simp [dl],by rw [g1 0 (by omega)];exact d0,fun k hk=>?_⟩
  rcases Nat.lt_or_ge k pre.length with q | q
  ·rw [g1 k (by omega),g1 (k+1) (by omega)];exact dn k q
  ·have:k=pre.length:=by first | omega | (simp at hk;omega)
   subst this
   rw [g1 _ (by omega),g2];exact hR
 ·rintro ρ ⟨Ds,t,ht,rfl,dl,d0,dn⟩
  simp
  refine ⟨Ds,rfl,by simpa using dl,by rw [d0];exact rl,fun v c l z=>?_,by rw [d0,r0];rfl,fun k hk=>dn k (by simpa using hk)⟩
  rw [d0,r0] at z
  by_cases hv:v=0
  ·rw [if_pos hv] at z;cases z;exact ⟨hv,rfl⟩
  ·rw [if_neg hv] at z;cases z
end VL.QQ
end
section
namespace VL.QQ
open VL PySem L2 PY K10 K11 K20
theorem ftr {a b c d e f:Int} (h1:a * d<=c * b) (h2:c * f<=e * d) (hd:0<d) (hb:0<=b) (hf:0<=f):a * f<=e * b:=by
 have m1:=Int.mul_le_mul_of_nonneg_right h1 hf
 have m2:=Int.mul_le_mul_of_nonneg_right h2 hb
 refine Int.le_of_mul_le_mul_right (a:=d) ?_ hd
 have e1:a * f * d=a * d * f:=by rw [Int.mul_assoc,Int.mul_comm f d,<- Int.mul_assoc]
 have e2:e * b * d=e * d * b:=by rw [Int.mul_assoc,Int.mul_comm b d,<- Int.mul_assoc]
 have e3:c * b * f=c * f * b:=by rw [Int.mul_assoc,Int.mul_comm b f,<- Int.mul_assoc]
 omega
def oF:Option Fr->D
 | none=>.non
 | some x=>fD x
@[simp] theorem aU4 (x:Option Fr):(oF x).calm=true:=by cases x<;>rfl
@[simp] theorem aWu (x:Option Fr):(oF x).frz=oF x:=by cases x<;>rfl
@[simp] theorem aWa (x:Option Nat):(oD x).frz=oD x:=by cases x<;>rfl
section
variable {es:List E} {n kd:Nat} {Ds:List Rw}
theorem DR.bd (h:DR es n Ds) (hc:∀e∈es,0<=e.c/\e.c<=1000) {k v:Nat} {c:Int} {l:Option Nat} (hk:k<=n) (e:pt (dr Ds k) v=some (c,l)):0<=c/\c<=1000 * n:=by
 obtain ⟨row,r1,r2,r3⟩:=h.walk hk e
 have:=wU hc r1.lt
 omega
structure Mn (Ds:List Rw) (n v:Nat) (c:Int) (m:Nat) (o:Option Fr):Prop where
 at_:∀r,o=some r->∃k c' l',k<n/\pt (dr Ds k) v=some (c',l')/\r=(c - c',(n:Int) - k)
 all:∀k c' l',k<m->pt (dr Ds k) v=some (c',l')->∃r,o=some r/\r.1 * ((n:Int) - k)<=(c - c') * r.2
theorem Mn.skip {v m:Nat} {c:Int} {o:Option Fr} (M:Mn Ds n v c m o) (h:∀c' l',pt (dr Ds m) v=some (c',l')->∃r,o=some r/\r.1 * ((n:Int) - m)<=(c - c') * r.2):Mn Ds n v c (m+1) o :=
 ⟨M.at_,fun k c' l' hk e=>by
  rcases Nat.lt_or_ge k m with q | q
  ·exact M.all k c' l' q e
  ·have:k=m:=by omega
   subst this;exact h c' l' e⟩
theorem Mn.put {v m:Nat} {c c1:Int} {l1:Option Nat} {o:Option Fr} (M:Mn Ds n v c m o) (hm:m<n) (e1:pt (dr Ds m) v=some (c1,l1)) (hlt:∀r,o=some r->(c - c1) * r.2<=r.1 * ((n:Int) - m)):Mn Ds n v c (m+1) (some (c - c1,(n:Int) - m)):=by
 refine ⟨fun r e=>(by cases e;exact ⟨m,c1,l1,hm,e1,rfl⟩),fun k c' l' hk e=>⟨_,rfl,?_⟩⟩
 rcases Nat.lt_or_ge k m with q | q
 ·obtain ⟨r,hr,hr2⟩:=M.all k c' l' q e
  obtain ⟨k2,c2,l2,q1,q2,q3⟩:=M.at_ r hr
  have:=hlt r hr
  exact ftr this hr2 (by rw [q3];show 0<(n:Int) - k2;omega) (by show 0<=(n:Int) - m;omega) (by omega)
 ·have:k=m:=by omega
  subst this
  rw [e1] at e;cases e
  exact Int.le_refl _
structure LR (Ds:List Rw) (n v:Nat) (r:Fr):Prop where
 c:∃c l,pt (dr Ds n) v=some (c,l)/\Mn Ds n v c n (some r)
def LRo (Ds:List Rw) (n v:Nat):Option Fr->Prop
 | none=>pt (dr Ds n) v=none
 | some r=>LR Ds n v r
theorem yN (h:OkM n kd es) (d:DR es n Ds) {v:Nat} (hv:v<n):nY lC [.lst false (QD Ds),.int (v:Int)] (fun x=>∃o,x=oF o/\LRo Ds n v o):=by
 have hn1:=h.n1
 have hn2:=h.n2
 refine dX ?_
 have el:((Ds.length:Int) - 1)=(n:Int):=by rw [d.len];omega
 have q1:=aEh (o:=false) (Ds:=Ds) (k:=n) (b:=false) (c:=false) (by rw [d.len];omega)
 have q2:=aBg (o:=false) (R:=dr Ds n) (v:=v) (b:=false) (c:=false) (by rw [d.ln (Nat.le_refl _)];exact hv)
 cases ev:pt (dr Ds n) v with
 | none =>
  rw [ev] at q2
  simp -implicitDefEqProofs [lI,entry,el,q1,q2,pD,dJ]
  exact ⟨none,rfl,ev⟩
 | some x =>
  obtain ⟨c,l⟩:=x
  have ev0:=ev
  rw [ev] at q2
  simp -implicitDefEqProofs [lI,entry,el,q1,q2,pD,dJ,dS (show n<=1000000 by omega)]
  have b0:=d.bd h.c (Nat.le_refl _) ev
  refine bV (cV (fun pre ρ=>∃o t4 t5,np t4/\np t5/\ρ=[.val (.lst false (QD Ds)),.val (.int (v:Int)),.val (.int (n:Int)),.val (oF o),t4,t5]/\Mn Ds n v c pre.length o) (List.range n)
   ⟨none,_,_,bN,bN,rfl,fun r z=>(by cases z),fun k c' l' hk=>(by simp at hk)⟩ ?_) ?_
  ·rintro pre k post ρ e ⟨o,t4,t5,h4,h5,rfl,M⟩
   obtain ⟨hk,hkn⟩:=jJ e
   have kl:(pre ++ [k]).length=k+1:=by simp [hk]
   rw [<- hk] at M
   show out _ (fun ρ=>∃o t4 t5,np t4/\np t5/\ρ=[.val (.lst false (QD Ds)),.val (.int (v:Int)),.val (.int (n:Int)),.val (oF o),t4,t5]/\Mn Ds n v c (pre ++ [k]).length o) _
   rw [kl]
   have p1:=aEh (o:=false) (Ds:=Ds) (k:=k) (b:=false) (c:=false) (by rw [d.len];omega)
   have p2:=aBg (o:=false) (R:=dr Ds k) (v:=v) (b:=false) (c:=false) (by rw [d.ln (by omega)];exact hv)
   cases e1:pt (dr Ds k) v with
   | none =>
    rw [e1] at p2
    simp -implicitDefEqProofs [h4,h5,p1,p2,pD,dJ]
    exact ⟨o,_,aK,_,h5,⟨rfl,rfl,rfl⟩,M.skip fun c' l' z=>by rw [e1] at z;cases z⟩
   | some y =>
    obtain ⟨c1,l1⟩:=y
    rw [e1] at p2
    have b1:=d.bd h.c (show k<=n by omega) e1
    cases o with
    | none =>
     simp -implicitDefEqProofs [h4,h5,p1,p2,q1,q2,pD,dJ,rZ,oF]
     exact ⟨some (c - c1,(n:Int) - k),_,aK,_,aK,⟨rfl,rfl,rfl⟩,M.put hkn e1 fun r z=>by cases z⟩
    | some r =>
     have hi:∀b,iP false (fD r,b) (.non,true)=.ok (.bl false,true):=fun _=>rfl
     obtain ⟨k2,c2,l2,z1,z2,z3⟩:=M.at_ r rfl
     have b2:=d.bd h.c (show k2<=n by omega) z2
     have rl:=qJ (x:=(c - c1,(n:Int) - k)) (y:=r) (A:=1000000) (B:=1000) ⟨by show (c - c1).natAbs<=_;omega,by show ((n:Int) - k).natAbs<=_;omega⟩ ⟨by rw [z3];show (c - c2).natAbs<=_;omega,by rw [z3];show ((n:Int) - k2).natAbs<=_;omega⟩ (by decide) (by decide)
     have rl:Ret iE [.tup [.int (c - c1),.int ((n:Int) - k)],fD r] (.bl (decide ((c - c1) * r.2<r.1 * ((n:Int) - k)))):=rl
     by_cases hc:(c - c1) * r.2<r.1 * ((n:Int) - k)
     ·simp -implicitDefEqProofs [h4,h5,p1,p2,q1,q2,pD,dJ,rZ,oF,hi,aP rl,hc,cB,eJ]
      exact ⟨some (c - c1,(n:Int) - k),_,aK,_,aK,⟨rfl,rfl,rfl⟩,M.put hkn e1 fun r' z=>by cases z;omega⟩
     ·simp -implicitDefEqProofs [h4,h5,p1,p2,q1,q2,pD,dJ,rZ,oF,hi,aP rl,hc,cB,eJ]
      exact ⟨some r,_,aK,_,aK,⟨rfl,rfl,rfl⟩,M.skip fun c' l' z=>by rw [e1] at z;cases z;exact ⟨r,rfl,by omega⟩⟩
  ·rintro ρ ⟨o,t4,t5,h4,h5,rfl,M⟩
   simp
   rw [List.length_range] at M
   refine ⟨o,rfl,?_⟩
   cases o with
   | some r=>exact ⟨⟨c,l,ev0,M⟩⟩
   | none =>
    obtain ⟨i,j,r1,r2,r3⟩:=d.rep ev0
    obtain ⟨c',l',r4,_⟩:=d.cut ev0 r1 r2 r3
    obtain ⟨r,hr,_⟩:=M.all _ c' l' (by omega) r4
    cases hr
structure PB (Ds:List Rw) (n m:Nat) (o:Option Nat) (r:Option Fr):Prop where
 no:o=none->r=none
 so:∀b,o=some b->b<n/\∃x,r=some x/\LR Ds n b x
 all:∀v,v<m->pt (dr Ds n) v ≠ none->∃y x,LR Ds n v y/\r=some x/\y.1 * x.2<=x.1 * y.2
theorem LR.pos {v:Nat} {r:Fr} (h:LR Ds n v r):0<r.2:=by
 obtain ⟨c,l,e,M⟩:=h.c
 obtain ⟨k,c',l',h1,h2,h3⟩:=M.at_ r rfl
 rw [h3];show 0<(n:Int) - k;omega
theorem LR.bd {v:Nat} {r:Fr} (H:OkM n kd es) (d:DR es n Ds) (h:LR Ds n v r):Bd r 1000000 1000:=by
 obtain ⟨c,l,e,M⟩:=h.c
 obtain ⟨k,c',l',h1,h2,h3⟩:=M.at_ r rfl
 have hn2:=H.n2
 have b1:=d.bd H.c (Nat.le_refl _) e
 have b2:=d.bd H.c (show k<=n by omega) h2
 rw [h3]
 exact ⟨by show (c - c').natAbs<=_;omega,by show ((n:Int) - k).natAbs<=_;omega⟩
theorem sH (h:OkM n kd es) (d:DR es n Ds):nY gO [.lst false (QD Ds)] (fun x=>∃o r,x=oD o/\PB Ds n n o r):=by
 have hn1:=h.n1
 have hn2:=h.n2
 refine dX ?_
 have q0:kIx (.lst false (QD Ds),false) (.int 0,true)=.ok (.lst false (RR (dr Ds 0)),false):=aEh (k:=0) (by rw [d.len];omega)
 have ll:((dr Ds 0).length:Int)=(n:Int):=by rw [d.l0]
 simp -implicitDefEqProofs [lJ,entry,q0,ll,dS (show n<=1000000 by omega)]
 refine bV (cV (fun pre ρ=>∃o r t3 t4,np t3/\np t4/\ρ=[.val (.lst false (QD Ds)),.val (oD o),.val (oF r),t3,t4]/\PB Ds n pre.length o r) (List.range n)
  ⟨none,none,_,_,bN,bN,rfl,fun _=>rfl,(fun b z=>by cases z),fun v hv=>(by simp at hv)⟩ ?_) ?_
 ·rintro pre k post ρ e ⟨o,r,t3,t4,h3,h4,rfl,B⟩
  obtain ⟨hk,hkn⟩:=jJ e
  have kl:(pre ++ [k]).length=k+1:=by simp [hk]
  rw [<- hk] at B
  show out _ (fun ρ=>∃o r t3 t4,np t3/\np t4/\ρ=[.val (.lst false (QD Ds)),.val (oD o),.val (oF r),t3,t4]/\PB Ds n (pre ++ [k]).length o r) _
  rw [kl]
  obtain ⟨x,hx,y,rfl,hy⟩:=yN h d hkn
  cases y with
  | none =>
   have hy:pt (dr Ds n) k=none:=hy
   simp -implicitDefEqProofs [h3,h4,aP hx,oF,dJ]
   refine ⟨o,r,_,aK,_,aK,⟨rfl,rfl,rfl,rfl⟩,B.no,B.so,fun v hv hne=>?_⟩
   rcases Nat.lt_or_ge v k with q | q
   ·exact B.all v q hne
   ·have:v=k:=by omega
    subst this;exact absurd hy hne
  | some y =>
   have hy:LR Ds n k y:=hy
   have hi:∀b,iP true (fD y,b) (.non,true)=.ok (.bl true,true):=fun _=>rfl
   have put:(∀x,r=some x->x.1 * y.2<=y.1 * x.2)->PB Ds n (k+1) (some k) (some y):=fun hr=>by
    refine ⟨(fun z=>by cases z),(fun b z=>by cases z;exact ⟨hkn,y,rfl,hy⟩),fun v hv hne=>?_⟩
    rcases Nat.lt_or_ge v k with q | q
    ·obtain ⟨w,x,w1,w2,w3⟩:=B.all v q hne
     refine ⟨w,y,w1,rfl,?_⟩
     have hxp:0<x.2:=by
      cases o with
      | none=>rw [B.no rfl] at w2;cases w2
      | some b =>
       obtain ⟨_,x',hx',hL⟩:=B.so b rfl
       rw [w2] at hx';cases hx'
       exact hL.pos
     exact ftr w3 (hr x w2) hxp (by have:=w1.pos;omega) (by have:=hy.pos;omega)
    ·have:v=k:=by omega
     subst this
     exact ⟨y,y,hy,rfl,Int.le_refl _⟩
   cases r with
   | none =>
    have P:=put fun x z=>by cases z
    simp -implicitDefEqProofs [h3,h4,aP hx,oF,dJ,hi]
    exact ⟨some k,some y,_,aK,_,aK,⟨rfl,rfl,rfl,rfl⟩,P⟩
   | some x =>
    have hxx:LR Ds n (o.getD 0) x:=by
     cases o with
     | none=>have:=B.no rfl;cases this
     | some b =>
      obtain ⟨_,x',hx',hL⟩:=B.so b rfl
      cases hx';exact hL
    have hi2:∀b,iP false (fD x,b) (.non,true)=.ok (.bl false,true):=fun _=>rfl
    have rl:=qJ (hxx.bd h d) (hy.bd h d) (by decide) (by decide)
    by_cases hc:x.1 * y.2<y.1 * x.2
    ·have P:=put fun x' z=>by cases z;omega
     simp -implicitDefEqProofs [h3,h4,aP hx,oF,dJ,hi,hi2,aP rl,hc,cB,eJ]
     exact ⟨some k,some y,_,aK,_,aK,⟨rfl,rfl,rfl,rfl⟩,P⟩
    ·simp -implicitDefEqProofs [h3,h4,aP hx,oF,dJ,hi,hi2,aP rl,hc,cB,eJ]
     refine ⟨o,some x,_,aK,_,aK,⟨rfl,rfl,rfl,rfl⟩,B.no,B.so,fun v hv hne=>?_⟩
     rcases Nat.lt_or_ge v k with q | q
     ·exact B.all v q hne
     ·have:v=k:=by omega
      subst this
      exact ⟨y,x,hy,rfl,by omega⟩
 ·rintro ρ ⟨o,r,t3,t4,h3,h4,rfl,B⟩
  simp
  rw [List.length_range] at B
  exact ⟨o,rfl,r,B⟩
end
end VL.QQ
end
section
namespace VL.QQ
open VL PySem L2 PY K10 K11 K20
@[simp] theorem aEv {k:Int} {o b c:Bool} {kvs:List (Key×Int)}:aJv (.int k,b) (.ext o (.dK kvs),c)=.ok (.bl (oE kvs (.inl k)).isSome,true):=rfl
@[simp] theorem aK7 {k:Int} {o b c:Bool} {kvs:List (Key×Int)}:aH1 (.ext o (.dK kvs),b) (.int k,c)=match oE kvs (.inl k) with | some v=>.ok (.int v,true) | none=>.bad:=rfl
@[simp] theorem aSa {f g:aQ} {ρ:Env}:uP f g ρ=(f ρ).bind fun x=>(g ρ).bind fun y=>match x.1,y.1 with
 | .int k,.int v=>.ok (.ext true (.dK [(.inl k,v)]),true)
 | _,_=>.bad:=rfl
@[simp] theorem aM1 {i:Nat} {g f:aQ} {ρ:Env}:vH i g f ρ=gW (f ρ) fun d _=>match d with
 | .int v=>(gW (g ρ) fun k _=>match k with
  | .int k=>(match getD ρ i with | some (.ext true (.dK kvs))=>if kvs.length<1000000 then .next (putD ρ i (.ext true (.dK (aAo kvs (.inl k) v)))) else .bad | _=>.bad)
  | _=>.bad)
 | _=>.bad:=by
 unfold vH gW
 cases f ρ with
 | ok x =>
  obtain ⟨x,b⟩:=x
  cases x<;>try rfl
  cases g ρ with
  | ok y=>obtain ⟨y,c⟩:=y;cases y<;>rfl
  | exc _=>rfl
  | bad=>rfl
 | exc _=>rfl
 | bad=>rfl
def kv (f:Nat->Nat) (m:Nat):List (Key×Int):=(List.range m).map fun j=>(.inl (f j:Int),(j:Int))
theorem qD {f:Nat->Nat} {m:Nat}:kv f (m+1)=kv f m ++ [(.inl (f m:Int),(m:Int))]:=by unfold kv;rw [List.range_succ,List.map_append];rfl
theorem aJ5 {f:Nat->Nat} {p:Nat}:∀m,(∃j,j<m/\f j=p/\oE (kv f m) (.inl (p:Int))=some (j:Int))\/((∀j,j<m->f j ≠ p)/\oE (kv f m) (.inl (p:Int))=none/\((kv f m).any fun kv=>decide (kv.1=.inl (p:Int)))=false)
 | 0=>.inr ⟨fun j hj=>by omega,rfl,rfl⟩
 | m+1=>by
  have hk:∀q:Nat,((Sum.inl (q:Int):Key)=.inl (p:Int)) ↔ q=p:=fun q=>⟨fun z=>by cases z;omega,fun z=>by rw [z]⟩
  rcases aJ5 (f:=f) (p:=p) m with ⟨j,h1,h2,h3⟩ | ⟨h1,h2,h3⟩
  ·refine .inl ⟨j,by omega,h2,?_⟩
   rw [qD]
   unfold oE at h3 ⊢
   rw [List.find?_append]
   cases q:List.find? (fun kv=>decide (kv.1=.inl (p:Int))) (kv f m) with
   | none=>rw [q] at h3;cases h3
   | some x=>rw [q] at h3;exact h3
  ·have e0:List.find? (fun kv=>decide (kv.1=.inl (p:Int))) (kv f m)=none:=by
    unfold oE at h2
    cases q:List.find? (fun kv=>decide (kv.1=.inl (p:Int))) (kv f m) with
    | none=>rfl
    | some x=>rw [q] at h2;cases h2
   by_cases hp:f m=p
   ·refine .inl ⟨m,by omega,hp,?_⟩
    rw [qD]
    unfold oE
    rw [List.find?_append,e0]
    simp [hp]
   ·refine .inr ⟨fun j hj=>?_,?_,?_⟩
    ·rcases Nat.lt_or_ge j m with q | q
     ·exact h1 j q
     ·have:j=m:=by omega
      subst this;exact hp
    ·rw [qD]
     unfold oE
     rw [List.find?_append,e0]
     have:¬ ((Sum.inl ((f m:Nat):Int):Key)=.inl (p:Int)):=fun z=>hp ((hk _).mp z)
     simp [this]
    ·rw [qD,List.any_append,h3]
     have:¬ ((Sum.inl ((f m:Nat):Int):Key)=.inl (p:Int)):=fun z=>hp ((hk _).mp z)
     simp [this]
theorem aQc {xs:T0} {j:Nat} (h:j<=xs.length):cutD (NN xs) (some (j:Int)) none=NN (xs.drop j):=by
 unfold cutD
 rw [uF,HT.sIx_nat,HT.sIx_none,Nat.min_eq_left h,NN,NN,<- List.map_drop,List.take_of_length_le (by simp)]
section
variable {es:List E} {n kd:Nat} {Ds:List Rw}
def lA:aX:=(aS (eK 4 (v2 kIx (v2 kIx (v2 kIx (aB 1) (aB 5)) (aB 2)) (vC (.int 1)))) (aS (aY 2 (xOf (v2 kIx (v2 kIx (v2 kIx (aB 0) (vC (.int 2))) (v2 kIx (aB 4) (v1 (kU fun i=>.int (-i)) (vC (.int 1))))) (vC (.int 0))))) (aS (sIf (aZ (v2 aJv (aB 2) (aB 3))) (aS (aY 6 (xOf (vSl (aB 4) (aIi (v2 aH1 (aB 3) (aB 2))) aBb))) (aS (aFk 6) (gT 6))) bJ) (aS (vH 3 (aB 2) (vCB dN (aE (aB 4) aN))) (uH 5 (fun i j=>i - j) (vC (.int 1)))))))
theorem aBe (h:OkM n kd es) (d:DR es n Ds) {v:Nat} {x:Int×Option Nat} (hv:pt (dr Ds n) v=some x):nY mJ [dM n kd es,.lst false (QD Ds),.int (v:Int)]
  (fun z=>∃i j,j<i/\i<=n/\pb es Ds n v i=pb es Ds n v j/\z=.lst true (NN ((bk es Ds n v i).drop j).reverse)):=by
 have hn1:=h.n1
 have hn2:=h.n2
 refine dX ?_
 have el:((Ds.length:Int) - 1)=(n:Int):=by rw [d.len];omega
 simp -implicitDefEqProofs [rR,entry,el]
 show out (bS (dC (vC (.bl true))) lA fuel _) _ _
 refine aAb (P':=fun _=>False) (kC (fun m ρ=>∃i t,m+i=n/\np t/\(∀a b,a<b->b<=i->pb es Ds n v b ≠ pb es Ds n v a) /\
   ρ=[.val (dM n kd es),.val (.lst false (QD Ds)),.val (.int (pb es Ds n v i:Int)),.val (.ext true (.dK (kv (pb es Ds n v) (i+1)))),.val (.lst true (NN (bk es Ds n v i))),.val (.int ((n - i:Nat):Int)),t]) ?_ 1000 n _
   ⟨0,_,by omega,bN,(fun a b h1 h2=>by omega),rfl⟩ (by omega)) (fun _ z=>z.elim) (fun _ z=>z)
 rintro m ρ ⟨i,t,hm,ht,hd,rfl⟩
 have hi:i<n:=by
  have nd:((List.range (i+1)).map (pb es Ds n v)).Nodup:=by
   refine List.pairwise_map.mpr (List.Pairwise.imp_of_mem (R:=(· < ·)) (fun {a b} ha hb' hlt z=>hd a b hlt ?_ z.symm) List.pairwise_lt_range)
   have:=List.mem_range.mp hb';omega
  have:=mK n _ nd fun x hx=>by
   obtain ⟨k,hk,rfl⟩:=List.mem_map.mp hx
   exact d.aR8 hv (by have:=List.mem_range.mp hk;omega)
  simp at this
  omega
 refine .inr ⟨by simp [cB,eJ],m - 1,by omega,?_⟩
 obtain ⟨l,e⟩:=d.back hv i (by omega)
 obtain ⟨s1,s2,s3,c',l',s4,s5⟩:=d.step hi e
 have p1:=aEh (o:=false) (Ds:=Ds) (k:=n - i) (b:=false) (c:=false) (by rw [d.len];omega)
 have p2:=aBg (o:=false) (R:=dr Ds (n - i)) (v:=pb es Ds n v i) (b:=false) (c:=false) (by rw [d.ln (by omega)];exact d.aR8 hv (by omega))
 rw [e,s1] at p2
 have p3:∀b c,kIx (pD (some (cv es Ds n v i,some (ld Ds (n - i) (pb es Ds n v i)))),b) (.int 1,c)=.ok (.int (ld Ds (n - i) (pb es Ds n v i):Int),b):=fun b c=>by simp [pD,oD,aKw]
 have bl:(bk es Ds n v i).length<1000000:=by rw [kX];omega
 have eb:NN (bk es Ds n v i) ++ [.int (ld Ds (n - i) (pb es Ds n v i):Int)]=NN (bk es Ds n v (i+1)):=by rw [zL];simp [NN]
 have lb:∀b c,kIx (.lst true (NN (bk es Ds n v (i+1))),b) (.int (-1),c)=.ok (nI (ld Ds (n - i) (pb es Ds n v i)),b):=fun b c=>nG (by rw [zL];simp)
 have m1:=fB (es:=es) (b:=false) (c:=false) s2
 have ea:(ed es (ld Ds (n - i) (pb es Ds n v i))).a=pb es Ds n v (i+1):=rfl
 rcases aJ5 (f:=pb es Ds n v) (p:=pb es Ds n v (i+1)) (i+1) with ⟨j,h1,h2,h3⟩ | ⟨h1,h2,h3⟩
 ·simp -implicitDefEqProofs only [lA,dB,aIt,pQ,nA,iR,bR,p1,p2,p3,mG,jH,aCo,aDr,Option.bind,aEs,oC,mI,bl,decide_true,Bool.and_self,if_true,eb,uF,aIg,aD7,bP,qZ,aIf,aN8,aN0,lb,nI,m1,E_0,ea,Bool.or_true,lE,gD aK,List.set,vF,pH,aEv,h3,Option.isSome,aJe,
   aQ5,aLf,aK7,aKa,aT1,aJq,aQc (show j<=(bk es Ds n v (i+1)).length by rw [kX];omega),Bool.true_or,gD ht,Bool.and_true,aQb,aLk (show ((bk es Ds n v (i+1)).drop j).length<1000000 by rw [List.length_drop,kX];omega),aEx,aA7,nC]
  simp -implicitDefEqProofs
  exact ⟨i+1,j,by omega,by omega,h2.symm,rfl⟩
 ·have kl:(kv (pb es Ds n v) (i+1)).length<1000000:=by simp [kv];omega
  have kp:aAo (kv (pb es Ds n v) (i+1)) (.inl (pb es Ds n v (i+1):Int)) ((i+1:Nat):Int)=kv (pb es Ds n v) (i+1+1):=by
   unfold aAo
   rw [h3,if_neg (by simp),<- qD]
  have lb':((NN (bk es Ds n v (i+1))).length:Int)=((i+1:Nat):Int):=by rw [uF,kX]
  have es':((n - i:Nat):Int) - 1=((n - (i+1):Nat):Int):=by omega
  simp -implicitDefEqProofs only [lA,dB,aIt,pQ,nA,iR,bR,p1,p2,p3,mG,jH,aCo,aDr,Option.bind,aEs,oC,mI,bl,decide_true,Bool.and_self,if_true,eb,uF,aIg,aD7,bP,qZ,aIf,aN8,aN0,lb,nI,m1,E_0,ea,Bool.or_true,lE,gD aK,List.set,vF,pH,aEv,h2,Option.isSome,aAr,
   mS,aM1,aDf,iY,kY,aI2,kX,(show i<1000000 by omega),kl,kp,aQm,es',mR]
  refine ⟨i+1,t,by omega,ht,fun a b hab hb=>?_,rfl⟩
  rcases Nat.lt_or_ge b (i+1) with q | q
  ·exact hd a b hab (by omega)
  ·have:b=i+1:=by omega
   subst this
   exact fun z=>h1 a (by omega) z.symm
theorem lP (h:OkM n kd es) {ring:T0} (hr:∀x∈ring,x<es.length) (hl:ring.length<=1000000):Ret fE [dM n kd es,.lst false (NN ring)] (.int (cs es ring)):=by
 refine lS ?_
 have ec:bQ (eZ (aB 1)) 1 [0] (bA 0) bY (v2 kIx (v2 kIx (v2 kIx (aB 1) (vC (.int 2))) (aB 0)) (vC (.int 3))) [.val (dM n kd es),.val (.lst false (NN ring))]=.ok (.lst true (I (ring.map fun x=>(ed es x).c)),true):=by
  rw [gN [.val (dM n kd es)] ring nI (fun x=>D.int (ed es x).c) (fun _=>false) (by simp;rfl) hl (by simp [gZ]) ?_ (.inr fun _ _=>rfl)]
  ·simp [I]
  ·intro x hx
   refine ⟨?_,rfl⟩
   simp -implicitDefEqProofs [nI,fB (hr x hx)]
 have es:yL [(.lst true (I (ring.map fun x=>(ed es x).c)),true)]=.ok (.int (cs es ring),true):=by
  show (match dR (I _) with | some ns=>R.ok (D.int ns.sum,true) | none=>.bad)=_
  rw [sO];rfl
 simp -implicitDefEqProofs [lO,entry,ec,es]
structure RG (es:List E) (n:Nat) (ring:T0) (p q:Int):Prop where
 nil:ring=[]->p=0/\q=1
 so:ring ≠ []->p=cs es ring/\q=ring.length/\∃u,Reach es u/\Lk es u ring u
 len:ring.length<=n
 kp:∀u r,Reach es u->Lk es u r u->q * cs es r<=p * r.length
theorem uW (h:OkM n kd es):nY iL [dM n kd es] (fun z=>∃ring p q,z=.lst true (NN ring)/\RG es n ring p q):=by
 have hn1:=h.n1
 have hn2:=h.n2
 refine dX ?_
 obtain ⟨z1,hz1,Ds,rfl,d⟩:=vG h
 obtain ⟨z2,hz2,o,r,rfl,B⟩:=sH h d
 cases o with
 | none =>
  simp -implicitDefEqProofs [jD,entry,aP hz1,aP hz2,oD,dJ]
  refine ⟨[],rfl,0,1,fun _=>⟨rfl,rfl⟩,fun z=>absurd rfl z,by simp,fun u r' hu hr=>?_⟩
  refine d.flat (by decide) hn1 h.c (fun w c l e=>?_) hu hr
  obtain ⟨y,x,_,hx,_⟩:=B.all w (by have:=aKd e;rwa [d.ln (Nat.le_refl _)] at this) (by rw [e];simp)
  rw [B.no rfl] at hx;cases hx
 | some b =>
  obtain ⟨hb,x,hr,L⟩:=B.so b rfl
  obtain ⟨c0,l0,e0,M0⟩:=L.c
  obtain ⟨z3,hz3,i,j,i1,i2,i3,rfl⟩:=aBe h d e0
  obtain ⟨c1,l1,k1,k2⟩:=d.cut e0 i1 i2 i3
  obtain ⟨g1,g2⟩:=d.seg e0 (j:=j) i (by omega) i2
  rw [i3] at g1
  have hlen:((bk es Ds n b i).drop j).reverse.length=i - j:=by rw [List.length_reverse,List.length_drop,kX]
  have hre:Reach es (pb es Ds n b j):=by
   obtain ⟨l,e⟩:=d.back e0 j (by omega)
   obtain ⟨row,r1,_⟩:=d.walk (by omega) e
   exact r1.reach .zero
  obtain ⟨x',hx',h4⟩:=M0.all (n - (i - j)) c1 l1 (by omega) k1
  cases hx'
  generalize eC:cs es ((bk es Ds n b i).drop j)=C at *
  have h5:x.1 * ((i - j:Nat):Int)<=C * x.2:=by
   have e1:(n:Int) - ((n - (i - j):Nat):Int)=((i - j:Nat):Int):=by omega
   rw [e1] at h4
   have k2:c0 - C<=c1:=k2
   have:(c0 - c1) * x.2<=C * x.2:=Int.mul_le_mul_of_nonneg_right (by omega) (by have:=L.pos;omega)
   omega
  simp -implicitDefEqProofs [jD,entry,aP hz1,aP hz2,oD,dJ,aP hz3]
  refine ⟨_,rfl,C,((i - j:Nat):Int),⟨fun z=>?_,fun _=>⟨by rw [aDa,eC],by rw [hlen],_,hre,g1⟩,by rw [hlen];omega,fun u r' hu hr'=>?_⟩⟩
  ·rw [z] at hlen;simp at hlen;omega
  ·refine d.flat (by omega) hn1 h.c (fun w c l e=>?_) hu hr'
   obtain ⟨y,x2,w1,w2,w3⟩:=B.all w (by have:=aKd e;rwa [d.ln (Nat.le_refl _)] at this) (by rw [e];simp)
   rw [hr] at w2;cases w2
   obtain ⟨c2,l2,v1,V⟩:=w1.c
   rw [e] at v1;cases v1
   obtain ⟨k,c',l',q1,q2,q3⟩:=V.at_ y rfl
   refine ⟨k,c',l',q1,q2,?_⟩
   rw [q3] at w3
   have:=ftr (a:=c - c') (b:=(n:Int) - k) (c:=x.1) (d:=x.2) (e:=C) (f:=((i - j:Nat):Int)) w3 h5 L.pos (by omega) (by omega)
   rw [Int.mul_comm];exact this
end
end VL.QQ
end
section
namespace VL.QQ
open VL PySem L2 PY K10 K11 K20
section
variable {es:List E} {n kd:Nat}
structure PU (es:List E) (n:Nat) (p q:Int) (M:Y0):Prop where
 len:M.length=n
 nn:∀v,0<=gt M v
 zz:∀v,¬ Reach es v->gt M v=0
 rel:∀e∈es,Reach es e.a->q * e.c - p+gt M e.b<=gt M e.a
 bd:∀v,gt M v<=1000000
theorem PU.row {p q:Int} {M:Y0} (P:PU es n p q M):∀ {row:T0} {u v:Nat},Lk es u row v->Reach es u->gt M v+ph es p q row<=gt M u
 | [],u,v,hl,_=>by cases hl;simp [ph,cs]
 | d::ds,u,v,hl,hr=>by
  obtain ⟨h1,h2,h3⟩:=hl
  have hre:Reach es (ed es d).a:=by rw [h2];exact hr
  have e1:=P.rel _ (gQ h1) hre
  have e2:=P.row h3 (.step (gQ h1) hre)
  have e3:ph es p q (d::ds)=q * (ed es d).c - p+ph es p q ds:=by
   have:=vI (es:=es) (p:=p) (q:=q) (r1:=[d]) (r2:=ds)
   rw [show [d]++ds=d::ds from rfl] at this
   rw [this]
   have:ph es p q [d]=q * (ed es d).c - p:=by simp [ph,cs]
   omega
  rw [e3]
  rw [h2] at e1
  omega
def gz (es:List E) (p q:Int):Y0:=es.map fun e=>e.c * q - p
theorem aNu {p q:Int} {k:Nat} (h:k<es.length):gt (gz es p q) k=(ed es k).c * q - p:=by
 unfold gt gz
 rw [List.getD_eq_getElem?_getD,List.getElem?_map,lM h];rfl
theorem aHq {p q:Int}:∀ {row:T0},(∀x∈row,x<es.length)->(row.map (gt (gz es p q))).sum=ph es p q row
 | [],_=>by simp [ph,cs]
 | d::row,h=>by
  have:=aHq (p:=p) (q:=q) (row:=row) fun x hx=>h x (List.mem_cons_of_mem _ hx)
  rw [List.map_cons,List.sum_cons,this,aNu (h d List.mem_cons_self)]
  unfold ph
  rw [zQ,List.length_cons,Int.mul_add,Int.natCast_add,Int.mul_add,Int.mul_comm (ed es d).c q]
  simp;omega
theorem aS9 (h:OkM n kd es) {p q:Int} (hq:0<q) (hq2:q<=20) (hp:0<=p) (hp2:p<=20000) (kp:∀u r,Reach es u->Lk es u r u->q * cs es r<=p * r.length)
  {most:Y0} {ow:Y4} {raised:Option Nat} {num:T0} {L rk:Nat->Nat} {cnt r:Nat} (M:MG2 n es (gz es p q) most ow raised num L rk cnt r):PU es n p q most:=by
 have B:=M.bf
 have hnl:∀d∈num,d<es.length:=fun d hd=>((M.nm d).mp hd).1
 have hbn:∀d∈num,(ed es d).b<n:=fun d hd=>h.b _ (gQ (hnl d hd))
 have hra:raised=none:=by
  cases raised with
  | none=>rfl
  | some v =>
   exfalso
   obtain ⟨hv,hrn,hL⟩:=M.so v rfl
   have B':BF es (gz es p q) num n n most ow L rk cnt:=hrn ▸ B.toBF
   obtain ⟨hne,k,hk1,hk2,hk3⟩:=aMk hbn B' hv hL
   have hne':∀i,og ow (ch es ow (ch es ow v n) i) ≠ none:=fun i=>by rw [<- tL];exact hne _
   have hcl:ch es ow (ch es ow v n) k=ch es ow v n:=by rw [<- tL];exact hk3
   have hgain:=aGf B.toBF hk1 (fun i _=>hne' i) hcl
   have hlk:=aN4 hnl B.toBF k fun i _=>hne' i
   rw [hcl] at hlk
   have hur:Reach es (ch es ow v n):=by
    cases e:og ow (ch es ow v n) with
    | none=>exact absurd e (hne n)
    | some d =>
     obtain ⟨o1,o2,_⟩:=B.on _ d e
     have:=((M.nm d).mp o1).2
     rw [o2] at this;exact this
   rw [aHq hlk.lt] at hgain
   have:=kp _ _ hur hlk
   unfold ph at hgain
   omega
 have hrel:=M.no hra
 have hc:∀e∈es,0<=e.c * q/\e.c * q<=20000:=fun e he=>by
  have h1:=h.c e he
  have h2:e.c * q<=1000 * q:=Int.mul_le_mul_of_nonneg_right h1.2 (by omega)
  exact ⟨Int.mul_nonneg h1.1 (by omega),by omega⟩
 have sm:Sm 40000 (gz es p q):=fun x hx=>by
  obtain ⟨e,he,rfl⟩:=List.mem_map.mp hx
  have:=hc e he
  omega
 refine ⟨B.lm,B.nn,fun v hv=>B.zz v ?_,fun e he hr=>?_,fun v=>?_⟩
 ·cases e:og ow v with
  | none=>rfl
  | some d =>
   obtain ⟨o1,o2,_⟩:=B.on _ d e
   have:=((M.nm d).mp o1).2
   rw [o2] at this;exact absurd this hv
 ·obtain ⟨k,hk,hke⟩:=List.getElem_of_mem he
  have ee:ed es k=e:=by
   have:=lM hk
   rw [List.getElem?_eq_getElem hk,hke] at this
   exact (Option.some.inj this).symm
  have:=hrel k ((M.nm k).mpr ⟨hk,by rw [ee];exact hr⟩)
  unfold Rel at this
  rw [aNu hk,ee,Int.mul_comm] at this
  exact this
 ·rcases Nat.lt_or_ge v n with hv | hv
  ·obtain ⟨k,hk,he,hne⟩:=aHd hbn B hrel hv
   have:=aEj B hrel k hne
   rw [this,B.zz _ he]
   have hs:Sm 40000 ((dl es ow v k).map (gt (gz es p q))):=fun x hx=>by
    obtain ⟨d,_,rfl⟩:=List.mem_map.mp hx
    exact aSm (by decide) sm d
   have:=(aI1 (by decide) _ hs).2
   rw [List.length_map] at this
   have hl:(dl es ow v k).length=k:=by simp [dl]
   rw [hl] at this
   have:=h.n2
   omega
  ·have:gt most v=0:=by unfold gt;rw [List.getD_eq_getElem?_getD,List.getElem?_eq_none (by rw [B.lm];exact hv)];rfl
   omega
def pf (q:Int) (M:Y0):List Fr:=M.map fun m=>fr m q
theorem rM (h:OkM n kd es) {p q:Int} (hq:0<q) (hq2:q<=20) (hp:0<=p) (hp2:p<=20000) (kp:∀u r,Reach es u->Lk es u r u->q * cs es r<=p * r.length) :
  nY jG [dM n kd es,fD (p,q)] (fun d=>∃M,d=.lst true (FF (pf q M))/\PU es n p q M):=by
 have hn2:=h.n2
 have hls:=h.ls
 refine dX ?_
 have hgl:(gz es p q).length=es.length:=by simp [gz]
 obtain ⟨z,hz,most,ow,raised,num,L,rk,cnt,r,rfl,M⟩:=wB (gs:=gz es p q) h hgl
 have P:=aS9 h hq hq2 hp hp2 kp M
 have f1:fits q=true:=fit (A:=20) (by omega)
 have e1:bQ (eZ (v2 kIx (aB 0) (vC (.int 2)))) 1 [1] (bA 0) bY (v2 sI (v2 bH (v2 kIx (aB 0) (vC (.int 3))) (v2 kIx (aB 1) (vC (.int 1)))) (v2 kIx (aB 1) (vC (.int 0)))) [.val (dM n kd es),.val (fD (p,q)),.un]=.ok (.lst true (I (gz es p q)),true):=by
  rw [gN [.val (fD (p,q))] es E.d (fun e=>D.int (e.c * q - p)) (fun _=>true) (by simp;rfl) (by omega) (by simp [gZ]) ?_ (.inr fun _ _=>rfl)]
  ·simp [I,gz]
  ·intro e he
   have h1:=h.c e he
   refine ⟨?_,rfl⟩
   simp -implicitDefEqProofs [f1,fit (x:=e.c) (A:=1000) (by omega)]
 have e2:bQ (eZ (v2 kIx (bB hG (aE (aB 0) (aE (aB 2) aN))) (vC (.int 0)))) 1 [1] (bA 0) bY (bB eM (aE (aB 0) (aE (v2 kIx (aB 1) (vC (.int 1))) aN))) [.val (dM n kd es),.val (fD (p,q)),.val (.lst false (I (gz es p q)))]=.ok (.lst true (FF (pf q most)),true):=by
  rw [gN [.val (fD (p,q))] most D.int (fun m=>fD (fr m q)) (fun _=>true) (by simp [aP hz,rZ];rfl) (by rw [P.len];omega) (by simp [gZ]) ?_ (.inl (by simp [mO]))]
  ·simp [FF,pf]
  ·intro m hm
   refine ⟨?_,rfl⟩
   simp -implicitDefEqProofs [aP (zB (a:=m) (b:=q) (by omega) (by omega))]
 simp -implicitDefEqProofs [rG,entry,e1,e2]
 exact ⟨most,rfl,P⟩
structure LP (es:List E) (n:Nat) (pr:Fr) (ring:T0) (M:Y0):Prop where
 gd:Gd pr
 p0:0<=pr.1
 pb:pr.1<=20000
 qb:pr.2<=20
 nil:ring=[]->pr=(0,1)
 so:ring ≠ []->pr=fr (cs es ring) ring.length/\∃u,Reach es u/\Lk es u ring u
 len:ring.length<=n
 pu:PU es n pr.1 pr.2 M
theorem vY (h:OkM n kd es):nY gI [dM n kd es] (fun d=>∃pr ring M,d=.tup [fD pr,.lst false (NN ring),.lst false (FF (pf pr.2 M))]/\LP es n pr ring M):=by
 have hn1:=h.n1
 have hn2:=h.n2
 refine dX ?_
 obtain ⟨z,hz,ring,p,q,rfl,G⟩:=uW h
 have hlen:=G.len
 by_cases hr:ring=[]
 ·obtain ⟨rfl,rfl⟩:=G.nil hr
  obtain ⟨y,hy,M,rfl,P⟩:=rM h (p:=0) (q:=1) (by decide) (by decide) (by decide) (by decide) G.kp
  have hr0:ring.length=0:=by rw [hr];rfl
  have hy':Ret jG [dM n kd es,.tup [.int 0,.int 1]] (.lst true (FF (pf 1 M))):=hy
  simp -implicitDefEqProofs [jY,entry,iB (iH h),aP hz,hr0,aP hy']
  exact ⟨0,1,ring,M,⟨rfl,rfl,rfl⟩,⟨by decide,by decide⟩,by decide,by decide,by decide,fun _=>rfl,fun z=>absurd hr z,hlen,P⟩
 ·obtain ⟨hp,hq,u,hu,hl⟩:=G.so hr
  subst hp;subst hq
  have hpos:0<ring.length:=List.length_pos_iff.mpr hr
  have hpi:(0:Int)<(ring.length:Int):=by omega
  have hc:=wU h.c hl.lt
  have hx:=aCw (a:=cs es ring) hpi
  have g:=qE (a:=cs es ring) hpi
  have hle:=aEi (a:=cs es ring) hpi
  have hna:=aEa (a:=cs es ring) (b:=ring.length)
  have hnn:=aOk (b:=ring.length) hc.1
  have gp:=g.p
  have rf:=zB (a:=cs es ring) (b:=ring.length) (by omega) (by omega)
  generalize efr:fr (cs es ring) ring.length=pr at *
  obtain ⟨p,q⟩:=pr
  dsimp only at *
  obtain ⟨y,hy,M,rfl,P⟩:=rM h (p:=p) (q:=q) gp (by omega) hnn (by omega) (fun u r hu hr=>by
   have:=ftr (a:=cs es r) (b:=r.length) (c:=cs es ring) (d:=ring.length) (e:=p) (f:=q) (by rw [Int.mul_comm];exact G.kp u r hu hr) (by omega) hpi (by omega) (by omega)
   rw [Int.mul_comm];exact this)
  simp -implicitDefEqProofs [jY,entry,iB (iH h),aP hz,hpos,aP (lP h hl.lt (by omega)),aP rf,aP hy]
  exact ⟨p,q,ring,M,⟨rfl,rfl,rfl⟩,g,hnn,by show p<=_;omega,by show q<=_;omega,fun z=>absurd z hr,fun _=>⟨efr.symm,u,hu,hl⟩,hlen,P⟩
end
end VL.QQ
end
section
namespace VL.QQ
open VL PySem L2 PY K10 K11 K20
@[simp] theorem aIh {n:Bool} {x y:Fr} {b c:Bool}:kEq n (fD x,b) (fD y,c)=.ok (.bl (if n then !decide (x=y) else decide (x=y)),true):=by
 unfold kEq
 have:yW (fD x) (fD y)=true:=rfl
 rw [if_pos this]
 have e:eqD (fD x) (fD y)=decide (x=y):=by
  show ((x.1 == y.1) && ((x.2 == y.2) && true))=_
  rw [Bool.eq_iff_iff]
  simp [Prod.ext_iff]
 show R.ok (D.bl (if n then !eqD (fD x) (fD y) else eqD (fD x) (fD y)),true)=_
 rw [e]
def ft (xs:List Fr) (v:Nat):Fr:=xs.getD v (0,1)
theorem vM {o:Bool} {xs:List Fr} {v:Nat} {b c:Bool} (h:v<xs.length):kIx (.lst o (FF xs),b) (.int (v:Int),c)=.ok (fD (ft xs v),b):=by
 simp [dU,FF,ft,List.getElem?_eq_getElem h]
theorem aB6 {xs:List Fr} {v:Nat} (h:v<xs.length):ft xs v∈xs:=by
 unfold ft;rw [List.getD_eq_getElem?_getD,List.getElem?_eq_getElem h];exact List.getElem_mem _
theorem aRv {a b c d:Int} (hb:0<b) (hd:0<d):(fr a b).1 * (fr c d).2<=(fr c d).1 * (fr a b).2 ↔ a * d<=c * b:=by
 have x1:=aCw (a:=a) hb
 have x2:=aCw (a:=c) hd
 have g1:=(qE (a:=a) hb).p
 have g2:=(qE (a:=c) hd).p
 generalize fr a b=s at *
 generalize fr c d=t at *
 constructor
 ·intro h
  have h1:=ftr (a:=a) (b:=b) (c:=s.1) (d:=s.2) (e:=t.1) (f:=t.2) (by omega) h g1 (by omega) (by omega)
  exact ftr (a:=a) (b:=b) (c:=t.1) (d:=t.2) (e:=c) (f:=d) h1 (by omega) g2 (by omega) (by omega)
 ·intro h
  have h1:=ftr (a:=s.1) (b:=s.2) (c:=a) (d:=b) (e:=c) (f:=d) (by omega) h hb (by omega) (by omega)
  exact ftr (a:=s.1) (b:=s.2) (c:=c) (d:=d) (e:=t.1) (f:=t.2) h1 (by omega) hd (by omega) (by omega)
theorem aRq {a b c d:Int} (hb:0<b) (hd:0<d):decide ((fr a b).1 * (fr c d).2<(fr c d).1 * (fr a b).2)=decide (a * d<c * b):=by
 have:=aRv (a:=c) (b:=d) (c:=a) (d:=b) hd hb
 rw [decide_eq_decide]
 constructor
 ·intro h
  refine Classical.byContradiction fun q=>?_
  have:=this.mpr (by omega)
  omega
 ·intro h
  refine Classical.byContradiction fun q=>?_
  have:=this.mp (by omega)
  omega
def paid (pr xa xb:Fr) (c:Int):Bool:=!decide ((xa.1 * pr.2+pr.1 * xa.2) * xb.2<(c * xb.2+xb.1) * pr.2 * xa.2)
noncomputable
def ipB (es:List E) (n:Nat) (pr:Fr) (xs:List Fr):Bool:=decide (xs.length=n) && ((xs.all fun x=>decide (0<=x.1)) && es.all fun e=>!(rB es e.a) || paid pr (ft xs e.a) (ft xs e.b) e.c)
structure Ok1 (x:Fr) (A:Nat):Prop where
 g:Gd x
 t:x.1.natAbs<=A
 b:x.2<=20
section
variable {es:List E} {n kd:Nat}
theorem aFu (h:OkM n kd es) {f:Nat->Bool} (hf:∀p,p<n->f p=rB es p) {pr:Fr} (hp:Ok1 pr 20000) {xs:List Fr} (hx:∀x∈xs,Ok1 x 2000000) :
  Ret rF [dM n kd es,.lst false (BB n f),fD pr,.lst false (FF xs)] (.bl (ipB es n pr xs)):=by
 refine lS ?_
 have hq:=hp.g.p
 have hqb:=hp.b
 have hpt:=hp.t
 have ra:=pL (xs:=xs) fun x q=>⟨(hx x q).g,by have:=(hx x q).b;have:=(hx x q).g.p;omega⟩
 by_cases hl:xs.length=n
 ·have hl':(xs.length:Int)=(n:Int):=by omega
  by_cases ha:(xs.all fun x=>decide (0<=x.1))=true
  ·rw [ha] at ra
   have eip:ipB es n pr xs=es.all fun e=>!(rB es e.a) || paid pr (ft xs e.a) (ft xs e.b) e.c:=by unfold ipB;rw [ha,decide_eq_true hl];rfl
   rw [eip]
   simp -implicitDefEqProofs [nE,entry,nI,hl',aP ra,cB,eJ]
   refine bV (cV (fun pre ρ=>(pre.all fun e=>!(rB es e.a) || paid pr (ft xs e.a) (ft xs e.b) e.c)=true/\∃t4 t5,np t4/\np t5/\ρ=[.val (dM n kd es),.val (.lst false (BB n f)),.val (fD pr),.val (.lst false (FF xs)),t4,t5]) es ⟨rfl,_,_,bN,bN,rfl⟩ ?_) ?_
   ·rintro pre e post ρ ee ⟨hpre,t4,t5,h4,h5,rfl⟩
    have he:e∈es:=by rw [ee];simp
    have a1:=aIo (o:=false) (n:=n) (f:=f) (b:=false) (c:=false) (h.a e he)
    rw [hf _ (h.a e he)] at a1
    have fin:∀t4 t5,np t4->np t5->(!(rB es e.a) || paid pr (ft xs e.a) (ft xs e.b) e.c)=true->(((pre ++ [e]).all fun e=>!(rB es e.a) || paid pr (ft xs e.a) (ft xs e.b) e.c)=true/\∃s4 s5,np s4/\np s5/\[Slot.val (dM n kd es),.val (.lst false (BB n f)),.val (fD pr),.val (.lst false (FF xs)),t4,t5]=[.val (dM n kd es),.val (.lst false (BB n f)),.val (fD pr),.val (.lst false (FF xs)),s4,s5]):=by
     intro t4 t5 n4 n5 hh
     exact ⟨by rw [List.all_append,hpre];simpa using hh,t4,t5,n4,n5,rfl⟩
    cases hr:rB es e.a with
    | false =>
     rw [hr] at a1
     have:=fin (.val e.d) t5 aK h5 (by rw [hr];rfl)
     simp -implicitDefEqProofs only [kA,lE,gD h4,if_true,kK,List.set,vF,yI,pQ,nA,iR,bR,mG,E_0,a1,cB,eJ,aAr,mS,mR]
     exact this
    | true =>
     rw [hr] at a1
     have la:e.a<xs.length:=by rw [hl];exact h.a e he
     have lb:e.b<xs.length:=by rw [hl];exact h.b e he
     have x1:=vM (o:=false) (xs:=xs) (b:=false) (c:=false) la
     have x2:=vM (o:=false) (xs:=xs) (b:=false) (c:=false) lb
     have oa:=hx _ (aB6 la)
     have ob:=hx _ (aB6 lb)
     have hc:=h.c e he
     have pa:=oa.g.p
     have pb:=ob.g.p
     have oat:=oa.t
     have obt:=ob.t
     have oab:=oa.b
     have obb:=ob.b
     have paideq:paid pr (ft xs e.a) (ft xs e.b) e.c = !decide ((fr ((ft xs e.a).1 * pr.2+pr.1 * (ft xs e.a).2) ((ft xs e.a).2 * pr.2)).1 * (fr ((ft xs e.b).1 * 1+e.c * (ft xs e.b).2) ((ft xs e.b).2 * 1)).2<(fr ((ft xs e.b).1 * 1+e.c * (ft xs e.b).2) ((ft xs e.b).2 * 1)).1 * (fr ((ft xs e.a).1 * pr.2+pr.1 * (ft xs e.a).2) ((ft xs e.a).2 * pr.2)).2):=by
      rw [aRq (Int.mul_pos pa hq) (by omega)]
      unfold paid
      have e1:((ft xs e.b).1 * 1+e.c * (ft xs e.b).2) * ((ft xs e.a).2 * pr.2)=(e.c * (ft xs e.b).2+(ft xs e.b).1) * pr.2 * (ft xs e.a).2:=by
       rw [Int.mul_one,Int.add_comm,Int.mul_comm (ft xs e.a).2 pr.2,Int.mul_assoc]
      rw [e1,Int.mul_one]
     rw [paideq,hr] at fin
     have p1:=aJf (x:=ft xs e.b) (y:=(e.c,1)) (A:=2000000) (B:=20) ⟨obt,by omega⟩ ⟨by show e.c.natAbs<=_;omega,by show (1:Int).natAbs<=20;decide⟩ (by decide) (by decide) pb (by show (0:Int)<1;decide)
     have p2:=aJf (x:=ft xs e.a) (y:=pr) (A:=2000000) (B:=20) ⟨oat,by omega⟩ ⟨by omega,by omega⟩ (by decide) (by decide) pa hq
     have p1:Ret uI [fD (ft xs e.b),.tup [.int e.c,.int 1]] (fD (fr ((ft xs e.b).1 * 1+e.c * (ft xs e.b).2) ((ft xs e.b).2 * 1))):=p1
     have bd1:Bd (fr ((ft xs e.b).1 * 1+e.c * (ft xs e.b).2) ((ft xs e.b).2 * 1)) 100000000 1000:=by
      refine ⟨Nat.le_trans aEa ?_,?_⟩
      ·have:=zR (iM obt (show (1:Int).natAbs<=1 by decide)) (iM (show e.c.natAbs<=1000 by omega) (show (ft xs e.b).2.natAbs<=20 by omega))
       omega
      ·have g:=(qE (a:=(ft xs e.b).1 * 1+e.c * (ft xs e.b).2) (b:=(ft xs e.b).2 * 1) (by omega)).p
       have:=aEi (a:=(ft xs e.b).1 * 1+e.c * (ft xs e.b).2) (b:=(ft xs e.b).2 * 1) (by omega)
       omega
     have bd2:Bd (fr ((ft xs e.a).1 * pr.2+pr.1 * (ft xs e.a).2) ((ft xs e.a).2 * pr.2)) 100000000 1000:=by
      have hpos:=Int.mul_pos pa hq
      refine ⟨Nat.le_trans aEa ?_,?_⟩
      ·have:=zR (iM oat (show pr.2.natAbs<=20 by omega)) (iM hpt (show (ft xs e.a).2.natAbs<=20 by omega))
       omega
      ·have g:=(qE (a:=(ft xs e.a).1 * pr.2+pr.1 * (ft xs e.a).2) hpos).p
       have:=aEi (a:=(ft xs e.a).1 * pr.2+pr.1 * (ft xs e.a).2) hpos
       have:=iM (show (ft xs e.a).2.natAbs<=20 by omega) (show pr.2.natAbs<=20 by omega)
       omega
     have rl:=qJ bd2 bd1 (by decide) (by decide)
     generalize fr ((ft xs e.b).1 * 1+e.c * (ft xs e.b).2) ((ft xs e.b).2 * 1)=T at *
     generalize fr ((ft xs e.a).1 * pr.2+pr.1 * (ft xs e.a).2) ((ft xs e.a).2 * pr.2)=S at *
     by_cases hlt:S.1 * T.2<T.1 * S.2
     ·rw [decide_eq_true hlt] at rl
      have bad:(es.all fun e=>!(rB es e.a) || paid pr (ft xs e.a) (ft xs e.b) e.c)=false:=by
       rw [<- Bool.not_eq_true,List.all_eq_true]
       intro z
       have:=z e he
       rw [hr,paideq,decide_eq_true hlt] at this
       cases this
      simp -implicitDefEqProofs only [kA,lE,gD h4,gD h5,if_true,kK,List.set,vF,yI,pQ,nA,iR,bR,mG,E_0,E_2,E_3,a1,cB,eJ,aJe,dB,qZ,tZ,iY,kY,yG,x1,x2,List.all,oC,aH8,mI,sW,Bool.and_self,Bool.and_true,List.length,List.map,nM,uV,aE2,zA,aJu,aP p1,aP p2,jH,Bool.true_or,bP,aP rl,uM,nC,bad,decide_true,Nat.reduceAdd,Nat.reduceLeDiff]
     ·rw [decide_eq_false hlt] at rl fin
      have:=fin (.val e.d) (.val (fD T)) aK aK (by rfl)
      simp -implicitDefEqProofs only [kA,lE,gD h4,gD h5,if_true,kK,List.set,vF,yI,pQ,nA,iR,bR,mG,E_0,E_2,E_3,a1,cB,eJ,aJe,aAr,mS,mR,dB,qZ,tZ,iY,kY,yG,x1,x2,List.all,oC,aH8,mI,sW,Bool.and_self,Bool.and_true,List.length,List.map,nM,uV,aE2,zA,aJu,aP p1,aP p2,jH,Bool.true_or,bP,aP rl,uM,nC,decide_true,Nat.reduceAdd,Nat.reduceLeDiff]
      exact this
   ·rintro ρ ⟨hpre,t4,t5,h4,h5,rfl⟩
    simp -implicitDefEqProofs only [uM,mG,jH,Bool.true_or,if_true,nC,hpre]
  ·have ha':(xs.all fun x=>decide (0<=x.1))=false:=by simpa using ha
   rw [ha'] at ra
   have eip:ipB es n pr xs=false:=by unfold ipB;rw [ha'];simp
   rw [eip]
   simp -implicitDefEqProofs [nE,entry,nI,hl',aP ra,cB,eJ]
 ·have hl':¬ (xs.length:Int)=(n:Int):=by omega
  have eip:ipB es n pr xs=false:=by unfold ipB;rw [decide_eq_false hl];rfl
  rw [eip]
  simp -implicitDefEqProofs [nE,entry,nI,hl',cB,eJ]
end
end VL.QQ
end
section
namespace VL.QQ
open VL PySem L2 PY K10 K11 K20
def inB (es:List E) (zs:Y0):Bool:=zs.all fun z=>decide (0<=z) && decide (z<=(es.length:Int) - 1)
def rgN (zs:Y0):T0:=zs.map Int.toNat
def chB (es:List E):Nat->T0->Bool
 | _,[]=>true
 | u,x::r=>decide ((ed es x).a=u) && chB es (ed es x).b r
def lst (ring:T0):Nat:=ring.getLastD 0
noncomputable
def ldB (es:List E) (zs:Y0):Bool:=inB es zs && (rB es (ed es (lst (rgN zs))).b && chB es (ed es (lst (rgN zs))).b (rgN zs))
noncomputable
def rsB (es:List E) (pr:Fr) (zs:Y0):Bool:=if zs=[] then decide (pr=(0,1)) else ldB es zs && decide (pr=fr (cs es (rgN zs)) zs.length)
section
variable {es:List E} {n kd:Nat}
theorem aPs:∀ {zs:Y0},inB es zs=true->I zs=NN (rgN zs)/\∀x∈rgN zs,x<es.length
 | [],_=>⟨rfl,by simp [rgN]⟩
 | z::zs,h=>by
  unfold inB at h
  rw [List.all_cons,Bool.and_eq_true,Bool.and_eq_true,decide_eq_true_eq,decide_eq_true_eq] at h
  obtain ⟨h1,h2⟩:=aPs (zs:=zs) h.2
  refine ⟨?_,fun x hx=>?_⟩
  ·show D.int z::I zs=nI z.toNat::NN (rgN zs)
   rw [h1]
   have:((z.toNat:Nat):Int)=z:=by omega
   rw [nI,this]
  ·rcases List.mem_cons.mp hx with rfl | hx
   ·omega
   ·exact h2 x hx
theorem aMd {zs:Y0} (h:zs ≠ []):(rgN zs).getLast?=some (lst (rgN zs)):=by
 cases e:(rgN zs).getLast? with
 | none=>rw [List.getLast?_eq_none_iff] at e;unfold rgN at e;rw [List.map_eq_nil_iff] at e;exact absurd e h
 | some y=>unfold lst;rw [List.getLastD_eq_getLast?,e];rfl
theorem vV (h:OkM n kd es) {f:Nat->Bool} (hf:∀p,p<n->f p=rB es p) {zs:Y0} (hne:zs ≠ []) :
  Ret jM [dM n kd es,.lst false (BB n f),.lst false (I zs)] (.bl (ldB es zs)):=by
 refine lS ?_
 simp -implicitDefEqProofs [nS,entry]
 refine bV (cV (φ:=D.int) (fun pre ρ=>inB es pre=true/\∃t,np t/\ρ=[.val (dM n kd es),.val (.lst false (BB n f)),.val (.lst false (I zs)),.val (.lst false (ME es)),t,.un]) zs ⟨rfl,_,bN,rfl⟩ ?_) ?_
 ·rintro pre z post ρ e ⟨hi,t,ht,rfl⟩
  by_cases hz:0<=z/\z<=(es.length:Int) - 1
  ·simp -implicitDefEqProofs [ht,aP (uE hz.1 hz.2),cB,eJ]
   unfold inB at hi ⊢
   rw [List.all_append,hi,List.all_cons,decide_eq_true hz.1,decide_eq_true hz.2];rfl
  ·simp -implicitDefEqProofs [ht,aP (aTo hz),cB,eJ]
   have:inB es zs=false:=by
    rw [<- Bool.not_eq_true]
    intro q
    unfold inB at q
    rw [List.all_eq_true] at q
    have:=q z (by rw [e];simp)
    rw [Bool.and_eq_true,decide_eq_true_eq,decide_eq_true_eq] at this
    exact hz this
   unfold ldB;rw [this];rfl
 ·rintro ρ ⟨hi,t,ht,rfl⟩
  obtain ⟨e1,e2⟩:=aPs hi
  have hl:=aMd hne
  have hld:ldB es zs=(rB es (ed es (lst (rgN zs))).b && chB es (ed es (lst (rgN zs))).b (rgN zs)):=by unfold ldB;rw [hi];rfl
  rw [hld,e1]
  generalize rgN zs=ring at *
  generalize lst ring=z at *
  have hz:z<es.length:=e2 z (List.mem_of_getLast? hl)
  have hb:=h.b _ (gQ hz)
  have a1:=aIo (o:=false) (n:=n) (f:=f) (b:=false) (c:=false) hb
  rw [hf _ hb] at a1
  cases hr:rB es (ed es z).b with
  | false =>
   rw [hr] at a1
   simp -implicitDefEqProofs [nG hl,nI,fB hz,a1,cB,eJ]
  | true =>
   rw [hr] at a1
   simp -implicitDefEqProofs [nG hl,nI,fB hz,a1,cB,eJ]
   refine bV (cV (φ:=nI) (fun pre ρ=>∃u t,np t/\(∀post,ring=pre++post->chB es (ed es z).b ring=chB es u post)/\ρ=[.val (dM n kd es),.val (.lst false (BB n f)),.val (.lst false (NN ring)),.val (.lst false (ME es)),t,.val (nI u)]) ring ⟨_,_,ht,fun post q=>by rw [List.nil_append] at q;rw [<- q],rfl⟩ ?_) ?_
   ·rintro pre x post ρ e ⟨u,t,ht,hc,rfl⟩
    have hx:x<es.length:=e2 x (by rw [e];simp)
    have hcx:=hc (x::post) e
    by_cases hu:(ed es x).a=u
    ·have hu':((ed es x).a:Int)=(u:Int):=by omega
     simp -implicitDefEqProofs [ht,nI,fB hx,hu']
     refine ⟨(ed es x).b,_,aK,fun post' q=>?_,rfl,rfl⟩
     have:post'=post:=by
      rw [e] at q
      have:=List.append_inj_right q.symm rfl
      simpa using this
     rw [this,hcx]
     show (decide ((ed es x).a=u) && _)=_
     rw [decide_eq_true hu];rfl
    ·have hu':¬ ((ed es x).a:Int)=(u:Int):=by omega
     simp -implicitDefEqProofs [ht,nI,fB hx,hu']
     rw [hcx]
     show (decide ((ed es x).a=u) && _)=false
     rw [decide_eq_false hu];rfl
   ·rintro ρ ⟨u,t,ht,hc,rfl⟩
    simp -implicitDefEqProofs
    rw [hc [] (by simp)];rfl
theorem zD (h:OkM n kd es) {f:Nat->Bool} (hf:∀p,p<n->f p=rB es p) {pr:Fr} {zs:Y0} (hl:zs.length<=1000) :
  Ret kS [dM n kd es,.lst false (BB n f),fD pr,.lst false (I zs)] (.bl (rsB es pr zs)):=by
 refine lS ?_
 by_cases hz:zs=[]
 ·have h0:zs.length=0:=by rw [hz];rfl
  have e01:∀b c,kEq false (fD pr,b) (.tup [.int 0,.int 1],c)=.ok (.bl (decide (pr=(0,1))),true):=fun b c=>aIh (n:=false) (x:=pr) (y:=(0,1))
  simp -implicitDefEqProofs [hV,entry,h0,e01]
  unfold rsB;rw [if_pos hz]
 ·have h0:¬ zs.length=0:=fun q=>hz (List.length_eq_zero_iff.mp q)
  have rl:=vV h hf hz
  have er:rsB es pr zs=(ldB es zs && decide (pr=fr (cs es (rgN zs)) zs.length)):=by unfold rsB;rw [if_neg hz]
  rw [er]
  cases hd:ldB es zs with
  | false =>
   rw [hd] at rl
   simp -implicitDefEqProofs [hV,entry,h0,aP rl,cB,eJ]
  | true =>
   rw [hd] at rl
   have hi:inB es zs=true:=by unfold ldB at hd;rw [Bool.and_eq_true] at hd;exact hd.1
   obtain ⟨e1,e2⟩:=aPs hi
   have rc:=lP h e2 (by unfold rgN;rw [List.length_map];omega)
   rw [<- e1] at rc
   have rf:=zB (a:=cs es (rgN zs)) (b:=zs.length) (by omega) (by omega)
   simp -implicitDefEqProofs [hV,entry,h0,aP rl,cB,eJ,aP rc,aP rf]
theorem wG (h:OkM n kd es) {pr:Fr} (hp:Ok1 pr 20000) {zs:Y0} (hl:zs.length<=1000) {xs:List Fr} (hx:∀x∈xs,Ok1 x 2000000) :
  Ret gF [dM n kd es,fD pr,.lst false (I zs),.lst false (FF xs)] (.bl (rsB es pr zs && ipB es n pr xs)):=by
 refine lS ?_
 obtain ⟨d,hd,f,rfl,hf⟩:=xJ h
 have hf':∀p,p<n->f p=rB es p:=fun p hp=>aSh hf hp
 have r1:=zD h hf' (pr:=pr) hl
 have r2:=aFu h hf' hp hx
 cases hr:rsB es pr zs with
 | false =>
  rw [hr] at r1
  simp -implicitDefEqProofs [jX,entry,iB hd,sU r1 rfl,sU r2 rfl]
 | true =>
  rw [hr] at r1
  simp -implicitDefEqProofs [jX,entry,iB hd,sU r1 rfl,sU r2 rfl]
theorem aH2:∀ {ring:T0} {u v:Nat},Lk es u ring v->chB es u ring=true
 | [],_,_,_=>rfl
 | d::ds,u,v,h=>by
  show (decide ((ed es d).a=u) && chB es (ed es d).b ds)=true
  rw [decide_eq_true h.2.1,aH2 h.2.2];rfl
theorem sQ:∀ {ring:T0} {u v:Nat},Lk es u ring v->ring ≠ []->(ed es (lst ring)).b=v
 | [],_,_,_,h=>absurd rfl h
 | [d],u,v,h,_=>h.2.2
 | d::e::ds,u,v,h,_=>by
  have:=sQ (ring:=e::ds) h.2.2 (by simp)
  have e1:lst (d::e::ds)=lst (e::ds):=by simp [lst,List.getLastD]
  rw [e1];exact this
end
end VL.QQ
end
section
namespace VL.QQ
open VL PySem L2 PY K10 K11 K20
theorem aCc {ns:Y0}:nY jL [.lst false (I ns),.int 0,.int 6] (fun d=>∃n kd es,d=dM n kd es/\OkM n kd es/\kd<=3):=by
 refine dX ?_
 have m0:Ret eU [.lst false (I ns),.int 0] (.int (mB ns 0)):=wY (k:=0) (by omega)
 have m1:Ret eU [.lst false (I ns),.int 1] (.int (mB ns 1)):=wY (k:=1) (by omega)
 have m2:Ret eU [.lst false (I ns),.int 2] (.int (mB ns 2)):=wY (k:=2) (by omega)
 obtain ⟨n,hn1,hn6,hn'⟩:∃n:Nat,1<=n/\n<=6/\1+mB ns 0 % 6=(n:Int):=⟨(1+mB ns 0 % 6).toNat,by omega,by omega,by omega⟩
 obtain ⟨kd,hk1,hk3,hk'⟩:∃n:Nat,1<=n/\n<=3/\1+mB ns 1 % 3=(n:Int):=⟨(1+mB ns 1 % 3).toNat,by omega,by omega,by omega⟩
 obtain ⟨c,hc13,hc⟩:=aGe (v:=mB ns 2) (m:=13) (by omega)
 have hc':mB ns 2 % 13=((c:Nat):Int):=hc
 have f1:fits 2=true:=cN (by decide) (by decide)
 have f2:fits 6=true:=cN (by decide) (by decide)
 simp -implicitDefEqProofs [rK,entry,aP m0,aP m1,aP m2,hn',hk',hc',f1,f2,dS (show c<=1000000 by omega)]
 refine bV (cV (fun pre ρ=>∃es t u w,np t/\np u/\np w/\es.length=pre.length/\(∀e∈es,e.a<n/\e.k<kd/\e.b<n/\0<=e.c/\e.c<=1000)/\ρ=[.val (.lst false (I ns)),.val (.int 0),.val (.int 6),.val (nI n),.val (nI kd),.val (.lst true (ME es)),t,u,w]) (List.range c) ⟨[],_,_,_,bN,bN,bN,rfl,by simp,rfl⟩ ?_) ?_
 ·rintro pre j post ρ e ⟨es,t,u,w,ht,hu,hw,hlen,hes,rfl⟩
  have hj:j<c:=List.mem_range.mp (by rw [e];simp)
  have hpl:pre.length<=c:=by have:=congrArg List.length e;simp at this;omega
  have mj:Ret eU [.lst false (I ns),.int (3+(j:Int))] (.int (mB ns (3+j))):=by
   have:=wY (ns:=ns) (k:=3+j) (by omega)
   rwa [show ((3+j:Nat):Int)=3+(j:Int) by omega] at this
  generalize mB ns (3+j)=v at mj
  obtain ⟨x,hx,hx1,hx2⟩:=aUc (v:=v / 4096)
  obtain ⟨a,ha1,ha2⟩:=aGe (v:=v) (m:=n) (by omega)
  obtain ⟨k,hk1,hk2⟩:=aGe (v:=v / 16) (m:=kd) (by omega)
  obtain ⟨b,hb1,hb2⟩:=aGe (v:=v / 64) (m:=n) (by omega)
  have f3:fits 4096=true:=cN (by decide) (by decide)
  have f4:fits 16=true:=cN (by decide) (by decide)
  have f5:fits 64=true:=cN (by decide) (by decide)
  have hn0:0<n:=by omega
  have hk0:0<kd:=by omega
  have hl':es.length<1000000:=by omega
  simp -implicitDefEqProofs [ht,hu,hw,nI,aP mj,hx,f3,f4,f5,hn0,hk0,ha2,hk2,hb2,hl']
  refine ⟨es ++ [⟨a,k,b,x⟩],_,aK,_,aK,_,aK,by simp [hlen],fun e he=>?_,?_,rfl,rfl,rfl⟩
  ·rcases List.mem_append.mp he with q | q
   ·exact hes e q
   ·simp at q;rw [q];exact ⟨ha1,hk1,hb1,hx1,hx2⟩
  ·simp [ME,E.d]
 ·rintro ρ ⟨es,t,u,w,ht,hu,hw,hlen,hes,rfl⟩
  obtain ⟨es',q1,q2,q3,q4⟩:=aT4 es
  have hl:es.length<=18:=by rw [hlen];simp;omega
  simp -implicitDefEqProofs [aP4 hl,q1]
  exact ⟨n,kd,es',rfl,⟨hn1,by omega,hk1,by omega,by omega,fun e he=>(hes e (q2 e he)).1,fun e he=>(hes e (q2 e he)).2.1,fun e he=>(hes e (q2 e he)).2.2.1,fun e he=>(hes e (q2 e he)).2.2.2,q4⟩,hk3⟩
@[simp] theorem aWd {i j:Nat} {f g:aQ} {ρ:Env}:aBy i j f g ρ=gW (f ρ) fun a _=>gW (g ρ) fun b _=>match a,b with
  | .int x,.int y=>if free ρ i && free (ρ.set i (.val (.int x))) j then .next ((ρ.set i (.val (.int x))).set j (.val (.int y))) else .bad
  | _,_=>.bad:=by
 unfold aBy gW
 cases f ρ with
 | ok x =>
  obtain ⟨x,c⟩:=x
  cases g ρ with
  | ok y=>obtain ⟨y,c'⟩:=y;cases x<;>cases y<;>rfl
  | exc _=>cases x<;>rfl
  | bad=>cases x<;>rfl
 | exc _=>rfl
 | bad=>rfl
def aCn:cG:=aZ (v2 kGt (aB 2) (vC (.int 0)))
def aF4:aX:=aBy 1 2 (aB 2) (v2 lH (aB 1) (aB 2))
theorem aDu {n a b:Nat} {d:D} (hb:0<b):bS aCn aF4 (n+1) [.val d,.val (.int a),.val (.int b)]=bS aCn aF4 n [.val d,.val (.int b),.val (.int (a % b:Nat))] :=
 aE8 (by simp [aCn,hb]) (by simp -implicitDefEqProofs [aF4,hb])
theorem aCv {n a:Nat} {d:D}:bS aCn aF4 (n+1) [.val d,.val (.int a),.val (.int (0:Nat))]=.next [.val d,.val (.int a),.val (.int (0:Nat))]:=zU (by simp [aCn])
theorem aFa:∀(k n a b:Nat) (d:D),b<2 ^ k->2 * k+1<=n->bS aCn aF4 n [.val d,.val (.int a),.val (.int b)]=.next [.val d,.val (.int (Nat.gcd a b:Nat)),.val (.int (0:Nat))]
 | 0,n,a,b,d,hb,hn=>by
  have:b=0:=by omega
  subst this
  obtain ⟨n,rfl⟩:∃n',n=n'+1:=⟨n - 1,by omega⟩
  rw [aCv,Nat.gcd_zero_right]
 | k+1,n,a,b,d,hb,hn=>by
  obtain ⟨n,rfl⟩:∃n',n=n'+1+1:=⟨n - 2,by omega⟩
  by_cases h0:b=0
  ·subst h0
   rw [aCv,Nat.gcd_zero_right]
  ·have hb0:0<b:=Nat.pos_of_ne_zero h0
   rw [aDu hb0]
   have hg:Nat.gcd a b=Nat.gcd b (a % b):=by rw [Nat.gcd_comm a b,Nat.gcd_rec b a,Nat.gcd_comm]
   rw [hg]
   by_cases h1:a % b=0
   ·rw [h1,aCv,Nat.gcd_zero_right]
   ·have hr:0<a % b:=Nat.pos_of_ne_zero h1
    rw [aDu hr]
    have hlt:a % b<b:=Nat.mod_lt _ hb0
    have hg2:Nat.gcd b (a % b)=Nat.gcd (a % b) (b % (a % b)):=by rw [Nat.gcd_comm b,Nat.gcd_rec (a % b) b,Nat.gcd_comm]
    rw [hg2]
    refine aFa k n _ _ d ?_ (by omega)
    have h3:b % (a % b)<a % b:=Nat.mod_lt _ hr
    have h4:b=(a % b) * (b / (a % b))+b % (a % b):=(Nat.div_add_mod b (a % b)).symm
    have h5:1<=b / (a % b):=(Nat.one_le_div_iff hr).mpr (Nat.le_of_lt hlt)
    have h6:a % b<=(a % b) * (b / (a % b)):=Nat.le_mul_of_pos_right _ h5
    have hp:2 ^ (k+1)=2 * 2 ^ k:=by rw [Nat.pow_succ,Nat.mul_comm]
    omega
theorem rN {x:Fr} (h:Gd x) (hb:x.2<=1000):Ret eN [fD x] (.bl true):=by
 refine lS ?_
 obtain ⟨p,q⟩:=x
 obtain ⟨b,rfl⟩:∃b:Nat,q=(b:Int):=⟨q.toNat,by have:=h.p;dsimp only at this;omega⟩
 have hpos:0<b:=by have:=h.p;dsimp only at this;omega
 have hb20:b<2 ^ 21:=by dsimp only at hb;omega
 have hg:Nat.gcd p.natAbs b=1:=h.g
 have lp:=aFa 21 fuel p.natAbs b (fD (p,(b:Int))) hb20 (by decide)
 rw [hg] at lp
 unfold aCn aF4 at lp
 have i1:∀c,jU "tuple" (fD (p,(b:Int)),c)=.ok (.bl true,true):=fun _=>rfl
 have i2:∀c,dN [(fD (p,(b:Int)),c)]=.ok (.int 2,true):=fun _=>rfl
 simp -implicitDefEqProofs [rO,entry,cB,eJ,i1,i2,aP (wX p),aP (wX (b:Int)),aD2,lp,hpos]
section
variable {es:List E} {n kd:Nat}
theorem aOb:∀ {ring:T0} {u:Nat},chB es u ring=true ↔ ∀k,k<ring.length->(ed es (nt ring k)).a=if k=0 then u else (ed es (nt ring (k - 1))).b
 | [],u=>by simp [chB]
 | x::r,u=>by
  have ih:=aOb (ring:=r) (u:=(ed es x).b)
  show (decide ((ed es x).a=u) && chB es (ed es x).b r)=true ↔ _
  rw [Bool.and_eq_true,decide_eq_true_eq,ih]
  constructor
  ·rintro ⟨h1,h2⟩ k hk
   cases k with
   | zero=>simpa [nt] using h1
   | succ k =>
    have:=h2 k (by simpa using hk)
    cases k with
    | zero=>simpa [nt] using this
    | succ k=>simpa [nt] using this
  ·intro h
   refine ⟨by simpa [nt] using h 0 (by simp),fun k hk=>?_⟩
   have:=h (k+1) (by simpa using hk)
   cases k with
   | zero=>simpa [nt] using this
   | succ k=>simpa [nt] using this
theorem aDc {ring:T0} (h:ring ≠ []):ring.getLast?=some (lst ring):=by
 cases e:ring.getLast? with
 | none=>rw [List.getLast?_eq_none_iff] at e;exact absurd e h
 | some y=>unfold lst;rw [List.getLastD_eq_getLast?,e];rfl
theorem aLz {ring:T0} {k:Nat} {b c:Bool} (hk:k<ring.length):kIx (.lst false (NN ring),b) (.int ((k:Int) - 1),c)=.ok (nI (if k=0 then lst ring else nt ring (k - 1)),b):=by
 cases k with
 | zero =>
  rw [if_pos rfl,show ((0:Nat):Int) - 1 = -1 from rfl]
  exact nG (aDc fun z=>by rw [z] at hk;simp at hk)
 | succ k =>
  rw [if_neg (by omega),show ((k+1:Nat):Int) - 1=(k:Int) by omega]
  exact aAv (by omega)
theorem aIq (h:OkM n kd es) {pr:Fr} {ring:T0} {M:Y0} (P:LP es n pr ring M):Ret qC [dM n kd es,fD pr,.lst false (NN ring)] (.bl true):=by
 refine lS ?_
 have hn2:=h.n2
 have hlen:=P.len
 by_cases hr:ring=[]
 ·have e1:∀b c,kEq false (fD pr,b) (.tup [.int 0,.int 1],c)=.ok (.bl true,true):=fun b c=>by
   have:=aIh (n:=false) (x:=pr) (y:=(0,1)) (b:=b) (c:=c)
   rw [decide_eq_true (P.nil hr)] at this;exact this
  have e2:∀b c,kEq false (.lst false (NN ring),b) (.lst true [],c)=.ok (.bl true,true):=fun b c=>by rw [eq_nil,decide_eq_true hr]
  simp -implicitDefEqProofs [tE,entry,e2,e1]
 ·obtain ⟨hpr,u,hu,hl⟩:=P.so hr
  have hlt:=hl.lt
  have hub:=sQ hl hr
  have hix:=aOb.mp (aH2 hl)
  simp -implicitDefEqProofs [tE,entry,eq_nil,hr,dS (show ring.length<=1000000 by omega)]
  refine bV (cV (fun pre ρ=>∃t,np t/\ρ=[.val (dM n kd es),.val (fD pr),.val (.lst false (NN ring)),t,.un]) (List.range ring.length) ⟨_,bN,rfl⟩ ?_) ?_
  ·rintro pre k post ρ e ⟨t,ht,rfl⟩
   obtain ⟨_,hk⟩:=jJ e
   have p1:=aLz (ring:=ring) (b:=false) (c:=true) hk
   have p2:=aAv (o:=false) (xs:=ring) (b:=false) (c:=false) hk
   have lp:(if k=0 then lst ring else nt ring (k - 1))<es.length:=by
    split
    ·exact hlt _ (List.mem_of_getLast? (aDc hr))
    ·exact hlt _ (qH (by omega))
   have m1:=fB (es:=es) (b:=false) (c:=false) lp
   have m2:=fB (es:=es) (b:=false) (c:=false) (hlt _ (qH hk))
   have eqb:(((ed es (if k=0 then lst ring else nt ring (k - 1))).b:Nat):Int)=((ed es (nt ring k)).a:Int):=by
    have:=hix k hk
    by_cases hk0:k=0
    ·rw [if_pos hk0] at this ⊢;omega
    ·rw [if_neg hk0] at this ⊢;omega
   simp -implicitDefEqProofs only [kA,lE,gD ht,if_true,kK,List.set,vF,pH,pQ,nA,iR,bR,mG,aIf,aM5,p1,p2,nI,m1,m2,E_2,E_0,eq_int,eqb,decide_true,Bool.not_true,aAr,mS,mR]
   exact ⟨_,aK,rfl⟩
  ·rintro ρ ⟨t,ht,rfl⟩
   obtain ⟨d,hd,pl,rfl,hpl⟩:=rT h
   obtain ⟨x,xs,rfl⟩:∃x xs,ring=x::xs:=by
    cases ring with
    | nil=>exact absurd rfl hr
    | cons x xs=>exact ⟨x,xs,rfl⟩
   have hx:x<es.length:=hl.1
   have hxa:(ed es x).a=u:=hl.2.1
   have hmem:(ed es x).a∈pl:=by rw [hxa];exact (hpl u).mpr hu
   have hc:=wU h.c hlt
   have hli:(0:Int)<((x::xs).length:Int):=by rw [List.length_cons];omega
   have hxx:=aCw (a:=cs es (x::xs)) hli
   rw [<- hpr] at hxx
   have ec:bQ (eZ (aB 2)) 1 [0] (bA 0) bY (v2 kIx (v2 kIx (v2 kIx (aB 1) (vC (.int 2))) (aB 0)) (vC (.int 3))) [.val (dM n kd es),.val (fD pr),.val (.lst false (NN (x::xs))),t,.un]=.ok (.lst true (I ((x::xs).map fun x=>(ed es x).c)),true):=by
    rw [gN [.val (dM n kd es)] (x::xs) nI (fun x=>D.int (ed es x).c) (fun _=>false) (by simp;rfl) (by omega) (by simp [gZ]) ?_ (.inr fun _ _=>rfl)]
    ·simp [I]
    ·intro y hy
     refine ⟨?_,rfl⟩
     simp -implicitDefEqProofs [nI,fB (hlt y hy)]
   have esum:yL [(.lst true (I ((x::xs).map fun x=>(ed es x).c)),true)]=.ok (.int (cs es (x::xs)),true):=by
    show (match dR (I _) with | some ns=>R.ok (D.int ns.sum,true) | none=>.bad)=_
    rw [sO];rfl
   generalize I ((x::xs).map fun x=>(ed es x).c)=IL at ec esum
   have p0:=P.p0
   have pb:=P.pb
   have qb:=P.qb
   have qp:=P.gd.p
   have f1:fits (cs es (x::xs))=true:=fit (A:=1000000) (by omega)
   have f2:fits pr.2=true:=fit (A:=20) (by omega)
   have f3:fits pr.1=true:=fit (A:=20000) (by omega)
   have f4:fits ((x::xs).length:Int)=true:=fit (A:=20) (by omega)
   have ein:∀b c,kIn false (.int ((ed es x).a:Int),b) (.lst true (NN pl),c)=.ok (.bl true,true):=fun b c=>by rw [aAh];simp [hmem]
   have m1:=fB (es:=es) (b:=false) (c:=false) hx
   have n0:∀b c,kIx (.lst false (NN (x::xs)),b) (.int 0,c)=.ok (nI x,b):=fun b c=>by rw [aSz,aWe];rfl
   have eqx:decide (cs es (x::xs) * pr.2=pr.1 * ((x::xs).length:Int))=true:=decide_eq_true (by omega)
   simp -implicitDefEqProofs only [dB,qZ,aDf,iY,kY,ec,bR,esum,jH,Bool.true_or,lE,gD bN,Bool.and_self,if_true,List.set,bP,uM,aMy,pQ,nA,iR,aIf,mG,n0,nI,m1,E_0,tZ,List.map,D.frzs,aQh,List.all,oC,aDz,aP hd,ein,aF6,aWs,aWr,f1,f2,f3,f4,aI2,uF,eq_int,eqx,nC]
   rfl
theorem uZ {Ma Mb p q c:Int} (hq:0<q) (h:q * c - p+Mb<=Ma):(c * (fr Mb q).2+(fr Mb q).1) * q * (fr Ma q).2<=((fr Ma q).1 * q+p * (fr Ma q).2) * (fr Mb q).2:=by
 have x1:=aCw (a:=Ma) hq
 have x2:=aCw (a:=Mb) hq
 have g1:=(qE (a:=Ma) hq).p
 have g2:=(qE (a:=Mb) hq).p
 generalize fr Ma q=s at *
 generalize fr Mb q=t at *
 have e1:(c * t.2+t.1) * q * s.2=(q * c+Mb) * (s.2 * t.2):=by
  have:(c * t.2+t.1) * q=(q * c+Mb) * t.2:=by
   rw [Int.add_mul,x2,Int.add_mul,Int.mul_assoc,Int.mul_comm t.2 q,<- Int.mul_assoc,Int.mul_comm c q]
  rw [this,Int.mul_assoc,Int.mul_comm t.2 s.2]
 have e2:(s.1 * q+p * s.2) * t.2=(Ma+p) * (s.2 * t.2):=by
  rw [x1,<- Int.add_mul,Int.mul_assoc]
 rw [e1,e2]
 exact Int.mul_le_mul_of_nonneg_right (by omega) (Int.mul_nonneg (by omega) (by omega))
theorem aIl {q:Int} {M:Y0} {v:Nat} (h:v<M.length):ft (pf q M) v=fr (gt M v) q:=by
 unfold ft pf gt
 rw [List.getD_eq_getElem?_getD,List.getElem?_map,List.getD_eq_getElem?_getD,List.getElem?_eq_getElem h];rfl
theorem aNe {pr:Fr} {ring:T0} {M:Y0} (P:LP es n pr ring M):∀x∈pf pr.2 M,Ok1 x 1000000/\0<=x.1:=by
 intro x hx
 obtain ⟨m,hm,rfl⟩:=List.mem_map.mp hx
 obtain ⟨v,hv,e⟩:=List.getElem_of_mem hm
 have e2:gt M v=m:=by unfold gt;simp [List.getD_eq_getElem?_getD,List.getElem?_eq_getElem hv,e]
 have h1:=P.pu.nn v
 have h2:=P.pu.bd v
 rw [e2] at h1 h2
 have h3:=aEa (a:=m) (b:=pr.2)
 have h4:=aEi (a:=m) P.gd.p
 have:=P.qb
 exact ⟨⟨qE P.gd.p,by omega,by omega⟩,aOk h1⟩
theorem aLn (h:OkM n kd es) {pr:Fr} {ring:T0} {M:Y0} (P:LP es n pr ring M):ipB es n pr (pf pr.2 M)=true:=by
 have hl:=P.pu.len
 unfold ipB
 rw [decide_eq_true (by simp [pf,hl]),Bool.true_and,Bool.and_eq_true,List.all_eq_true,List.all_eq_true]
 refine ⟨fun x hx=>decide_eq_true (aNe P x hx).2,fun e he=>?_⟩
 cases hr:rB es e.a with
 | false=>rfl
 | true =>
  have:=uZ P.gd.p (P.pu.rel e he (aCf.mp hr))
  rw [<- aIl (v:=e.a) (by rw [hl];exact h.a e he),<- aIl (v:=e.b) (by rw [hl];exact h.b e he)] at this
  unfold paid
  rw [decide_eq_false (by omega)];rfl
theorem aL1 {pr:Fr} {ring:T0} {M:Y0} (P:LP es n pr ring M):rsB es pr (ring.map fun k:Nat=>(k:Int))=true:=by
 have e1:rgN (ring.map fun k:Nat=>(k:Int))=ring:=by unfold rgN;rw [List.map_map,show (Int.toNat ∘ fun k:Nat=>(k:Int))=id from funext fun k=>rfl,List.map_id]
 unfold rsB
 by_cases hr:ring=[]
 ·rw [if_pos (by rw [hr];rfl),P.nil hr];rfl
 ·obtain ⟨hpr,u,hu,hl⟩:=P.so hr
  rw [if_neg (by simpa using hr),Bool.and_eq_true]
  refine ⟨?_,by rw [e1,List.length_map];exact decide_eq_true hpr⟩
  unfold ldB
  rw [e1,sQ hl hr,aCf.mpr hu,aH2 hl,Bool.and_eq_true]
  refine ⟨?_,rfl⟩
  unfold inB
  rw [List.all_map,List.all_eq_true]
  intro x hx
  have:=hl.lt x hx
  show (decide (0<=(x:Int)) && decide ((x:Int)<=(es.length:Int) - 1))=true
  rw [decide_eq_true (by omega),decide_eq_true (by omega)];rfl
end
end VL.QQ
end
section
namespace VL.QQ
open VL PySem L2 PY K10 K11 K20
def sx1:aX:=(aY 1 (xOf (bB jL (aE (aB 0) (aE (vC (.int 0)) (aE (vC (.int 6)) aN))))))
def sx2:aX:=(aY 2 (fY gI (aE (aB 1) aN)))
def sx3:aX:=(sIf (gP (cW (dC (v1 (jU "tuple") (aB 2)))) (gP (aZ (v2 (kEq true) (vCB dN (aE (aB 2) aN)) (vC (.int 3)))) (cW (dC (bB eN (aE (v2 kIx (aB 2) (vC (.int 0))) aN)))))) (bX (xOf (vC (.bl false)))) bJ)
def sx4:aX:=(kO [3,4,5] (xOf (aB 2)))
def sx5:aX:=(sIf (gP (cW (dC (vCB aGv (aE (bQ (eZ (aB 5)) 1 [] (bA 0) bY (oW (bB eN (aE (aB 0) aN)) (v2 kGe (v2 kIx (aB 0) (vC (.int 0))) (vC (.int 0))))) aN)))) (aZ (v2 (kEq true) (vCB dN (aE (aB 5) aN)) (v2 kIx (aB 1) (vC (.int 0)))))) (bX (xOf (vC (.bl false)))) bJ)
def sx6:aX:=(aY 6 (xOf (bB gJ (aE (aB 1) aN))))
def sx7:aX:=(aY 7 (xOf (bQ (iR1 (aE (v2 kIx (aB 1) (vC (.int 0))) aN)) 1 [6] (bA 0) (aZ (v2 (kIn true) (aB 0) (aB 1))) (aB 0))))
def sx8:aX:=(nO [7] (sIf (gP (cW (dC (bB qC (aE (aB 1) (aE (aB 3) (aE (aB 4) aN)))))) (dC (vCB xN (aE (bQ (eZ (aB 7)) 1 [5] (bA 0) bY (v2 (kEq true) (v2 kIx (aB 1) (aB 0)) (nP (aE (vC (.int 0)) (aE (vC (.int 1)) aN))))) aN)))) (bX (xOf (vC (.bl false)))) bJ))
def sx9:aX:=(fW (eZ (v2 kIx (aB 1) (vC (.int 2)))) (dH [8,9,10,11]) (aS (aY 12 (xOf (v2 cJ (v2 bH (v2 kIx (v2 kIx (aB 5) (aB 8)) (vC (.int 0))) (v2 kIx (aB 3) (vC (.int 1)))) (v2 bH (v2 kIx (aB 3) (vC (.int 0))) (v2 kIx (v2 kIx (aB 5) (aB 8)) (vC (.int 1))))))) (aS (aY 13 (xOf (v2 bH (v2 cJ (v2 bH (aB 11) (v2 kIx (v2 kIx (aB 5) (aB 10)) (vC (.int 1)))) (v2 kIx (v2 kIx (aB 5) (aB 10)) (vC (.int 0)))) (v2 kIx (aB 3) (vC (.int 1)))))) (sIf (lK (aZ (v2 (kIn false) (aB 8) (aB 6))) (aZ (v2 kLt (v2 bH (aB 12) (v2 kIx (v2 kIx (aB 5) (aB 10)) (vC (.int 1)))) (v2 bH (aB 13) (v2 kIx (v2 kIx (aB 5) (aB 8)) (vC (.int 1))))))) (bX (xOf (vC (.bl false)))) bJ))))
def aPn:aX:=(fW (iR1 (aE (vC (.int 4)) aN)) (bA 14) (aS (aY 15 (xOf (bB pS (aE (aB 0) (aE (v2 cJ (vC (.int 40)) (v2 bH (vC (.int 12)) (aB 14))) (aE (aB 1) (aE (vC (.int 10)) aN))))))) (aS (nO [15] (aY 16 (xOf (vIf (dC (aB 15)) (v2 kIx (v2 kIx (v2 kIx (aB 1) (vC (.int 2))) (v2 kIx (aB 15) (v1 (kU fun i=>.int (-i)) (vC (.int 1))))) (vC (.int 2))) (vC (.int 0)))))) (aS (aY 11 (xOf (vCB yL (aE (bQ (eZ (aB 15)) 1 [1] (bA 0) bY (v2 kIx (v2 kIx (v2 kIx (aB 1) (vC (.int 2))) (aB 0)) (vC (.int 3)))) aN)))) (aS (aY 12 (xOf (v2 cJ (v2 bH (v2 kIx (v2 kIx (aB 5) (vC (.int 0))) (vC (.int 0))) (v2 kIx (aB 3) (vC (.int 1)))) (v2 bH (v2 bH (vCB dN (aE (aB 15) aN)) (v2 kIx (aB 3) (vC (.int 0)))) (v2 kIx (v2 kIx (aB 5) (vC (.int 0))) (vC (.int 1))))))) (aS (aY 13 (xOf (v2 bH (v2 cJ (v2 bH (aB 11) (v2 kIx (v2 kIx (aB 5) (aB 16)) (vC (.int 1)))) (v2 kIx (v2 kIx (aB 5) (aB 16)) (vC (.int 0)))) (v2 kIx (aB 3) (vC (.int 1)))))) (sIf (aZ (v2 kGt (v2 bH (aB 13) (v2 kIx (v2 kIx (aB 5) (vC (.int 0))) (vC (.int 1)))) (v2 bH (aB 12) (v2 kIx (v2 kIx (aB 5) (aB 16)) (vC (.int 1)))))) (bX (xOf (vC (.bl false)))) bJ)))))))
def aUj:aX:=(bX (fY gF (aE (aB 1) (aE (aB 3) (aE (vCB pF (aE (aB 4) aN)) (aE (vCB pF (aE (aB 5) aN)) aN))))))
theorem aF3:K20.b_law=(aS sx1 (aS sx2 (aS sx3 (aS sx4 (aS sx5 (aS sx6 (aS sx7 (aS sx8 (aS sx9 (aS aPn aUj)))))))))):=rfl
def wZ (n:Nat) (pl:T0):T0:=(List.range n).filter fun k=>!decide (k∈pl)
theorem law_ok20 {ns:Y0}:Ret K20.f_law [.lst false (I ns)] (.bl true):=by
 refine lS ?_
 obtain ⟨dm,hm,n,kd,es,rfl,h,hk3⟩:=aCc (ns:=ns)
 have hn1:=h.n1
 have hn2:=h.n2
 obtain ⟨T,hT,pr,ring,M,rfl,P⟩:=vY h
 have hlen:=P.len
 have p0:=P.p0
 have pb:=P.pb
 have qb:=P.qb
 have qp:=P.gd.p
 have ml:=P.pu.len
 have hok:=aNe P
 have rsp:=wG h (pr:=pr) ⟨P.gd,by omega,qb⟩ (zs:=ring.map fun k:Nat=>(k:Int)) (by simp;omega) (xs:=pf pr.2 M) fun x hx=>⟨(hok x hx).1.g,Nat.le_trans (hok x hx).1.t (by decide),(hok x hx).1.b⟩
 rw [aL1 P,aLn h P] at rsp
 have eNI:I (ring.map fun k:Nat=>(k:Int))=NN ring:=by simp [I,NN]
 rw [eNI] at rsp
 obtain ⟨dr',hdr,pl,rfl,hpl⟩:=rT h
 rw [aF3]
 have e0:entry 17 [.lst false (I ns)]=[.val (.lst false (I ns)),.un,.un,.un,.un,.un,.un,.un,.un,.un,.un,.un,.un,.un,.un,.un,.un]:=by simp [entry]
 rw [e0]
 have xl:(pf pr.2 M).length=n:=by simp [pf,ml]
 have hft:∀v,v<n->ft (pf pr.2 M) v=fr (gt M v) pr.2:=fun v hv=>aIl (by omega)
 have hfo:∀v,v<n->Ok1 (ft (pf pr.2 M) v) 1000000:=fun v hv=>(hok _ (aB6 (by omega))).1
 have hfp:∀v,v<n->(ft (pf pr.2 M) v).1=0->True:=fun _ _ _=>trivial
 generalize eX:pf pr.2 M=xs at *
 have a1:sx1 [.val (.lst false (I ns)),.un,.un,.un,.un,.un,.un,.un,.un,.un,.un,.un,.un,.un,.un,.un,.un]=.next [.val (.lst false (I ns)),.val (dM n kd es),.un,.un,.un,.un,.un,.un,.un,.un,.un,.un,.un,.un,.un,.un,.un]:=by
  simp -implicitDefEqProofs [sx1,aP hm]
 rw [dB,a1,bP]
 have a2:sx2 [.val (.lst false (I ns)),.val (dM n kd es),.un,.un,.un,.un,.un,.un,.un,.un,.un,.un,.un,.un,.un,.un,.un]=.next [.val (.lst false (I ns)),.val (dM n kd es),.val (.tup [fD pr,.lst false (NN ring),.lst false (FF xs)]),.un,.un,.un,.un,.un,.un,.un,.un,.un,.un,.un,.un,.un,.un]:=by
  simp -implicitDefEqProofs [sx2,iB hT]
 rw [dB,a2,bP]
 have a3:sx3 [.val (.lst false (I ns)),.val (dM n kd es),.val (.tup [fD pr,.lst false (NN ring),.lst false (FF xs)]),.un,.un,.un,.un,.un,.un,.un,.un,.un,.un,.un,.un,.un,.un]=.next [.val (.lst false (I ns)),.val (dM n kd es),.val (.tup [fD pr,.lst false (NN ring),.lst false (FF xs)]),.un,.un,.un,.un,.un,.un,.un,.un,.un,.un,.un,.un,.un,.un]:=by
  simp -implicitDefEqProofs [sx3,jU,qR,aFs,cB,eJ,rZ,aP (rN P.gd (by omega))]
 rw [dB,a3,bP]
 have a4:sx4 [.val (.lst false (I ns)),.val (dM n kd es),.val (.tup [fD pr,.lst false (NN ring),.lst false (FF xs)]),.un,.un,.un,.un,.un,.un,.un,.un,.un,.un,.un,.un,.un,.un]=.next [.val (.lst false (I ns)),.val (dM n kd es),.val (.tup [fD pr,.lst false (NN ring),.lst false (FF xs)]),.val (fD pr),.val (.lst false (NN ring)),.val (.lst false (FF xs)),.un,.un,.un,.un,.un,.un,.un,.un,.un,.un,.un]:=by
  simp -implicitDefEqProofs [sx4]
 rw [dB,a4,bP]
 generalize (D.tup [fD pr,.lst false (NN ring),.lst false (FF xs)])=T
 have c5:bQ (eZ (aB 5)) 1 [] (bA 0) bY (oW (bB eN (aE (aB 0) aN)) (v2 kGe (v2 kIx (aB 0) (vC (.int 0))) (vC (.int 0)))) [.val (.lst false (I ns)),.val (dM n kd es),.val T,.val (fD pr),.val (.lst false (NN ring)),.val (.lst false (FF xs)),.un,.un,.un,.un,.un,.un,.un,.un,.un,.un,.un]=.ok (.lst true (xs.map fun _=>D.bl true),true):=by
  rw [gN [] xs fD (fun _=>D.bl true) (fun _=>true) (by simp;rfl) (by omega) rfl ?_ (.inl rfl)]
  intro x hx
  have h1:=hok x hx
  refine ⟨?_,rfl⟩
  simp -implicitDefEqProofs [aP (rN h1.1.g (by have:=h1.1.b;omega)),h1.2]
 have k5:aGv [(.lst true (xs.map fun _=>D.bl true),true)]=.ok (.bl true,true):=by rw [aGg (f:=fun _=>true)];simp
 have a5:sx5 [.val (.lst false (I ns)),.val (dM n kd es),.val T,.val (fD pr),.val (.lst false (NN ring)),.val (.lst false (FF xs)),.un,.un,.un,.un,.un,.un,.un,.un,.un,.un,.un]=.next [.val (.lst false (I ns)),.val (dM n kd es),.val T,.val (fD pr),.val (.lst false (NN ring)),.val (.lst false (FF xs)),.un,.un,.un,.un,.un,.un,.un,.un,.un,.un,.un]:=by
  generalize (xs.map fun _=>D.bl true)=bl at c5 k5
  simp -implicitDefEqProofs [sx5,c5,k5,cB,eJ,xl,nI]
 rw [dB,a5,bP]
 have a6:sx6 [.val (.lst false (I ns)),.val (dM n kd es),.val T,.val (fD pr),.val (.lst false (NN ring)),.val (.lst false (FF xs)),.un,.un,.un,.un,.un,.un,.un,.un,.un,.un,.un]=.next [.val (.lst false (I ns)),.val (dM n kd es),.val T,.val (fD pr),.val (.lst false (NN ring)),.val (.lst false (FF xs)),.val (.lst true (NN pl)),.un,.un,.un,.un,.un,.un,.un,.un,.un,.un]:=by
  simp -implicitDefEqProofs [sx6,aP hdr]
 rw [dB,a6,bP]
 have hbare:wZ n pl=wZ n pl:=rfl
 generalize hbare':wZ n pl=bare at hbare
 clear hbare
 have hbare:bare=wZ n pl:=hbare'.symm
 have hb:∀v∈bare,v<n/\¬ Reach es v:=fun v hv=>by
  rw [hbare] at hv
  unfold wZ at hv
  obtain ⟨h1,h2⟩:=List.mem_filter.mp hv
  refine ⟨List.mem_range.mp h1,fun z=>?_⟩
  rw [decide_eq_true ((hpl v).mpr z)] at h2;cases h2
 have c7:bQ (iR1 (aE (v2 kIx (aB 1) (vC (.int 0))) aN)) 1 [6] (bA 0) (aZ (v2 (kIn true) (aB 0) (aB 1))) (aB 0) [.val (.lst false (I ns)),.val (dM n kd es),.val T,.val (fD pr),.val (.lst false (NN ring)),.val (.lst false (FF xs)),.val (.lst true (NN pl)),.un,.un,.un,.un,.un,.un,.un,.un,.un,.un]=.ok (.lst true (NN bare),true):=by
  rw [aE4 [.val (.lst false (NN pl))] (List.range n) nI nI (fun _=>false) (fun k=>!decide (k∈pl)) (by simp -implicitDefEqProofs [nI,dS (show n<=1000000 by omega)]) (by simp;omega) (by simp [gZ]) ?_ (fun _=>rfl)]
  ·rw [hbare];rfl
  ·intro k _
   refine ⟨?_,rfl,rfl⟩
   simp -implicitDefEqProofs [nI,aAh]
 have a7:sx7 [.val (.lst false (I ns)),.val (dM n kd es),.val T,.val (fD pr),.val (.lst false (NN ring)),.val (.lst false (FF xs)),.val (.lst true (NN pl)),.un,.un,.un,.un,.un,.un,.un,.un,.un,.un]=.next [.val (.lst false (I ns)),.val (dM n kd es),.val T,.val (fD pr),.val (.lst false (NN ring)),.val (.lst false (FF xs)),.val (.lst true (NN pl)),.val (.lst true (NN bare)),.un,.un,.un,.un,.un,.un,.un,.un,.un]:=by
  simp -implicitDefEqProofs [sx7,c7]
 rw [dB,a7,bP]
 have c8:bQ (eZ (aB 7)) 1 [5] (bA 0) bY (v2 (kEq true) (v2 kIx (aB 1) (aB 0)) (nP (aE (vC (.int 0)) (aE (vC (.int 1)) aN)))) [.val (.lst false (I ns)),.val (dM n kd es),.val T,.val (fD pr),.val (.lst false (NN ring)),.val (.lst false (FF xs)),.val (.lst true (NN pl)),.val (.lst false (NN bare)),.un,.un,.un,.un,.un,.un,.un,.un,.un]=.ok (.lst true (bare.map fun _=>D.bl false),true):=by
  rw [gN [.val (.lst false (FF xs))] bare nI (fun _=>D.bl false) (fun _=>true) (by simp;rfl) (by rw [hbare];unfold wZ;have:=List.length_filter_le (fun k=>!decide (k∈pl)) (List.range n);simp at this ⊢;omega) (by simp [gZ]) ?_ (.inr fun _ _=>rfl)]
  intro v hv
  obtain ⟨v1,v2⟩:=hb v hv
  refine ⟨?_,rfl⟩
  have e1:=vM (o:=false) (xs:=xs) (b:=false) (c:=false) (show v<xs.length by omega)
  have e2:ft xs v=(0,1):=by
   rw [hft v v1,P.pu.zz v v2]
   have z0:=aCw (a:=0) qp
   rw [Int.zero_mul] at z0
   have z1:(fr 0 pr.2).1=0:=(Int.mul_eq_zero.mp z0).resolve_right (by omega)
   exact aTi (qE qp) ⟨by decide,by decide⟩ (by rw [z1];simp)
  rw [e2] at e1
  have e3:∀b c,kEq true (fD (0,1),b) (.tup [.int 0,.int 1],c)=.ok (.bl false,true):=fun b c=>aIh (n:=true) (x:=(0,1)) (y:=(0,1))
  simp -implicitDefEqProofs [nI,e1,e3]
 have k8:xN [(.lst true (bare.map fun _=>D.bl false),true)]=.ok (.bl false,true):=by rw [aKe (f:=fun _=>false)];simp
 have a8:sx8 [.val (.lst false (I ns)),.val (dM n kd es),.val T,.val (fD pr),.val (.lst false (NN ring)),.val (.lst false (FF xs)),.val (.lst true (NN pl)),.val (.lst true (NN bare)),.un,.un,.un,.un,.un,.un,.un,.un,.un]=.next [.val (.lst false (I ns)),.val (dM n kd es),.val T,.val (fD pr),.val (.lst false (NN ring)),.val (.lst false (FF xs)),.val (.lst true (NN pl)),.val (.lst false (NN bare)),.un,.un,.un,.un,.un,.un,.un,.un,.un]:=by
  generalize (bare.map fun _=>D.bl false)=bl at c8 k8
  simp -implicitDefEqProofs [sx8,c8,k8,cB,eJ,aP (aIq h P)]
 rw [dB,a8,bP]
 have f2:fits pr.2=true:=fit (A:=20) (by omega)
 have f3:fits pr.1=true:=fit (A:=20000) (by omega)
 have fb:∀v,v<n->fits (ft xs v).1=true/\fits (ft xs v).2=true:=fun v hv=>⟨fit (hfo v hv).t,fit (A:=20) (by have:=(hfo v hv).b;have:=(hfo v hv).g.p;omega)⟩
 have bdH:∀v (k:Int),v<n->k.natAbs<=20000000->((ft xs v).1 * pr.2+k * (ft xs v).2).natAbs<=1000000 * 20+20000000 * 20:=fun v k hv hk=>zR (iM (hfo v hv).t (by omega)) (iM hk (by have:=(hfo v hv).b;have:=(hfo v hv).g.p;omega))
 have bdN:∀v (c:Int),v<n->c.natAbs<=1000000->((c * (ft xs v).2+(ft xs v).1) * pr.2).natAbs<=(1000000 * 20+1000000) * 20/\(c * (ft xs v).2+(ft xs v).1).natAbs<=1000000 * 20+1000000:=fun v c hv hc=>by
  have h1:=zR (iM hc (show (ft xs v).2.natAbs<=20 by have:=(hfo v hv).b;have:=(hfo v hv).g.p;omega)) (hfo v hv).t
  exact ⟨iM h1 (by omega),h1⟩
 have q9:out (sx9 [.val (.lst false (I ns)),.val (dM n kd es),.val T,.val (fD pr),.val (.lst false (NN ring)),.val (.lst false (FF xs)),.val (.lst true (NN pl)),.val (.lst false (NN bare)),.un,.un,.un,.un,.un,.un,.un,.un,.un])
   (fun ρ=>∃t8 t9 t10 t11 t12 t13,np t8/\np t9/\np t10/\np t11/\np t12/\np t13/\ρ=[.val (.lst false (I ns)),.val (dM n kd es),.val T,.val (fD pr),.val (.lst false (NN ring)),.val (.lst false (FF xs)),.val (.lst true (NN pl)),.val (.lst false (NN bare)),t8,t9,t10,t11,t12,t13,.un,.un,.un]) (fun d=>d=.bl true):=by
  unfold sx9
  simp -implicitDefEqProofs only [aIz,aK6,pQ,nA,iR,mG,bR,aIf,aRu,oC,uQ,aJn,Bool.not_false,Bool.and_self,if_true,aL6,aI3]
  refine cV (φ:=E.d) (fun pre ρ=>∃t8 t9 t10 t11 t12 t13,np t8/\np t9/\np t10/\np t11/\np t12/\np t13/\ρ=[.val (.lst false (I ns)),.val (dM n kd es),.val T,.val (fD pr),.val (.lst false (NN ring)),.val (.lst false (FF xs)),.val (.lst true (NN pl)),.val (.lst false (NN bare)),t8,t9,t10,t11,t12,t13,.un,.un,.un]) es ⟨_,_,_,_,_,_,bN,bN,bN,bN,bN,bN,rfl⟩ ?_
  rintro pre e post ρ ee ⟨t8,t9,t10,t11,t12,t13,h8,h9,h10,h11,h12,h13,rfl⟩
  have he:e∈es:=by rw [ee];simp
  have ha:=h.a e he
  have hbb:=h.b e he
  have hc:=h.c e he
  have x1:=vM (o:=false) (xs:=xs) (b:=false) (c:=false) (show e.a<xs.length by omega)
  have x2:=vM (o:=false) (xs:=xs) (b:=false) (c:=false) (show e.b<xs.length by omega)
  have g1:=fb e.a ha
  have g2:=fb e.b hbb
  have fc:fits e.c=true:=fit (A:=1000) (by omega)
  have fH:=fit (bdH e.a pr.1 ha (by omega))
  have fN:=fit (bdN e.b e.c hbb (by omega)).1
  have fN2:=fit (bdN e.b e.c hbb (by omega)).2
  have ein:∀b c,kIn false (.int (e.a:Int),b) (.lst true (NN pl),c)=.ok (.bl (decide (e.a∈pl)),true):=fun b c=>by rw [aAh];rfl
  have pay:e.a∈pl->¬ ((ft xs e.a).1 * pr.2+pr.1 * (ft xs e.a).2) * (ft xs e.b).2<(e.c * (ft xs e.b).2+(ft xs e.b).1) * pr.2 * (ft xs e.a).2:=fun hp=>by
   have:=uZ qp (P.pu.rel e he ((hpl _).mp hp))
   rw [<- hft _ ha,<- hft _ hbb] at this
   omega
  by_cases hp:e.a∈pl
  ·have:=pay hp
   simp -implicitDefEqProofs [aNa,h8,h9,h10,h11,h12,h13,x1,x2,g1.1,g1.2,g2.1,g2.2,f2,f3,fc,fH,fN,fN2,ein,hp,this]
   exact ⟨_,aK,_,aK,_,aK,_,aK,_,aK,_,aK,rfl,rfl,rfl,rfl,rfl,rfl⟩
  ·simp -implicitDefEqProofs [aNa,h8,h9,h10,h11,h12,h13,x1,x2,g1.1,g1.2,g2.1,g2.2,f2,f3,fc,fH,fN,fN2,ein,hp]
   exact ⟨_,aK,_,aK,_,aK,_,aK,_,aK,_,aK,rfl,rfl,rfl,rfl,rfl,rfl⟩
 rw [dB]
 refine bV q9 ?_
 rintro ρ ⟨t8,t9,t10,t11,t12,t13,h8,h9,h10,h11,h12,h13,rfl⟩
 have q10:out (aPn [.val (.lst false (I ns)),.val (dM n kd es),.val T,.val (fD pr),.val (.lst false (NN ring)),.val (.lst false (FF xs)),.val (.lst true (NN pl)),.val (.lst false (NN bare)),t8,t9,t10,t11,t12,t13,.un,.un,.un])
   (fun ρ=>∃t11 t12 t13 t14 t15 t16,np t11/\np t12/\np t13/\np t14/\np t15/\np t16/\ρ=[.val (.lst false (I ns)),.val (dM n kd es),.val T,.val (fD pr),.val (.lst false (NN ring)),.val (.lst false (FF xs)),.val (.lst true (NN pl)),.val (.lst false (NN bare)),t8,t9,t10,t11,t12,t13,t14,t15,t16]) (fun d=>d=.bl true):=by
  unfold aPn
  simp -implicitDefEqProofs only [aIz,aP1,iY,kY,mG,bR,aP9,dS (show 4<=1000000 by decide),show aFq 4=.ok ((List.range 4).map fun i:Nat=>D.int (i:Int)) from dS (n:=4) (by decide),aI3]
  refine cV (φ:=fun i:Nat=>D.int (i:Int)) (fun pre ρ=>∃t11 t12 t13 t14 t15 t16,np t11/\np t12/\np t13/\np t14/\np t15/\np t16/\ρ=[.val (.lst false (I ns)),.val (dM n kd es),.val T,.val (fD pr),.val (.lst false (NN ring)),.val (.lst false (FF xs)),.val (.lst true (NN pl)),.val (.lst false (NN bare)),t8,t9,t10,t11,t12,t13,t14,t15,t16]) (List.range 4) ⟨_,_,_,_,_,_,h11,h12,h13,bN,bN,bN,rfl⟩ ?_
  rintro pre k post ρ ee ⟨t11,t12,t13,t14,t15,t16,h11,h12,h13,h14,h15,h16,rfl⟩
  obtain ⟨_,hk⟩:=jJ ee
  obtain ⟨d,hd,row,v,rfl,hrow,hv,hrl⟩:=aO9 (ns:=ns) (k0:=40+12 * k) (most:=10) h (by omega) (by omega)
  have hd:Ret pS [.lst false (I ns),.int (40+12 * (k:Int)),dM n kd es,.int 10] (.lst true (NN row)):=by
   rwa [show (((40+12 * k:Nat)):Int)=40+12 * (k:Int) by omega] at hd
  have f12:fits 12=true:=fit (A:=12) (by decide)
  have fk:fits (k:Int)=true:=fit (A:=4) (by omega)
  have ehere:(if row=[] then 0 else (ed es (lst row)).b)=v:=by
   by_cases hr:row=[]
   ·rw [if_pos hr];rw [hr] at hrow;exact hrow
   ·rw [if_neg hr];exact sQ hrow hr
  have c15:∀t16 t11 t12 t13,bQ (eZ (aB 15)) 1 [1] (bA 0) bY (v2 kIx (v2 kIx (v2 kIx (aB 1) (vC (.int 2))) (aB 0)) (vC (.int 3))) [.val (.lst false (I ns)),.val (dM n kd es),.val T,.val (fD pr),.val (.lst false (NN ring)),.val (.lst false (FF xs)),.val (.lst true (NN pl)),.val (.lst false (NN bare)),t8,t9,t10,t11,t12,t13,.val (.int (k:Int)),.val (.lst false (NN row)),t16]=.ok (.lst true (I (row.map fun x=>(ed es x).c)),true):=fun t16 t11 t12 t13=>by
   rw [gN [.val (dM n kd es)] row nI (fun x=>D.int (ed es x).c) (fun _=>false) (by simp;rfl) (by omega) (by simp [gZ]) ?_ (.inr fun _ _=>rfl)]
   ·simp [I]
   ·intro y hy
    refine ⟨?_,rfl⟩
    simp -implicitDefEqProofs [nI,fB (hrow.lt y hy)]
  have esum:yL [(.lst true (I (row.map fun x=>(ed es x).c)),true)]=.ok (.int (cs es row),true):=by
   show (match dR (I _) with | some ns=>R.ok (D.int ns.sum,true) | none=>.bad)=_
   rw [sO];rfl
  generalize I (row.map fun x=>(ed es x).c)=IL at c15 esum
  have hcs:=wU h.c hrow.lt
  have x1:∀b c,kIx (.lst false (FF xs),b) (.int 0,c)=.ok (fD (ft xs 0),b):=fun b c=>vM (v:=0) (by omega)
  have x2:=vM (o:=false) (xs:=xs) (b:=false) (c:=false) (show v<xs.length by omega)
  have g1:=fb 0 (by omega)
  have g2:=fb v hv
  have fcs:fits (cs es row)=true:=fit (A:=1000000) (by omega)
  have fl:fits (row.length:Int)=true:=fit (A:=100) (by omega)
  have blp:((row.length:Int) * pr.1).natAbs<=20000000:=Nat.le_trans (iM (A:=100) (B:=20000) (by omega) (by omega)) (by decide)
  have flp:fits ((row.length:Int) * pr.1)=true:=fit blp
  have fH:=fit (bdH 0 ((row.length:Int) * pr.1) (by omega) blp)
  have fN:=fit (bdN v (cs es row) hv (by omega)).1
  have fN2:=fit (bdN v (cs es row) hv (by omega)).2
  have pay:¬ ((ft xs 0).1 * pr.2+(row.length:Int) * pr.1 * (ft xs 0).2) * (ft xs v).2<(cs es row * (ft xs v).2+(ft xs v).1) * pr.2 * (ft xs 0).2:=by
   have h1:=P.pu.row hrow .zero
   unfold ph at h1
   have:=uZ (Ma:=gt M 0) (Mb:=gt M v) (p:=(row.length:Int) * pr.1) (q:=pr.2) (c:=cs es row) qp (by rw [Int.mul_comm (row.length:Int)];omega)
   rw [<- hft 0 (by omega),<- hft v hv] at this
   omega
  by_cases hr:row=[]
  ·have hv0:v=0:=by rw [<- ehere,if_pos hr]
   subst hv0
   have ht:(NN row).isEmpty=true:=by rw [aEu,decide_eq_true hr]
   simp -implicitDefEqProofs [h11,h12,h13,h14,h15,h16,f12,fk,aP hd,cB,eJ,ht,c15,esum,x1,g1.1,g1.2,f2,f3,fcs,fl,flp,fH,fN,fN2,pay]
   exact ⟨_,aK,_,aK,_,aK,_,aK,_,aK,_,aK,rfl,rfl,rfl,rfl,rfl,rfl⟩
  ·have hvl:(ed es (lst row)).b=v:=by rw [<- ehere,if_neg hr]
   have hl:=aDc hr
   have hll:=hrow.lt _ (List.mem_of_getLast? hl)
   have ht:(NN row).isEmpty=false:=by rw [aEu,decide_eq_false hr]
   have n1:∀b c,kIx (.lst false (NN row),b) (.int (-1),c)=.ok (nI (lst row),b):=fun b c=>nG hl
   have m1:=fB (es:=es) (b:=false) (c:=false) hll
   have e2:∀b c,kIx ((ed es (lst row)).d,b) (.int 2,c)=.ok (nI v,b):=fun b c=>by rw [E_2,hvl]
   simp -implicitDefEqProofs [h11,h12,h13,h14,h15,h16,f12,fk,aP hd,cB,eJ,ht,n1,nI,m1,hvl,c15,esum,x1,x2,g1.1,g1.2,g2.1,g2.2,f2,f3,fcs,fl,flp,fH,fN,fN2,pay]
   exact ⟨_,aK,_,aK,_,aK,_,aK,_,aK,_,aK,rfl,rfl,rfl,rfl,rfl,rfl⟩
 rw [dB]
 refine bV q10 ?_
 rintro ρ ⟨t11,t12,t13,t14,t15,t16,h11,h12,h13,h14,h15,h16,rfl⟩
 have kl:∀ds b,D.bL ds=true->pF [(.lst false ds,b)]=.ok (.lst true ds,true):=fun ds b hd=>by
  show (if D.bL ds then R.ok (D.lst true ds,true) else .bad)=_
  rw [if_pos hd]
 simp -implicitDefEqProofs [aUj,kl,iB rsp]
end VL.QQ
namespace VL.K20
open VL
theorem aS8 {ns:Y0}:∃os,f_law [.lst false (ns.map D.int)]=.ok (.bl true,os):=QQ.law_ok20
end VL.K20
end
section
namespace VL.K20
open VL PySem PySem.Spec PyProof.Rows L2 PY K10 K11
abbrev FO (n:Str) (t:Stmt) (kV dc pm:Value) (an:Option Addr) (cd ct:Value):=W.fnOf n n (jK t) (fR t) (aI t) .none kV dc pm an cd ct
theorem all_mk {P:Program} {w:World} {K:W.Frag} {h:Heap} {mg:Y6} {fa:Addr} (X:K.In h) (G:h.Ns mainGlobals mg) (hfa:mg "law" = some (.ref fa))
  {t0 t1 t2 t3:Tok} {pT:Addr} {odT:Option Addr} {itT:Array Value} {nT:Nat} {slT:Array (Option Value)}
  (a0:W.nsIn K mainGlobals "is_whole" = some (some (.ref f0))) (l0:K.lookup f0=some ⟨oc0,od0,.func (FO "is_whole" (top 2) kV0 dc0 pm0 an0 cd0 ct0),sl0⟩) (c0:W.codeIn K cd0 "is_whole" = true) (k0:W.keepIn K (.ref f0)=true)
  (a1:W.nsIn K mainGlobals "is_between" = some (some (.ref f1))) (l1:K.lookup f1=some ⟨oc1,od1,.func (FO "is_between" (top 3) kV1 dc1 pm1 an1 cd1 ct1),sl1⟩) (c1:W.codeIn K cd1 "is_between" = true) (k1:W.keepIn K (.ref f1)=true)
  (a2:W.nsIn K mainGlobals "common_divisor" = some (some (.ref f2))) (l2:K.lookup f2=some ⟨oc2,od2,.func (FO "common_divisor" (top 4) kV2 dc2 pm2 an2 cd2 ct2),sl2⟩) (c2:W.codeIn K cd2 "common_divisor" = true) (k2:W.keepIn K (.ref f2)=true)
  (a3:W.nsIn K mainGlobals "fraction" = some (some (.ref f3))) (l3:K.lookup f3=some ⟨oc3,od3,.func (FO "fraction" (top 5) kV3 dc3 pm3 an3 cd3 ct3),sl3⟩) (c3:W.codeIn K cd3 "fraction" = true) (k3:W.keepIn K (.ref f3)=true)
  (a4:W.nsIn K mainGlobals "is_fraction" = some (some (.ref f4))) (l4:K.lookup f4=some ⟨oc4,od4,.func (FO "is_fraction" (top 6) kV4 dc4 pm4 an4 cd4 ct4),sl4⟩) (c4:W.codeIn K cd4 "is_fraction" = true) (k4:W.keepIn K (.ref f4)=true)
  (a5:W.nsIn K mainGlobals "are_from_nought" = some (some (.ref f5))) (l5:K.lookup f5=some ⟨oc5,od5,.func (FO "are_from_nought" (top 7) kV5 dc5 pm5 an5 cd5 ct5),sl5⟩) (c5:W.codeIn K cd5 "are_from_nought" = true) (k5:W.keepIn K (.ref f5)=true)
  (a6:W.nsIn K mainGlobals "is_less" = some (some (.ref f6))) (l6:K.lookup f6=some ⟨oc6,od6,.func (FO "is_less" (top 8) kV6 dc6 pm6 an6 cd6 ct6),sl6⟩) (c6:W.codeIn K cd6 "is_less" = true) (k6:W.keepIn K (.ref f6)=true)
  (a7:W.nsIn K mainGlobals "plus" = some (some (.ref f7))) (l7:K.lookup f7=some ⟨oc7,od7,.func (FO "plus" (top 9) kV7 dc7 pm7 an7 cd7 ct7),sl7⟩) (c7:W.codeIn K cd7 "plus" = true) (k7:W.keepIn K (.ref f7)=true)
  (a8:W.nsIn K mainGlobals "is_deed" = some (some (.ref f8))) (l8:K.lookup f8=some ⟨oc8,od8,.func (FO "is_deed" (top 18) kV8 dc8 pm8 an8 cd8 ct8),sl8⟩) (c8:W.codeIn K cd8 "is_deed" = true) (k8:W.keepIn K (.ref f8)=true)
  (a9:W.nsIn K mainGlobals "look_deeds" = some (some (.ref f9))) (l9:K.lookup f9=some ⟨oc9,od9,.func (FO "look_deeds" (top 19) kV9 dc9 pm9 an9 cd9 ct9),sl9⟩) (c9:W.codeIn K cd9 "look_deeds" = true) (k9:W.keepIn K (.ref f9)=true)
  (a10:W.nsIn K mainGlobals "look_machine" = some (some (.ref f10))) (l10:K.lookup f10=some ⟨oc10,od10,.func (FO "look_machine" (top 20) kV10 dc10 pm10 an10 cd10 ct10),sl10⟩) (c10:W.codeIn K cd10 "look_machine" = true) (k10:W.keepIn K (.ref f10)=true)
  (a11:W.nsIn K mainGlobals "deeds_from" = some (some (.ref f11))) (l11:K.lookup f11=some ⟨oc11,od11,.func (FO "deeds_from" (top 21) kV11 dc11 pm11 an11 cd11 ct11),sl11⟩) (c11:W.codeIn K cd11 "deeds_from" = true) (k11:W.keepIn K (.ref f11)=true)
  (a12:W.nsIn K mainGlobals "came_by" = some (some (.ref f12))) (l12:K.lookup f12=some ⟨oc12,od12,.func (FO "came_by" (top 22) kV12 dc12 pm12 an12 cd12 ct12),sl12⟩) (c12:W.codeIn K cd12 "came_by" = true) (k12:W.keepIn K (.ref f12)=true)
  (a13:W.nsIn K mainGlobals "reached" = some (some (.ref f13))) (l13:K.lookup f13=some ⟨oc13,od13,.func (FO "reached" (top 23) kV13 dc13 pm13 an13 cd13 ct13),sl13⟩) (c13:W.codeIn K cd13 "reached" = true) (k13:W.keepIn K (.ref f13)=true)
  (a14:W.nsIn K mainGlobals "raise_once" = some (some (.ref f14))) (l14:K.lookup f14=some ⟨oc14,od14,.func (FO "raise_once" (top 25) kV14 dc14 pm14 an14 cd14 ct14),sl14⟩) (c14:W.codeIn K cd14 "raise_once" = true) (k14:W.keepIn K (.ref f14)=true)
  (a15:W.nsIn K mainGlobals "most_gains" = some (some (.ref f15))) (l15:K.lookup f15=some ⟨oc15,od15,.func (FO "most_gains" (top 26) kV15 dc15 pm15 an15 cd15 ct15),sl15⟩) (c15:W.codeIn K cd15 "most_gains" = true) (k15:W.keepIn K (.ref f15)=true)
  (a16:W.nsIn K mainGlobals "next_rows" = some (some (.ref f16))) (l16:K.lookup f16=some ⟨oc16,od16,.func (FO "next_rows" (top 28) kV16 dc16 pm16 an16 cd16 ct16),sl16⟩) (c16:W.codeIn K cd16 "next_rows" = true) (k16:W.keepIn K (.ref f16)=true)
  (a17:W.nsIn K mainGlobals "dearest_rows" = some (some (.ref f17))) (l17:K.lookup f17=some ⟨oc17,od17,.func (FO "dearest_rows" (top 29) kV17 dc17 pm17 an17 cd17 ct17),sl17⟩) (c17:W.codeIn K cd17 "dearest_rows" = true) (k17:W.keepIn K (.ref f17)=true)
  (a18:W.nsIn K mainGlobals "least_rise" = some (some (.ref f18))) (l18:K.lookup f18=some ⟨oc18,od18,.func (FO "least_rise" (top 30) kV18 dc18 pm18 an18 cd18 ct18),sl18⟩) (c18:W.codeIn K cd18 "least_rise" = true) (k18:W.keepIn K (.ref f18)=true)
  (a19:W.nsIn K mainGlobals "place_of_most" = some (some (.ref f19))) (l19:K.lookup f19=some ⟨oc19,od19,.func (FO "place_of_most" (top 31) kV19 dc19 pm19 an19 cd19 ct19),sl19⟩) (c19:W.codeIn K cd19 "place_of_most" = true) (k19:W.keepIn K (.ref f19)=true)
  (a20:W.nsIn K mainGlobals "ring_back" = some (some (.ref f20))) (l20:K.lookup f20=some ⟨oc20,od20,.func (FO "ring_back" (top 32) kV20 dc20 pm20 an20 cd20 ct20),sl20⟩) (c20:W.codeIn K cd20 "ring_back" = true) (k20:W.keepIn K (.ref f20)=true)
  (a21:W.nsIn K mainGlobals "dearest_ring" = some (some (.ref f21))) (l21:K.lookup f21=some ⟨oc21,od21,.func (FO "dearest_ring" (top 33) kV21 dc21 pm21 an21 cd21 ct21),sl21⟩) (c21:W.codeIn K cd21 "dearest_ring" = true) (k21:W.keepIn K (.ref f21)=true)
  (a22:W.nsIn K mainGlobals "cost_together" = some (some (.ref f22))) (l22:K.lookup f22=some ⟨oc22,od22,.func (FO "cost_together" (top 34) kV22 dc22 pm22 an22 cd22 ct22),sl22⟩) (c22:W.codeIn K cd22 "cost_together" = true) (k22:W.keepIn K (.ref f22)=true)
  (a23:W.nsIn K mainGlobals "purse_for" = some (some (.ref f23))) (l23:K.lookup f23=some ⟨oc23,od23,.func (FO "purse_for" (top 35) kV23 dc23 pm23 an23 cd23 ct23),sl23⟩) (c23:W.codeIn K cd23 "purse_for" = true) (k23:W.keepIn K (.ref f23)=true)
  (a24:W.nsIn K mainGlobals "least_price" = some (some (.ref f24))) (l24:K.lookup f24=some ⟨oc24,od24,.func (FO "least_price" (top 36) kV24 dc24 pm24 an24 cd24 ct24),sl24⟩) (c24:W.codeIn K cd24 "least_price" = true) (k24:W.keepIn K (.ref f24)=true)
  (a25:W.nsIn K mainGlobals "is_paid" = some (some (.ref f25))) (l25:K.lookup f25=some ⟨oc25,od25,.func (FO "is_paid" (top 37) kV25 dc25 pm25 an25 cd25 ct25),sl25⟩) (c25:W.codeIn K cd25 "is_paid" = true) (k25:W.keepIn K (.ref f25)=true)
  (a26:W.nsIn K mainGlobals "leads_round" = some (some (.ref f26))) (l26:K.lookup f26=some ⟨oc26,od26,.func (FO "leads_round" (top 38) kV26 dc26 pm26 an26 cd26 ct26),sl26⟩) (c26:W.codeIn K cd26 "leads_round" = true) (k26:W.keepIn K (.ref f26)=true)
  (a27:W.nsIn K mainGlobals "ring_shows" = some (some (.ref f27))) (l27:K.lookup f27=some ⟨oc27,od27,.func (FO "ring_shows" (top 39) kV27 dc27 pm27 an27 cd27 ct27),sl27⟩) (c27:W.codeIn K cd27 "ring_shows" = true) (k27:W.keepIn K (.ref f27)=true)
  (a28:W.nsIn K mainGlobals "shows_price" = some (some (.ref f28))) (l28:K.lookup f28=some ⟨oc28,od28,.func (FO "shows_price" (top 40) kV28 dc28 pm28 an28 cd28 ct28),sl28⟩) (c28:W.codeIn K cd28 "shows_price" = true) (k28:W.keepIn K (.ref f28)=true)
  (a29:W.nsIn K mainGlobals "_law_cell" = some (some (.ref f29))) (l29:K.lookup f29=some ⟨oc29,od29,.func (FO "_law_cell" (top 42) kV29 dc29 pm29 an29 cd29 ct29),sl29⟩) (c29:W.codeIn K cd29 "_law_cell" = true) (k29:W.keepIn K (.ref f29)=true)
  (a30:W.nsIn K mainGlobals "_law_mix" = some (some (.ref f30))) (l30:K.lookup f30=some ⟨oc30,od30,.func (FO "_law_mix" (top 43) kV30 dc30 pm30 an30 cd30 ct30),sl30⟩) (c30:W.codeIn K cd30 "_law_mix" = true) (k30:W.keepIn K (.ref f30)=true)
  (a31:W.nsIn K mainGlobals "_law_whole" = some (some (.ref f31))) (l31:K.lookup f31=some ⟨oc31,od31,.func (FO "_law_whole" (top 44) kV31 dc31 pm31 an31 cd31 ct31),sl31⟩) (c31:W.codeIn K cd31 "_law_whole" = true) (k31:W.keepIn K (.ref f31)=true)
  (a32:W.nsIn K mainGlobals "_law_machine" = some (some (.ref f32))) (l32:K.lookup f32=some ⟨oc32,od32,.func (FO "_law_machine" (top 45) kV32 dc32 pm32 an32 cd32 ct32),sl32⟩) (c32:W.codeIn K cd32 "_law_machine" = true) (k32:W.keepIn K (.ref f32)=true)
  (a33:W.nsIn K mainGlobals "_law_row" = some (some (.ref f33))) (l33:K.lookup f33=some ⟨oc33,od33,.func (FO "_law_row" (top 46) kV33 dc33 pm33 an33 cd33 ct33),sl33⟩) (c33:W.codeIn K cd33 "_law_row" = true) (k33:W.keepIn K (.ref f33)=true)
  (a34:W.nsIn K mainGlobals "_law_reached" = some (some (.ref f34))) (l34:K.lookup f34=some ⟨oc34,od34,.func (FO "_law_reached" (top 47) kV34 dc34 pm34 an34 cd34 ct34),sl34⟩) (c34:W.codeIn K cd34 "_law_reached" = true) (k34:W.keepIn K (.ref f34)=true)
  (a35:W.nsIn K mainGlobals "_law_is_part" = some (some (.ref f35))) (l35:K.lookup f35=some ⟨oc35,od35,.func (FO "_law_is_part" (top 48) kV35 dc35 pm35 an35 cd35 ct35),sl35⟩) (c35:W.codeIn K cd35 "_law_is_part" = true) (k35:W.keepIn K (.ref f35)=true)
  (a36:W.nsIn K mainGlobals "_law_ring" = some (some (.ref f36))) (l36:K.lookup f36=some ⟨oc36,od36,.func (FO "_law_ring" (top 49) kV36 dc36 pm36 an36 cd36 ct36),sl36⟩) (c36:W.codeIn K cd36 "_law_ring" = true) (k36:W.keepIn K (.ref f36)=true)
  (a37:W.nsIn K mainGlobals "law" = some (some (.ref f37))) (l37:K.lookup f37=some ⟨oc37,od37,.func (FO "law" (top 50) kV37 dc37 pm37 an37 cd37 ct37),sl37⟩) (c37:W.codeIn K cd37 "law" = true) (k37:W.keepIn K (.ref f37)=true)
  (i0:W.nsIn K mainGlobals "MOST_PLACES" = some (some (.int 200 t0)))
  (i1:W.nsIn K mainGlobals "MOST_KINDS" = some (some (.int 8 t1)))
  (i2:W.nsIn K mainGlobals "MOST_DEEDS" = some (some (.int 600 t2)))
  (i3:W.nsIn K mainGlobals "MOST_COST" = some (some (.int 1000 t3)))
  (z0:W.nsIn K mainGlobals "abs" = some none)
  (z1:W.nsIn K mainGlobals "all" = some none)
  (z2:W.nsIn K mainGlobals "any" = some none)
  (z3:W.nsIn K mainGlobals "bool" = some none)
  (z4:W.nsIn K mainGlobals "enumerate" = some none)
  (z5:W.nsIn K mainGlobals "int" = some none)
  (z6:W.nsIn K mainGlobals "isinstance" = some none)
  (z7:W.nsIn K mainGlobals "len" = some none)
  (z8:W.nsIn K mainGlobals "list" = some none)
  (z9:W.nsIn K mainGlobals "range" = some none)
  (z10:W.nsIn K mainGlobals "set" = some none)
  (z11:W.nsIn K mainGlobals "sorted" = some none)
  (z12:W.nsIn K mainGlobals "sum" = some none)
  (z13:W.nsIn K mainGlobals "tuple" = some none)
  (aT:W.nsIn K mainGlobals "NOUGHT" = some (some (.ref pT))) (lT:K.lookup pT=some ⟨.type "tuple",odT,.seq itT nT,slT⟩) (iT:IntsAre itT.toList [0,1])
  {qM:Addr}
  (xM:W.nsIn K mainGlobals "BadMachine" = some (some (.ref qM))) (yXM:W.excIn K qM bmV "ValueError.__new__" = true) :
  ∃fd:FuncData,(∀(s:Shared) (u:Value),BindsTo s fd ⟨[u],[]⟩ [("_law_script",u)])/\∀base:Heap,K.In base->base.Ns mainGlobals mg->FnOk P w K mg base (CX1 P w) 10 fa fd ["_law_script"] (spV K 1 f_law):=by
 have T:Txt K mg:=⟨W.mg_none_of X G z0,W.mg_none_of X G z1,W.mg_none_of X G z2,W.mg_none_of X G z3,W.mg_none_of X G z4,W.mg_none_of X G z5,W.mg_none_of X G z6,W.mg_none_of X G z7,W.mg_none_of X G z8,W.mg_none_of X G z9,W.mg_none_of X G z10,W.mg_none_of X G z11,W.mg_none_of X G z12,W.mg_none_of X G z13,
  ⟨t0,W.mg_of X G i0⟩,⟨t1,W.mg_of X G i1⟩,⟨t2,W.mg_of X G i2⟩,⟨t3,W.mg_of X G i3⟩,
  ⟨pT,_,itT,nT,W.mg_of X G aT,lT,rfl,rfl,iT⟩,
  bE a0 l0 c0 k0,bE a1 l1 c1 k1,bE a2 l2 c2 k2,bE a3 l3 c3 k3,bE a4 l4 c4 k4,bE a5 l5 c5 k5,bE a6 l6 c6 k6,bE a7 l7 c7 k7,bE a8 l8 c8 k8,bE a9 l9 c9 k9,bE a10 l10 c10 k10,bE a11 l11 c11 k11,bE a12 l12 c12 k12,bE a13 l13 c13 k13,bE a14 l14 c14 k14,bE a15 l15 c15 k15,bE a16 l16 c16 k16,bE a17 l17 c17 k17,bE a18 l18 c18 k18,bE a19 l19 c19 k19,bE a20 l20 c20 k20,bE a21 l21 c21 k21,bE a22 l22 c22 k22,bE a23 l23 c23 k23,bE a24 l24 c24 k24,bE a25 l25 c25 k25,bE a26 l26 c26 k26,bE a27 l27 c27 k27,bE a28 l28 c28 k28,bE a29 l29 c29 k29,bE a30 l30 c30 k30,bE a31 l31 c31 k31,bE a32 l32 c32 k32,bE a33 l33 c33 k33,bE a34 l34 c34 k34,bE a35 l35 c35 k35,bE a36 l36 c36 k36,bE a37 l37 c37 k37,⟨qM,W.mg_of X G xM,xM,yXM⟩⟩
 obtain ⟨f,fd,e,hb,hF⟩:=aPe (P:=P) (w:=w) T.d_law X G dO rfl rfl (by decide) (fun _ _ _ _ _ _ us hl=>match us,hl with | [_],_=>rfl) (fun base kb nb=>aRi T base kb nb)
 have e:=hfa.symm.trans e
 cases e
 exact ⟨fd,fun s u=>hb s [u] rfl,hF⟩
theorem walk {l:PySem.W.OpenLaw} {q:Program} {loose:List Str} {XP:(Str->Option Value)->Heap->Prop} {YP:World->Heap->Prop} {d:DefRec} {K:Params->FG} (hn:l.most=some 63) (hdf:d.params.defaults=[])
  (hY:∀(w:World) (h:Heap),YP w h->(K w.params).In h)
  (F:∀(w:World) (mg:Y6) (fa:Addr) (h:Heap),(K w.params).In h->h.Ns mainGlobals mg->mg d.name=some (.ref fa) ->
   ∃fd:FuncData,(∀(s:Shared) (u:Value),BindsTo s fd ⟨[u],[]⟩ [("_law_script",u)])/\∀base:Heap,(K w.params).In base->base.Ns mainGlobals mg->FnOk l.prog w (K w.params) mg base (CX1 l.prog w) 10 fa fd ["_law_script"] (spV (K w.params) 1 f_law))
  (hK:∀p:Params,pZ (K p)=true):PySem.W.WalkO q loose XP YP l.row.toRowW d [] (fun f vs=>PySem.call f vs) :=
 L2.walk_of (n:=63) (k:=10) (x := "_law_script") (CX:=fun w=>CX1 l.prog w) (sp:=fun w=>spV (K w.params) 1 f_law) hn (by decide) hdf ⟨rfl,by decide,by decide⟩ hY F (fun w H a ns hl _ hS=>aLj (hK w.params) aS8 hS) fun _ _ _ _ _ z=>aJm z
end VL.K20
namespace PySem.W.Fast
def tw4479659434969352706:=()
def tw5872230416866749830:=()
def tw967024174527858855:=()
def tw15337506479721165838:=()
def tw14055957041866075493:=()
def tw18172245213213954595:=()
def tw385505604243757162:=()
def tw8575035811539610999:=()
def tw4375772586824322608:=()
def tw2885709107461768246:=()
def tw5782399120350109951:=()
def tw7273325603707525158:=()
def tw8594254695461429446:=()
def tw11815832112874780807:=()
def tw2686474432350401163:=()
def tw12949830817848121579:=()
def tw12453739723324799250:=()
def tw7325335320197069653:=()
def tw12920721558236980843:=()
def tw485994579238568375:=()
def tw5966519485692451940:=()
def tw2108353539771005158:=()
def tw5754397420370215328:=()
def tw5166355564281861214:=()
def tw14752148729866185298:=()
def tw3049818762103092608:=()
def tw327487764957822694:=()
def tw11869782335440638678:=()
def tw11223539993956461017:=()
def tw8802996696632823875:=()
def tw16407986774136226465:=()
def tw6455248914794387688:=()
def tw16824542024213197227:=()
def tw14539555122663475884:=()
def tw10393789645151493145:=()
def tw5253930890233856663:=()
def tw4843581580334584223:=()
def tw5421115552018126199:=()
def tw13151704343422556256:=()
def tw3561193160253228366:=()
def tw5038474733330312826:=()
def tw12518273548914741132:=()
def tw5523511540477818443:=()
def tw15233006948409277149:=()
def tw14875141338174876222:=()
def tw15387953028456654982:=()
def tw6252605435321369021:=()
def tw11599300956268841719:=()
def tw17756296382789112930:=()
def tw6180805433087096916:=()
def tw8454134468678583055:=()
def tw8845508000038945081:=()
def tw15550857261111712164:=()
def tw17216295102053194386:=()
def tw12881363629788279959:=()
def tw1540707649669911479:=()
end PySem.W.Fast
open PySem PySem.W PyProof.Rows
set_option maxRecDepth 100000 in
set_option maxHeartbeats 0 in
theorem PySem.Challenge.cw_pursehall_k20_whole_least_price_holds : PySem.Challenge.rw_pursehall_k20_whole_least_price.Holds := by
 w_on;o_law;k_head;(case hw=>w_witness2)
 k_fill
 refine VL.K20.walk (l:=PySem.Challenge.rw_pursehall_k20_whole_least_price) rfl rfl (fun w h Y=>PySem.W.kIn_of Y) ?F ?hNL
 case F =>
  intro w mg fa h KX G hmg
  refine' VL.K20.all_mk KX G hmg ?a0 ?l0 ?c0 ?k0 ?a1 ?l1 ?c1 ?k1 ?a2 ?l2 ?c2 ?k2 ?a3 ?l3 ?c3 ?k3 ?a4 ?l4 ?c4 ?k4 ?a5 ?l5 ?c5 ?k5 ?a6 ?l6 ?c6 ?k6 ?a7 ?l7 ?c7 ?k7 ?a8 ?l8 ?c8 ?k8 ?a9 ?l9 ?c9 ?k9 ?a10 ?l10 ?c10 ?k10 ?a11 ?l11 ?c11 ?k11 ?a12 ?l12 ?c12 ?k12 ?a13 ?l13 ?c13 ?k13 ?a14 ?l14 ?c14 ?k14 ?a15 ?l15 ?c15 ?k15 ?a16 ?l16 ?c16 ?k16 ?a17 ?l17 ?c17 ?k17 ?a18 ?l18 ?c18 ?k18 ?a19 ?l19 ?c19 ?k19 ?a20 ?l20 ?c20 ?k20 ?a21 ?l21 ?c21 ?k21 ?a22 ?l22 ?c22 ?k22 ?a23 ?l23 ?c23 ?k23 ?a24 ?l24 ?c24 ?k24 ?a25 ?l25 ?c25 ?k25 ?a26 ?l26 ?c26 ?k26 ?a27 ?l27 ?c27 ?k27 ?a28 ?l28 ?c28 ?k28 ?a29 ?l29 ?c29 ?k29 ?a30 ?l30 ?c30 ?k30 ?a31 ?l31 ?c31 ?k31 ?a32 ?l32 ?c32 ?k32 ?a33 ?l33 ?c33 ?k33 ?a34 ?l34 ?c34 ?k34 ?a35 ?l35 ?c35 ?k35 ?a36 ?l36 ?c36 ?k36 ?a37 ?l37 ?c37 ?k37 ?i0 ?i1 ?i2 ?i3 ?z0 ?z1 ?z2 ?z3 ?z4 ?z5 ?z6 ?z7 ?z8 ?z9 ?z10 ?z11 ?z12 ?z13 ?aT ?lT ?iT ?xM ?yXM
  any_goals first | k_is | k_exc | kts_exm | kit_is
  (case iT=>repeat constructor)
 case hNL=>intro p;rfl
end
