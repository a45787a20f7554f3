import PyProof.Rows.All
import Wide.All
import OpenK.AllK
import Wide.FinOn
import PyProof.EqAt
import PyProof.EqKinds
import PyProof.TupleCall
import KE.BitLaws
import Open.SpecLaws
import KE.OsHead
import KE.OsGo
import PyProof.StationsW
import PyProof.PassesOwn
import OpenK.KMake
import PyProof.ExcBaseAll.Exception
import PyProof.ExcAttrAll.Exception
import PyProof.RulesAs
import PyProof.InstStoreFacts
import KE.KTryMore
import PyProof.Rows.Catch
import PyProof.Draws
import PyProof.DictTruth
import PyProof.MinMaxWalk
import PyProof.DictWalks
import PyProof.WalkInts
import PyProof.Rows.CallKwBuiltin
import KE.KMinKey
import PySem.Challenge.RW_rollforce_s01_answers
set_option Elab.async false
set_option linter.all false
set_option maxRecDepth 100000
set_option maxHeartbeats 4000000
set_option genSizeOf false
section
namespace L2
open PySem PySem.Spec PyProof.Rows
abbrev Key:=Sum Int Str
def oX:Key->Value->Bool
 | .inl k,v=>Value.isInt k v
 | .inr x,v=>Value.isStrOf x v
def ar2 (w:World):Key->Int
 | .inl k=>hashInt k
 | .inr x=>hashStr w x
theorem lL:∀ {k:Key}{v:Value},oX k v=true->(∃ i t,k=Sum.inl i/\v=Value.int i t)\/(∃ x t,k=Sum.inr x/\v=Value.str x t)
 | .inl i,v,h=>by
  obtain⟨t,e⟩:=Value.isInt_shape (k:=i) (v:=v) h
  exact .inl ⟨i,t,rfl,e⟩
 | .inr x,v,h=>by
  obtain⟨t,e⟩:=Value.isStrOf_shape (x:=x) (v:=v) h
  exact .inr ⟨x,t,rfl,e⟩
theorem akC (i:Int) (t:Tok):oX (.inl i) (.int i t)=true:=by simp[oX,Value.isInt]
theorem akD (x:Str) (t:Tok):oX (.inr x) (.str x t)=true:=by simp[oX,Value.isStrOf]
theorem ap5 (a b:Int):decide ((Sum.inl a:Key)=Sum.inl b)=(a==b):=by
 by_cases e:a=b
 ·subst e;simp
 have h:¬ (Sum.inl a:Key)=Sum.inl b:=fun q=>e (Sum.inl.inj q)
 rw[decide_eq_false h]
 exact(beq_eq_false_iff_ne.mpr e).symm
theorem ap6 (a b:Str):decide ((Sum.inr a:Key)=Sum.inr b)=decide (a=b):=by
 by_cases e:a=b
 ·subst e;simp
 have h:¬ (Sum.inr a:Key)=Sum.inr b:=fun q=>e (Sum.inr.inj q)
 rw[decide_eq_false h,decide_eq_false e]
theorem ap7 (a:Int) (b:Str):decide ((Sum.inl a:Key)=Sum.inr b)=false:=decide_eq_false (fun q=>nomatch q)
theorem ap8 (a:Str) (b:Int):decide ((Sum.inr a:Key)=Sum.inl b)=false:=decide_eq_false (fun q=>nomatch q)
def cJ (prog:Program) (w:World):PySem.KeyKind prog w Key where
 is:=oX
 hash:=ar2 w
 inj:=fun v a b ha hb=>by
  rcases lL ha with ⟨i,t,rfl,rfl⟩ | ⟨x,t,rfl,rfl⟩
  ·rcases lL hb with ⟨j,u,rfl,e⟩ | ⟨y,u,rfl,e⟩
   ·injection e with e1 _;rw[e1]
   exact nomatch e
  rcases lL hb with ⟨j,u,rfl,e⟩ | ⟨y,u,rfl,e⟩
  ·exact nomatch e
  injection e with e1 _;rw[e1]
 byValue:=fun k v h=>by
  rcases lL h with ⟨i,t,rfl,rfl⟩ | ⟨x,t,rfl,rfl⟩ <;> rfl
 pyHash:=fun hv h=>by
  rcases lL hv with ⟨i,t,rfl,rfl⟩ | ⟨x,t,rfl,rfl⟩
  ·exact wpAny_pyHash_int h
  exact wpAny_pyHash_str h
 eqBool:=fun hu hv h=>by
  rcases lL hu with ⟨i,t,rfl,rfl⟩ | ⟨x,t,rfl,rfl⟩
  ·rcases lL hv with ⟨j,u,rfl,rfl⟩ | ⟨y,u,rfl,rfl⟩
   ·rw[ap5] at h;exact wpAny_eqBool_int h
   rw[ap7] at h;exact SeqAt.EqAt.int_str i t y u _ _ _ _ h
  rcases lL hv with ⟨j,u,rfl,rfl⟩ | ⟨y,u,rfl,rfl⟩
  ·rw[ap8] at h;exact SeqAt.EqAt.str_int x t j u _ _ _ _ h
  rw[ap6] at h;exact wpAny_eqBool_str h
 «strs»:=fun k x t v h=>by
  rcases lL h with ⟨i,u,rfl,e⟩ | ⟨y,u,rfl,e⟩
  ·exact nomatch e
  injection e with e1 _
  subst e1
  cases v <;> rfl
theorem ahq (prog:Program) (w:World) (i:Int) (t:Tok):(cJ prog w).is (.inl i) (.int i t)=true:=akC i t
theorem xW (prog:Program) (w:World) (x:Str) (t:Tok):(cJ prog w).is (.inr x) (.str x t)=true:=akD x t
end L2
namespace L2
open PySem PySem.Spec PyProof.Rows
inductive V where
 | aH | bl (b:Bool) | int (i:Int) | str (x:Str) | fy (b:Array UInt8) | uV (b:UInt64) | ref (a:Addr) | ty (n:String)
 deriving DecidableEq
def RelV:V->Value->Prop
 | .aH,u=>u=Value.none
 | .bl b,u=>u=Value.bool b
 | .int i,u=>∃ t,u=Value.int i t
 | .str x,u=>∃ t,u=Value.str x t
 | .fy b,u=>∃ t,u=Value.bytes b t
 | .uV b,u=>∃ t,u=Value.float b t
 | .ref a,u=>u=Value.ref a
 | .ty n,u=>u=Value.type n
abbrev Vals:List V->List Value->Prop:=Paired RelV
theorem Vals.length {xs:List V}{us:List Value} (r:Vals xs us):xs.length=us.length:=Paired.length r
theorem Vals.get:∀ {xs:List V}{us:List Value}{i:Nat}{x:V},Vals xs us->xs[i]?=some x->∃ u,us[i]?=some u/\RelV x u
 | _,_,_,_,.nil,e=>by simp at e
 | _,_,0,_,.cons r _,e=>by simp at e;subst e;exact⟨_,rfl,r⟩
 | _,_,i+1,x,.cons _ t,e=>by
  obtain⟨u,h1,h2⟩:=Vals.get (i:=i) (x:=x) t (by simpa using e)
  exact⟨u,by simpa using h1,h2⟩
theorem Vals.set {x:V}{u:Value} (r:RelV x u):∀ {xs:List V}{us:List Value} (i:Nat),Vals xs us->Vals (xs.set i x) (us.set i u)
 | _,_,_,.nil=>.nil
 | _,_,0,.cons _ t=>.cons r t
 | _,_,i+1,.cons q t=>.cons q (Vals.set r i t)
theorem Vals.append:∀ {xs ys:List V}{us ws:List Value},Vals xs us->Vals ys ws->Vals (xs++ys) (us++ws)
 | _,_,_,_,.nil,s=>s
 | _,_,_,_,.cons r t,s=>.cons r (Vals.append t s)
theorem Vals.take:∀ {xs:List V}{us:List Value} (n:Nat),Vals xs us->Vals (xs.take n) (us.take n)
 | _,_,0,_=>.nil
 | _,_,_+1,.nil=>.nil
 | _,_,n+1,.cons r t=>.cons r (Vals.take n t)
theorem Vals.drop:∀ {xs:List V}{us:List Value} (n:Nat),Vals xs us->Vals (xs.drop n) (us.drop n)
 | _,_,0,r=>r
 | _,_,_+1,.nil=>.nil
 | _,_,n+1,.cons _ t=>Vals.drop n t
def dP:Option V->Option Value->Prop
 | some v,some u=>RelV v u
 | none,none=>True
 | _,_=>False
def KV {κ:Type}:List (κ×V)->List (κ×Value)->Prop:=Paired fun (p:κ×V) (q:κ×Value)=>p.1=q.1/\RelV p.2 q.2
def kV:Key->V
 | .inl i=>.int i
 | .inr x=>.str x
inductive HO where
 | lst (xs:List V)
 | tup (xs:List V)
 | dK (ae:List (Key×V)) | dT (ae:List (List Key×V))
 | set (S:Int->Bool) (n:Nat)
 | ins (C dx:Addr) (fs:List (Str×V))
 | own (x:Addr)
 | xd (fs:List (Str×V))
 | met (f x:Addr)
 | EU (lo hi:Int)
 | bK (o:Obj) (u:HO)
 | oh (ps:Array Value)
 | ext (φ:Heap->Prop)
abbrev Hp:=Addr->Option HO
def upd (H:Hp) (a:Addr) (o:HO):Hp:=fun b=>if b=a then some o else H b
theorem ak {H:Hp}{a:Addr}{o:HO}:upd H a o a=some o:=by unfold upd;rw[if_pos rfl]
theorem ai {H:Hp}{a b:Addr}{o:HO} (h:b≠a):upd H a o b=H b:=by unfold upd;rw[if_neg h]
theorem WE {H:Hp}{a b:Addr}{o u:HO} (h:H a=some o) (h':H b=some u) (d:o≠u):a≠b:=by
 intro e;subst e;rw[h] at h';exact d (Option.some.inj h')
theorem aJ {H:Hp}{a b:Addr}{o:HO} (h:H a=some o) (h':H b=none):a≠b:=by
 intro e;subst e;rw[h] at h';cases h'
section
variable (P:Program) (w:World)
def cN (H:Hp) (h:Heap) (a:Addr):HO->Prop
 | .lst xs=>xs.length<=sizeLine/\∃ (aj:List Value) (n:Nat),Vals xs aj/\h.get? a=some {cls:=.type "list",data:=.seq aj.toArray n}
 | .tup xs=>xs.length<=sizeLine/\∃ aj:List Value,Vals xs aj/\IsTup h a aj.toArray
 | .dK ae=>ae.length<=sizeLine/\(a==sysModules)=false/\∃ vs,KV ae vs/\h.DictOf (cJ P w) a vs
 | .dT ae=>ae.length<=sizeLine/\(a==sysModules)=false/\∃ xs:List (List Key×Addr×Value),
   Paired (fun (p:List Key×V) (q:List Key×Addr×Value)=>p.1=q.1/\H q.2.1=some (.tup (p.1.map kV))/\RelV p.2 q.2.2) ae xs /\
   ∃ o es ep,h.get? a=some o/\o.ExactDict/\o.data=.dict es ep/\es.toList=xs.map (entryOfKey (tupleKind (cJ P w)))/\(xs.map (·.1)).Nodup
 | .set S n=>h.SetOf (intKind P w) a S n
 | .ins C dx fs=>H dx=some (.own a)/\fs.length<=1000/\dx≠a/\h.get? a=some (W.instObj C dx) /\
   ∃ mA,h.Ns1 dx mA/\(∀ f,dP (fs.lookup f) (mA f))/\PySem.Within mA (fs.map (·.1))
 | .own _=>∃ o,h.get? a=some o
 | .xd fs=>∃ mA,h.Ns1 a mA/\∀ f,dP (fs.lookup f) (mA f)
 | .EU lo hi=>∃ t u v,h.get? a=some {cls:=.type "range",data:=.fields #[.int lo t,.int hi u,.int 1 v]}
 | .bK o u=>h.get? a=some o/\cN H h a u
 | .oh ps=>h.get? a=some {cls:=.none,data:=.fields ps}
 | .met f x=>h.get? a=some (W.methodObj (.ref f) (.ref x))
 | .ext φ=>φ h/\(∃ o,h.get? a=some o)/\∀ h1 h2:Heap,φ h1->(∀ o,h1.get? a=some o->h2.get? a=some o)->φ h2
def bO (H:Hp) (h:Heap):Prop:=∀ a o,H a=some o->cN P w H h a o
end
section
variable {P:Program}{w:World}{H H':Hp}{h h':Heap}{a:Addr}{o:HO}
theorem cN.lt (x:cN P w H h a o):a<h.objs.size:=by
 cases o with
 | lst xs=>obtain⟨_,_,_,_,e⟩:=x;exact Heap.lt_size e
 | tup xs=>obtain⟨_,_,_,p⟩:=x;exact p.lt
 | dK ae=>obtain⟨_,_,_,_,o,_,_,e,_⟩:=x;exact Heap.lt_size e
 | dT ae=>obtain⟨_,_,_,_,o,_,_,e,_⟩:=x;exact Heap.lt_size e
 | set S n=>obtain⟨o,_,_,_,e,_⟩:=x;exact Heap.lt_size e
 | ins C dx fs=>obtain⟨_,_,_,e,_⟩:=x;exact Heap.lt_size e
 | own y=>obtain⟨_,e⟩:=x;exact Heap.lt_size e
 | xd fs=>obtain⟨_,⟨_,_,_,e,_⟩,_⟩:=x;exact Heap.lt_size e
 | EU lo hi=>obtain⟨_,_,_,e⟩:=x;exact Heap.lt_size e
 | bK ob u=>obtain⟨e,_⟩:=x;exact Heap.lt_size e
 | oh ps=>exact Heap.lt_size (show h.get? a=some _ from x)
 | met f y=>exact Heap.lt_size (show h.get? a=some _ from x)
 | ext φ=>obtain⟨_,⟨_,e⟩,_⟩:=x;exact Heap.lt_size e
theorem Paired.Em {α β:Type}{F G:α->β->Prop}:∀ {l₁:List α}{l₂:List β},Paired F l₁ l₂->(∀ a b,F a b->G a b)->Paired G l₁ l₂
 | _,_,.nil,_=>.nil
 | _,_,.cons r t,f=>.cons (f _ _ r) (Paired.Em t f)
theorem cN.gR (x:cN P w H h a o) (k:∀ b u,(b=a\/H b=some (.own a))->h.get? b=some u->h'.get? b=some u)
  (ho:∀ b,H b=some (.own a)->H' b=some (.own a)) (ht:∀ b xs,H b=some (.tup xs)->H' b=some (.tup xs)):cN P w H' h' a o:=by
 induction o with
 | lst xs=>obtain⟨z,aj,n,r,e⟩:=x;exact⟨z,aj,n,r,k _ _ (.inl rfl) e⟩
 | tup xs=>obtain⟨z,aj,r,ob,e,c⟩:=x;exact⟨z,aj,r,ob,k _ _ (.inl rfl) e,c⟩
 | dK ae=>obtain⟨z,y,vs,r,ob,es,ep,e,c⟩:=x;exact⟨z,y,vs,r,ob,es,ep,k _ _ (.inl rfl) e,c⟩
 | dT ae =>
  obtain⟨z,y,xs,r,ob,es,ep,e,c⟩:=x
  exact⟨z,y,xs,Paired.Em r fun p q z=>⟨z.1,ht _ _ z.2.1,z.2.2⟩,ob,es,ep,k _ _ (.inl rfl) e,c⟩
 | set S n=>obtain⟨ob,es,ep,t,e,c⟩:=x;exact⟨ob,es,ep,t,k _ _ (.inl rfl) e,c⟩
 | ins C dx fs =>
  obtain⟨d,z,ne,e,mA,⟨od,es,ep,e2,c⟩,r⟩:=x
  exact⟨ho _ d,z,ne,k _ _ (.inl rfl) e,mA,⟨od,es,ep,k _ _ (.inr d) e2,c⟩,r⟩
 | own y=>obtain⟨ob,e⟩:=x;exact⟨ob,k _ _ (.inl rfl) e⟩
 | xd fs=>obtain⟨mA,⟨od,es,ep,e,c⟩,r⟩:=x;exact⟨mA,⟨od,es,ep,k _ _ (.inl rfl) e,c⟩,r⟩
 | EU lo hi=>obtain⟨t,u,v,e⟩:=x;exact⟨t,u,v,k _ _ (.inl rfl) e⟩
 | bK ob u ih=>obtain⟨e,q⟩:=x;exact⟨k _ _ (.inl rfl) e,ih q⟩
 | oh ps =>
  have e:h.get? a=some {cls:=.none,data:=.fields ps}:=x
  show h'.get? a=some {cls:=.none,data:=.fields ps}
  exact k a _ (.inl rfl) e
 | met f y =>
  have e:h.get? a=some (W.methodObj (.ref f) (.ref y)):=x
  show h'.get? a=some (W.methodObj (.ref f) (.ref y))
  exact k a _ (.inl rfl) e
 | ext φ=>obtain⟨p,⟨o,e⟩,st⟩:=x;exact⟨st _ _ p fun o q=>k _ _ (.inl rfl) q,⟨o,k _ _ (.inl rfl) e⟩,st⟩
theorem bO.lt (x:bO P w H h) (e:H a=some o):a<h.objs.size:=(x a o e).lt
theorem bO.fresh (x:bO P w H h) (e:h.objs.size<=a):H a=none:=by
 cases q:H a with
 | none=>rfl
 | some u=>exact absurd (Nat.lt_of_lt_of_le (x.lt q) e) (Nat.lt_irrefl _)
theorem bO.kept (x:bO P w H h) (k:∀ b u,h.get? b=some u->h'.get? b=some u):bO P w H h':=fun a o e =>
 (x a o e).gR (fun b u _ q=>k b u q) (fun _ q=>q) fun _ _ q=>q
theorem bO.laid (x:bO P w H h) (k:∀ b u,h.get? b=some u->h'.get? b=some u) (hp:h.objs.size<=a) (new:cN P w (upd H a o) h' a o):bO P w (upd H a o) h':=fun b u e=>by
 have hn:=x.fresh hp
 by_cases hb:b=a
 ·subst hb;rw[ak] at e;cases e;exact new
 rw[ai hb] at e
 exact(x b u e).gR (fun c v _ q=>k c v q) (fun c q=>by rw[ai (aJ q hn)];exact q) fun c xs q=>by rw[ai (aJ q hn)];exact q
end
def Rd (H:Hp) (a:Addr) (u:HO):Prop:=H a=some u\/∃ o,H a=some (.bK o u)
theorem Rd.ok {P:Program}{w:World}{H:Hp}{h:Heap}{a:Addr}{u:HO} (r:Rd H a u) (x:bO P w H h):cN P w H h a u:=by
 rcases r with r | ⟨o,r⟩
 ·exact x a u r
 obtain⟨_,q⟩:=x a _ r
 exact q
def oj:Option HO->Prop
 | some (.lst _)=>True
 | some (.dK _)=>True
 | some (.dT _)=>True
 | some (.set _ _)=>True
 | some (.ins _ _ _)=>True
 | some (.ext _)=>True
 | _=>False
section
variable {P:Program}{w:World}{H:Hp}{h h':Heap}{x e:Addr}{o':HO}
theorem bO.write (ok:bO P w H h) (mu:oj (H x)) (he:e=x\/H e=some (.own x)) (k:∀ b u,b≠e->h.get? b=some u->h'.get? b=some u) (sC:∃ u,h'.get? e=some u)
  (new:cN P w (upd H x o') h' x o'):bO P w (upd H x o') h':=fun b u q=>by
 have W2:∀ c y,H c=some (.own y)->c≠x:=fun c y r z=>by subst z;rw[r] at mu;exact mu
 have ar3:∀ c xs,H c=some (.tup xs)->c≠x:=fun c xs r z=>by subst z;rw[r] at mu;exact mu
 by_cases hb:b=x
 ·subst hb;rw[ak] at q;cases q;exact new
 rw[ai hb] at q
 by_cases mF:b=e
 ·have q':H b=some (.own x):=by
   rcases he with z | z
   ·exact absurd (mF.trans z) hb
   rw[mF];exact z
  rw[q] at q';cases q'
  obtain⟨v,hv⟩:=sC
  exact⟨v,by rw[mF];exact hv⟩
 refine(ok b u q).gR (fun c v hc r=>k c v ?_ r) (fun c r=>by rw[ai (W2 c b r)];exact r) fun c xs r=>by rw[ai (ar3 c xs r)];exact r
 rcases hc with rfl | hc
 ·exact mF
 rintro rfl
 rcases he with z | z
 ·exact W2 c b hc z
 rw[hc] at z;cases z;exact hb rfl
end
structure Un (fs ex:List Addr) (H H':Hp) (h h':Heap):Prop where
 keep:∀ b o,h.get? b=some o->H b=none->b∉fs->b∉ex->h'.get? b=some o
 slot:∀ b o,h.get? b=some o->H b=none->b∈fs->b∉ex->∃ sl,h'.get? b=some {o with slots:=sl}
 free:∀ b o,h.get? b=some o->H b=none->b∉ex->H' b=none
 there:∀ b o,h.get? b=some o->b∉ex->∃ o',h'.get? b=some o'
 fP:∀ b xs,H b=some (.tup xs)->H' b=some (.tup xs)
 fe:∀ b o u,H b=some (.bK o u)->H' b=some (.bK o u)
 fQ:∀ b ps,H b=some (.oh ps)->∃ more,H' b=some (.oh (ps++more))
section
variable {fs pd ex ex':List Addr}{H H1 H2:Hp}{h h1 h2 h':Heap}{a x e:Addr}{o:HO}
theorem Un.any (u:Un fs ex H H1 h h1) {b:Addr}{ob:Obj} (q:h.get? b=some ob) (n:H b=none) (hx:b∉ex):∃ sl,h1.get? b=some {ob with slots:=sl}:=by
 by_cases hb:b∈fs
 ·exact u.slot b ob q n hb hx
 exact⟨ob.slots,u.keep b ob q n hb hx⟩
theorem Un.kept (k:∀ b u,h.get? b=some u->h'.get? b=some u):Un fs ex H H h h' :=
 ⟨fun b ob q _ _ _=>k b ob q,fun b ob q _ _ _=>⟨ob.slots,k b ob q⟩,fun _ _ _ n _=>n,fun b ob q _=>⟨ob,k b ob q⟩,fun _ _ q=>q,fun _ _ _ q=>q,fun _ ps q=>⟨#[],by rw[q];simp⟩⟩
theorem Un.refl:Un fs ex H H h h:=Un.kept fun _ _ q=>q
theorem Un.laid (k:∀ b u,h.get? b=some u->h'.get? b=some u) (hp:h.objs.size<=a) (hn:H a=none):Un fs ex H (upd H a o) h h' where
 keep:=fun b u q _ _ _=>k b u q
 slot:=fun b u q _ _ _=>⟨u.slots,k b u q⟩
 free:=fun b u q n _=>by rw[ai (Nat.ne_of_lt (Nat.lt_of_lt_of_le (Heap.lt_size q) hp))];exact n
 there:=fun b u q _=>⟨u,k b u q⟩
 fP:=fun b xs q=>by rw[ai (aJ q hn)];exact q
 fe:=fun b u xs q=>by rw[ai (aJ q hn)];exact q
 fQ:=fun b ps q=>⟨#[],by rw[ai (aJ q hn),q];simp⟩
theorem Un.write (mu:oj (H x)) (he:e=x\/H e=some (.own x)) (k:∀ b u,b≠e->h.get? b=some u->h'.get? b=some u) (sC:∃ u,h'.get? e=some u):Un fs ex H (upd H x o) h h':=by
 have hx:∀ b,H b=none->b≠x:=fun b n z=>by subst z;rw[n] at mu;exact mu
 have hb:∀ b,H b=none->b≠e:=fun b n z=>by
  subst z
  rcases he with r | r
  ·exact hx b n r
  rw[n] at r;cases r
 have hm:∀ b u,H b=some u->¬ oj (some u)->b≠x:=fun b u q nm z=>by subst z;rw[q] at mu;exact nm mu
 refine⟨fun b u q n _ _=>k b u (hb b n) q,fun b u q n _ _=>⟨u.slots,k b u (hb b n) q⟩,fun b u q n _=>by rw[ai (hx b n)];exact n,fun b u q _=>?_,
  fun b xs q=>by rw[ai (hm b _ q fun z=>z)];exact q,fun b u xs q=>by rw[ai (hm b _ q fun z=>z)];exact q,fun b ps q=>⟨#[],by rw[ai (hm b _ q fun z=>z),q];simp⟩⟩
 by_cases mF:b=e
 ·subst mF;exact sC
 exact⟨u,k b u mF q⟩
end
def zB (h:Heap) (H:Hp):List Addr:=(List.range h.objs.size).filter fun a=>(H a).isSome
def og (h:Heap) (H:Hp):Heap:=W.hideAll h (zB h H)
theorem akE (h:Heap) (H:Hp):(og h H).objs.size=h.objs.size:=W.hideAll_size _ _
theorem am3 {h:Heap}{H:Hp}{b:Addr}{o:Obj} (e:h.get? b=some o) (n:H b=none):(og h H).get? b=some o :=
 W.hideAll_get _ e fun hm=>by
  have q:(H b).isSome=true:=(List.mem_filter.mp hm).2
  rw[n] at q;simp at q
theorem anC {h:Heap}{H:Hp}{b:Addr}{o:Obj} (e:(og h H).get? b=some o):h.get? b=some o/\H b=none:=by
 have e':h.get? b=some o:=W.of_hideAll (zB h H) e
 refine⟨e',?_⟩
 cases q:H b with
 | none=>rfl
 | some x =>
  have hm:b∈zB h H:=List.mem_filter.mpr ⟨List.mem_range.mpr (Heap.lt_size e'),by simp[q]⟩
  have z:(og h H).get? b=none:=W.hideAll_none (zB h H) hm
  rw[z] at e;cases e
end L2
namespace L2
open PySem PySem.Spec PyProof.Rows
structure Mod (K:W.Frag) (mg:Str->Option Value) (base:Heap):Prop where
 sD:K.In base
 glob:base.Ns mainGlobals mg
 blt:∃ mb,base.Ns builtinsNs mb/\∀ x:Str,x≠"__name__"->mb x=bootBuiltins x
 nolimit:base.NoLimit
structure Cx where
 prog:Program
 w:World
 K:W.Frag
 mg:Str->Option Value
 base:Heap
 A:Around
 N:List Str
 di:Shared
 om:Hp
 env:Env
 outer:List Env
 stack:List Env
 ex:List Addr
 fn:Str->Bool
 calm:Bool
 pn:List (Addr×Obj)
 xe:Value->Shared->Prop
def dj (l:List Env):List Addr:=l.filterMap (·.frame)
abbrev Cx.fs (X:Cx):List Addr:=dj X.outer
def sE (sc:Scope) (x:Str):Prop:=sc.names.lookup x=some .local\/sc.names.lookup x=some .cell\/sc.names.lookup x=some .free
def Loc (sc:Scope) (x:Str):Prop:=sc.names.lookup x=some .local\/sc.names.lookup x=some .cell
def Look (env:Env) (h:Heap) (m:Str->Option Value) (x:Str) (u:Value):Prop :=
 (env.kindOf x=some .local/\m x=some u)\/((env.kindOf x=some .cell\/env.kindOf x=some .free)/\∃ c,env.cells.lookup x=some c/\h.IsCell c (some u))
structure Cx.Ok (X:Cx):Prop where
 mod:Mod X.K X.mg X.base
 kind:X.env.scope.kind=.function
 glob:X.env.globals=mainGlobals
 blt:X.env.builtins=builtinsNs
 above:X.di.heap.objs.size<=X.env.locals
 inj:∀ x y c,X.env.cells.lookup x=some c->X.env.cells.lookup y=some c->x=y
 has:∀ x,(X.env.kindOf x=some .cell\/X.env.kindOf x=some .free)->∃ c,X.env.cells.lookup x=some c
 qE:∀ x c,X.fn x=true->X.env.cells.lookup x=some c->X.di.heap.objs.size<=c
 hd:X.calm=true->X.A.handled=none
 frames:X.A.frames=some X.stack
 jB:X.stack=X.outer\/(X.stack=X.env::X.outer/\X.env.frame=some X.env.locals)
 sF:∀ b∈X.ex,b≠X.env.locals/\∀ x c,X.env.cells.lookup x=some c->c≠b
 bs:∀ b o,X.base.get? b=some o->X.di.heap.get? b=some o/\X.om b=none
 jC:X.base.objs.size<=X.di.heap.objs.size
 qo:∀ b o,X.base.get? b=some o->b∉X.ex
 o7:∀ b∈X.ex,b∉X.fs
 gf:X.di.heap.FunFrames X.base X.outer
 oo:∀ b∈X.fs,X.om b=none
structure Inv (X:Cx) (pins:List (Addr×Obj)) (σ:List (Option V)) (H:Hp) (s:Shared):Prop where
 ok:X.Ok
 os:s.os=X.di.os
 bare:AllBare s.gens
 base:Un X.fs X.ex X.om H X.di.heap s.heap
 loc:∃ m,s.heap.Ns X.env.locals m/\∀ (i:Nat) (x:Str) (v:V),X.N[i]?=some x->σ[i]?=some (some v)->sE X.env.scope x->∃ u,RelV v u/\Look X.env s.heap m x u
 cell:∀ x c,X.env.cells.lookup x=some c->∃ v,s.heap.IsCell c v
 free:H X.env.locals=none
 e8:∀ x c,X.env.cells.lookup x=some c->H c=none
 pin:∀ p∈X.pn++pins,s.heap.get? p.1=some p.2/\H p.1=none/\p.1≠X.env.locals/\p.1∉X.fs/\∀ v,p.2.data≠.cell v
 az:bO X.prog X.w H s.heap
 len:σ.length=X.N.length
section
variable {X:Cx}{pins:List (Addr×Obj)}{σ:List (Option V)}{H H':Hp}{s:Shared}{h':Heap}
theorem Cx.Ok.ar4 (ok:X.Ok) {b:Addr}{o:Obj} (e:X.base.get? b=some o):b∉X.fs:=fun hb=>by
 have:=(ok.gf.mem hb).1
 rw[e] at this;cases this
theorem Inv.bs (I:Inv X pins σ H s):∀ b o,X.base.get? b=some o->s.heap.get? b=some o/\H b=none:=fun b o e =>
 ⟨I.base.keep b o (I.ok.bs b o e).1 (I.ok.bs b o e).2 (I.ok.ar4 e) (I.ok.qo b o e),I.base.free b o (I.ok.bs b o e).1 (I.ok.bs b o e).2 (I.ok.qo b o e)⟩
theorem Inv.bk (I:Inv X pins σ H s):∀ b o,X.base.get? b=some o->s.heap.get? b=some o:=fun b o e=>(I.bs b o e).1
theorem Inv.mod (I:Inv X pins σ H s):Mod X.K X.mg X.base:=I.ok.mod
theorem Inv.cZ (I:Inv X pins σ H s):X.K.In s.heap:=I.ok.mod.sD.keeps I.bk
theorem Inv.lt (I:Inv X pins σ H s):X.env.locals<s.heap.objs.size:=let ⟨_,hn,_⟩:=I.loc;hn.lt
theorem Inv.sz (I:Inv X pins σ H s):X.di.heap.objs.size<=s.heap.objs.size:=Nat.le_trans I.ok.above (Nat.le_of_lt I.lt)
theorem Inv.ar5 (I:Inv X pins σ H s) {a:Addr} (h:s.heap.objs.size<=a):a∉X.fs:=fun hb=>by
 obtain⟨_,o,ho,_⟩:=I.ok.gf.mem hb
 exact absurd (Nat.lt_of_lt_of_le (Heap.lt_size ho) (Nat.le_trans I.sz h)) (Nat.lt_irrefl _)
theorem Inv.pf (I:Inv X pins σ H s):∀ x c,X.env.cells.lookup x=some c->c≠X.env.locals:=fun x c e z=>by
 obtain⟨v,o,ho,hd⟩:=I.cell x c e
 obtain⟨m,⟨o',es,ep,br,sG,_⟩,_⟩:=I.loc
 rw[z,br] at ho;cases ho;rw[sG] at hd;cases hd
theorem Inv.gf (I:Inv X pins σ H s):s.heap.FunFrames X.base X.outer:=by
 have all:∀ (l:List Env),(∀ b∈dj l,b∈X.fs)->X.di.heap.FunFrames X.base l->s.heap.FunFrames X.base l:=by
  intro l
  induction l with
  | nil=>intro _ _;trivial
  | cons env r ih =>
   intro hs hl
   obtain⟨hk,⟨L,o,hf,hn,ho,hd⟩,hr⟩:=hl
   have hL:L∈X.fs:=hs L (by unfold dj;rw[List.filterMap_cons,hf];exact List.mem_cons_self)
   obtain⟨sl,e⟩:=I.base.slot L o ho (I.ok.oo L hL) hL fun z=>I.ok.o7 L z hL
   exact⟨hk,⟨L,_,hf,hn,e,hd⟩,ih (fun b hb=>hs b (by unfold dj;rw[List.filterMap_cons,hf];exact List.mem_cons_of_mem _ hb)) hr⟩
 exact all X.outer (fun _ hb=>hb) I.ok.gf
theorem Inv.stack (I:Inv X pins σ H s):s.heap.FunFrames X.base X.stack:=by
 rcases I.ok.jB with e | ⟨e,hf⟩
 ·rw[e];exact I.gf
 rw[e]
 obtain⟨m,hn,_⟩:=I.loc
 refine .cons (by rw[I.ok.kind];decide) hf hn ?_ I.gf
 exact Heap.get?_none_of_le (Nat.le_trans I.ok.jC I.ok.above)
theorem Inv.D7 (I:Inv X pins σ H s):∀ b∈dj X.stack,b∈X.env.locals::X.fs:=fun b hb=>by
 rcases I.ok.jB with e | ⟨e,hf⟩
 ·rw[e] at hb;exact List.mem_cons_of_mem _ hb
 rw[e] at hb
 unfold dj at hb
 rw[List.filterMap_cons,hf] at hb
 exact hb
theorem Inv.DT (I:Inv X pins σ H s):∀ b∈dj X.stack,H b=none:=fun b hb=>by
 rcases List.mem_cons.mp (I.D7 b hb) with e | hb
 ·rw[e];exact I.free
 obtain⟨_,o,ho,_⟩:=I.ok.gf.mem hb
 exact I.base.free b o ho (I.ok.oo b hb) fun z=>I.ok.o7 b z hb
theorem Inv.step {g':Array GenState}{t':Nat}{d':Drawn}{ch:List Addr} (I:Inv X pins σ H s)
  (mG:∀ b∈ch,(b∈X.ex\/X.di.heap.objs.size<=b)/\b≠X.env.locals/\(∀ x c,X.env.cells.lookup x=some c->c≠b)/\∀ p∈X.pn++pins,p.1≠b)
  (keep:∀ b o,b≠X.env.locals->b∉X.fs->b∉ch->s.heap.get? b=some o->H b=none->h'.get? b=some o)
  (slot:∀ b o,b≠X.env.locals->b∈X.fs->b∉ch->s.heap.get? b=some o->H b=none->∃ sl,h'.get? b=some {o with slots:=sl}) (free:∀ b o,b∉ch->s.heap.get? b=some o->H b=none->H' b=none)
  (there:∀ b o,b∉ch->s.heap.get? b=some o->∃ o',h'.get? b=some o')
  (fP:∀ b xs,H b=some (.tup xs)->H' b=some (.tup xs)) (fe:∀ b o u,H b=some (.bK o u)->H' b=some (.bK o u)) (fQ:∀ b ps,H b=some (.oh ps)->∃ more,H' b=some (.oh (ps++more)))
  (ns:∀ m,s.heap.Ns X.env.locals m->h'.Ns X.env.locals m) (az:bO X.prog X.w H' h') (hg:AllBare g') :
  Inv X pins σ H' {s with heap:=h',gens:=g',drawn:=d',toks:=t'}:=by
 have XG:∀ b o,X.di.heap.get? b=some o->b≠X.env.locals:=fun b o e=>Nat.ne_of_lt (Nat.lt_of_lt_of_le (Heap.lt_size e) I.ok.above)
 have zC:∀ b o,X.di.heap.get? b=some o->b∉X.ex->b∉ch:=fun b o e hx hb=>by
  rcases (mG b hb).1 with z | z
  ·exact hx z
  exact absurd (Nat.lt_of_lt_of_le (Heap.lt_size e) z) (Nat.lt_irrefl _)
 have cellK:∀ x c,X.env.cells.lookup x=some c->∀ v,s.heap.IsCell c v->h'.IsCell c v:=fun x c e v ⟨o,ho,hd⟩=>by
  have uW:c∉ch:=fun z=>(mG c z).2.2.1 x c e rfl
  by_cases hc:c∈X.fs
  ·obtain⟨sl,q⟩:=slot c o (I.pf x c e) hc uW ho (I.e8 x c e)
   exact⟨_,q,hd⟩
  exact⟨o,keep c o (I.pf x c e) hc uW ho (I.e8 x c e),hd⟩
 refine⟨I.ok,I.os,hg,⟨fun b o e n hb hx=>?_,fun b o e n hb hx=>?_,fun b o e n hx=>?_,fun b o e hx=>?_,fun b xs e=>fP b xs (I.base.fP b xs e),fun b o xs e=>fe b o xs (I.base.fe b o xs e),fun b ps e=>?_⟩,?_,fun x c e=>?_,?_,fun x c e=>?_,fun p hp=>?_,az,I.len⟩
 ·exact keep b o (XG b o e) hb (zC b o e hx) (I.base.keep b o e n hb hx) (I.base.free b o e n hx)
 ·obtain⟨sl,e1⟩:=I.base.slot b o e n hb hx
  obtain⟨sl',e2⟩:=slot b _ (XG b o e) hb (zC b o e hx) e1 (I.base.free b o e n hx)
  exact⟨sl',e2⟩
 ·obtain⟨o',e1⟩:=I.base.there b o e hx
  exact free b o' (zC b o e hx) e1 (I.base.free b o e n hx)
 ·obtain⟨o',e1⟩:=I.base.there b o e hx
  exact there b o' (zC b o e hx) e1
 ·obtain⟨m1,e1⟩:=I.base.fQ b ps e
  obtain⟨m2,e2⟩:=fQ b _ e1
  exact⟨m1++m2,by rw[e2,Array.append_assoc]⟩
 ·obtain⟨m,hn,hl⟩:=I.loc
  refine⟨m,ns m hn,fun i x v e1 e2 e3=>?_⟩
  obtain⟨u,r,l⟩:=hl i x v e1 e2 e3
  refine⟨u,r,?_⟩
  rcases l with l | ⟨k,c,e,z⟩
  ·exact .inl l
  exact .inr ⟨k,c,e,cellK x c e _ z⟩
 ·obtain⟨v,z⟩:=I.cell x c e
  exact⟨v,cellK x c e v z⟩
 ·obtain⟨m,⟨o,_,_,ho,_⟩,_⟩:=I.loc
  exact free _ o (fun z=>(mG _ z).2.1 rfl) ho I.free
 ·obtain⟨v,o,ho,hd⟩:=I.cell x c e
  exact free c o (fun z=>(mG c z).2.2.1 x c e rfl) ho (I.e8 x c e)
 obtain⟨e,n,ne,nf,d⟩:=I.pin p hp
 have uW:p.1∉ch:=fun z=>(mG p.1 z).2.2.2 p hp rfl
 exact⟨keep p.1 p.2 ne nf uW e n,free p.1 p.2 uW e n,ne,nf,d⟩
theorem Inv.un {t':Nat} (I:Inv X pins σ H s) (u:Un X.fs [] H H' s.heap h') (az:bO X.prog X.w H' h'):Inv X pins σ H' {s with heap:=h',toks:=t'}:=by
 obtain⟨m,⟨o,es,ep,ho,r⟩,_⟩:=id I.loc
 obtain⟨sl,hL⟩:=u.any ho I.free (by simp)
 exact I.step (g':=s.gens) (d':=s.drawn) (ch:=[]) (fun _ z=>nomatch z) (fun b o _ hb _ e n=>u.keep b o e n hb (by simp)) (fun b o _ hb _ e n=>u.slot b o e n hb (by simp)) (fun b o _ e n=>u.free b o e n (by simp)) (fun b o _ e=>u.there b o e (by simp)) u.fP u.fe u.fQ (fun m' hm=>by
  obtain⟨o',ph,pk,br,r'⟩:=hm
  rw[ho] at br;cases br
  exact⟨_,ph,pk,hL,r'⟩) az I.bare
theorem Inv.call {g':Array GenState}{t':Nat}{d':Drawn}{ch:List Addr} (I:Inv X pins σ H s) (u:Un (dj X.stack) ch H H' s.heap h') (az:bO X.prog X.w H' h') (hg:AllBare g')
  (mG:∀ b∈ch,(b∈X.ex\/X.di.heap.objs.size<=b)/\b≠X.env.locals/\(∀ x c,X.env.cells.lookup x=some c->c≠b)/\∀ p∈X.pn++pins,p.1≠b) :
  Inv X pins σ H' {s with heap:=h',gens:=g',drawn:=d',toks:=t'}:=by
 obtain⟨m,⟨o,es,ep,ho,r⟩,_⟩:=id I.loc
 obtain⟨sl,hL⟩:=u.any ho I.free fun z=>(mG _ z).2.1 rfl
 exact I.step (ch:=ch) mG (fun b o hL hb hc e n=>u.keep b o e n (fun z=>(List.mem_cons.mp (I.D7 b z)).elim hL hb) hc) (fun b o _ _ hc e n=>u.any e n hc) (fun b o hc e n=>u.free b o e n hc) (fun b o hc e=>u.there b o e hc) u.fP u.fe u.fQ (fun m' hm=>by
  obtain⟨o',ph,pk,br,r'⟩:=hm
  rw[ho] at br;cases br
  exact⟨_,ph,pk,hL,r'⟩) az hg
theorem Inv.turned {t':Nat}{it:Addr} (I:Inv X pins σ H s) (k:∀ b o,b≠it->s.heap.get? b=some o->h'.get? b=some o) (hn:H it=none) (hL:it≠X.env.locals)
  (h1:it∈X.ex\/X.di.heap.objs.size<=it) (h2:∀ x c,X.env.cells.lookup x=some c->c≠it) (h3:∀ p∈X.pn++pins,p.1≠it):Inv X pins σ H {s with heap:=h',toks:=t'}:=by
 have uX:∀ b u,H b=some u->b≠it:=fun b u e z=>by rw[z,hn] at e;cases e
 refine I.step (g':=s.gens) (d':=s.drawn) (ch:=[it]) (fun b hb=>?_) (fun b o _ _ hc e _=>k b o (fun z=>hc (by simp[z])) e) (fun b o _ _ hc e _=>⟨o.slots,k b o (fun z=>hc (by simp[z])) e⟩) (fun _ _ _ _ n=>n)
  (fun b o hc e=>⟨o,k b o (fun z=>hc (by simp[z])) e⟩) (fun _ _ e=>e) (fun _ _ _ e=>e) (fun b ps e=>⟨#[],by rw[e];simp⟩) (fun m hm=>?_) (fun b u e=>?_) I.bare
 ·have e:b=it:=by simpa using hb
  subst e
  exact⟨h1,hL,h2,h3⟩
 ·obtain⟨o,es,ep,ho,r⟩:=hm
  exact⟨o,es,ep,k _ o (Ne.symm hL) ho,r⟩
 refine(I.az b u e).gR (fun c v hc q=>k c v ?_ q) (fun _ q=>q) fun _ _ q=>q
 rcases hc with z | z
 ·rw[z];exact uX b u e
 exact uX c _ z
theorem Inv.tok (I:Inv X pins σ H s) (t:Nat):Inv X pins σ H {s with toks:=t}:=I.un (h':=s.heap) (t':=t) Un.refl I.az
theorem Inv.kept {t':Nat} (I:Inv X pins σ H s) (k:∀ b u,s.heap.get? b=some u->h'.get? b=some u):Inv X pins σ H {s with heap:=h',toks:=t'}:=I.un (Un.kept k) (I.az.kept k)
theorem Inv.laid {a:Addr}{o:HO}{t':Nat} (I:Inv X pins σ H s) (k:∀ b u,s.heap.get? b=some u->h'.get? b=some u) (hp:s.heap.objs.size<=a) (new:cN X.prog X.w (upd H a o) h' a o) :
  Inv X pins σ (upd H a o) {s with heap:=h',toks:=t'}:=I.un (Un.laid k hp (I.az.fresh hp)) (I.az.laid k hp new)
theorem Inv.write {x e:Addr}{o:HO}{t':Nat} (I:Inv X pins σ H s) (mu:oj (H x)) (he:e=x\/H e=some (.own x)) (k:∀ b u,b≠e->s.heap.get? b=some u->h'.get? b=some u) (sC:∃ u,h'.get? e=some u)
  (new:cN X.prog X.w (upd H x o) h' x o):Inv X pins σ (upd H x o) {s with heap:=h',toks:=t'}:=I.un (Un.write mu he k sC) (I.az.write mu he k sC new)
theorem Inv.weak {σ':List (Option V)} (I:Inv X pins σ H s) (hl:σ'.length=σ.length) (w:∀ (i:Nat) v,σ'[i]?=some (some v)->σ[i]?=some (some v)):Inv X pins σ' H s :=
 ⟨I.ok,I.os,I.bare,I.base,let ⟨m,hn,EV⟩:=I.loc;⟨m,hn,fun i x v e1 e2 e3=>EV i x v e1 (w i v e2) e3⟩,I.cell,I.free,I.e8,I.pin,I.az,hl.trans I.len⟩
theorem Inv.VB {qh:List (Addr×Obj)} (I:Inv X pins σ H s) (h:∀ p∈qh,s.heap.get? p.1=some p.2/\H p.1=none/\p.1≠X.env.locals/\p.1∉X.fs/\∀ v,p.2.data≠.cell v):Inv X qh σ H s :=
 ⟨I.ok,I.os,I.bare,I.base,I.loc,I.cell,I.free,I.e8,fun p hp=>(List.mem_append.mp hp).elim (fun z=>I.pin p (List.mem_append_left _ z)) (h p),I.az,I.len⟩
theorem DL {N:List Str} (hN:N.Nodup) {i j:Nat}{x:Str} (a:N[i]?=some x) (b:N[j]?=some x):i=j:=by
 obtain⟨h1,e1⟩:=List.getElem?_eq_some_iff.mp a
 obtain⟨h2,e2⟩:=List.getElem?_eq_some_iff.mp b
 exact(List.getElem_inj hN).mp (e1.trans e2.symm)
theorem Ug {M:Model}{A:Around}{E:Value->Shared->Prop}{i:Nat}{x:Str}{v:V}{u:Value}{Q:Unit->Shared->Prop} (I:Inv X pins σ H s) (hN:X.N.Nodup) (hi:X.N[i]?=some x) (hx:Loc X.env.scope x) (r:RelV v u)
  (h:∀ s',Inv X pins (σ.set i (some v)) H s'->(∃ a,Heap.SameBut a s.heap s'.heap/\(a=X.env.locals\/X.env.cells.lookup x=some a))->Q () s') (hf:X.fn x=true\/X.env.scope.names.lookup x=some .local:=by first | exact .inl rfl | exact .inr rfl | assumption):wpAny M A (storeName X.env x u) Q E s:=by
 obtain⟨m,hn,hl⟩:=id I.loc
 have ar6:(X.env.scope.kind==.class||(X.env.scope.kind==.module&&X.env.locals != X.env.globals))=false:=by rw[I.ok.kind];rfl
 have XH:i<σ.length:=by rw[I.len];exact(List.getElem?_eq_some_iff.mp hi).1
 have pf:=I.pf
 have tracked:∀ {a:Addr}{h':Heap},(∃ o,s.heap.get? a=some o/\H a=none)->Heap.SameBut a s.heap h'->bO X.prog X.w H h':=fun {a h'} ha hs b ob e=>by
  obtain⟨_,_,rW⟩:=ha
  refine(I.az b ob e).gR (fun c w' hc q=>(hs.2 c ?_).trans q) (fun _ q=>q) fun _ _ q=>q
  rintro rfl
  rcases hc with rfl | hc
  ·rw[rW] at e;cases e
  rw[rW] at hc;cases hc
 rcases hx with hk | hk
 ·refine wpAny_storeName_local hk hn (fun h' EW hs=>?_) ar6
  obtain⟨oL,_,_,hoL,_⟩:=id hn
  refine h _ ⟨I.ok,I.os,I.bare,⟨fun b o e n hb hx=>?_,fun b o e n hb hx=>?_,I.base.free,fun b o e hx=>?_,I.base.fP,I.base.fe,I.base.fQ⟩,⟨_,EW,fun j y v' e1 e2 e3=>?_⟩,fun y c e=>?_,I.free,I.e8,fun p hp=>?_,tracked ⟨oL,hoL,I.free⟩ hs,by simpa using I.len⟩ ⟨_,hs,.inl rfl⟩
  ·exact(hs.2 b (Nat.ne_of_lt (Nat.lt_of_lt_of_le (Heap.lt_size e) I.ok.above))).trans (I.base.keep b o e n hb hx)
  ·obtain⟨sl,e1⟩:=I.base.slot b o e n hb hx
   exact⟨sl,(hs.2 b (Nat.ne_of_lt (Nat.lt_of_lt_of_le (Heap.lt_size e) I.ok.above))).trans e1⟩
  ·obtain⟨o',e1⟩:=I.base.there b o e hx
   exact⟨o',(hs.2 b (Nat.ne_of_lt (Nat.lt_of_lt_of_le (Heap.lt_size e) I.ok.above))).trans e1⟩
  ·by_cases hj:j=i
   ·subst hj
    rw[hi] at e1;cases e1
    rw[List.getElem?_set_self XH] at e2
    cases e2
    exact⟨u,r,.inl ⟨hk,by simp⟩⟩
   rw[List.getElem?_set_ne (Ne.symm hj)] at e2
   obtain⟨u',r',q⟩:=hl j y v' e1 e2 e3
   refine⟨u',r',?_⟩
   rcases q with ⟨k,e⟩ | ⟨k,c,e,z⟩
   ·refine .inl ⟨k,?_⟩
    have:y≠x:=fun e=>hj (DL hN e1 (e ▸ hi))
    simp[this,e]
   exact .inr ⟨k,c,e,z.sameBut hs (pf y c e)⟩
  ·obtain⟨w',z⟩:=I.cell y c e
   exact⟨w',z.sameBut hs (pf y c e)⟩
  obtain⟨e,n,ne,nf,d⟩:=I.pin p hp
  exact⟨(hs.2 p.1 ne).trans e,n,ne,nf,d⟩
 have EX:X.fn x=true:=by
  rcases hf with z | z
  ·exact z
  rw[z] at hk;cases hk
 obtain⟨c,hc⟩:=I.ok.has x (.inl hk)
 obtain⟨w',z⟩:=I.cell x c hc
 refine wpAny_storeName_cell I.ok.kind hk hc z (fun h' eg hs=>?_)
 obtain⟨oc,XI,ar7⟩:=id z
 refine h {s with heap:=h'} ⟨I.ok,I.os,I.bare,⟨fun b o e n hb hx=>?_,fun b o e n hb hx=>?_,I.base.free,fun b o e hx=>?_,I.base.fP,I.base.fe,I.base.fQ⟩,⟨m,hn.sameBut hs (Ne.symm (pf x c hc)),fun j y v' e1 e2 e3=>?_⟩,fun y c' e=>?_,I.free,I.e8,fun p hp=>?_,tracked ⟨oc,XI,I.e8 x c hc⟩ hs,by simpa using I.len⟩ ⟨c,hs,.inr hc⟩
 ·exact(hs.2 b (Nat.ne_of_lt (Nat.lt_of_lt_of_le (Heap.lt_size e) (I.ok.qE x c EX hc)))).trans (I.base.keep b o e n hb hx)
 ·obtain⟨sl,e1⟩:=I.base.slot b o e n hb hx
  exact⟨sl,(hs.2 b (Nat.ne_of_lt (Nat.lt_of_lt_of_le (Heap.lt_size e) (I.ok.qE x c EX hc)))).trans e1⟩
 ·obtain⟨o',e1⟩:=I.base.there b o e hx
  exact⟨o',(hs.2 b (Nat.ne_of_lt (Nat.lt_of_lt_of_le (Heap.lt_size e) (I.ok.qE x c EX hc)))).trans e1⟩
 ·by_cases hj:j=i
  ·subst hj
   rw[hi] at e1;cases e1
   rw[List.getElem?_set_self XH] at e2
   cases e2
   exact⟨u,r,.inr ⟨.inl hk,c,hc,eg⟩⟩
  rw[List.getElem?_set_ne (Ne.symm hj)] at e2
  obtain⟨u',r',q⟩:=hl j y v' e1 e2 e3
  refine⟨u',r',?_⟩
  rcases q with q | ⟨k,c',e,z'⟩
  ·exact .inl q
  refine .inr ⟨k,c',e,z'.sameBut hs ?_⟩
  rintro rfl
  exact hj (DL hN e1 (I.ok.inj _ _ _ e hc ▸ hi))
 ·by_cases sH:c'=c
  ·subst sH;exact⟨_,eg⟩
  obtain⟨w2,z2⟩:=I.cell y c' e
  exact⟨w2,z2.sameBut hs sH⟩
 obtain⟨e,n,ne,nf,d⟩:=I.pin p hp
 refine⟨(hs.2 p.1 ?_).trans e,n,ne,nf,d⟩
 intro q
 rw[q,XI] at e
 have q':oc=p.2:=Option.some.inj e
 exact d w' (by rw[<- q'];exact ar7)
theorem yD {M:Model}{A:Around}{E:Value->Shared->Prop}{i:Nat}{x:Str}{v:V}{u:Value}{Q:Unit->Shared->Prop} (I:Inv X pins σ H s) (hN:X.N.Nodup) (hi:X.N[i]?=some x) (hx:Loc X.env.scope x) (r:RelV v u)
  (h:∀ s',Inv X pins (σ.set i (some v)) H s'->Q () s') (hf:X.fn x=true\/X.env.scope.names.lookup x=some .local:=by first | exact .inl rfl | exact .inr rfl | assumption):wpAny M A (storeName X.env x u) Q E s :=
 Ug I hN hi hx r (fun s' I' _=>h s' I') hf
theorem Inv.WG {s':Shared}{ch:List Addr} (I:Inv X pins σ H s) (ho:s'.os=s.os) (u:Un (dj X.stack) ch H H' s.heap s'.heap) (az:bO X.prog X.w H' s'.heap) (hg:AllBare s'.gens)
  (mG:∀ b∈ch,(b∈X.ex\/X.di.heap.objs.size<=b)/\b≠X.env.locals/\(∀ x c,X.env.cells.lookup x=some c->c≠b)/\∀ p∈X.pn++pins,p.1≠b):Inv X pins σ H' s':=by
 obtain⟨h',g',d',t',o'⟩:=s'
 have e:o'=s.os:=ho
 subst e
 exact I.call (g':=g') (t':=t') (d':=d') u az hg mG
end
abbrev XK:=Value->Option Addr->Hp->Prop
abbrev St:=List (Option V)
abbrev VK:=V->Hp->Prop
abbrev TE:=St->Hp->VK->Prop
abbrev TT:=St->Hp->(Bool->Hp->Prop)->Prop
abbrev TA:=St->Hp->(List V->Hp->Prop)->Prop
structure Ends where
 nx:St->Hp->Prop
 rt:VK
 bk:St->Hp->Prop:=fun _ _=>False
 ct:St->Hp->Prop:=fun _ _=>False
abbrev TS:=Ends->St->Hp->Prop
def EP (X:Cx) (pins:List (Addr×Obj)) (σ:St) (Q:VK) (u:Value) (s':Shared):Prop:=∃ v H',Inv X pins σ H' s'/\RelV v u/\Q v H'
def TP (X:Cx) (pins:List (Addr×Obj)) (σ:St) (Q:Bool->Hp->Prop) (b:Bool) (s':Shared):Prop:=∃ H',Inv X pins σ H' s'/\Q b H'
def AP (X:Cx) (pins:List (Addr×Obj)) (σ:St) (Q:List V->Hp->Prop) (us:List Value) (s':Shared):Prop:=∃ vs H',Inv X pins σ H' s'/\Vals vs us/\Q vs H'
def SP (X:Cx) (pins:List (Addr×Obj)) (D:Ends) (f:Flow) (s':Shared):Prop :=
 match f with
 | .next=>∃ σ' H',Inv X pins σ' H' s'/\D.nx σ' H'
 | .brk=>∃ σ' H',Inv X pins σ' H' s'/\D.bk σ' H'
 | .cont=>∃ σ' H',Inv X pins σ' H' s'/\D.ct σ' H'
 | .ret u=>∃ v σ' H',Inv X pins σ' H' s'/\RelV v u/\D.rt v H'
def PE (X:Cx) (e:Expr) (t:TE):Prop :=
 ∀ (pins:List (Addr×Obj)) (s:Shared) (σ:St) (H:Hp) (Q:VK),Inv X pins σ H s->t σ H Q->wpAny (model X.prog X.w) X.A (eval e X.env) (EP X pins σ Q) X.xe s
def PT (X:Cx) (e:Expr) (t:TT):Prop :=
 ∀ (pins:List (Addr×Obj)) (s:Shared) (σ:St) (H:Hp) (Q:Bool->Hp->Prop),Inv X pins σ H s->t σ H Q->wpAny (model X.prog X.w) X.A (isTrue e X.env (eval e X.env)) (TP X pins σ Q) X.xe s
def PW (X:Cx) (e:Expr) (t:TT):Prop :=
 ∀ (whole:Sem Value) (pins:List (Addr×Obj)) (s:Shared) (σ:St) (H:Hp) (Q:Bool->Hp->Prop),Inv X pins σ H s->t σ H Q->wpAny (model X.prog X.w) X.A (isTrue e X.env whole) (TP X pins σ Q) X.xe s
theorem PW.pt {X:Cx}{e:Expr}{t:TT} (h:PW X e t):PT X e t:=h _
def PA (X:Cx) (es:List Expr) (t:TA):Prop :=
 ∀ (pos:Pos) (pins:List (Addr×Obj)) (s:Shared) (σ:St) (H:Hp) (Q:List V->Hp->Prop),Inv X pins σ H s->t σ H Q->wpAny (model X.prog X.w) X.A (spliced (backTo pos (starEach es X.env))) (AP X pins σ Q) X.xe s
def PS (X:Cx) (st:Stmt) (t:TS):Prop :=
 ∀ (pins:List (Addr×Obj)) (s:Shared) (σ:St) (H:Hp) (D:Ends),Inv X pins σ H s->t D σ H->wpAny (model X.prog X.w) X.A (exec st X.env) (SP X pins D) X.xe s
def fz (X:Cx) (st:List Stmt) (t:TS):Prop :=
 ∀ (pins:List (Addr×Obj)) (s:Shared) (σ:St) (H:Hp) (D:Ends),Inv X pins σ H s->t D σ H->wpAny (model X.prog X.w) X.A (execs st X.env) (SP X pins D) X.xe s
theorem aD {α:Type}{t:Sem α}{Q Q':α->Shared->Prop}{M:Model}{A:Around}{E:Value->Shared->Prop}{s:Shared} (h:wpAny M A t Q E s) (hQ:∀ a s,Q a s->Q' a s):wpAny M A t Q' E s:=wpAny_mono h hQ fun _ _ x=>x
end L2
namespace L2
open PySem PySem.Spec PyProof.Rows
section
variable {X:Cx}
def W3 (i:Nat):TE:=fun σ H Q=>∃ v,σ[i]?=some (some v)/\Q v H
def tC (v:V):TE:=fun _ H Q=>Q v H
theorem ap9 {i:Nat}{x:Str}{pos:Pos} (hN:X.N[i]?=some x) (hv:sE X.env.scope x) (hd:(x==("__debug__":Str))=false:=by decide) (dY:(x==("__classdict__":Str))=false:=by decide):PE X (.Name x pos) (W3 i):=by
 intro pins s σ H Q I h
 obtain⟨v,e,h⟩:=h
 obtain⟨m,hn,hl⟩:=I.loc
 obtain⟨u,r,l⟩:=hl i x v hN e hv
 have fin:EP X pins σ Q u s:=⟨v,H,I,r,h⟩
 rcases l with ⟨hk,hm⟩ | ⟨hk,c,hc,zp⟩
 ·exact wpAny_Name (wpAny_loadName_local I.ok.kind hk hn hm fin) hd
 rcases hk with hk | hk
 ·exact wpAny_Name (wpAny_loadName_cell I.ok.kind hk hc zp fin) hd
 exact wpAny_Name (wpAny_loadName_free I.ok.kind hk hc zp fin dY) hd
theorem aB {i j pos}:PE X (.Constant (.int i) j pos) (tC (.int i)):=fun _ _ _ H _ I h=>wpAny_Constant_int ⟨.int i,H,I.tok _,⟨_,rfl⟩,h⟩
theorem Wh {j pos}:PE X (.Constant .none j pos) (tC .aH):=fun _ _ _ H _ I h=>Constant_none ⟨.aH,H,I,rfl,h⟩
theorem jk {x j pos}:PE X (.Constant (.str x) j pos) (tC (.str x)):=fun _ _ _ H _ I h=>Calls.Constant_str ⟨.str x,H,I.tok _,⟨_,rfl⟩,h⟩
def Gl (X:Cx) (x:Str):Prop:=X.env.kindOf x=some .globalImplicit
theorem mn {E:Value->Shared->Prop}{pins:List (Addr×Obj)}{s:Shared}{σ:St}{H:Hp}{x:Str}{u:Value}{pos:Pos}{Q:Value->Shared->Prop} (I:Inv X pins σ H s) (hg:Gl X x) (hm:X.mg x=some u) (h:Q u s)
  (hd:(x==("__debug__":Str))=false:=by decide):wpAny (model X.prog X.w) X.A (eval (.Name x pos) X.env) Q E s :=
 Calls.Name_function_global I.ok.kind hg (Calls.loadGlobal_global (by rw[I.ok.glob];exact I.mod.glob.keeps I.bk) hm h) hd
theorem oQ {E:Value->Shared->Prop}{pins:List (Addr×Obj)}{s:Shared}{σ:St}{H:Hp}{x:Str}{u:Value}{pos:Pos}{Q:Value->Shared->Prop} (I:Inv X pins σ H s) (hg:Gl X x) (hm:X.mg x=none) (hv:bootBuiltins x=some u) (h:Q u s)
  (hn:x≠"__name__":=by decide) (hd:(x==("__debug__":Str))=false:=by decide):wpAny (model X.prog X.w) X.A (eval (.Name x pos) X.env) Q E s:=by
 obtain⟨mb,h1,h2⟩:=I.mod.blt
 exact Calls.Name_function_global I.ok.kind hg (Calls.loadGlobal_builtin (by rw[I.ok.glob];exact I.mod.glob.keeps I.bk) hm (by rw[I.ok.blt];exact h1.keeps I.bk) ((h2 x hn).trans hv) h) hd
theorem VC {x:Str}{v:V}{u:Value}{pos:Pos} (hg:Gl X x) (hm:X.mg x=some u) (r:RelV v u) (hd:(x==("__debug__":Str))=false:=by decide):PE X (.Name x pos) (tC v) :=
 fun _ _ _ H _ I h=>mn I hg hm ⟨v,H,I,r,h⟩ hd
variable {a b:Expr}{ta tb:TE}{pos:Pos}
def PC (X:Cx) (op:CmpOp) (a b:Expr) (t:TE):Prop :=
 ∀ (pins:List (Addr×Obj)) (s:Shared) (σ:St) (H:Hp) (Q:VK),Inv X pins σ H s->t σ H Q ->
  wpAny (model X.prog X.w) X.A (eval a X.env) (fun v s₁=>wpAny (model X.prog X.w) X.A (eval b X.env) (fun u s₂=>wpAny (model X.prog X.w) X.A (compareOp op v u) (EP X pins σ Q) X.xe s₂) X.xe s₁) X.xe s
theorem am4 (b:Expr) {op:CmpOp} (h:op≠.In) (h2:op≠.NotIn):behindInMarks op b=false:=by
 have e1:(op==CmpOp.In)=false:=by cases op <;> first | rfl | exact absurd rfl h
 have e2:(op==CmpOp.NotIn)=false:=by cases op <;> first | rfl | exact absurd rfl h2
 cases b <;> simp[behindInMarks,e1,e2]
def ar8 (ta:TE):TE:=fun σ H Q=>ta σ H fun x H1=>Q (.bl (decide (x=.aH))) H1
theorem RelV.am5 {x:V}{v:Value} (r:RelV x v):(v==Value.none)=decide (x=.aH):=by
 cases x with
 | aH=>cases r;rfl
 | bl _=>cases r;rfl
 | int _=>obtain⟨t,rfl⟩:=r;rfl
 | str _=>obtain⟨t,rfl⟩:=r;rfl
 | fy _=>obtain⟨t,rfl⟩:=r;rfl
 | uV _=>obtain⟨t,rfl⟩:=r;rfl
 | ref _=>cases r;rfl
 | ty _=>cases r;rfl
theorem Wi {j pos'} (ha:PE X a ta):PC X .Is a (.Constant .none j pos') (ar8 ta):=by
 intro pins s σ H Q I h
 refine aD (ha pins s σ H _ I h) fun v s1 ⟨x,H1,I1,r1,q1⟩=>?_
 exact Constant_none (is_none_gen ⟨.bl _,H1,I1,by rw[r1.am5];rfl,q1⟩)
def tB (t:TE):TT:=fun σ H Q=>t σ H fun x H1=>∃ c,x=.bl c/\Q c H1
theorem zd {op:CmpOp}{t:TE} (h:PC X op a b t) (h1:behindInMarks op b=false:=by first | exact am4 _ (by decide) (by decide) | rfl):PT X (.Compare a [op] [b] pos) (tB t):=by
 intro pins s σ H Q I hw
 refine wpAny_isTrue_Compare1 (aD (h pins s σ H _ I hw) fun v s1 h1=>aD h1 fun u s2 h2=>aD h2 fun c s3 ⟨x,H1,I1,r1,q1⟩=>?_) h1
 obtain⟨d,rfl,q⟩:=q1
 cases r1
 exact wpAny_truthy_bool ⟨H1,I1,q⟩
theorem jl {e:Expr}{t:TE} (h:PE X e t) (he:∀ whole,isTrue e X.env whole=(do let v <- whole;standAt e.pos;holding [v] (truthy v)):=by intro _;rfl):PT X e (tB t):=by
 intro pins s σ H Q I hw
 refine isTrue_plain (aD (h pins s σ H _ I hw) fun v s1 ⟨x,H1,I1,r1,q1⟩=>?_) (he _)
 obtain⟨d,rfl,q⟩:=q1
 cases r1
 exact wpAny_truthy_bool ⟨H1,I1,q⟩
variable {tA zD:TT}{rest:List Expr}
def ar9 (t u:TT):TT:=fun σ H Q=>t σ H fun c H1=>if c=true then u σ H1 Q else Q false H1
def tOr (t u:TT):TT:=fun σ H Q=>t σ H fun c H1=>if c=true then Q true H1 else u σ H1 Q
def ara (t:TT):TT:=fun σ H Q=>t σ H fun c H1=>Q (!c) H1
theorem DU (ha:PT X a tA):PW X (.BoolOp .And [a] pos) tA:=by
 intro wh pins s σ H Q I h
 refine isTrue_and (aD (ha pins s σ H Q I h) fun c s1 e=>?_)
 cases c with
 | true=>exact isTrue_and_nil e
 | false=>exact e
theorem D8 (ha:PT X a tA):PW X (.BoolOp .Or [a] pos) tA:=by
 intro wh pins s σ H Q I h
 refine isTrue_or (aD (ha pins s σ H Q I h) fun c s1 e=>?_)
 cases c with
 | false=>exact isTrue_or_nil e
 | true=>exact e
theorem D9 (ha:PT X a tA) (hb:PW X (.BoolOp .And (b::rest) pos) zD):PW X (.BoolOp .And (a::b::rest) pos) (ar9 tA zD):=by
 intro wh pins s σ H Q I h
 refine isTrue_and (aD (ha pins s σ H _ I h) fun c s1 ⟨H1,I1,q1⟩=>?_)
 cases c with
 | true=>exact hb wh pins s1 σ H1 Q I1 q1
 | false=>exact⟨H1,I1,q1⟩
theorem zq (ha:PT X a tA) (hb:PW X (.BoolOp .Or (b::rest) pos) zD):PW X (.BoolOp .Or (a::b::rest) pos) (tOr tA zD):=by
 intro wh pins s σ H Q I h
 refine isTrue_or (aD (ha pins s σ H _ I h) fun c s1 ⟨H1,I1,q1⟩=>?_)
 cases c with
 | true=>exact⟨H1,I1,q1⟩
 | false=>exact hb wh pins s1 σ H1 Q I1 q1
theorem qf (ha:PT X a tA):PT X (.UnaryOp .Not a pos) (ara tA):=by
 intro pins s σ H Q I h
 exact isTrue_not (ha pins s σ H (fun c H1=>Q (!c) H1) I h)
def aqh (ta tb:TE):TE:=fun σ H Q=>ta σ H fun x H1=>∃ c,x=.bl c/\if c=true then tb σ H1 Q else Q (.bl false) H1
def aqi (ta:TE):TE:=fun σ H Q=>ta σ H fun x H1=>∃ c,x=.bl c/\Q (.bl (!c)) H1
theorem apa {op}{t:TE} (h:PE X a t):PE X (.BoolOp op [a] pos) t:=fun pins s σ H Q I hw=>BoolOp_one (h pins s σ H Q I hw)
theorem apb (ha:PE X a ta) (hb:PE X (.BoolOp .And (b::rest) pos) tb):PE X (.BoolOp .And (a::b::rest) pos) (aqh ta tb):=by
 intro pins s σ H Q I h
 refine BoolOp_and (aD (ha pins s σ H _ I h) fun v s1 ⟨x,H1,I1,r1,q1⟩=>?_)
 obtain⟨c,rfl,q1⟩:=q1
 cases r1
 refine wpAny_truthy_bool ?_
 cases c with
 | true=>exact hb pins s1 σ H1 Q I1 q1
 | false=>exact⟨.bl false,H1,I1,rfl,q1⟩
theorem apc (ha:PE X a ta):PE X (.UnaryOp .Not a pos) (aqi ta):=by
 intro pins s σ H Q I h
 refine UnaryOp_ (aD (ha pins s σ H _ I h) fun v s1 ⟨x,H1,I1,r1,q1⟩=>?_)
 obtain⟨c,rfl,q1⟩:=q1
 cases r1
 exact not_of (wpAny_truthy_bool ⟨.bl (!c),H1,I1,rfl,q1⟩)
end
end L2
namespace L2
open PySem PySem.Spec PyProof.Rows
def aq (K:W.Frag) (H:Hp) (a:Addr) (xs:List V):Prop :=
 Rd H a (.lst xs) \/
  ∃ (o:Obj) (aj:Array Value) (n:Nat),K.lookup a=some o/\o.cls=.type "list"/\o.dict=none/\o.data=.seq aj n/\aj.size<=sizeLine/\Vals xs aj.toList
def cp (K:W.Frag) (H:Hp) (a:Addr) (xs:List V):Prop :=
 Rd H a (.tup xs) \/
  ∃ (o:Obj) (aj:Array Value) (n:Nat),K.lookup a=some o/\o.cls=.type "tuple"/\o.data=.seq aj n/\aj.size<=sizeLine/\Vals xs aj.toList
def arb:Value->Option V
 | .none=>some .aH
 | .bool b=>some (.bl b)
 | .int i _=>some (.int i)
 | .str x _=>some (.str x)
 | .bytes b _=>some (.fy b)
 | .float b _=>some (.uV b)
 | .ref a=>some (.ref a)
 | .type n=>some (.ty n)
 | _=>none
theorem RelV.abs {x:V}{u:Value} (r:RelV x u):arb u=some x:=by
 cases x with
 | aH=>cases r;rfl
 | bl _=>cases r;rfl
 | int _=>obtain⟨t,rfl⟩:=r;rfl
 | str _=>obtain⟨t,rfl⟩:=r;rfl
 | fy _=>obtain⟨t,rfl⟩:=r;rfl
 | uV _=>obtain⟨t,rfl⟩:=r;rfl
 | ref _=>cases r;rfl
 | ty _=>cases r;rfl
theorem RelV.inj {x y:V}{u:Value} (r:RelV x u) (q:RelV y u):x=y:=Option.some.inj (r.abs.symm.trans q.abs)
theorem Vals.inj:∀ {xs ys:List V}{us:List Value},Vals xs us->Vals ys us->xs=ys
 | _,_,_,.nil,.nil=>rfl
 | _,_,_,.cons r t,.cons r' t'=>by rw[r.inj r',Vals.inj t t']
section
variable {X:Cx}{pins:List (Addr×Obj)}{σ:St}{H:Hp}{s:Shared}{a:Addr}{xs ys:List V}
theorem aq.of {K:W.Frag} (h:H a=some (.lst xs)):aq K H a xs:=.inl (.inl h)
theorem cp.of {K:W.Frag} (h:H a=some (.tup xs)):cp K H a xs:=.inl (.inl h)
theorem Inv.list (I:Inv X pins σ H s) (h:aq X.K H a xs):∃ aj:List Value,Vals xs aj/\PlainL s.heap a aj.toArray/\xs.length<=sizeLine:=by
 rcases h with h | ⟨o,aj,n,hk,hc,hd,hs,hz,r⟩
 ·obtain⟨z,aj,n,r,e⟩:=h.ok I.az
  exact⟨aj,r,⟨_,n,e,rfl,rfl,rfl⟩,z⟩
 refine⟨aj.toList,r,⟨o,n,I.cZ a o hk,hc,hd,by simpa using hs⟩,?_⟩
 have e:=r.length
 simp only [Array.length_toList] at e
 omega
theorem Inv.tuple (I:Inv X pins σ H s) (h:cp X.K H a xs):∃ aj:List Value,Vals xs aj/\IsTup s.heap a aj.toArray/\xs.length<=sizeLine:=by
 rcases h with h | ⟨o,aj,n,hk,hc,hs,hz,r⟩
 ·obtain⟨z,aj,r,p⟩:=h.ok I.az
  exact⟨aj,r,p,z⟩
 refine⟨aj.toList,r,⟨o,I.cZ a o hk,hc,n,by simpa using hs⟩,?_⟩
 have e:=r.length
 simp only [Array.length_toList] at e
 omega
theorem Inv.DM (I:Inv X pins σ H s) (h:aq X.K H a xs) (h':aq X.K H a ys):xs=ys:=by
 obtain⟨aj,r,⟨o,n,e,_,_,d⟩,_⟩:=I.list h
 obtain⟨its',r',⟨o',n',e',_,_,d'⟩,_⟩:=I.list h'
 rw[e] at e';cases e'
 rw[d] at d'
 injection d' with d1 _
 have:aj=its':=by simpa using congrArg Array.toList d1
 subst this
 exact r.inj r'
theorem Inv.Uh (I:Inv X pins σ H s) (h:cp X.K H a xs) (h':cp X.K H a ys):xs=ys:=by
 obtain⟨aj,r,⟨o,e,_,n,d⟩,_⟩:=I.tuple h
 obtain⟨its',r',⟨o',e',_,n',d'⟩,_⟩:=I.tuple h'
 rw[e] at e';cases e'
 rw[d] at d'
 injection d' with d1 _
 have:aj=its':=by simpa using congrArg Array.toList d1
 subst this
 exact r.inj r'
end
abbrev Cx.iC (X:Cx) (E:Value->Shared->Prop):Cx:={X with xe:=E}
abbrev Cx.zE (X:Cx):Cx:=X.iC fun _ _=>False
theorem Cx.Ok.iC {X:Cx} (ok:X.Ok) (E:Value->Shared->Prop):(X.iC E).Ok :=
 ⟨ok.mod,ok.kind,ok.glob,ok.blt,ok.above,ok.inj,ok.has,ok.qE,ok.hd,ok.frames,ok.jB,ok.sF,ok.bs,ok.jC,ok.qo,ok.o7,ok.gf,ok.oo⟩
theorem Cx.Ok.mv {X:Cx}{E:Value->Shared->Prop} (ok:(X.iC E).Ok):X.Ok :=
 ⟨ok.mod,ok.kind,ok.glob,ok.blt,ok.above,ok.inj,ok.has,ok.qE,ok.hd,ok.frames,ok.jB,ok.sF,ok.bs,ok.jC,ok.qo,ok.o7,ok.gf,ok.oo⟩
section
variable {X:Cx}{pins:List (Addr×Obj)}{σ:St}{H:Hp}{s:Shared}{E:Value->Shared->Prop}
theorem Inv.iC (I:Inv X pins σ H s) (E:Value->Shared->Prop):Inv (X.iC E) pins σ H s:=⟨I.ok.iC E,I.os,I.bare,I.base,I.loc,I.cell,I.free,I.e8,I.pin,I.az,I.len⟩
theorem Inv.mv (I:Inv (X.iC E) pins σ H s):Inv X pins σ H s:=⟨I.ok.mv,I.os,I.bare,I.base,I.loc,I.cell,I.free,I.e8,I.pin,I.az,I.len⟩
theorem SP.mv {D:Ends}{f:Flow}{s':Shared} (h:SP (X.iC E) pins D f s'):SP X pins D f s':=by
 cases f with
 | next=>obtain⟨σ',H',I,q⟩:=h;exact⟨σ',H',I.mv,q⟩
 | brk=>obtain⟨σ',H',I,q⟩:=h;exact⟨σ',H',I.mv,q⟩
 | cont=>obtain⟨σ',H',I,q⟩:=h;exact⟨σ',H',I.mv,q⟩
 | ret u=>obtain⟨v,σ',H',I,r,q⟩:=h;exact⟨v,σ',H',I.mv,r,q⟩
theorem fz.zE {st:List Stmt}{t:TS} (h:fz X.zE st t):fz X st t:=fun pins s σ H D I hw =>
 wpAny_mono (h pins s σ H D (I.iC _) hw) (fun _ _ q=>q.mv) fun _ _ z=>False.elim z
end
section
variable {X:Cx}{st:Stmt}{rest:List Stmt}{t u:TS}{e:Expr}{te:TE}{pos:Pos}
def aqj:TS:=fun D σ H=>D.nx σ H
def arc (t u:TS):TS:=fun D σ H=>t {D with nx:=u D} σ H
theorem cv:fz X [] aqj:=fun _ _ σ H _ I h=>wpAny_execs_nil ⟨σ,H,I,h⟩
theorem ao (h1:PS X st t) (h2:fz X rest u):fz X (st::rest) (arc t u):=by
 intro pins s σ H D I h
 refine wpAny_execs_cons (aD (h1 pins s σ H {D with nx:=u D} I h) fun f s1 q=>?_)
 cases f with
 | next =>
  obtain⟨σ',H',I',q⟩:=q
  exact h2 pins s1 σ' H' D I' q
 | ret v=>exact q
 | brk=>exact q
 | cont=>exact q
theorem aw (h1:PS X st t):fz X [st] t:=by
 intro pins s σ H D I h
 refine wpAny_execs_cons (aD (h1 pins s σ H D I h) fun f s1 q=>?_)
 cases f with
 | next=>exact wpAny_execs_nil q
 | ret v=>exact q
 | brk=>exact q
 | cont=>exact q
theorem Inv.quiet {pins:List (Addr×Obj)}{σ:St}{H:Hp}{s:Shared} (I:Inv X pins σ H s):interactive X.env=false:=by simp[interactive,I.ok.kind]
def aqk (te:TE):TS:=fun D σ H=>te σ H fun _ H1=>D.nx σ H1
theorem bY (he:PE X e te) (hs:swapsWith e none pos.line X.env=pure false:=by rfl):PS X (.Expr e pos) (aqk te):=by
 intro pins s σ H D I h
 exact wpAny_Expr_any (aD (he pins s σ H _ I h) fun v s1 ⟨x,H1,I1,r1,q1⟩=>⟨σ,H1,I1,q1⟩) I.quiet hs
def ard (te:TE):TS:=fun D σ H=>te σ H D.rt
theorem bc (he:PE X e te):PS X (.Return (some e) pos) (ard te):=by
 intro pins s σ H D I h
 exact wpAny_Return_some (aD (he pins s σ H _ I h) fun v s1 ⟨x,H1,I1,r1,q1⟩=>⟨x,σ,H1,I1,r1,q1⟩)
def arf (c:TT) (t u:TS):TS:=fun D σ H=>c σ H fun b H1=>if b=true then t D σ H1 else u D σ H1
theorem cn {c:Expr}{a b:List Stmt}{tc:TT} (hc:PT X c tc) (ha:fz X a t) (hb:fz X b u):PS X (.If c a b pos) (arf tc t u):=by
 intro pins s σ H D I h
 refine wpAny_If (aD (hc pins s σ H _ I h) fun d s1 ⟨H1,I1,q1⟩=>?_)
 cases d with
 | true=>exact ha pins s1 σ H1 D I1 q1
 | false=>exact hb pins s1 σ H1 D I1 q1
end
abbrev TG:=V->St->Hp->(St->Hp->Prop)->Prop
abbrev pq:=List V->St->Hp->(St->Hp->Prop)->Prop
def PG (X:Cx) (target:Expr) (t:TG):Prop :=
 ∀ (pins:List (Addr×Obj)) (s:Shared) (σ:St) (H:Hp) (v:V) (u:Value) (Q:St->Hp->Prop),Inv X pins σ H s->RelV v u->t v σ H Q ->
  wpAny (model X.prog X.w) X.A (assign target X.env u) (fun _ s'=>∃ σ' H',Inv X pins σ' H' s'/\Q σ' H') X.xe s
def uY (X:Cx) (ts:List Expr) (t:pq):Prop :=
 ∀ (pins:List (Addr×Obj)) (s:Shared) (σ:St) (H:Hp) (vs:List V) (us:List Value) (Q:St->Hp->Prop),Inv X pins σ H s->Vals vs us->t vs σ H Q ->
  wpAny (model X.prog X.w) X.A (assignInOrder ((assignEach ts X.env).map (·.2)) us) (fun _ s'=>∃ σ' H',Inv X pins σ' H' s'/\Q σ' H') X.xe s
abbrev En:=V->V->V->Hp->(Hp->Prop)->Prop
def W4 (X:Cx) (t:En):Prop :=
 ∀ (pins:List (Addr×Obj)) (s:Shared) (σ:St) (H:Hp) (o i v:V) (ov iv u:Value) (Q:Hp->Prop),Inv X pins σ H s->RelV o ov->RelV i iv->RelV v u->t o i v H Q ->
  wpAny (model X.prog X.w) X.A (setItem ov iv u) (fun _ s'=>∃ H',Inv X pins σ H' s'/\Q H') X.xe s
abbrev zF:=V->V->Hp->VK->Prop
def EY (X:Cx) (op:Operator) (t:zF):Prop :=
 ∀ (pins:List (Addr×Obj)) (s:Shared) (σ:St) (H:Hp) (x y:V) (v u:Value) (Q:VK),Inv X pins σ H s->RelV x v->RelV y u->t x y H Q ->
  wpAny (model X.prog X.w) X.A (inplaceOp op v u) (EP X pins σ Q) X.xe s
section
variable {X:Cx}{pos:Pos}
def zr (i:Nat):TG:=fun v σ H Q=>Q (σ.set i (some v)) H
theorem bM {i:Nat}{x:Str} (hN:X.N.Nodup) (hi:X.N[i]?=some x) (hx:Loc X.env.scope x) (hf:X.fn x=true\/X.env.scope.names.lookup x=some .local:=by first | exact .inl rfl | exact .inr rfl | assumption):PG X (.Name x pos) (zr i):=by
 intro pins s σ H v u Q I r h
 exact wpAny_assign_Name (yD I hN hi hx r (fun s' I'=>⟨_,H,I',h⟩) hf)
def arh:pq:=fun vs σ H Q=>vs=[]/\Q σ H
def aql (t:TG) (u:pq):pq:=fun vs σ H Q=>∃ v r,vs=v::r/\t v σ H fun σ' H'=>u r σ' H' Q
theorem rQ:uY X [] arh:=by
 intro pins s σ H vs us Q I r h
 obtain⟨e,h⟩:=h
 subst e
 cases r
 exact assignInOrder_nil ⟨σ,H,I,h⟩
theorem ig {e:Expr}{es:List Expr}{t:TG}{u:pq} (h1:PG X e t) (h2:uY X es u)
  (hs:(assignEach (e::es) X.env).map (·.2)=assign e X.env::(assignEach es X.env).map (·.2):=by rfl):uY X (e::es) (aql t u):=by
 intro pins s σ H vs us Q I r h
 obtain⟨v,vr,e1,h⟩:=h
 subst e1
 cases r with
 | cons r rr =>
  rw[hs]
  refine assignInOrder_cons (aD (h1 pins s σ H _ _ _ I r h) fun _ s1 ⟨σ1,H1,I1,q1⟩=>?_)
  exact h2 pins s1 σ1 H1 _ _ Q I1 rr q1
def W5 (K:W.Frag) (n:Nat) (t:pq):TG:=fun v σ H Q=>∃ a xs,v=.ref a/\cp K H a xs/\xs.length=n/\t xs σ H Q
theorem uu {es:List Expr}{k:Nat}{t:pq}{n:Nat} (hc:X.calm=true) (h:uY X es t)
  (hn:(assignEach es X.env).length=n:=by rfl) (cG:(assignEach es X.env).findIdx? (·.1)=none:=by rfl):PG X (.Tuple es k pos) (W5 X.K n t):=by
 intro pins s σ H v u Q I r hw
 obtain⟨a,xs,e1,hq,hl,hw⟩:=hw
 subst e1
 cases r
 obtain⟨aj,rv,ht,hz⟩:=I.tuple hq
 refine assign_Tuple_tuple (I.ok.hd hc) ht (by simp[hn,<- hl,rv.length]) cG fun h' hx=>?_
 have I1:Inv X pins σ H {s with heap:=h'}:=I.kept (t':=s.toks) fun b o e=>hx b o (Nat.ne_of_lt (Heap.lt_size e)) e
 exact h pins _ σ H xs _ Q I1 (by simpa using rv) hw
def ari (to ti:TE) (t:En):TG:=fun v σ H Q=>to σ H fun o H1=>ti σ H1 fun i H2=>t o i v H2 fun H3=>Q σ H3
theorem apd {o i:Expr}{to ti:TE}{t:En} (ho:PE X o to) (hi:PE X i ti) (hs:W4 X t)
  (ha:∀ v,assign (.Subscript o i pos) X.env v=(do
   let ov <- holding [v] (eval o X.env)
   let iv <- holding [v,ov] (eval i X.env)
   standAt pos
   holding [v,ov,iv] (setItem ov iv v)
   release [v,ov,iv] []):=by intro _;rfl):PG X (.Subscript o i pos) (ari to ti t):=by
 intro pins s σ H v u Q I r h
 rw[ha]
 refine wpAny_bind (wpAny_holding (aD (ho pins s σ H _ I h) fun ov s1 ⟨x,H1,I1,r1,q1⟩=>?_))
 refine wpAny_bind (wpAny_holding (aD (hi pins s1 σ H1 _ I1 q1) fun iv s2 ⟨y,H2,I2,r2,q2⟩=>?_))
 refine wpAny_bind (wpAny_standAt (wpAny_bind (wpAny_holding (aD (hs pins s2 σ H2 x y v ov iv u _ I2 r1 r2 r q2) fun _ s3 ⟨H3,I3,q3⟩=>?_))))
 exact wpAny_release ⟨σ,H3,I3,q3⟩
def Eo (te:TE) (g:TG):TS:=fun D σ H=>te σ H fun x H1=>g x σ H1 D.nx
theorem ape {tg e:Expr}{te:TE}{g:TG} (he:PE X e te) (hg:PG X tg g) (hs:swapsWithSole [tg] e pos.line X.env=pure false:=by rfl) (hw:swappedStores [tg] e X.env=pure none:=by rfl)
  (h1:(assignEach [tg] X.env).map (·.2)=[assign tg X.env]:=by rfl):PS X (.Assign [tg] e pos) (Eo te g):=by
 intro pins s σ H D I h
 refine wpAny_Assign_stores (aD (he pins s σ H _ I h) fun v s1 ⟨x,H1,I1,r1,q1⟩=>?_) hs hw
 rw[h1]
 exact aD (hg pins s1 σ H1 x v _ I1 r1 q1) fun _ s2 q=>q
theorem aK {i:Nat}{x:Str}{e:Expr}{te:TE}{pos':Pos} (hN:X.N.Nodup) (hi:X.N[i]?=some x) (hx:Loc X.env.scope x) (he:PE X e te) (hs:swapsWith e (some (.Name x pos')) pos.line X.env=pure false:=by rfl) (hf:X.fn x=true\/X.env.scope.names.lookup x=some .local:=by first | exact .inl rfl | exact .inr rfl | assumption) :
  PS X (.Assign [.Name x pos'] e pos) (Eo te (zr i)):=by
 intro pins s σ H D I h
 refine wpAny_Assign_Name (aD (he pins s σ H _ I h) fun v s1 ⟨y,H1,I1,r1,q1⟩=>?_) hs
 exact yD I1 hN hi hx r1 (fun s2 I2=>⟨_,H1,I2,q1⟩) hf
def arj (i:Nat) (te:TE) (ti:zF):TS:=fun D σ H=>∃ x,σ[i]?=some (some x)/\te σ H fun y H1=>ti x y H1 fun z H2=>D.nx (σ.set i (some z)) H2
theorem Wj {i:Nat}{x:Str}{e:Expr}{te:TE}{op:Operator}{ti:zF}{pos':Pos} (hN:X.N.Nodup) (hi:X.N[i]?=some x) (hx:Loc X.env.scope x) (he:PE X e te) (ho:EY X op ti) (hf:X.fn x=true\/X.env.scope.names.lookup x=some .local:=by first | exact .inl rfl | exact .inr rfl | assumption) :
  PS X (.AugAssign (.Name x pos') op e pos) (arj i te ti):=by
 intro pins s σ H D I h
 obtain⟨v,e1,h⟩:=h
 obtain⟨m,hn,hl⟩:=I.loc
 have vis:sE X.env.scope x:=by rcases hx with k | k;exact .inl k;exact .inr (.inl k)
 obtain⟨u,r,l⟩:=hl i x v hi e1 vis
 refine wpAny_AugAssign_Name ?_
 have go:wpAny (model X.prog X.w) X.A (eval e X.env) (fun w s₂=>wpAny (model X.prog X.w) X.A (inplaceOp op u w) (fun r s₃=>wpAny (model X.prog X.w) X.A (storeName X.env x r) (fun _=>SP X pins D .next) X.xe s₃) X.xe s₂) X.xe s:=by
  refine aD (he pins s σ H _ I h) fun w s1 ⟨y,H1,I1,r1,q1⟩=>?_
  refine aD (ho pins s1 σ H1 v y u w _ I1 r r1 q1) fun z s2 ⟨zv,H2,I2,r2,q2⟩=>?_
  exact yD I2 hN hi hx r2 (fun s3 I3=>⟨_,H2,I3,q2⟩) hf
 rcases l with ⟨hk,hm⟩ | ⟨hk,c,hc,zp⟩
 ·exact wpAny_loadName_local I.ok.kind hk hn hm go
 rcases hk with hk | hk
 ·exact wpAny_loadName_cell I.ok.kind hk hc zp go
 rcases hx with k | k
 ·have:X.env.scope.names.lookup x=some .free:=hk
  rw[k] at this;cases this
 have:X.env.scope.names.lookup x=some .free:=hk
 rw[k] at this;cases this
def XJ (f:Int->Int->Int):zF:=fun x y H Q=>∃ i j,x=.int i/\y=.int j/\Q (.int (f i j)) H
theorem apf:EY X .Add (XJ fun i j=>i+j):=by
 intro pins s σ H x y v u Q I r1 r2 h
 obtain⟨i,j,e1,e2,q⟩:=h
 subst e1;subst e2
 obtain⟨t,rfl⟩:=r1
 obtain⟨t',rfl⟩:=r2
 exact iadd_int ⟨.int _,H,I.tok _,⟨_,rfl⟩,q⟩
theorem apg:EY X .Sub (XJ fun i j=>i-j):=by
 intro pins s σ H x y v u Q I r1 r2 h
 obtain⟨i,j,e1,e2,q⟩:=h
 subst e1;subst e2
 obtain⟨t,rfl⟩:=r1
 obtain⟨t',rfl⟩:=r2
 exact isub_int ⟨.int _,H,I.tok _,⟨_,rfl⟩,q⟩
end
section
variable {X:Cx}{pos:Pos}
def aph (c:TT) (tb:TS):TS:=fun D σ H=>∃ W:Nat->St->Hp->Prop,(∃ m,W m σ H)/\∀ m σ H,W m σ H ->
 c σ H fun b H1=>if b=true then ∃ N:St->Hp->Prop,(∀ σ' H',N σ' H'->∃ m',m'<m/\W m' σ' H')/\tb {D with nx:=N,ct:=N,bk:=D.nx} σ H1 else D.nx σ H1
theorem rN {c:Expr}{body:List Stmt}{tc:TT}{tb:TS} (hp:PassesOwn (model X.prog X.w) X.A X.env X.xe) (hc:PT X c tc) (hb:fz X body tb):PS X (.While c body [] pos) (aph tc tb):=by
 intro pins s σ H D I h
 obtain⟨W,⟨m0,w0⟩,turn⟩:=h
 refine wpAny_While (codeAny_whileLoop (fun n s'=>∃ σ' H',Inv X pins σ' H' s'/\W n σ' H') ?_ m0 ⟨σ,H,I,w0⟩)
 rintro n s1 ⟨σ1,H1,I1,w1⟩
 refine wpAny_passesOwn hp (aD (hc pins s1 σ1 H1 _ I1 (turn n σ1 H1 w1)) fun b s2 ⟨H2,I2,q2⟩=>?_)
 cases b with
 | true =>
  obtain⟨N,hN,q2⟩:=q2
  rw[if_pos rfl]
  refine wpAny_passesOwn hp (aD (hb pins s2 σ1 H2 _ I2 q2) fun f s3 q3=>?_)
  cases f with
  | next =>
   obtain⟨σ3,H3,I3,n3⟩:=q3
   obtain⟨m',hm,w3⟩:=hN σ3 H3 n3
   exact⟨m',hm,σ3,H3,I3,w3⟩
  | cont =>
   obtain⟨σ3,H3,I3,n3⟩:=q3
   obtain⟨m',hm,w3⟩:=hN σ3 H3 n3
   exact⟨m',hm,σ3,H3,I3,w3⟩
  | brk=>exact q3
  | ret v=>exact q3
 | false =>
  rw[if_neg Bool.false_ne_true]
  exact wpAny_execs_nil ⟨σ1,H2,I2,q2⟩
end
structure It where
 go:Nat->Hp->Prop
 fT:Nat->Hp->V->Hp->Prop
 stop:Nat->Hp->Prop
def jw (X:Cx) (pins:List (Addr×Obj)) (H:Hp) (b:Addr):Prop :=
 H b=none/\b≠X.env.locals/\b∉X.fs/\(b∈X.ex\/X.di.heap.objs.size<=b)/\(∀ x c,X.env.cells.lookup x=some c->c≠b)/\∀ p∈X.pn++pins,p.1≠b
theorem Inv.qp {X:Cx}{pins:List (Addr×Obj)}{σ:St}{H H':Hp}{s:Shared}{b:Addr} (I:Inv X pins σ H s) (hb:s.heap.objs.size<=b) (hn:H' b=none):jw X pins H' b:=by
 refine⟨hn,Nat.ne_of_gt (Nat.lt_of_lt_of_le I.lt hb),I.ar5 hb,.inr (Nat.le_trans I.sz hb),fun x c e z=>?_,fun p hp z=>?_⟩
 ·obtain⟨v,q⟩:=I.cell x c e
  exact absurd (Nat.lt_of_lt_of_le q.lt (by rw[z];exact hb)) (Nat.lt_irrefl _)
 exact absurd (Nat.lt_of_lt_of_le (Heap.lt_size (I.pin p hp).1) (by rw[z];exact hb)) (Nat.lt_irrefl _)
structure Turn (P:Program) (w:World) (K:W.Frag) (tg:Expr) (J:It) (fp:List Addr) (it:Addr) (tn:Nat->Heap->Prop):Prop where
 mem:it∈fp
 obj:∀ i h,tn i h->∀ b∈fp,∃ o,h.get? b=some o/\∀ v,o.data≠.cell v
 keep:∀ i h h',tn i h->(∀ b∈fp,∀ o,h.get? b=some o->h'.get? b=some o)->tn i h'
 item:∀ (X:Cx),X.prog=P->X.w=w->X.K=K->X.calm=true->∀ (i:Nat) (pins:List (Addr×Obj)) (s:Shared) (σ:St) (H:Hp) (E:Value->Shared->Prop),Inv X pins σ H s->(∀ b∈fp,jw X pins H b)->tn i s.heap->J.go i H ->
  wpAny (model P w) X.A (pyNext (.ref it)) (fun r s1=>∃ u,r=some u /\
   wpAny (model P w) X.A (letOwnedTupleGo tg (.ref it) u) (fun _ s2=>∃ x H',Inv X pins σ H' s2/\RelV x u/\J.fT i H x H'/\tn (i+1) s2.heap/\∀ b∈fp,H' b=none) E s1) E s
 done:∀ (X:Cx),X.prog=P->X.w=w->X.K=K->X.calm=true->∀ (i:Nat) (pins:List (Addr×Obj)) (s:Shared) (σ:St) (H:Hp) (E:Value->Shared->Prop),Inv X pins σ H s->(∀ b∈fp,jw X pins H b)->tn i s.heap->J.stop i H ->
  wpAny (model P w) X.A (pyNext (.ref it)) (fun r s1=>r=none/\Inv X pins σ H s1) E s
 self:∀ (A:Around) (i:Nat) (s:Shared) (Q:Value->Shared->Prop) (E:Value->Shared->Prop),tn i s.heap->Q (.ref it) s->wpAny (model P w) A (pyIter (.ref it)) Q E s
abbrev TI:=St->Hp->(It->Hp->Prop)->Prop
def zG (X:Cx) (pins:List (Addr×Obj)) (σ:St) (tg:Expr) (R:It->Hp->Prop) (EZ:Value) (s2:Shared):Prop :=
 ∃ (it:Addr) (fp:List Addr) (tn:Nat->Heap->Prop) (J:It) (H':Hp),EZ=.ref it/\Inv X pins σ H' s2/\Turn X.prog X.w X.K tg J fp it tn/\tn 0 s2.heap/\(∀ b∈fp,jw X pins H' b)/\R J H'
def PI (X:Cx) (tg iter:Expr) (wi:TI):Prop :=
 ∀ (pins:List (Addr×Obj)) (s:Shared) (σ:St) (H:Hp) (R:It->Hp->Prop),Inv X pins σ H s->wi σ H R ->
  wpAny (model X.prog X.w) X.A (eval iter X.env) (fun v s1=>wpAny (model X.prog X.w) X.A (pyIter v) (zG X pins σ tg R) X.xe s1) X.xe s
theorem rX {M:Model}{A:Around}{E:Value->Shared->Prop}{s:Shared}{tg:Expr}{it:Addr}{u:Value}{o:Obj}{n:String}{vs:Array Value}{Q:Unit->Shared->Prop} (ho:s.heap.get? it=some o) (hc:o.cls=.type n) (hd:o.data=.fields vs)
  (hn:["enumerate","zip","dict_itemiterator","dict_reverseitemiterator","odict_iterator","itertools.zip_longest","itertools.pairwise"].contains n=false) (hQ:Q () s):wpAny M A (letOwnedTupleGo tg (.ref it) u) Q E s:=by
 unfold letOwnedTupleGo
 cases tg <;> first
  | exact wpAny_pure hQ
  | (cases u <;> first
    | exact wpAny_pure hQ
    | (refine wpAny_bind (wpAny_load ho ?_);rw[hc,hd];show wpAny M A (if (["enumerate","zip","dict_itemiterator","dict_reverseitemiterator","odict_iterator","itertools.zip_longest","itertools.pairwise"].contains n&&vs[0]?==some (rawInt _))=true then _ else _) Q E s;rw[if_neg (by intro h;rw[hn,Bool.false_and] at h;cases h)];exact wpAny_pure hQ))
def pw (K:W.Frag) (a:Addr):It :=
 ⟨fun i H=>∃ xs x,aq K H a xs/\xs[i]?=some x,fun i H x H'=>H'=H/\∀ xs,aq K H a xs->xs[i]?=some x,fun i H=>∃ xs,aq K H a xs/\xs.length<=i⟩
def uZ (K:W.Frag) (a:Addr):It :=
 ⟨fun i H=>∃ xs x,cp K H a xs/\xs[i]?=some x,fun i H x H'=>H'=H/\∀ xs,cp K H a xs->xs[i]?=some x,fun i H=>∃ xs,cp K H a xs/\xs.length<=i⟩
def mH (lo:Int) (n:Nat):It:=⟨fun i _=>i<n,fun i H x H'=>H'=H/\x=.int (lo+i),fun i _=>n<=i⟩
theorem akF {P:Program}{w:World}{K:W.Frag}{tg:Expr} (a it:Addr):Turn P w K tg (pw K a) [it] it (fun i h=>h.IsListIter it a i) where
 mem:=by simp
 obj:=fun i h st b hb=>by
  have e:b=it:=by simpa using hb
  subst e
  obtain⟨o,e,c,d⟩:=st
  exact⟨o,e,fun v z=>by rw[d] at z;cases z⟩
 keep:=fun i h h' st k=>st.at fun o e=>k it (by simp) o e
 item:=by
  intro X hP hw hK hc i pins s σ H E I hf st hg
  subst hP hw hK
  obtain⟨xs,x,hq,hx⟩:=hg
  obtain⟨aj,rv,p,hz⟩:=I.list hq
  obtain⟨u,hu,ru⟩:=rv.get hx
  obtain⟨f0,f1,f2,f3,f4,f5⟩:=hf it (by simp)
  refine wpAny_pyNext_list_item st p.isList (x:=u) (by simpa using hu) fun h' dq sb=>?_
  have I1:Inv X pins σ H {s with heap:=h'}:=I.turned (t':=s.toks) (fun b o hb e=>(sb.2 b hb).trans e) f0 f1 f3 f4 f5
  obtain⟨o,e,c,d⟩:=id dq
  exact⟨u,rfl,rX (s:={s with heap:=h'}) e c d (by decide) ⟨x,H,I1,ru,⟨rfl,fun ys hy=>by rw[I.DM hy hq];exact hx⟩,dq,fun b hb=>(hf b hb).1⟩⟩
 done:=by
  intro X hP hw hK hc i pins s σ H E I hf st hg
  subst hP hw hK
  obtain⟨xs,hq,hx⟩:=hg
  obtain⟨aj,rv,p,hz⟩:=I.list hq
  obtain⟨f0,f1,f2,f3,f4,f5⟩:=hf it (by simp)
  have hl:=rv.length
  exact wpAny_pyNext_list_end (I.ok.hd hc) st p.isList (by simp;omega) fun h' eb=>⟨rfl,I.turned (t':=s.toks) (fun b o hb e=>eb b o hb e) f0 f1 f3 f4 f5⟩
 self:=fun _ _ _ _ _ st h=>wpAny_pyIter_listiter st h
theorem aiR {P:Program}{w:World}{K:W.Frag}{tg:Expr} (a it:Addr):Turn P w K tg (uZ K a) [it] it (fun i h=>h.IsTupleIter it a i) where
 mem:=by simp
 obj:=fun i h st b hb=>by
  have e:b=it:=by simpa using hb
  subst e
  obtain⟨o,e,c,d⟩:=st
  exact⟨o,e,fun v z=>by rw[d] at z;cases z⟩
 keep:=fun i h h' st k=>st.at fun o e=>k it (by simp) o e
 item:=by
  intro X hP hw hK hc i pins s σ H E I hf st hg
  subst hP hw hK
  obtain⟨xs,x,hq,hx⟩:=hg
  obtain⟨aj,rv,p,hz⟩:=I.tuple hq
  obtain⟨u,hu,ru⟩:=rv.get hx
  obtain⟨f0,f1,f2,f3,f4,f5⟩:=hf it (by simp)
  refine wpAny_pyNext_tuple_item st (show s.heap.IsTuple a aj.toArray from p) (x:=u) (by simpa using hu) fun h' dq sb=>?_
  have I1:Inv X pins σ H {s with heap:=h'}:=I.turned (t':=s.toks) (fun b o hb e=>(sb.2 b hb).trans e) f0 f1 f3 f4 f5
  obtain⟨o,e,c,d⟩:=id dq
  exact⟨u,rfl,rX (s:={s with heap:=h'}) e c d (by decide) ⟨x,H,I1,ru,⟨rfl,fun ys hy=>by rw[I.Uh hy hq];exact hx⟩,dq,fun b hb=>(hf b hb).1⟩⟩
 done:=by
  intro X hP hw hK hc i pins s σ H E I hf st hg
  subst hP hw hK
  obtain⟨xs,hq,hx⟩:=hg
  obtain⟨aj,rv,p,hz⟩:=I.tuple hq
  obtain⟨f0,f1,f2,f3,f4,f5⟩:=hf it (by simp)
  have hl:=rv.length
  exact wpAny_pyNext_tuple_end (I.ok.hd hc) st (show s.heap.IsTuple a aj.toArray from p) (by simp;omega) fun h' eb=>⟨rfl,I.turned (t':=s.toks) (fun b o hb e=>eb b o hb e) f0 f1 f3 f4 f5⟩
 self:=fun _ _ _ _ _ st h=>wpAny_pyIter_tupleiter st h
theorem aiS {P:Program}{w:World}{K:W.Frag}{tg:Expr} (it:Addr) (lo:Int) (n:Nat):Turn P w K tg (mH lo n) [it] it (fun i h=>IsRangeIter h it (lo+(i:Nat)*1) ((n:Int)-(i:Nat)) 1) where
 mem:=by simp
 obj:=fun i h st b hb=>by
  have e:b=it:=by simpa using hb
  subst e
  exact⟨_,st,fun v z=>by
   have z':Data.fields _=Data.cell v:=z
   cases z'⟩
 keep:=fun i h h' st k=>k it (by simp) _ st
 item:=by
  intro X hP hw hK hc i pins s σ H E I hf st hg
  subst hP hw hK
  obtain⟨f0,f1,f2,f3,f4,f5⟩:=hf it (by simp)
  have W:=Walks.range (prog:=X.prog) (w:=X.w) (I.ok.hd hc) it lo 1 n
  refine W.item i s _ _ hg st fun v h' tk hv dq kk=>?_
  obtain⟨t,rfl⟩:=hv
  have I1:Inv X pins σ H {s with heap:=h',toks:=tk}:=I.turned (fun b o hb e=>kk b o (by simpa using hb) e) f0 f1 f3 f4 f5
  refine⟨_,rfl,rX (s:={s with heap:=h',toks:=tk}) (n:="range_iterator") dq rfl rfl (by decide) ⟨.int (lo+i),H,I1,⟨t,?_⟩,⟨rfl,rfl⟩,dq,fun b hb=>(hf b hb).1⟩⟩
  rw[Int.mul_one]
 done:=by
  intro X hP hw hK hc i pins s σ H E I hf st hg
  subst hP hw hK
  obtain⟨f0,f1,f2,f3,f4,f5⟩:=hf it (by simp)
  exact wpAny_pyNext_range_end (I.ok.hd hc) st (by have:n<=i:=hg;omega) fun h' eb=>⟨rfl,I.turned (t':=s.toks) (fun b o hb e=>eb b o hb e) f0 f1 f3 f4 f5⟩
 self:=fun _ _ _ _ _ st h=>wpAny_pyIter_rangeiter st h
end L2
namespace L2
open PySem PySem.Spec PyProof.Rows
section
variable {X:Cx}{tg:Expr}
def aqm (K:W.Frag) (tl:TE):TI:=fun σ H R=>tl σ H fun x H1=>∃ a,x=.ref a/\(∃ xs,aq K H1 a xs)/\R (pw K a) H1
def ark (K:W.Frag) (tl:TE):TI:=fun σ H R=>tl σ H fun x H1=>∃ a,x=.ref a/\(∃ xs,cp K H1 a xs)/\R (uZ K a) H1
theorem eG {l:Expr}{tl:TE} (hl:PE X l tl):PI X tg l (aqm X.K tl):=by
 intro pins s σ H R I h
 refine aD (hl pins s σ H _ I h) fun v s1 ⟨x,H1,I1,r1,q1⟩=>?_
 obtain⟨a,e,⟨xs,hq⟩,q⟩:=q1
 subst e
 cases r1
 obtain⟨aj,rv,p,hz⟩:=I1.list hq
 refine wpAny_pyIter_list p.isList ?_
 refine⟨s1.heap.objs.size,[s1.heap.objs.size],_,_,H1,rfl,I1.kept (t':=s1.toks) fun b o e=>Heap.get?_push_of_some _ e,akF a _,⟨_,Heap.get?_push_size _ rfl,rfl,rfl⟩,fun b hb=>?_,q⟩
 have e:b=s1.heap.objs.size:=by simpa using hb
 subst e
 exact I1.qp (Nat.le_refl _) (I1.az.fresh (Nat.le_refl _))
theorem Wk {l:Expr}{tl:TE} (hl:PE X l tl):PI X tg l (ark X.K tl):=by
 intro pins s σ H R I h
 refine aD (hl pins s σ H _ I h) fun v s1 ⟨x,H1,I1,r1,q1⟩=>?_
 obtain⟨a,e,⟨xs,hq⟩,q⟩:=q1
 subst e
 cases r1
 obtain⟨aj,rv,p,hz⟩:=I1.tuple hq
 refine wpAny_pyIter_tuple (show s1.heap.IsTuple a aj.toArray from p) ?_
 refine⟨s1.heap.objs.size,[s1.heap.objs.size],_,_,H1,rfl,I1.kept (t':=s1.toks) fun b o e=>Heap.get?_push_of_some _ e,aiR a _,⟨_,Heap.get?_push_size _ rfl,rfl,rfl⟩,fun b hb=>?_,q⟩
 have e:b=s1.heap.objs.size:=by simpa using hb
 subst e
 exact I1.qp (Nat.le_refl _) (I1.az.fresh (Nat.le_refl _))
theorem UZ {pins:List (Addr×Obj)}{σ:St}{H:Hp}{s:Shared}{R:It->Hp->Prop}{E:Value->Shared->Prop}{lo hi:Int}{t u v:Tok}{tk:Nat} (I:Inv X pins σ H s) (h1 : -(2 ^ 62)<=lo) (h2:lo<2 ^ 62) (h3 : -(2 ^ 62)<=hi) (h4:hi<2 ^ 62)
  (q:R (mH lo (hi-lo).toNat) H):wpAny (model X.prog X.w) X.A (pyIter (.ref s.heap.objs.size)) (zG X pins σ tg R) E {s with heap:=s.heap.push {cls:=.type "range",data:=.fields #[.int lo t,.int hi u,.int 1 v]},toks:=tk}:=by
 refine wpAny_pyIter_range (IsRange.new ..) (small_one h1 h2 h3 h4) ?_
 have I1:Inv X pins σ H {s with heap:=s.heap.push {cls:=.type "range",data:=.fields #[.int lo t,.int hi u,.int 1 v]},toks:=tk}:=I.kept fun b o e=>Heap.get?_push_of_some _ e
 refine⟨(s.heap.push {cls:=.type "range",data:=.fields #[.int lo t,.int hi u,.int 1 v]}).objs.size,[(s.heap.push {cls:=.type "range",data:=.fields #[.int lo t,.int hi u,.int 1 v]}).objs.size],_,_,H,rfl,
  I1.kept (t':=tk) fun b o e=>Heap.get?_push_of_some _ e,aiS _ lo (hi-lo).toNat,?_,fun b hb=>?_,q⟩
 ·have e1:lo+((0:Nat):Int)*1=lo:=by simp
  have e2:(((hi-lo).toNat:Nat):Int)-((0:Nat):Int)=Builtin.Range.rangeSize lo hi 1:=by rw[rangeSize_one];split <;> omega
  show IsRangeIter _ _ (lo+((0:Nat):Int)*1) ((((hi-lo).toNat:Nat):Int)-((0:Nat):Int)) 1
  rw[e1,e2]
  exact Heap.get?_push_size _ rfl
 have e:b=(s.heap.push {cls:=.type "range",data:=.fields #[.int lo t,.int hi u,.int 1 v]}).objs.size:=by simpa using hb
 subst e
 exact I1.qp (Nat.le_refl _) (I1.az.fresh (Nat.le_refl _))
def aqn (ta:TA):TI:=fun σ H R=>ta σ H fun vs H1=>∃ j:Int,vs=[.int j] /\ -(2 ^ 62)<=j/\j<2 ^ 62/\R (mH 0 j.toNat) H1
def aqo (ta:TA):TI:=fun σ H R=>ta σ H fun vs H1=>∃ i j:Int,vs=[.int i,.int j]/\(-(2 ^ 62)<=i/\i<2 ^ 62 /\ -(2 ^ 62)<=j/\j<2 ^ 62)/\R (mH i (j-i).toNat) H1
theorem rJ {a:Expr}{ta:TA}{p pos:Pos} (hg:Gl X "range") (hm:X.mg "range"=none) (ha:PA X [a] ta) (hs:starEach [a] X.env=[(false,eval a X.env)]:=by rfl):PI X tg (.Call (.Name "range" p) [a] [] pos) (aqn ta):=by
 intro pins s σ H R I h
 refine Call_ (oQ I hg hm boot_range (PyProof.Rows.callWith_type1 (aD (ha pos pins s σ H _ I h) fun us s1 ⟨vs,H1,I1,r1,q1⟩=>?_) hs rfl))
 obtain⟨j,e,q1,q2,q⟩:=q1
 subst e
 cases r1 with
 | cons r rr =>
  cases rr
  obtain⟨t,rfl⟩:=r
  exact call_range_1 (UZ I1 (by omega) (by omega) q1 q2 (by simpa using q))
theorem akG {a b:Expr}{ta:TA}{p pos:Pos} (hg:Gl X "range") (hm:X.mg "range"=none) (ha:PA X [a,b] ta) (hs:starEach [a,b] X.env=[(false,eval a X.env),(false,eval b X.env)]:=by rfl) (iE:starEach [b] X.env=[(false,eval b X.env)]:=by rfl) :
  PI X tg (.Call (.Name "range" p) [a,b] [] pos) (aqo ta):=by
 intro pins s σ H R I h
 refine Call_ (oQ I hg hm boot_range (PyProof.Rows.callWith_type1 (aD (ha pos pins s σ H _ I h) fun us s1 ⟨vs,H1,I1,r1,q1⟩=>?_) (by rw[hs,iE]) (by rw[iE];rfl)))
 obtain⟨i,j,e,⟨q1,q2,q3,q4⟩,q⟩:=q1
 subst e
 cases r1 with
 | cons r rr =>
  cases rr with
  | cons r' rr =>
   cases rr
   obtain⟨t,rfl⟩:=r
   obtain⟨t',rfl⟩:=r'
   exact call_range_2 (UZ I1 q1 q2 q3 q4 q)
def arl (wi:TI) (g:TG) (tb:TS):TS:=fun D σ H=>wi σ H fun J H1=>∃ W:Nat->Nat->St->Hp->Prop,(∃ m,W 0 m σ H1)/\∀ i m σ H,W i m σ H ->
 (J.stop i H/\D.nx σ H)\/(J.go i H/\∃ N:St->Hp->Prop,(∀ σ' H',N σ' H'->∃ m',m'<m/\W (i+1) m' σ' H')/\∀ x H',J.fT i H x H'->g x σ H' fun σ2 H2=>tb {D with nx:=N,ct:=N,bk:=D.nx} σ2 H2)
def uw (fp:List Addr) (h:Heap):List (Addr×Obj):=fp.filterMap fun b=>(h.get? b).map fun o=>(b,o)
theorem Dg {fp:List Addr}{h:Heap}{b:Addr}{o:Obj} (hb:b∈fp) (e:h.get? b=some o):(b,o)∈uw fp h:=List.mem_filterMap.mpr ⟨b,hb,by rw[e];rfl⟩
theorem akH {fp:List Addr}{h:Heap}{p:Addr×Obj} (hp:p∈uw fp h):p.1∈fp/\h.get? p.1=some p.2:=by
 obtain⟨b,hb,e⟩:=List.mem_filterMap.mp hp
 cases q:h.get? b with
 | none=>rw[q] at e;cases e
 | some o =>
  rw[q] at e
  have e':(b,o)=p:=Option.some.inj e
  subst e'
  exact⟨hb,q⟩
theorem Inv.pinned {pins:List (Addr×Obj)}{σ:St}{H:Hp}{s:Shared}{fp:List Addr} (I:Inv X pins σ H s) (hf:∀ b∈fp,jw X pins H b) (ho:∀ b∈fp,∃ o,s.heap.get? b=some o/\∀ v,o.data≠.cell v):Inv X (pins++uw fp s.heap) σ H s :=
 I.VB fun p hp=>(List.mem_append.mp hp).elim (fun z=>I.pin p (List.mem_append_right _ z)) fun z=>by
  obtain⟨hb,e⟩:=akH z
  obtain⟨f0,f1,f2,_⟩:=hf p.1 hb
  obtain⟨o,e',d⟩:=ho p.1 hb
  rw[e] at e';cases e'
  exact⟨e,f0,f1,f2,d⟩
theorem Inv.yE {pins pl:List (Addr×Obj)}{σ:St}{H:Hp}{s:Shared} (I:Inv X (pins++pl) σ H s):Inv X pins σ H s:=I.VB fun p hp=>I.pin p (List.mem_append_right _ (List.mem_append_left _ hp))
theorem dS {iter:Expr}{body:List Stmt}{wi:TI}{g:TG}{tb:TS}{pos:Pos} (hp:PassesOwn (model X.prog X.w) X.A X.env X.xe) (hc:X.calm=true) (hi:PI X tg iter wi) (hg:PG X tg g) (hb:fz X body tb)
  (hs:∀ x,foldedSetIterable iter X.env x=pure x:=by intro _;rfl):PS X (.For tg iter body [] pos) (arl wi g tb):=by
 intro pins s σ H D I h
 refine wpAny_For (aD (hi pins s σ H _ I h) fun v s1 h1=>aD h1 fun EZ s2 h2=>?_) hs
 obtain⟨it,fp,tn,J,H2,e,I2,T,zH,f2,W,⟨m0,w0⟩,turn⟩:=h2
 subst e
 have qr:∀ {H':Hp},(∀ b∈fp,H' b=none)->∀ b∈fp,jw X pins H' b:=fun hn b hb=>⟨hn b hb,(f2 b hb).2⟩
 refine codeAny_forLoop_any (fun n s'=>∃ i σ' H',Inv X pins σ' H' s'/\tn i s'.heap/\(∀ b∈fp,H' b=none)/\W i n σ' H') ?_ m0 ⟨0,σ,H2,I2,zH,fun b hb=>(f2 b hb).1,w0⟩
 rintro n s3 ⟨i,σ3,H3,I3,zI,dQ,w3⟩
 rcases turn i n σ3 H3 w3 with ⟨stop,qn⟩ | ⟨go,N,hN,step⟩
 ·refine wpAny_passesOwn hp (aD (T.done X rfl rfl rfl hc i pins s3 σ3 H3 X.xe I3 (qr dQ) zI stop) fun r s4 ⟨hr,I4⟩=>?_)
  subst hr
  exact wpAny_execs_nil ⟨σ3,H3,I4,qn⟩
 refine wpAny_passesOwn hp (aD (T.item X rfl rfl rfl hc i pins s3 σ3 H3 X.xe I3 (qr dQ) zI go) fun r s4 ⟨u,hr,h4⟩=>?_)
 subst hr
 refine wpAny_passesOwn hp (aD h4 fun _ s5 ⟨x,H5,I5,r5,y5,sI,fr5⟩=>?_)
 have I5':=I5.pinned (qr fr5) (T.obj _ _ sI)
 refine wpAny_passesOwn hp (aD (hg _ s5 σ3 H5 x u _ I5' r5 (step x H5 y5)) fun _ s6 ⟨σ6,H6,I6,q6⟩=>?_)
 refine wpAny_passesOwn hp (aD (hb _ s6 σ6 H6 _ I6 q6) fun f s7 q7=>?_)
 have again:∀ {σ7:St}{H7:Hp},Inv X (pins++uw fp s5.heap) σ7 H7 s7->N σ7 H7->∃ m,m<n/\∃ i σ' H',Inv X pins σ' H' s7/\tn i s7.heap/\(∀ b∈fp,H' b=none)/\W i m σ' H':=fun {σ7 H7} I7 n7=>by
  obtain⟨m',hm,w7⟩:=hN σ7 H7 n7
  refine⟨m',hm,i+1,σ7,H7,I7.yE,T.keep _ _ _ sI fun b hb o e=>(I7.pin (b,o) (List.mem_append_right _ (List.mem_append_right _ (Dg hb e)))).1,fun b hb=>?_,w7⟩
  obtain⟨o,e,d⟩:=T.obj _ _ sI b hb
  exact(I7.pin (b,o) (List.mem_append_right _ (List.mem_append_right _ (Dg hb e)))).2.1
 cases f with
 | next=>obtain⟨σ7,H7,I7,n7⟩:=q7;exact again I7 n7
 | cont=>obtain⟨σ7,H7,I7,n7⟩:=q7;exact again I7 n7
 | brk=>obtain⟨σ7,H7,I7,q7⟩:=q7;exact⟨σ7,H7,I7.yE,q7⟩
 | ret v=>obtain⟨x7,σ7,H7,I7,r7,q7⟩:=q7;exact⟨x7,σ7,H7,I7.yE,r7,q7⟩
end
theorem nJ {K:W.Frag}{a:Addr}{xs:List V}{g:TG}{tb:TS}{D:Ends}{σ:St}{H:Hp} (Pv:Nat->St->Hp->Prop) (h0:Pv 0 σ H) (hl:∀ i σ H,i<=xs.length->Pv i σ H->aq K H a xs)
  (hs:∀ i x σ H,xs[i]?=some x->Pv i σ H->g x σ H fun σ2 H2=>tb {D with nx:=Pv (i+1),ct:=Pv (i+1),bk:=D.nx} σ2 H2) (hd:∀ σ H,Pv xs.length σ H->D.nx σ H) :
  ∃ W:Nat->Nat->St->Hp->Prop,(∃ m,W 0 m σ H)/\∀ i m σ H,W i m σ H ->
   ((pw K a).stop i H/\D.nx σ H)\/((pw K a).go i H/\∃ N:St->Hp->Prop,(∀ σ' H',N σ' H'->∃ m',m'<m/\W (i+1) m' σ' H')/\∀ x H',(pw K a).fT i H x H'->g x σ H' fun σ2 H2=>tb {D with nx:=N,ct:=N,bk:=D.nx} σ2 H2):=by
 refine⟨fun i m σ H=>m=xs.length-i/\i<=xs.length/\Pv i σ H,⟨xs.length,by simp,Nat.zero_le _,h0⟩,?_⟩
 rintro i m σ H ⟨rfl,hi,p⟩
 have q:=hl i σ H hi p
 by_cases aO:i<xs.length
 ·refine .inr ⟨⟨xs,xs[i],q,by simp[aO]⟩,Pv (i+1),fun σ' H' p'=>⟨xs.length-(i+1),by omega,rfl,aO,p'⟩,fun x H' y=>?_⟩
  obtain⟨e,y⟩:=y
  subst e
  exact hs i x σ _ (y xs q) p
 have e:i=xs.length:=by omega
 subst e
 exact .inl ⟨⟨xs,q,Nat.le_refl _⟩,hd σ H p⟩
theorem VD {K:W.Frag}{a:Addr}{xs:List V}{g:TG}{tb:TS}{D:Ends}{σ:St}{H:Hp} (Pv:Nat->St->Hp->Prop) (h0:Pv 0 σ H) (hl:∀ i σ H,i<=xs.length->Pv i σ H->cp K H a xs)
  (hs:∀ i x σ H,xs[i]?=some x->Pv i σ H->g x σ H fun σ2 H2=>tb {D with nx:=Pv (i+1),ct:=Pv (i+1),bk:=D.nx} σ2 H2) (hd:∀ σ H,Pv xs.length σ H->D.nx σ H) :
  ∃ W:Nat->Nat->St->Hp->Prop,(∃ m,W 0 m σ H)/\∀ i m σ H,W i m σ H ->
   ((uZ K a).stop i H/\D.nx σ H)\/((uZ K a).go i H/\∃ N:St->Hp->Prop,(∀ σ' H',N σ' H'->∃ m',m'<m/\W (i+1) m' σ' H')/\∀ x H',(uZ K a).fT i H x H'->g x σ H' fun σ2 H2=>tb {D with nx:=N,ct:=N,bk:=D.nx} σ2 H2):=by
 refine⟨fun i m σ H=>m=xs.length-i/\i<=xs.length/\Pv i σ H,⟨xs.length,by simp,Nat.zero_le _,h0⟩,?_⟩
 rintro i m σ H ⟨rfl,hi,p⟩
 have q:=hl i σ H hi p
 by_cases aO:i<xs.length
 ·refine .inr ⟨⟨xs,xs[i],q,by simp[aO]⟩,Pv (i+1),fun σ' H' p'=>⟨xs.length-(i+1),by omega,rfl,aO,p'⟩,fun x H' y=>?_⟩
  obtain⟨e,y⟩:=y
  subst e
  exact hs i x σ _ (y xs q) p
 have e:i=xs.length:=by omega
 subst e
 exact .inl ⟨⟨xs,q,Nat.le_refl _⟩,hd σ H p⟩
theorem t9 {lo:Int}{n:Nat}{g:TG}{tb:TS}{D:Ends}{σ:St}{H:Hp} (Pv:Nat->St->Hp->Prop) (h0:Pv 0 σ H)
  (hs:∀ i σ H,i<n->Pv i σ H->g (.int (lo+i)) σ H fun σ2 H2=>tb {D with nx:=Pv (i+1),ct:=Pv (i+1),bk:=D.nx} σ2 H2) (hd:∀ σ H,Pv n σ H->D.nx σ H) :
  ∃ W:Nat->Nat->St->Hp->Prop,(∃ m,W 0 m σ H)/\∀ i m σ H,W i m σ H ->
   ((mH lo n).stop i H/\D.nx σ H)\/((mH lo n).go i H/\∃ N:St->Hp->Prop,(∀ σ' H',N σ' H'->∃ m',m'<m/\W (i+1) m' σ' H')/\∀ x H',(mH lo n).fT i H x H'->g x σ H' fun σ2 H2=>tb {D with nx:=N,ct:=N,bk:=D.nx} σ2 H2):=by
 refine⟨fun i m σ H=>m=n-i/\i<=n/\Pv i σ H,⟨n,by simp,Nat.zero_le _,h0⟩,?_⟩
 rintro i m σ H ⟨rfl,hi,p⟩
 by_cases aO:i<n
 ·refine .inr ⟨aO,Pv (i+1),fun σ' H' p'=>⟨n-(i+1),by omega,rfl,aO,p'⟩,fun x H' y=>?_⟩
  obtain⟨e,y⟩:=y
  subst e y
  exact hs i σ _ aO p
 have e:i=n:=by omega
 subst e
 exact .inl ⟨Nat.le_refl _,hd σ H p⟩
end L2
namespace L2
open PySem PySem.Spec PyProof.Rows
abbrev R2:=V->V->Hp->VK->Prop
def du (X:Cx) (f:Value->Value->Sem Value) (r:R2):Prop :=
 ∀ (pins:List (Addr×Obj)) (s:Shared) (σ:St) (H:Hp) (x y:V) (v u:Value) (Q:VK),Inv X pins σ H s->RelV x v->RelV y u->r x y H Q ->
  wpAny (model X.prog X.w) X.A (f v u) (EP X pins σ Q) X.xe s
def E1 (X:Cx) (f:Value->Sem Value) (r:V->Hp->VK->Prop):Prop :=
 ∀ (pins:List (Addr×Obj)) (s:Shared) (σ:St) (H:Hp) (x:V) (v:Value) (Q:VK),Inv X pins σ H s->RelV x v->r x H Q ->
  wpAny (model X.prog X.w) X.A (f v) (EP X pins σ Q) X.xe s
def nZ (X:Cx) (f:Value) (r:List V->Hp->VK->Prop):Prop :=
 ∀ (pins:List (Addr×Obj)) (s:Shared) (σ:St) (H:Hp) (xs:List V) (us:List Value) (Q:VK),Inv X pins σ H s->Vals xs us->r xs H Q ->
  wpAny (model X.prog X.w) X.A (call f us) (EP X pins σ Q) X.xe s
def zJ (r:R2) (ta tb:TE):TE:=fun σ H Q=>ta σ H fun x H1=>tb σ H1 fun y H2=>r x y H2 Q
def tUn (r:V->Hp->VK->Prop) (ta:TE):TE:=fun σ H Q=>ta σ H fun x H1=>r x H1 Q
def rI (C:Int->Int->Prop) (g:Int->Int->V):R2:=fun x y H Q=>∃ i j,x=.int i/\y=.int j/\C i j/\Q (g i j) H
def jD (g:Int->Int->V):R2:=fun x y H Q=>∃ i j,x=.int i/\y=.int j/\Q (g i j) H
def rU (g:Int->V):V->Hp->VK->Prop:=fun x H Q=>∃ i,x=.int i/\Q (g i) H
section
variable {X:Cx}{a b c:Expr}{ta tb tc:TE}{pos:Pos}
theorem Ep (ha:PE X a ta) (hb:PE X b tb) {pins:List (Addr×Obj)}{s:Shared}{σ:St}{H:Hp}{R:V->V->Hp->Prop} (I:Inv X pins σ H s)
  (h:ta σ H fun x H1=>tb σ H1 fun y H2=>R x y H2) {Q:Value->Shared->Prop}{f:Value->Value->Sem Value}
  (hf:∀ v u s2 x y H2,Inv X pins σ H2 s2->RelV x v->RelV y u->R x y H2->wpAny (model X.prog X.w) X.A (f v u) Q X.xe s2) :
  wpAny (model X.prog X.w) X.A (eval a X.env) (fun v s₁=>wpAny (model X.prog X.w) X.A (eval b X.env) (fun u s₂=>wpAny (model X.prog X.w) X.A (f v u) Q X.xe s₂) X.xe s₁) X.xe s:=by
 refine aD (ha pins s σ H _ I h) fun v s1 ⟨x,H1,I1,r1,q1⟩=>?_
 refine aD (hb pins s1 σ H1 _ I1 q1) fun u s2 ⟨y,H2,I2,r2,q2⟩=>?_
 exact hf v u s2 x y H2 I2 r1 r2 q2
theorem bp {op:Operator}{r:R2} (ho:du X (binaryOp op) r) (ha:PE X a ta) (hb:PE X b tb):PE X (.BinOp a op b pos) (zJ r ta tb):=by
 intro pins s σ H Q I h
 exact wpAny_BinOp (Ep ha hb I h fun v u s2 x y H2 I2 rx ry q=>ho pins s2 σ H2 x y v u Q I2 rx ry q)
theorem jr {op:UnaryOp}{r:V->Hp->VK->Prop} (ho:E1 X (unaryOp op) r) (ha:PE X a ta):PE X (.UnaryOp op a pos) (tUn r ta):=by
 intro pins s σ H Q I h
 exact UnaryOp_ (aD (ha pins s σ H _ I h) fun v s1 ⟨x,H1,I1,r1,q1⟩=>ho pins s1 σ H1 x v Q I1 r1 q1)
theorem E2 {f:Value->Value->Sem Value}{C:Int->Int->Prop}{g:Int->Int->Int}
  (rule:∀ (i j:Int) (t u:Tok) (s:Shared) (Q:Value->Shared->Prop) (E:Value->Shared->Prop),C i j->Q (.int (g i j) s.toks) {s with toks:=s.toks+1}->wpAny (model X.prog X.w) X.A (f (.int i t) (.int j u)) Q E s) :
  du X f (rI C fun i j=>.int (g i j)):=by
 intro pins s σ H x y v u Q I rx ry h
 obtain⟨i,j,rfl,rfl,hc,q⟩:=h
 obtain⟨t,rfl⟩:=rx
 obtain⟨t',rfl⟩:=ry
 exact rule i j t t' s _ _ hc ⟨.int (g i j),H,I.tok _,⟨_,rfl⟩,q⟩
theorem uN {f:Value->Value->Sem Value}{g:Int->Int->Int}
  (rule:∀ (i j:Int) (t u:Tok) (s:Shared) (Q:Value->Shared->Prop) (E:Value->Shared->Prop),Q (.int (g i j) s.toks) {s with toks:=s.toks+1}->wpAny (model X.prog X.w) X.A (f (.int i t) (.int j u)) Q E s) :
  du X f (jD fun i j=>.int (g i j)):=by
 intro pins s σ H x y v u Q I rx ry h
 obtain⟨i,j,rfl,rfl,q⟩:=h
 obtain⟨t,rfl⟩:=rx
 obtain⟨t',rfl⟩:=ry
 exact rule i j t t' s _ _ ⟨.int (g i j),H,I.tok _,⟨_,rfl⟩,q⟩
theorem zx {f:Value->Value->Sem Value}{g:Int->Int->Bool}
  (rule:∀ (i j:Int) (t u:Tok) (s:Shared) (Q:Value->Shared->Prop) (E:Value->Shared->Prop),Q (.bool (g i j)) s->wpAny (model X.prog X.w) X.A (f (.int i t) (.int j u)) Q E s) :
  du X f (jD fun i j=>.bl (g i j)):=by
 intro pins s σ H x y v u Q I rx ry h
 obtain⟨i,j,rfl,rfl,q⟩:=h
 obtain⟨t,rfl⟩:=rx
 obtain⟨t',rfl⟩:=ry
 exact rule i j t t' s _ _ ⟨.bl (g i j),H,I,rfl,q⟩
def arn (i j:Int):Prop:=0<j/\j<1073741824
def aro (i j:Int):Prop:=0<=j/\j<=1000000/\i.natAbs<2 ^ 64
def Er (i j:Int):Prop:=(-(2 ^ 64)<i/\i<2 ^ 64)\/(-(2 ^ 64)<j/\j<2 ^ 64)
theorem Er.ok {i j:Int} (h:Er i j):IntMulOk i j:=by
 rcases h with ⟨h1,h2⟩ | ⟨h1,h2⟩
 ·exact .of_left (intBits_le_64 h1 h2)
 exact .of_right (intBits_le_64 h1 h2)
theorem fN:du X (binaryOp .Add) (jD fun i j=>.int (i+j)):=uN fun _ _ _ _ _ _ _ q=>add_int q
theorem mw:du X (binaryOp .Sub) (jD fun i j=>.int (i-j)):=uN fun _ _ _ _ _ _ _ q=>sub_int q
theorem Wl:du X (binaryOp .Mult) (rI Er fun i j=>.int (i*j)):=E2 fun _ _ _ _ _ _ _ hc q=>mul_int q hc.ok
theorem DW:du X (binaryOp .FloorDiv) (rI arn fun i j=>.int (i / j)):=E2 fun i j _ _ _ _ _ hc q=>by
 have h1:(0:Int)<j:=hc.1
 have h2:j<1073741824:=hc.2
 exact floordiv_int (by omega) (by rw[Int.fdiv_eq_ediv_of_nonneg i (by omega)];exact q) (.inl (PyProof.noPylong_small (by omega)))
theorem ze:du X (binaryOp .LShift) (rI aro fun i j=>.int (i*2 ^ j.toNat)):=E2 fun _ _ _ _ _ _ _ hc q=>lshift_int_small hc.1 hc.2.1 hc.2.2 q
theorem oR:du X (binaryOp .BitAnd) (jD fun i j=>.int (Builtin.bitAnd i j)):=uN fun _ _ _ _ _ _ _ q=>and_int q
theorem Ef:du X (binaryOp .BitOr) (jD fun i j=>.int (Builtin.bitOr i j)):=uN fun _ _ _ _ _ _ _ q=>or_int q
theorem api:du X (binaryOp .BitXor) (jD fun i j=>.int (Builtin.bitXor i j)):=uN fun _ _ _ _ _ _ _ q=>xor_int q
theorem unI {f:Value->Sem Value}{g:Int->Int}
  (rule:∀ (i:Int) (t:Tok) (s:Shared) (Q:Value->Shared->Prop) (E:Value->Shared->Prop),Q (.int (g i) s.toks) {s with toks:=s.toks+1}->wpAny (model X.prog X.w) X.A (f (.int i t)) Q E s) :
  E1 X f (rU fun i=>.int (g i)):=by
 intro pins s σ H x v Q I rx h
 obtain⟨i,rfl,q⟩:=h
 obtain⟨t,rfl⟩:=rx
 exact rule i t s _ _ ⟨.int (g i),H,I.tok _,⟨_,rfl⟩,q⟩
theorem jm:E1 X (unaryOp .USub) (rU fun i=>.int (-i)):=unI fun _ _ _ _ _ q=>neg_int q
end
def Es:V->V->Bool
 | .aH,.aH=>true | .aH,.int _=>true | .int _,.aH=>true | .aH,.bl _=>true | .bl _,.aH=>true | .aH,.str _=>true | .str _,.aH=>true
 | .int _,.int _=>true | .bl _,.bl _=>true | .str _,.str _=>true | .fy _,.fy _=>true
 | .int _,.str _=>true | .str _,.int _=>true | .bl _,.str _=>true | .str _,.bl _=>true
 | _,_=>false
def rEq:R2:=fun x y H Q=>Es x y=true/\Q (.bl (decide (x=y))) H
def rNe:R2:=fun x y H Q=>Es x y=true/\Q (.bl (!decide (x=y))) H
theorem VE {i j:Int}:decide (V.int i=V.int j)=(i==j):=by
 rw[Bool.eq_iff_iff]
 simp
theorem Wm {i j:Bool}:decide (V.bl i=V.bl j)=(i==j):=by
 rw[Bool.eq_iff_iff]
 simp
theorem VF {i j:Str}:decide (V.str i=V.str j)=(i==j):=by
 rw[Bool.eq_iff_iff]
 simp
theorem VG {i j:Array UInt8}:decide (V.fy i=V.fy j)=(i.toList==j.toList):=by
 rw[Bool.eq_iff_iff]
 cases i
 cases j
 simp
section
variable {X:Cx}{a b c:Expr}{ta tb tc:TE}{pos:Pos}
theorem cO {pins:List (Addr×Obj)}{σ:St}{H:Hp}{s:Shared}{Q:VK}{k k':Bool} (I:Inv X pins σ H s) (q:Q (.bl k) H) (e:k=k'):EP X pins σ Q (.bool k') s:=by
 subst e
 exact⟨.bl k,H,I,rfl,q⟩
theorem fw:du X (compareOp .Eq) rEq:=by
 intro pins s σ H x y v u Q I rx ry h
 obtain⟨hs,q⟩:=h
 cases x with
 | aH =>
  cases rx
  cases y with
  | aH=>cases ry;exact PySem.EqNone.eq_none_none (cO I q (by simp))
  | bl j=>cases ry;exact PySem.EqNone.eq_none_bool (cO I q (by simp))
  | int j=>obtain⟨t',rfl⟩:=ry;exact PySem.EqNone.eq_none_int (cO I q (by simp))
  | str j=>obtain⟨t',rfl⟩:=ry;exact PySem.EqNone.eq_none_str (cO I q (by simp))
  | _=>exact absurd (show false=true from hs) Bool.false_ne_true
 | bl i =>
  cases rx
  cases y with
  | aH=>cases ry;exact PySem.EqNone.eq_bool_none (cO I q (by simp))
  | bl j=>cases ry;exact eq_bool (cO I q Wm)
  | str j=>obtain⟨t',rfl⟩:=ry;exact PySem.EqMixed.eq_bool_str (cO I q (by simp))
  | _=>exact absurd (show false=true from hs) Bool.false_ne_true
 | int i =>
  obtain⟨t,rfl⟩:=rx
  cases y with
  | aH=>cases ry;exact PySem.EqNone.eq_int_none (cO I q (by simp))
  | int j=>obtain⟨t',rfl⟩:=ry;exact eq_int (cO I q VE)
  | str j=>obtain⟨t',rfl⟩:=ry;exact PySem.EqMixed.eq_int_str (cO I q (by simp))
  | _=>exact absurd (show false=true from hs) Bool.false_ne_true
 | str i =>
  obtain⟨t,rfl⟩:=rx
  cases y with
  | aH=>cases ry;exact PySem.EqNone.eq_str_none (cO I q (by simp))
  | bl j=>cases ry;exact PySem.EqMixed.eq_str_bool (cO I q (by simp))
  | int j=>obtain⟨t',rfl⟩:=ry;exact PySem.EqMixed.eq_str_int (cO I q (by simp))
  | str j=>obtain⟨t',rfl⟩:=ry;exact eq_str (cO I q VF)
  | _=>exact absurd (show false=true from hs) Bool.false_ne_true
 | fy i =>
  obtain⟨t,rfl⟩:=rx
  cases y with
  | fy j=>obtain⟨t',rfl⟩:=ry;exact W.eq_bytes (cO I q VG)
  | _=>exact absurd (show false=true from hs) Bool.false_ne_true
 | _=>cases y <;> exact absurd (show false=true from hs) Bool.false_ne_true
theorem mz:du X (compareOp .NotEq) rNe:=by
 intro pins s σ H x y v u Q I rx ry h
 obtain⟨hs,q⟩:=h
 cases x with
 | aH =>
  cases rx
  cases y with
  | aH=>cases ry;exact PySem.EqNone.ne_none_none (cO I q (by simp))
  | bl j=>cases ry;exact PySem.EqNone.ne_none_bool (cO I q (by simp))
  | int j=>obtain⟨t',rfl⟩:=ry;exact PySem.EqNone.ne_none_int (cO I q (by simp))
  | str j=>obtain⟨t',rfl⟩:=ry;exact PySem.EqNone.ne_none_str (cO I q (by simp))
  | _=>exact absurd (show false=true from hs) Bool.false_ne_true
 | bl i =>
  cases rx
  cases y with
  | aH=>cases ry;exact PySem.EqNone.ne_bool_none (cO I q (by simp))
  | bl j=>cases ry;exact ne_bool (cO I q (congrArg not Wm))
  | str j=>obtain⟨t',rfl⟩:=ry;exact PySem.EqMixed.ne_bool_str (cO I q (by simp))
  | _=>exact absurd (show false=true from hs) Bool.false_ne_true
 | int i =>
  obtain⟨t,rfl⟩:=rx
  cases y with
  | aH=>cases ry;exact PySem.EqNone.ne_int_none (cO I q (by simp))
  | int j=>obtain⟨t',rfl⟩:=ry;exact ne_int (cO I q (congrArg not VE))
  | str j=>obtain⟨t',rfl⟩:=ry;exact PySem.EqMixed.ne_int_str (cO I q (by simp))
  | _=>exact absurd (show false=true from hs) Bool.false_ne_true
 | str i =>
  obtain⟨t,rfl⟩:=rx
  cases y with
  | aH=>cases ry;exact PySem.EqNone.ne_str_none (cO I q (by simp))
  | bl j=>cases ry;exact PySem.EqMixed.ne_str_bool (cO I q (by simp))
  | int j=>obtain⟨t',rfl⟩:=ry;exact PySem.EqMixed.ne_str_int (cO I q (by simp))
  | str j=>obtain⟨t',rfl⟩:=ry;exact ne_str (cO I q (congrArg not VF))
  | _=>exact absurd (show false=true from hs) Bool.false_ne_true
 | fy i =>
  obtain⟨t,rfl⟩:=rx
  cases y with
  | fy j=>obtain⟨t',rfl⟩:=ry;exact W.ne_bytes (cO I q (congrArg not VG))
  | _=>exact absurd (show false=true from hs) Bool.false_ne_true
 | _=>cases y <;> exact absurd (show false=true from hs) Bool.false_ne_true
theorem WH:du X (compareOp .Lt) (jD fun i j=>.bl (decide (i<j))):=zx fun _ _ _ _ _ _ _ q=>lt_int q
theorem uD:du X (compareOp .LtE) (jD fun i j=>.bl (decide (i<=j))):=zx fun _ _ _ _ _ _ _ q=>le_int q
theorem oY:du X (compareOp .Gt) (jD fun i j=>.bl (decide (j<i))):=zx fun _ _ _ _ _ _ _ q=>gt_int q
theorem Eg:du X (compareOp .GtE) (jD fun i j=>.bl (decide (j<=i))):=zx fun _ _ _ _ _ _ _ q=>ge_int q
theorem bS (b:Expr) {op:CmpOp} (h:op≠.In:=by decide) (h2:op≠.NotIn:=by decide):behindInMarks op b=false:=by
 have e1:(op==CmpOp.In)=false:=by cases op <;> first | rfl | exact absurd rfl h
 have e2:(op==CmpOp.NotIn)=false:=by cases op <;> first | rfl | exact absurd rfl h2
 cases b <;> simp[behindInMarks,e1,e2]
theorem yO {op:CmpOp}{r:R2} (ho:du X (compareOp op) r) (ha:PE X a ta) (hb:PE X b tb) (hm:behindInMarks op b=false):PE X (.Compare a [op] [b] pos) (zJ r ta tb):=by
 intro pins s σ H Q I h
 exact wpAny_Compare1 (Ep ha hb I h fun v u s2 x y H2 I2 rx ry q=>ho pins s2 σ H2 x y v u Q I2 rx ry q) hm
def WI (t:TE):TT:=fun σ H Q=>t σ H fun x H'=>∃ k,x=.bl k/\Q k H'
theorem cg {op:CmpOp}{r:R2} (ho:du X (compareOp op) r) (ha:PE X a ta) (hb:PE X b tb) (hm:behindInMarks op b=false):PT X (.Compare a [op] [b] pos) (WI (zJ r ta tb)):=by
 intro pins s σ H Q I h
 refine wpAny_isTrue_Compare1 (aD (ha pins s σ H _ I h) fun v s1 ⟨x,H1,I1,r1,q1⟩=>aD (hb pins s1 σ H1 _ I1 q1) fun u s2 ⟨y,H2,I2,r2,q2⟩ =>
  aD (ho pins s2 σ H2 x y v u _ I2 r1 r2 q2) fun c s3 ⟨z,H3,I3,r3,k,e,q3⟩=>?_) hm
 subst e
 cases r3
 exact wpAny_truthy_bool ⟨H3,I3,q3⟩
def Wn (r r':R2) (ta tb tc:TE):TE:=fun σ H Q=>ta σ H fun x H1=>tb σ H1 fun y H2=>r x y H2 fun z H3=>∃ k,z=.bl k /\
 (if k=true then tc σ H3 fun w' H4=>r' y w' H4 Q else Q (.bl false) H3)
theorem am6 {op qF:CmpOp}{r r':R2} (ho:du X (compareOp op) r) (br:du X (compareOp qF) r') (ha:PE X a ta) (hb:PE X b tb) (hc:PE X c tc)
  (hm:lastMarks [op,qF] [b,c]=false:=by with_unfolding_all rfl):PE X (.Compare a [op,qF] [b,c] pos) (Wn r r' ta tb tc):=by
 intro pins s σ H Q I h
 refine Compare_chain (aD (ha pins s σ H _ I h) fun v s1 ⟨x,H1,I1,r1,q1⟩=>chain_link (aD (hb pins s1 σ H1 _ I1 q1) fun u s2 ⟨y,H2,I2,r2,q2⟩ =>
  aD (ho pins s2 σ H2 x y v u _ I2 r1 r2 q2) fun d s3 ⟨z,H3,I3,r3,k,e,q3⟩=>?_)) hm
 subst e
 cases r3
 refine wpAny_truthy_bool ?_
 cases k with
 | false=>exact ite_ff ⟨.bl false,H3,I3,rfl,q3⟩
 | true=>exact ite_tt (chain_last (aD (hc pins s3 σ H3 _ I3 q3) fun w' s4 ⟨z',H4,I4,r4,q4⟩=>br pins s4 σ H4 y z' u w' Q I4 r2 r4 q4))
theorem am7 {op qF:CmpOp}{r r':R2} (ho:du X (compareOp op) r) (br:du X (compareOp qF) r') (ha:PE X a ta) (hb:PE X b tb) (hc:PE X c tc)
  (hm:lastMarks [op,qF] [b,c]=false:=by with_unfolding_all rfl):PT X (.Compare a [op,qF] [b,c] pos) (WI (Wn r r' ta tb tc)):=by
 intro pins s σ H Q I h
 refine isTrue_chain (aD (ha pins s σ H _ I h) fun v s1 ⟨x,H1,I1,r1,q1⟩=>test_link (aD (hb pins s1 σ H1 _ I1 q1) fun u s2 ⟨y,H2,I2,r2,q2⟩ =>
  aD (ho pins s2 σ H2 x y v u _ I2 r1 r2 q2) fun d s3 ⟨z,H3,I3,r3,k,e,q3⟩=>?_)) hm
 subst e
 cases r3
 refine wpAny_truthy_bool ?_
 cases k with
 | false =>
  obtain⟨k',e',q'⟩:=q3
  cases e'
  exact ite_ff ⟨H3,I3,q'⟩
 | true =>
  refine ite_tt (test_last (aD (hc pins s3 σ H3 _ I3 q3) fun w' s4 ⟨z',H4,I4,r4,q4⟩=>aD (br pins s4 σ H4 y z' u w' _ I4 r2 r4 q4) fun d' s5 ⟨z2,H5,I5,r5,k2,e2,q5⟩=>?_))
  subst e2
  cases r5
  exact wpAny_truthy_bool ⟨H5,I5,q5⟩
theorem ux:(sizeLine:Nat)<2 ^ 63:=by rw[sizeLine_eq];decide
theorem vals1 {x:V}{us:List Value} (r:Vals [x] us):∃ u,us=[u]/\RelV x u:=by
 cases r with
 | cons r1 r2=>cases r2;exact⟨_,rfl,r1⟩
theorem vals2 {x y:V}{us:List Value} (r:Vals [x,y] us):∃ u w',us=[u,w']/\RelV x u/\RelV y w':=by
 cases r with
 | cons r1 r2 =>
  cases r2 with
  | cons r3 r4=>cases r4;exact⟨_,_,rfl,r1,r3⟩
theorem am8:nZ X (.builtin "abs") (fun xs H Q=>∃ i,xs=[.int i]/\Q (.int (if i<0 then -i else i)) H):=by
 intro pins s σ H xs us Q I r h
 obtain⟨i,rfl,q⟩:=h
 obtain⟨u,rfl,t,rfl⟩:=vals1 r
 exact call_abs_int fun u tk=>⟨.int (if i<0 then -i else i),H,I.tok _,⟨_,rfl⟩,q⟩
theorem Ui (hc:X.calm=true):nZ X (.builtin "max") (fun xs H Q=>∃ i j,xs=[.int i,.int j]/\Q (.int (if j>i then j else i)) H):=by
 intro pins s σ H xs us Q I r h
 obtain⟨i,j,rfl,q⟩:=h
 obtain⟨u,w',rfl,⟨t,rfl⟩,⟨t',rfl⟩⟩:=vals2 r
 refine max_two_ints (I.ok.hd hc) fun h' tk k=>⟨_,H,I.kept k,?_,q⟩
 by_cases hj:j>i
 ·rw[if_pos hj,if_pos hj];exact⟨_,rfl⟩
 rw[if_neg hj,if_neg hj];exact⟨_,rfl⟩
theorem yx (hc:X.calm=true):nZ X (.builtin "min") (fun xs H Q=>∃ i j,xs=[.int i,.int j]/\Q (.int (if j<i then j else i)) H):=by
 intro pins s σ H xs us Q I r h
 obtain⟨i,j,rfl,q⟩:=h
 obtain⟨u,w',rfl,⟨t,rfl⟩,⟨t',rfl⟩⟩:=vals2 r
 refine min_two_ints (I.ok.hd hc) fun h' tk k=>⟨_,H,I.kept k,?_,q⟩
 by_cases hj:j<i
 ·rw[if_pos hj,if_pos hj];exact⟨_,rfl⟩
 rw[if_neg hj,if_neg hj];exact⟨_,rfl⟩
theorem am9:nZ X (.builtin "ord") (fun xs H Q=>∃ x,xs=[.str x]/\x.length=1/\Q (.int (x.cps.getD 0 0:Nat)) H):=by
 intro pins s σ H xs us Q I r h
 obtain⟨x,rfl,hz,q⟩:=h
 obtain⟨u,rfl,t,rfl⟩:=vals1 r
 exact ord_of_one hz ⟨.int _,H,I.tok _,⟨_,rfl⟩,q⟩
end
end L2
namespace L2
open PySem PySem.Spec PyProof.Rows
structure qt (h:Heap) (x dx C:Addr) (mA:Str->Option Value):Prop where
 obj:h.get? x=some (W.instObj C dx)
 ns:h.Ns1 dx mA
 ne:dx≠x
theorem Uj {h:Heap}{dx:Addr}{mA:Str->Option Value} (n:h.Ns1 dx mA):∃ od,h.get? dx=some od/\∀ name,W.lookIn name od=some (mA name):=by
 obtain⟨o,es,ep,ho,hd,hk,_,hm⟩:=n
 refine⟨o,ho,fun name=>?_⟩
 have e:=hm name
 unfold nsFind findBy at e
 rw[<- Array.find?_toList] at e
 unfold W.lookIn
 rw[hd]
 dsimp only
 split
 ·rename_i y q
  rw[q] at e
  exact congrArg some e
 rename_i q
 rw[q] at e
 have a:es.toList.any (·.refKey)=false:=by
  rw[List.any_eq_false]
  intro y hy
  obtain⟨z,t,uO⟩:=hk y (Array.mem_toList_iff.mp hy)
  simp[DictEntry.refKey,uO]
 have a':¬ es.toList.any (·.refKey)=true:=by rw[a];exact Bool.false_ne_true
 rw[if_neg a']
 exact congrArg some e
theorem qt.look {h:Heap}{x dx C:Addr}{mA:Str->Option Value} (I:qt h x dx C mA):∃ od,W.InstAt h x (W.instObj C dx) C (some od)/\∀ name,W.lookIn name od=some (mA name) :=
 let ⟨od,ho,hl⟩:=Uj I.ns
 ⟨od,⟨I.obj,rfl,rfl,ho⟩,hl⟩
section
variable {prog:Program}{w:World}{A:Around}{E:Value->Shared->Prop}{s:Shared}{K:W.Frag}{x dx C f:Addr}{mA:Str->Option Value}{name:Str}{v:Value}
theorem get_map {expr:Bool}{Q:Value->Shared->Prop} (X:K.In s.heap) (I:qt s.heap x dx C mA) (hg:W.plainGet K C name=true) (hh:W.hasDictIn K C=true)
  (ha:W.findIn K (.ref C) name=some none) (hv:mA name=some v) (iF:W.handedIn v=true) (h:Q v {s with toks:=s.toks+1}) :
  wpAny (model prog w) A (getAttr (.ref x) name expr) Q E s:=by
 obtain⟨od,J,hl⟩:=I.look
 exact W.get_value X J (W.plainGet_of hg).1 (W.findObj_own hh ha rfl (by rw[hl,hv])) iF h
theorem ama {pl:Sem Bool}{Q:Value×List Value->Shared->Prop} (X:K.In s.heap) (I:qt s.heap x dx C mA) (hg:W.plainGet K C name=true)
  (hf:W.findIn K (.ref C) name=some (some (.ref f))) (ht:W.isFn K (.ref f)=true) (hv:mA name=none) (h:Q (.ref f,[.ref x]) s) :
  wpAny (model prog w) A (getMethod (.ref x) name pl) Q E s:=by
 obtain⟨od,J,hl⟩:=I.look
 exact W.method_fn X J (W.plainGet_of hg).1 (W.plainGet_of hg).2 hf (beq_iff_eq.mp ht) (by show(W.lookIn name od).map (·.isSome)=some false;rw[hl,hv];rfl) h
theorem anD {ns:List Str}{Q:Unit->Shared->Prop} (X:K.In s.heap) (I:qt s.heap x dx C mA)
  (hs:W.findIn K (.ref C) "__setattr__"=some (some (.builtin "object.__setattr__"))) (hp:W.plainOver K C=true) (ht:W.takerIn K C name=some none) (hh:W.hasDictIn K C=true)
  (hw:PySem.Within mA ns) (hsz:ns.length<=sizeLine)
  (h:∀ h',qt h' x dx C (fun y=>if y=name then some v else mA y)->Heap.SameBut dx s.heap h'->Q () {s with heap:=h',toks:=s.toks+2}) :
  wpAny (model prog w) A (setAttr (.ref x) name v) Q E s:=by
 obtain⟨od,J,hl⟩:=I.look
 refine W.set_plain X J hs (W.osa_open (s:={s with toks:=s.toks+1}) (r:=none) X J hp ht fun b=>?_)
 obtain⟨cd,hc,sG⟩:=W.any_some hh
 have hx:s.heap.get? x=some ⟨.ref C,some dx,.plain,#[]⟩:=I.obj
 refine wpAny_bind (wpAny_pure (wpAny_bind (wpAny_bind (wpAny_loadPart hx (wpAny_bind (W.Looks.here (s:={s with toks:=s.toks+1}) (W.looks_clsIn X hc) ?_))))))
 rw[sG]
 refine wpAny_pure (a:=some dx) (wpAny_bind (wpAny_pure (wpAny_bind ?_)))
 refine wpAny_nsSet1 (s:={s with toks:=s.toks+1}) I.ns fun h' u0 iE=>?_
 obtain⟨oD,esD,epD,E3,E4,E5⟩:=u0.count (PySem.Within.cons name v hw)
 refine wpAny_bind (wpAny_lookBehind E3 (by rw[E4];exact pastItsLine_dict (Nat.le_trans E5 (by rw[List.length_cons];omega))) ?_)
 exact wpAny_pure (h _ ⟨(iE.2 _ (Ne.symm I.ne)).trans I.obj,u0,I.ne⟩ iE)
theorem amb {R:Result->Shared->Prop}{vs:List Value}{kw:List (Str×Value)} (X:K.In s.heap) (hm:W.makesIn K C=true)
  (hi:W.findIn K (.ref C) "__init__"=some (some (.ref f))) (hf:W.typeIn K (.ref f)=some (.type "function"))
  (h:codeAny (model prog w) (A.under (.builtin "type.__call__" ⟨.ref C::vs,kw⟩)) (.call (.ref f) ⟨.ref (s.heap.objs.size+1)::vs,kw⟩) (W.InitBack (s.heap.objs.size+1) R)
   {s with heap:=(s.heap.push W.emptyDict).push (W.instObj C s.heap.objs.size)}) :
  codeAny (model prog w) A (.call (.ref C) ⟨vs,kw⟩) R s:=by
 obtain⟨hh,g,d,t,os⟩:=s
 exact W.make_core (W.makes_of X hm) (W.looks_findIn X hi) (fun self=>W.bind_fn X self hf) (.inl rfl) h
end
def bE (f:Str) (v:V):List (Str×V)->List (Str×V)
 | []=>[(f,v)]
 | (g,x)::r=>if g=f then (g,v)::r else (g,x)::bE f v r
theorem RU (f g:Str) (v:V):∀ fs:List (Str×V),(bE f v fs).lookup g=if g=f then some v else fs.lookup g
 | []=>by
  show List.lookup g [(f,v)]=_
  by_cases h:g=f
  ·have hb:(g==f)=true:=beq_iff_eq.mpr h
   simp only [List.lookup,hb,if_pos h]
  have hb:(g==f)=false:=beq_eq_false_iff_ne.mpr h
  simp only [List.lookup,hb,if_neg h]
 | (k,x)::r=>by
  have ih:=RU f g v r
  rw[show bE f v ((k,x)::r)=(if k=f then (k,v)::r else (k,x)::bE f v r) from rfl]
  by_cases hk:k=f
  ·rw[if_pos hk]
   by_cases h:g=k
   ·have hb:(g==k)=true:=beq_iff_eq.mpr h
    simp only [List.lookup,hb,if_pos (h.trans hk)]
   have hb:(g==k)=false:=beq_eq_false_iff_ne.mpr h
   simp only [List.lookup,hb,if_neg (fun e:g=f=>h (e.trans hk.symm))]
  rw[if_neg hk]
  by_cases h:g=k
  ·have hb:(g==k)=true:=beq_iff_eq.mpr h
   simp only [List.lookup,hb,if_neg (fun e:g=f=>hk (h.symm.trans e))]
  have hb:(g==k)=false:=beq_eq_false_iff_ne.mpr h
  simp only [List.lookup,hb]
  exact ih
theorem Dr (f:Str) (v:V):∀ fs:List (Str×V),f∈(bE f v fs).map (·.1)/\∀ g,g∈fs.map (·.1)->g∈(bE f v fs).map (·.1)
 | []=>⟨by simp[bE],fun g h=>by simp at h⟩
 | (k,x)::r=>by
  obtain⟨i1,i2⟩:=Dr f v r
  rw[show bE f v ((k,x)::r)=(if k=f then (k,v)::r else (k,x)::bE f v r) from rfl]
  by_cases hk:k=f
  ·rw[if_pos hk]
   subst hk
   exact⟨by simp,fun g h=>by simpa using h⟩
  rw[if_neg hk]
  refine⟨?_,fun g h=>?_⟩
  ·rw[List.map_cons]
   exact List.mem_cons_of_mem _ i1
  rw[List.map_cons] at h ⊢
  rcases List.mem_cons.mp h with e | e
  ·exact List.mem_cons.mpr (.inl e)
  exact List.mem_cons_of_mem _ (i2 g e)
theorem RV (f:Str) (v:V):∀ fs:List (Str×V),(bE f v fs).length<=fs.length+1
 | []=>by simp[bE]
 | (k,x)::r=>by
  have ih:=RV f v r
  rw[show bE f v ((k,x)::r)=(if k=f then (k,v)::r else (k,x)::bE f v r) from rfl]
  by_cases hk:k=f
  ·rw[if_pos hk,List.length_cons,List.length_cons];omega
  rw[if_neg hk,List.length_cons,List.length_cons];omega
theorem dP.some_of {v:V}{o:Option Value} (r:dP (some v) o):∃ u,o=some u/\RelV v u:=by
 cases o with
 | none=>exact(show False from r).elim
 | some u=>exact⟨u,rfl,r⟩
theorem dP.none_of {o:Option Value} (r:dP none o):o=none:=by
 cases o with
 | none=>rfl
 | some u=>exact(show False from r).elim
theorem Uk {v:V}{u:Value} (r:RelV v u):W.handedIn u=true:=by
 cases v with
 | aH=>cases (show u=Value.none from r);rfl
 | bl b=>cases (show u=Value.bool b from r);rfl
 | int i=>obtain⟨t,e⟩:=(show ∃ t,u=Value.int i t from r);cases e;rfl
 | str x=>obtain⟨t,e⟩:=(show ∃ t,u=Value.str x t from r);cases e;rfl
 | fy b=>obtain⟨t,e⟩:=(show ∃ t,u=Value.bytes b t from r);cases e;rfl
 | uV b=>obtain⟨t,e⟩:=(show ∃ t,u=Value.float b t from r);cases e;rfl
 | ref a=>cases (show u=Value.ref a from r);rfl
 | ty n=>cases (show u=Value.type n from r);rfl
section
variable {P:Program}{w:World}{H H':Hp}{h h':Heap}{a C dx:Addr}{fs pd:List (Str×V)}
theorem DX (az:bO P w H h) (e:H a=some (.ins C dx fs)):∃ mA,qt h a dx C mA/\(∀ f,dP (fs.lookup f) (mA f))/\PySem.Within mA (fs.map (·.1))/\fs.length<=1000/\H dx=some (.own a):=by
 obtain⟨d,z,ne,ob,mA,n,r,q⟩:=(show cN P w H h a (.ins C dx fs) from az a _ e)
 exact⟨mA,⟨ob,n,ne⟩,r,q,z,d⟩
end
structure fg (K:W.Frag) (C:Addr):Prop where
 pg:W.plainGet K C Str.empty=true
 hd:W.hasDictIn K C=true
 po:W.plainOver K C=true
 sa:W.findIn K (.ref C) "__setattr__"=some (some (.builtin "object.__setattr__"))
theorem fg.get {K:W.Frag}{C:Addr} (c:fg K C) (f:Str):W.plainGet K C f=true:=c.pg
def bN (K:W.Frag) (C:Addr) (f:Str):Prop:=W.findIn K (.ref C) f=some none
theorem bN.aqp {K:W.Frag}{C:Addr}{f:Str} (n:bN K C f):W.takerIn K C f=some none:=by
 unfold W.takerIn
 rw[show W.findIn K (.ref C) f=some none from n]
 rfl
structure Meth (K:W.Frag) (C:Addr) (m:Str) (f:Addr):Prop where
 at_:W.findIn K (.ref C) m=some (some (.ref f))
 fn:W.isFn K (.ref f)=true
 kp:W.keepIn K (.ref f)=true
section
variable {X:Cx}{pins:List (Addr×Obj)}{σ:St}{H:Hp}{s:Shared}{a C dx:Addr}{fs:List (Str×V)}{f:Str}{v:V}{A:Around}{E:Value->Shared->Prop}
theorem Tf {b:Bool}{Q:Value->Shared->Prop} (I:Inv X pins σ H s) (e:H a=some (.ins C dx fs)) (c:fg X.K C) (n:bN X.K C f) (l:fs.lookup f=some v)
  (h:∀ u s',Inv X pins σ H s'->RelV v u->Q u s'):wpAny (model X.prog X.w) A (getAttr (.ref a) f b) Q E s:=by
 obtain⟨mA,O,r,_,_,_⟩:=DX I.az e
 obtain⟨u,hu,ru⟩:=dP.some_of (v:=v) (o:=mA f) (by rw[<- l];exact r f)
 exact get_map I.cZ O (c.get f) c.hd n hu (Uk ru) (h u _ (I.tok _) ru)
theorem Tg {m:Str}{g:Addr}{pl:Sem Bool}{Q:Value×List Value->Shared->Prop} (I:Inv X pins σ H s) (e:H a=some (.ins C dx fs)) (c:fg X.K C) (k:Meth X.K C m g) (l:fs.lookup m=none)
  (h:Q (.ref g,[.ref a]) s):wpAny (model X.prog X.w) A (getMethod (.ref a) m pl) Q E s:=by
 obtain⟨mA,O,r,_,_,_⟩:=DX I.az e
 have hn:mA m=none:=dP.none_of (by rw[<- l];exact r m)
 exact ama I.cZ O (c.get m) k.at_ k.fn hn h
theorem Th {y:V}{u:Value}{Q:Unit->Shared->Prop} (I:Inv X pins σ H s) (e:H a=some (.ins C dx fs)) (c:fg X.K C) (n:bN X.K C f) (hl:fs.length<1000) (ry:RelV y u)
  (h:∀ s',Inv X pins σ (upd H a (.ins C dx (bE f y fs))) s'->Q () s'):wpAny (model X.prog X.w) A (setAttr (.ref a) f u) Q E s:=by
 obtain⟨mA,O,r,wi,_,ho⟩:=DX I.az e
 have hz:(fs.map (·.1)).length<=sizeLine:=by rw[List.length_map,sizeLine_eq];omega
 refine anD I.cZ O c.sa c.po n.aqp c.hd wi hz fun h' O' sb=>h _ ?_
 have hd:∃ o,h'.get? dx=some o:=let ⟨o,_,_,e',_⟩:=O'.ns;⟨o,e'⟩
 refine I.write (x:=a) (e:=dx) (by rw[e];exact True.intro) (.inr ho) (fun b q hb z=>(sb.2 b hb).trans z) hd ?_
 refine⟨by rw[ai O.ne];exact ho,?_,O.ne,O'.obj,_,O'.ns,fun g=>?_,fun g hg=>?_⟩
 ·have:=RV f y fs;omega
 ·show dP ((bE f y fs).lookup g) (if g=f then some u else mA g)
  rw[RU]
  by_cases q:g=f
  ·rw[if_pos q,if_pos q];exact ry
  rw[if_neg q,if_neg q];exact r g
 by_cases q:g=f
 ·rw[q];exact(Dr f y fs).1
 refine(Dr f y fs).2 g (wi g fun z=>hg ?_)
 show(if g=f then some u else mA g)=none
 rw[if_neg q];exact z
theorem Inv.made (I:Inv X pins σ H s):Inv X pins σ (upd (upd H s.heap.objs.size (.own (s.heap.objs.size+1))) (s.heap.objs.size+1) (.ins C s.heap.objs.size []))
  {s with heap:=(s.heap.push W.emptyDict).push (W.instObj C s.heap.objs.size)}:=by
 have e1:(s.heap.push W.emptyDict).get? s.heap.objs.size=some W.emptyDict:=Heap.get?_push_size s.heap rfl
 have e2:((s.heap.push W.emptyDict).push (W.instObj C s.heap.objs.size)).get? (s.heap.objs.size+1)=some (W.instObj C s.heap.objs.size):=by
  have:=Heap.get?_push_size (s.heap.push W.emptyDict) (o:=W.instObj C s.heap.objs.size) rfl
  rwa [Heap.size_push] at this
 have e3:(s.heap.push W.emptyDict).Ns s.heap.objs.size (fun _=>none):=⟨W.emptyDict,#[],_,e1,rfl,(fun e he=>absurd he (by simp)),fun _=>rfl⟩
 have I1:=I.laid (a:=s.heap.objs.size) (o:=.own (s.heap.objs.size+1)) (h':=s.heap.push W.emptyDict) (t':=s.toks) (fun b u q=>Heap.get?_push_of_some _ q) (Nat.le_refl _) ⟨_,e1⟩
 refine I1.laid (a:=s.heap.objs.size+1) (o:=.ins C s.heap.objs.size []) (t':=s.toks) (fun b u q=>Heap.get?_push_of_some _ q) (Nat.le_of_eq (Heap.size_push _ _)) ?_
 have ne:s.heap.objs.size≠s.heap.objs.size+1:=Nat.ne_of_lt (Nat.lt_succ_self _)
 refine⟨by rw[ai ne,ak],Nat.zero_le _,ne,e2,fun _=>none,(Heap.Ns1.of_empty e3).at fun o q=>Heap.get?_push_of_some _ q,fun _=>True.intro,fun y hy=>absurd rfl hy⟩
theorem VH {prog:Program}{w:World}{env:Env}{e:Expr}{f:Str}{pos:Pos}{s:Shared}{Q:Value->Shared->Prop} (hb:attributeBase e f env (eval e env)=eval e env)
  (h:wpAny (model prog w) A (eval e env) (fun o s₁=>wpAny (model prog w) A (getAttr o f true) Q E s₁) E s):wpAny (model prog w) A (eval (.Attribute e f pos) env) Q E s :=
 Attribute_any_ h (by rw[arm_eval_Attribute,hb])
end
def W6 (K:W.Frag) (ta:TE) (f:Str):TE:=fun σ H Q=>ta σ H fun x H1=>∃ a C dx fs v,x=.ref a/\H1 a=some (.ins C dx fs)/\fg K C/\bN K C f/\fs.lookup f=some v/\Q v H1
def arp (K:W.Frag) (ta tv:TE) (f:Str):TS:=fun D σ H=>tv σ H fun y H1=>ta σ H1 fun x H2=>∃ a C dx fs,x=.ref a/\H2 a=some (.ins C dx fs)/\fg K C/\bN K C f/\fs.length<1000 /\
 D.nx σ (upd H2 a (.ins C dx (bE f y fs)))
def W7 (X:Cx) (op:Operator) (rd:V->V->Hp->VK->Prop):Prop :=
 ∀ (pins:List (Addr×Obj)) (s:Shared) (σ:St) (H:Hp) (x y:V) (u v:Value) (Q:VK),Inv X pins σ H s->RelV x u->RelV y v->rd x y H Q->wpAny (model X.prog X.w) X.A (inplaceOp op u v) (EP X pins σ Q) X.xe s
def anE (K:W.Frag) (ta tv:TE) (rd:V->V->Hp->VK->Prop) (f:Str):TS:=fun D σ H=>ta σ H fun x H1=>∃ a C dx fs v,x=.ref a/\H1 a=some (.ins C dx fs)/\fg K C/\bN K C f/\fs.lookup f=some v /\
 tv σ H1 fun y H2=>rd v y H2 fun z H3=>∃ bL pd,H3 a=some (.ins C bL pd)/\pd.length<1000/\D.nx σ (upd H3 a (.ins C bL (bE f z pd)))
section
variable {X:Cx}{o e value:Expr}{f:Str}{pos pos' gg:Pos}{ta tv:TE}
theorem aI (he:PE X e ta) (hb:attributeBase e f X.env (eval e X.env)=eval e X.env):PE X (.Attribute e f pos) (W6 X.K ta f):=by
 intro pins s σ H Q I h
 refine VH hb (aD (he pins s σ H _ I h) fun u s1 ⟨x,H1,I1,rx,a,C,dx,fs,v,ex,ea,c,n,l,q⟩=>?_)
 subst ex
 obtain rfl:u=Value.ref a:=rx
 exact Tf I1 ea c n l fun u' s2 I2 ru=>⟨v,H1,I2,ru,q⟩
theorem bZ (ha:PE X o ta) (hv:PE X value tv) (hs:swapsWith value (some (.Attribute o f pos')) pos.line X.env=pure false):PS X (.Assign [.Attribute o f pos'] value pos) (arp X.K ta tv f):=by
 intro pins s σ H D I h
 refine plainObj_wpAny_Assign_Attribute (aD (hv pins s σ H _ I h) fun u s1 ⟨y,H1,I1,ry,q⟩=>aD (ha pins s1 σ H1 _ I1 q) fun ov s2 ⟨x,H2,I2,rx,a,C,dx,fs,ex,ea,c,n,l,q2⟩=>?_) hs
 subst ex
 obtain rfl:ov=Value.ref a:=rx
 exact Th I2 ea c n l ry fun s3 I3=>⟨σ,_,I3,q2⟩
theorem rK {op:Operator}{rd:V->V->Hp->VK->Prop} (ha:PE X o ta) (hv:PE X value tv) (u6:W7 X op rd):PS X (.AugAssign (.Attribute o f gg) op value pos) (anE X.K ta tv rd f):=by
 intro pins s σ H D I h
 refine wpAny_AugAssign_AttributeAny (aD (ha pins s σ H _ I h) fun ov s1 ⟨x,H1,I1,rx,a,C,dx,fs,v,ex,ea,c,n,l,q⟩=>?_)
 subst ex
 obtain rfl:ov=Value.ref a:=rx
 refine Tf I1 ea c n l fun u s2 I2 ru=>aD (hv pins s2 σ H1 _ I2 q) fun w3 s3 ⟨y,H2,I3,ry,q3⟩=>aD (u6 pins s3 σ H2 v y u w3 _ I3 ru ry q3) fun w4 s4 ⟨z,H3,I4,rz,bL,pd,ea',l',q4⟩=>?_
 exact Th I4 ea' c n l' rz fun s5 I5=>⟨σ,_,I5,q4⟩
def arq:V->V->Hp->VK->Prop:=fun x y H Q=>∃ i j,x=.int i/\y=.int j/\Q (.int (i+j)) H
theorem rT:W7 X .Add arq:=by
 rintro pins s σ H x y u v Q I rx ry ⟨i,j,rfl,rfl,q⟩
 obtain⟨t,rfl⟩:=(show ∃ t,u=Value.int i t from rx)
 obtain⟨t',rfl⟩:=(show ∃ t',v=Value.int j t' from ry)
 exact PyProof.Rows.iadd_int ⟨.int (i+j),H,I.tok _,⟨_,rfl⟩,q⟩
end
section
variable {X:Cx}{pins:List (Addr×Obj)}{σ:St}{H:Hp}{s:Shared}{A:Around}{E:Value->Shared->Prop}{Q:Value->Shared->Prop}{c:Value}{b:Bool}
end
end L2
namespace L2
open PySem PySem.Spec PyProof.Rows
structure cK (k:Nat) (A:Around):Prop where
 dp:A.depth+3*k+5<recursionLimit
 un:A.units+16*k+200<cLine
theorem cK.mono {j k:Nat}{A:Around} (r:cK k A) (h:j<=k):cK j A:=⟨by have:=r.dp;omega,by have:=r.un;omega⟩
theorem cK.deeper {k:Nat}{A:Around} (r:cK (k+1) A) (env:Env):cK k (A.deeper env) :=
 ⟨by have:=r.dp;show A.depth+1+3*k+5<_;omega,by have:=r.un;show A.units+3+16*k+200<_;omega⟩
theorem aiT {A:Around}{C:Addr}{us:List Value}{kw:List (Str×Value)}:(A.under (.builtin "type.__call__" ⟨.ref C::us,kw⟩)).depth=A.depth+1:=by
 first | rfl | simp[Around.under,Code.weight,Code.isCreation,Code.isGuard,Code.isCaller,Code.frames,Code.isFrame,guardIds]
theorem aiU {A:Around}{C:Addr}{us:List Value}{kw:List (Str×Value)}:(A.under (.builtin "type.__call__" ⟨.ref C::us,kw⟩)).units=A.units+1:=by
 first | rfl | simp[Around.under,Code.cUnits,Code.frames,Code.isFrame]
theorem cK.make {k:Nat}{A:Around} (r:cK (k+1) A) (C:Addr) (us:List Value) (kw:List (Str×Value)):cK k (A.under (.builtin "type.__call__" ⟨.ref C::us,kw⟩)) :=
 ⟨by have:=r.dp;rw[aiT];omega,by have:=r.un;rw[aiU];omega⟩
theorem cK.depth {k:Nat}{A:Around} (r:cK k A):A.depth<recursionLimit:=by have:=r.dp;omega
theorem cK.units {k:Nat}{A:Around} (r:cK k A):A.units+64<cLine:=by have:=r.un;omega
def sg:TA:=fun _ H Q=>Q [] H
def zt (ta:TE) (tr:TA):TA:=fun σ H Q=>ta σ H fun x H1=>tr σ H1 fun xs H2=>Q (x::xs) H2
section
variable {X:Cx}{e:Expr}{es:List Expr}{te:TE}{t:TA}{pos:Pos}
theorem ag:PA X [] sg:=fun _ _ _ _ H Q I h=>Calls.spliced_nil ⟨[],H,I,.nil,h⟩
theorem aa (ha:PE X e te) (hr:PA X es t) (hs:starEach (e::es) X.env=(false,eval e X.env)::starEach es X.env:=by rfl):PA X (e::es) (zt te t):=by
 intro pos pins s σ H Q I h
 rw[hs]
 show wpAny _ _ (spliced ((false,eval e X.env)::backTo pos (starEach es X.env))) _ _ s
 refine Calls.spliced_cons (aD (ha pins s σ H _ I h) fun u s1 ⟨x,H1,I1,r1,q1⟩=>?_)
 exact aD (hr pos pins s1 σ H1 _ I1 q1) fun us s2 ⟨xs,H2,I2,r2,q2⟩=>⟨x::xs,H2,I2,.cons r1 r2,q2⟩
def ars (t:TA):TE:=fun σ H Q=>t σ H fun xs H1=>xs.length<=sizeLine/\∀ p,H1 p=none->Q (.ref p) (upd H1 p (.tup xs))
def art (t:TA):TE:=fun σ H Q=>t σ H fun xs H1=>xs.length<=sizeLine/\∀ p,H1 p=none->Q (.ref p) (upd H1 p (.lst xs))
theorem oS {x1} (h:PA X es t):PE X (.Tuple es x1 pos) (ars t):=by
 intro pins s σ H Q I hq
 refine wpAny_Tuple_spliced (aD (h pos pins s σ H _ I hq) fun us s1 ⟨xs,H1,I1,r,z,q⟩=>⟨by rw[<- r.length];exact z,?_⟩)
 have hf:H1 s1.heap.objs.size=none:=I1.az.fresh (Nat.le_refl _)
 refine⟨.ref s1.heap.objs.size,upd H1 s1.heap.objs.size (.tup xs),I1.laid (t':=s1.toks) (fun b u e=>Heap.get?_push_of_some _ e) (Nat.le_refl _) ?_,rfl,q _ hf⟩
 exact⟨z,us,r,⟨_,Heap.get?_push_size _ rfl,rfl,_,rfl⟩⟩
theorem cP (h:PA X es t):PE X (.List es pos) (art t):=by
 intro pins s σ H Q I hq
 refine wpAny_List_spliced (aD (h pos pins s σ H _ I hq) fun us s1 ⟨xs,H1,I1,r,z,q⟩=>⟨by rw[<- r.length];exact z,?_⟩)
 have hf:H1 s1.heap.objs.size=none:=I1.az.fresh (Nat.le_refl _)
 refine⟨.ref s1.heap.objs.size,upd H1 s1.heap.objs.size (.lst xs),I1.laid (t':=s1.toks) (fun b u e=>Heap.get?_push_of_some _ e) (Nat.le_refl _) ?_,rfl,q _ hf⟩
 exact⟨z,us,0,r,Heap.get?_push_size _ rfl⟩
end
abbrev Sp:=List V->Hp->VK->XK->Prop
abbrev gW:=List Env->Hp->Shared->XK->Value->Shared->Prop
structure qu (P:Program) (w:World) (K:W.Frag) (mg:Str->Option Value) (base:Heap) (A:Around) (outer:List Env) (s:Shared) (H:Hp):Prop where
 frames:A.frames=some outer
 mod:Mod K mg base
 bs:∀ b o,base.get? b=some o->s.heap.get? b=some o/\H b=none
 jC:base.objs.size<=s.heap.objs.size
 gf:s.heap.FunFrames base outer
 oo:∀ b∈dj outer,H b=none
 az:bO P w H s.heap
 bare:AllBare s.gens
def CE (outer:List Env) (P:Program) (w:World) (H:Hp) (s:Shared) (Q:VK) (u:Value) (s':Shared):Prop :=
 ∃ v H',s'.os=s.os/\AllBare s'.gens/\Un (dj outer) [] H H' s.heap s'.heap/\bO P w H' s'.heap/\RelV v u/\Q v H'
def CR (CX:gW) (outer:List Env) (P:Program) (w:World) (H:Hp) (s:Shared) (Q:VK) (E:XK) (r:Result) (s':Shared):Prop :=
 match r with
 | .ok (.ret u)=>CE outer P w H s Q u s'
 | .ok _=>False
 | .error e=>CX outer H s E e s'
structure aN (P:Program) (w:World) (K:W.Frag) (mg:Str->Option Value) (base:Heap) (CX:gW) (cm:Bool) (k:Nat) (f:Addr) (fd:FuncData) (ps:List Str) (sp:Sp):Prop where
 len:∀ vs H Q E,sp vs H Q E->vs.length=ps.length
 run:∀ (A:Around) (outer:List Env) (s:Shared) (H:Hp) (args:Args) (us:List Value) (vs:List V) (Q:VK) (E:XK),cK k A->(cm=true->A.handled=none)->qu P w K mg base A outer s H->BindsTo s fd args (ps.zip us)->Vals vs us->sp vs H Q E ->
  codeAny (model P w) A (.call (.ref f) args) (CR CX outer P w H s Q E) s
theorem qu.make {P:Program}{w:World}{K:W.Frag}{mg:Str->Option Value}{base:Heap}{A:Around}{outer:List Env}{s:Shared}{H:Hp} (e:qu P w K mg base A outer s H) (C:Addr) (us:List Value) (kw:List (Str×Value)) :
  qu P w K mg base (A.under (.builtin "type.__call__" ⟨.ref C::us,kw⟩)) outer s H:=⟨by first | exact e.frames | (simpa [Around.under,Code.envs,Code.isFrame,pushEnvs] using e.frames),e.mod,e.bs,e.jC,e.gf,e.oo,e.az,e.bare⟩
section
variable {X:Cx}{pins:List (Addr×Obj)}{σ:St}{H:Hp}{s s':Shared}
theorem Inv.Et (I:Inv X pins σ H s):qu X.prog X.w X.K X.mg X.base X.A X.stack s H :=
 ⟨I.ok.frames,I.ok.mod,I.bs,Nat.le_trans I.ok.jC I.sz,I.stack,I.DT,I.az,I.bare⟩
theorem Inv.after {Q:VK}{u:Value} (I:Inv X pins σ H s) (h:CE X.stack X.prog X.w H s Q u s'):EP X pins σ Q u s':=by
 obtain⟨v,H',os,bare,un,az,r,q⟩:=h
 obtain⟨hh,g,d,t,os'⟩:=s'
 obtain rfl:os'=s.os:=os
 exact⟨v,H',I.call (h':=hh) (g':=g) (d':=d) (t':=t) (ch:=[]) un az bare (fun b z=>absurd z (by simp)),r,q⟩
end
def aqq (sp:Sp) (dZ:List V) (E:XK) (t:TA):TE:=fun σ H Q=>t σ H fun vs H1=>sp (vs++dZ) H1 Q E
def WJ (C:Addr) (m:Str) (sp:Sp) (dZ:List V) (E:XK) (ta:TE) (t:TA):TE:=fun σ H Q=>ta σ H fun x H1=>∃ a dx fs,x=.ref a/\H1 a=some (.ins C dx fs)/\fs.lookup m=none /\
 t σ H1 fun vs H2=>sp (x::(vs++dZ)) H2 Q E
def WK (C:Addr) (sp:Sp) (dZ:List V) (E:XK) (t:TA):TE:=fun σ H Q=>t σ H fun vs H1=>∀ x dx,H1 x=none->H1 dx=none->dx≠x ->
 sp (.ref x::(vs++dZ)) (upd (upd H1 dx (.own x)) x (.ins C dx [])) (fun v H2=>v=.aH/\Q (.ref x) H2) E
def Binds (K:W.Frag) (fd:FuncData) (ps:List Str) (ds:List Value):Prop :=
 ∀ (s:Shared) (us:List Value),K.In s.heap->(us++ds).length=ps.length->BindsTo s fd ⟨us,[]⟩ (ps.zip (us++ds))
theorem Binds.all {K:W.Frag}{fd:FuncData}{ps:List Str} (h:∀ us:List Value,us.length=ps.length->bindArgs fd ⟨us,[]⟩=pure (ps.zip us)):Binds K fd ps []:=fun s us _ hl=>by
 rw[List.append_nil] at hl ⊢
 exact .of_eq (h us hl)
def Passes (CX:gW) (X:Cx) (E:XK):Prop:=∀ (pins:List (Addr×Obj)) (σ:St) (H:Hp) (s:Shared) (e:Value) (s':Shared),Inv X pins σ H s->CX X.stack H s E e s'->X.xe e s'
section
variable {X:Cx}{CX:gW}{cm:Bool}{k:Nat}{f C:Addr}{fd:FuncData}{ps:List Str}{sp:Sp}{dZ:List V}{ds:List Value}{E:XK}{x m:Str}{p pos apos:Pos}{e o:Expr}{es:List Expr}{ta:TE}{t:TA}
theorem Ea {pins:List (Addr×Obj)}{σ:St}{H:Hp}{s:Shared}{Q:VK}{us:List Value}{vs:List V} (gX:cm=true->X.calm=true) (F:aN X.prog X.w X.K X.mg X.base CX cm k f fd ps sp) (hr:cK k X.A) (hb:Binds X.K fd ps ds) (hd:Vals dZ ds) (hx:Passes CX X E)
  (I:Inv X pins σ H s) (r:Vals vs us) (h:sp (vs++dZ) H Q E):wpAny (model X.prog X.w) X.A (call (.ref f) us) (EP X pins σ Q) X.xe s:=by
 have r2:Vals (vs++dZ) (us++ds):=r.append hd
 have hl:(us++ds).length=ps.length:=by rw[<- r2.length];exact F.len _ _ _ _ h
 refine wpAny_call (codeAny_mono (F.run X.A X.stack s H ⟨us,[]⟩ (us++ds) (vs++dZ) Q E hr (fun z=>I.ok.hd (gX z)) I.Et (hb s us I.cZ hl) r2 h) fun r s' hq=>?_)
 cases r with
 | error e=>exact hx pins σ H s e s' I hq
 | ok fl =>
  cases fl with
  | ret u=>exact I.after hq
  | next=>exact False.elim hq
  | brk=>exact False.elim hq
  | cont=>exact False.elim hq
theorem bQ (F:aN X.prog X.w X.K X.mg X.base CX cm k f fd ps sp) (hr:cK k X.A) (hg:Gl X x) (hm:X.mg x=some (.ref f)) (hk:W.keepIn X.K (.ref f)=true) (hb:Binds X.K fd ps ds) (hd:Vals dZ ds) (hx:Passes CX X E)
  (ha:PA X (e::es) t) (qG:(x==("__debug__":Str))=false:=by decide) (he:starEach (e::es) X.env=(false,eval e X.env)::starEach es X.env:=by rfl) (eK:(backTo pos (starEach es X.env)).any (·.1)=false:=by rfl) (gX:cm=true->X.calm=true:=by first | exact fun _=>rfl | exact fun z=>nomatch z) :
  PE X (.Call (.Name x p) (e::es) [] pos) (aqq sp dZ E t):=by
 intro pins s σ H Q I h
 refine wpAny_Call_Name_kw (mn I hg hm ?_ qG)
 refine W.callWith_K (h₀:=X.base) I.ok.mod.sD hk (aD (ha pos pins s σ H _ I h) fun us s1 ⟨vs,H1,I1,r,q⟩=>⟨I1.cZ,?_⟩) he eK
 exact Ea gX F hr hb hd hx I1 r q
theorem bf {pl:Sem Bool} (he:PE X o ta) (c:fg X.K C) (hm:Meth X.K C m f) (F:aN X.prog X.w X.K X.mg X.base CX cm k f fd ps sp) (hr:cK k X.A) (hb:Binds X.K fd ps ds) (hd:Vals dZ ds) (hx:Passes CX X E) (ha:PA X (e::es) t)
  (cG:starEach (e::es) X.env=(false,eval e X.env)::starEach es X.env:=by rfl) (eK:(backTo pos (starEach es X.env)).any (·.1)=false:=by rfl)
  (ht:eval (.Call (.Attribute o m apos) (e::es) [] pos) X.env=(do
   let ov <- eval o X.env
   standAt apos.atName
   let (f,first) <- holding [ov] (getMethod ov m pl)
   callWith pos f first (backTo pos (starEach (e::es) X.env)) (backToKw pos (keywordEach [] X.env))):=by rfl) (gX:cm=true->X.calm=true:=by first | exact fun _=>rfl | exact fun z=>nomatch z) :
  PE X (.Call (.Attribute o m apos) (e::es) [] pos) (WJ C m sp dZ E ta t):=by
 intro pins s σ H Q I h
 refine W.methodCall_KW (pl:=pl) (aD (he pins s σ H _ I h) fun u s1 ⟨x,H1,I1,rx,a,dx,fs,ex,ea,l,q⟩=>?_) ht
 subst ex
 obtain rfl:u=Value.ref a:=rx
 refine Tg I1 ea c hm l ?_
 refine W.callWith_K (first:=[.ref a]) (h₀:=X.base) I.ok.mod.sD hm.kp (aD (ha pos pins s1 σ H1 _ I1 q) fun us s2 ⟨vs,H2,I2,r,q2⟩=>⟨I2.cZ,?_⟩) cG eK
 exact Ea gX (us:=.ref a::us) (vs:=.ref a::vs) F hr hb hd hx I2 (.cons rfl r) q2
theorem gL {pl:Sem Bool} (he:PE X o ta) (c:fg X.K C) (hm:Meth X.K C m f) (F:aN X.prog X.w X.K X.mg X.base CX cm k f fd ps sp) (hr:cK k X.A) (hb:Binds X.K fd ps ds) (hd:Vals dZ ds) (hx:Passes CX X E)
  (ht:eval (.Call (.Attribute o m apos) [] [] pos) X.env=(do
   let ov <- eval o X.env
   standAt apos.atName
   let (f,first) <- holding [ov] (getMethod ov m pl)
   callWith pos f first (backTo pos (starEach [] X.env)) (backToKw pos (keywordEach [] X.env))):=by rfl) (gX:cm=true->X.calm=true:=by first | exact fun _=>rfl | exact fun z=>nomatch z) :
  PE X (.Call (.Attribute o m apos) [] [] pos) (WJ C m sp dZ E ta sg):=by
 intro pins s σ H Q I h
 refine W.methodCall_KW (pl:=pl) (aD (he pins s σ H _ I h) fun u s1 ⟨x,H1,I1,rx,a,dx,fs,ex,ea,l,q⟩=>?_) ht
 subst ex
 obtain rfl:u=Value.ref a:=rx
 refine Tg I1 ea c hm l ?_
 exact W.callWith_K0 (first:=[.ref a]) I1.cZ hm.kp (Ea gX (us:=[.ref a]) (vs:=[.ref a]) F hr hb hd hx I1 (.cons rfl .nil) q)
structure Mk (K:W.Frag) (C f:Addr):Prop where
 makes:W.makesIn K C=true
 init:W.findIn K (.ref C) "__init__"=some (some (.ref f))
 fn:W.isFn K (.ref f)=true
 kp:W.keepIn K (.ref C)=true
theorem U0 {pins:List (Addr×Obj)}{σ:St}{H:Hp}{s:Shared}{Q:VK}{us:List Value}{vs:List V} (gX:cm=true->X.calm=true) (M:Mk X.K C f) (F:aN X.prog X.w X.K X.mg X.base CX cm k f fd ps sp) (hr:cK (k+1) X.A) (hb:Binds X.K fd ps ds) (hd:Vals dZ ds)
  (hx:Passes CX X E) (I:Inv X pins σ H s) (r:Vals vs us)
  (h:∀ x dx,H x=none->H dx=none->dx≠x->sp (.ref x::(vs++dZ)) (upd (upd H dx (.own x)) x (.ins C dx [])) (fun v H2=>v=.aH/\Q (.ref x) H2) E) :
  wpAny (model X.prog X.w) X.A (call (.ref C) us) (EP X pins σ Q) X.xe s:=by
 have hq:=h (s.heap.objs.size+1) s.heap.objs.size (I.az.fresh (Nat.le_succ _)) (I.az.fresh (Nat.le_refl _)) (Nat.ne_of_lt (Nat.lt_succ_self _))
 have I2:=Inv.made (C:=C) I
 have r2:Vals (V.ref (s.heap.objs.size+1)::(vs++dZ)) (Value.ref (s.heap.objs.size+1)::(us++ds)):=.cons rfl (r.append hd)
 have hl:(Value.ref (s.heap.objs.size+1)::us++ds).length=ps.length:=by
  have e:=r2.length
  rw[F.len _ _ _ _ hq] at e
  exact e.symm
 refine wpAny_call (amb (f:=f) I.cZ M.makes M.init (beq_iff_eq.mp M.fn) (codeAny_mono (F.run _ X.stack _ _ ⟨Value.ref (s.heap.objs.size+1)::us,[]⟩ (Value.ref (s.heap.objs.size+1)::(us++ds)) _ _ E (hr.make C us []) (fun z=>I.ok.hd (gX z))
  (I2.Et.make C us []) (hb _ (Value.ref (s.heap.objs.size+1)::us) I2.cZ hl) r2 hq) fun r s' u7=>?_))
 cases r with
 | error e=>exact hx pins σ _ _ e s' I2 u7
 | ok fl =>
  cases fl with
  | ret u =>
   obtain⟨v,H',I3,rv,ev,q3⟩:=I2.after u7
   subst ev
   exact⟨rv,⟨V.ref (s.heap.objs.size+1),H',I3,rfl,q3⟩⟩
  | next=>exact False.elim u7
  | brk=>exact False.elim u7
  | cont=>exact False.elim u7
theorem oM (M:Mk X.K C f) (F:aN X.prog X.w X.K X.mg X.base CX cm k f fd ps sp) (hr:cK (k+1) X.A) (hg:Gl X x) (hm:X.mg x=some (.ref C)) (hb:Binds X.K fd ps ds) (hd:Vals dZ ds) (hx:Passes CX X E)
  (ha:PA X (e::es) t) (qG:(x==("__debug__":Str))=false:=by decide) (he:starEach (e::es) X.env=(false,eval e X.env)::starEach es X.env:=by rfl) (eK:(backTo pos (starEach es X.env)).any (·.1)=false:=by rfl) (gX:cm=true->X.calm=true:=by first | exact fun _=>rfl | exact fun z=>nomatch z) :
  PE X (.Call (.Name x p) (e::es) [] pos) (WK C sp dZ E t):=by
 intro pins s σ H Q I h
 refine wpAny_Call_Name_kw (mn I hg hm ?_ qG)
 refine W.callWith_K (h₀:=X.base) I.ok.mod.sD M.kp (aD (ha pos pins s σ H _ I h) fun us s1 ⟨vs,H1,I1,r,q⟩=>⟨I1.cZ,?_⟩) he eK
 exact U0 gX M F hr hb hd hx I1 r q
theorem U1 (M:Mk X.K C f) (F:aN X.prog X.w X.K X.mg X.base CX cm k f fd ps sp) (hr:cK (k+1) X.A) (hg:Gl X x) (hm:X.mg x=some (.ref C)) (hb:Binds X.K fd ps ds) (hd:Vals dZ ds) (hx:Passes CX X E)
  (qG:(x==("__debug__":Str))=false:=by decide) (gX:cm=true->X.calm=true:=by first | exact fun _=>rfl | exact fun z=>nomatch z):PE X (.Call (.Name x p) [] [] pos) (WK C sp dZ E sg):=by
 intro pins s σ H Q I h
 refine wpAny_Call_Name_kw (mn I hg hm ?_ qG)
 exact W.callWith_K0 I.cZ M.kp (U0 gX (us:=[]) M F hr hb hd hx I .nil h)
end
def PK (X:Cx) (u9:List Keyword) (t:TA):Prop :=
 ∀ (pos:Pos) (pins:List (Addr×Obj)) (s:Shared) (σ:St) (H:Hp) (Q:List V->Hp->Prop),Inv X pins σ H s->t σ H Q->wpAny (model X.prog X.w) X.A (evalAll ((backToKw pos (keywordEach u9 X.env)).map (·.2))) (AP X pins σ Q) X.xe s
section
variable {X:Cx}{CX:gW}{cm:Bool}{k:Nat}{f C:Addr}{fd:FuncData}{ps ks:List Str}{sp:Sp}{E:XK}{x m:Str}{p pos apos Eu:Pos}{e o:Expr}{es:List Expr}{u9:List Keyword}{te ta:TE}{t tk:TA}{nm:Option Str}
theorem apj:PK X [] sg:=fun _ _ _ _ H Q I h=>wpAny_evalAll_nil ⟨[],H,I,.nil,h⟩
theorem anF (ha:PE X e te) (hr:PK X u9 t):PK X (⟨nm,e,Eu⟩::u9) (zt te t):=by
 intro pos pins s σ H Q I h
 show wpAny _ _ (evalAll ((do let v <- eval e X.env;standAt pos;pure v)::(backToKw pos (keywordEach u9 X.env)).map (·.2))) _ _ s
 refine wpAny_evalAll_cons (wpAny_bind (aD (ha pins s σ H _ I h) fun u s1 ⟨x,H1,I1,r1,q1⟩=>wpAny_bind (wpAny_standAt (wpAny_pure ?_))))
 exact aD (hr pos pins s1 σ H1 _ I1 q1) fun us s2 ⟨xs,H2,I2,r2,q2⟩=>⟨x::xs,H2,I2,.cons r1 r2,q2⟩
variable {g:List Value->List Value->List Value}{gV:List V->List V->List V}
end
structure aS (N P:List Str) (sc:Scope):Prop where
 kind:sc.kind=.function
 co:sc.isCoroutine=false
 gen:sc.isGenerator=false
 nd:N.Nodup
 pre:N.take P.length=P
 par:∀ x∈P,sc.names.lookup x=some .local\/sc.names.lookup x=some .cell
 apk:∀ y∈sc.names,y.2≠.free
theorem Ul {kindOf:Str->Option NameKind}{x:Str}:∀ {binds:List (Str×Value)}{m:Str->Option Value},(∀ v,(x,v)∉binds)->bindL kindOf binds m x=m x
 | [],_,_=>rfl
 | (n,v)::r,m,h=>by
  unfold bindL
  rw[Ul fun w hw=>h w (List.mem_cons_of_mem _ hw)]
  split
  ·have:x≠n:=by rintro rfl;exact h v List.mem_cons_self
   simp[this]
  rfl
theorem Um {kindOf:Str->Option NameKind}{x:Str}:∀ {binds:List (Str×Value)}{m:Str->Option Value},(∀ v,(x,v)∉binds)->bindC kindOf binds m x=m x
 | [],_,_=>rfl
 | (n,v)::r,m,h=>by
  unfold bindC
  rw[Um fun w hw=>h w (List.mem_cons_of_mem _ hw)]
  split
  ·rfl
  have:x≠n:=by rintro rfl;exact h v List.mem_cons_self
  simp[this]
theorem Uo {kindOf:Str->Option NameKind}{x:Str}{v:Value}:∀ {P:List Str}{vs:List Value}{i:Nat}{m:Str->Option Value},P.Nodup->P[i]?=some x->vs[i]?=some v->kindOf x=some .local ->
  bindL kindOf (P.zip vs) m x=some v
 | [],_,_,_,_,h,_,_=>by simp at h
 | _::_,[],_,_,_,_,h,_=>by simp at h
 | p::P,w::vs,0,m,nd,h1,h2,hk=>by
  simp at h1 h2;subst h1;subst h2
  show bindL kindOf ((p,w)::P.zip vs) m p=_
  unfold bindL
  rw[Ul fun v hv=>(List.nodup_cons.mp nd).1 (List.of_mem_zip hv).1,if_pos hk]
  simp
 | p::P,w::vs,i+1,m,nd,h1,h2,hk=>by
  show bindL kindOf ((p,w)::P.zip vs) m x=_
  unfold bindL
  exact Uo (i:=i) (List.nodup_cons.mp nd).2 (by simpa using h1) (by simpa using h2) hk
theorem Up {kindOf:Str->Option NameKind}{x:Str}{v:Value}:∀ {P:List Str}{vs:List Value}{i:Nat}{m:Str->Option Value},P.Nodup->P[i]?=some x->vs[i]?=some v->kindOf x≠some .local ->
  bindC kindOf (P.zip vs) m x=some v
 | [],_,_,_,_,h,_,_=>by simp at h
 | _::_,[],_,_,_,_,h,_=>by simp at h
 | p::P,w::vs,0,m,nd,h1,h2,hk=>by
  simp at h1 h2;subst h1;subst h2
  show bindC kindOf ((p,w)::P.zip vs) m p=_
  unfold bindC
  rw[Um fun v hv=>(List.nodup_cons.mp nd).1 (List.of_mem_zip hv).1,if_neg hk]
  simp
 | p::P,w::vs,i+1,m,nd,h1,h2,hk=>by
  show bindC kindOf ((p,w)::P.zip vs) m x=_
  unfold bindC
  exact Up (i:=i) (List.nodup_cons.mp nd).2 (by simpa using h1) (by simpa using h2) hk
def start (N:List Str) (vs:List V):St:=vs.map some++List.replicate (N.length-vs.length) none
def gS (cm:Bool) (CX:gW) (P:Program) (w:World) (K:W.Frag) (mg:Str->Option Value) (base:Heap) (N:List Str) (qual:Str) (scope:Scope) (f:Addr) (cd:Value) (A:Around) (outer:List Env) (s:Shared) (H:Hp) (E:XK):Cx where
 prog:=P
 w:=w
 K:=K
 mg:=mg
 base:=base
 A:=A.deeper (envOfC qual scope s.heap.objs.size f cd)
 N:=N
 di:=s
 om:=H
 env:=envOfC qual scope s.heap.objs.size f cd
 outer:=outer
 stack:=envOfC qual scope s.heap.objs.size f cd::outer
 ex:=[]
 calm:=cm
 fn:=fun _=>true
 pn:=[]
 xe:=fun e s'=>wpAny (model P w) (A.deeper (envOfC qual scope s.heap.objs.size f cd)) (leaving (envOfC qual scope s.heap.objs.size f cd) e) (fun _ eL=>CX outer H s E e eL) (fun e' eL=>CX outer H s E e' eL) s'
theorem U2 {sc:Scope}{n:Nat}{x:Str} (h:sc.names.lookup x=some .cell):∃ c,(cellsFrom n sc.names []).lookup x=some c:=by
 have q:=W.cellsFrom_some sc.names n [] (.inl h)
 exact Option.isSome_iff_exists.mp q
theorem akI {cm:Bool}{CX:gW}{P:Program}{w:World}{K:W.Frag}{mg:Str->Option Value}{base:Heap}{N ps:List Str}{qual:Str}{scope:Scope}{f:Addr}{cd:Value}{A:Around}{outer:List Env}{s s1:Shared}{H:Hp}{E:XK}{us:List Value}{vs:List V}
  (S:aS N ps scope) (hd:cm=true->A.handled=none) (e0:qu P w K mg base A outer s H) (hl:vs.length=ps.length) (r:Vals vs us)
  (x:InCallC s s.heap.objs.size (bindL (envOfC qual scope s.heap.objs.size f cd).kindOf (ps.zip us) fun _=>none) (cellsFrom (s.heap.objs.size+1) scope.names []) (bindC (envOfC qual scope s.heap.objs.size f cd).kindOf (ps.zip us) fun _=>none) s1) :
  Inv (gS cm CX P w K mg base N qual scope f cd A outer s H E) [] (start N vs) H s1:=by
 have eK:ps.length<=N.length:=by have:=congrArg List.length S.pre;rw[List.length_take] at this;omega
 obtain⟨h1,tk,rfl,hk⟩:=x.done
 have sJ:∀ b:Addr,b∉(gS cm CX P w K mg base N qual scope f cd A outer s H E).ex:=fun b z=>absurd (show b∈([]:List Addr) from z) (by simp)
 refine⟨⟨e0.mod,S.kind,rfl,rfl,Nat.le_refl _,fun y z c h1 h2=>?_,fun y hy=>?_,fun y c _ h=>?_,hd,Around.frames_deeper e0.frames,.inr ⟨rfl,rfl⟩,fun b z=>absurd z (sJ b),e0.bs,e0.jC,fun b _ _=>sJ b,fun b z=>absurd z (sJ b),e0.gf,e0.oo⟩,
  rfl,e0.bare,Un.kept hk,⟨_,x.toInCall.ns,fun i y v h1 h2 h3=>?_⟩,fun y c h=>⟨_,x.cell y c h⟩,e0.az.fresh (Nat.le_refl _),fun y c h=>?_,fun p hp=>absurd (show p∈([]:List (Addr×Obj)) from hp) (by simp),e0.az.kept hk,?_⟩
 ·exact name_of_addr x.apart (PySem.mem_of_lookup h1) (PySem.mem_of_lookup h2)
 ·have hy:scope.names.lookup y=some .cell\/scope.names.lookup y=some .free:=hy
  rcases hy with hy | hy
  ·exact U2 hy
  exact absurd rfl (S.apk _ (PySem.mem_of_lookup hy))
 ·exact Nat.le_of_lt (x.above y c (PySem.mem_of_lookup h))
 ·have hi:i<vs.length:=by
   unfold start at h2
   by_cases hi:i<vs.length
   ·exact hi
   rw[List.getElem?_append_right (by simpa using hi)] at h2
   rw[List.getElem?_replicate] at h2
   split at h2 <;> cases h2
  have ha:vs[i]?=some v:=by
   unfold start at h2
   rw[List.getElem?_append_left (by simpa using hi),List.getElem?_map] at h2
   cases e:vs[i]? with
   | none=>rw[e] at h2;cases h2
   | some a=>rw[e] at h2;cases h2;rfl
  obtain⟨u,hu,rv⟩:=r.get ha
  have hp:ps[i]?=some y:=by
   rw[<- S.pre,List.getElem?_take_of_lt (by omega)];exact h1
  have XM:ps.Nodup:=by rw[<- S.pre];exact S.nd.sublist (List.take_sublist _ _)
  refine⟨u,rv,?_⟩
  rcases S.par y (List.mem_of_getElem? hp) with k | k
  ·exact .inl ⟨k,Uo XM hp hu k⟩
  obtain⟨c,e⟩:=U2 (n:=s.heap.objs.size+1) k
  refine .inr ⟨.inl k,c,e,?_⟩
  have q:=x.cell y c e
  rw[Up XM hp hu (by show scope.names.lookup y≠_;rw[k];decide)] at q
  exact q
 ·exact e0.az.fresh (Nat.le_of_lt (x.above y c (PySem.mem_of_lookup h)))
 unfold start
 show _=N.length
 rw[List.length_append,List.length_map,List.length_replicate]
 omega
theorem WL {cm:Bool}{CX:gW}{P:Program}{w:World}{K:W.Frag}{mg:Str->Option Value}{base:Heap}{k:Nat}{f:Addr}{name qual:Str}{params:Arguments}{body:List Stmt}{scope:Scope}{dV kV doc pm aF ct oc:Value}{an od:Option Addr}
  {oq:Array (Option Value)}{N ps:List Str}{sp:Sp} (lk:K.lookup f=some ⟨oc,od,.func (W.fnOf name qual params body scope dV kV doc pm an aF ct),oq⟩) (dY:W.codeIn K aF qual=true) (S:aS N ps scope)
  (len:∀ vs H Q E,sp vs H Q E->vs.length=ps.length)
  (uE:∀ (A:Around) (outer:List Env) (s:Shared) (H:Hp) (vs:List V) (Q:VK) (E:XK),cK k (A.deeper (envOfC qual scope s.heap.objs.size f aF))->sp vs H Q E ->
   ∃ t,fz (gS cm CX P w K mg base N qual scope f aF A outer s H E) body t/\t {nx:=fun _ H'=>Q .aH H',rt:=Q} (start N vs) H) :
  aN P w K mg base CX cm (k+1) f (W.fnOf name qual params body scope dV kV doc pm an aF ct) ps sp:=by
 refine⟨len,fun A outer s H args us vs Q E hr E6 e0 hb r eB=>?_⟩
 have hl:=len _ _ _ _ eB
 have KX:K.In s.heap:=e0.mod.sD.keeps fun b o e=>(e0.bs b o e).1
 have lim:s.heap.NoLimit:=e0.mod.nolimit.keeps fun b o e=>(e0.bs b o e).1
 have aqr:∀ y∈ps.zip us,scope.names.lookup y.1=some .local\/(scope.names.lookup y.1=some .cell/\((cellsFrom (s.heap.objs.size+1) scope.names []).lookup y.1).isSome=true):=fun ⟨n,v⟩ hy=>by
  rcases S.par n (List.of_mem_zip hy).1 with q | q
  ·exact .inl q
  exact .inr ⟨q,W.cellsFrom_some _ _ _ (.inl q)⟩
 refine codeAny_call_function hr.depth (KX _ _ lk) rfl S.co S.gen rfl (W.codeRec_of KX dY) (hb _ _ _ _ ?_)
 refine wpAny_newFunctionEnv_cells S.kind aqr fun env he s1 x=>?_
 subst he
 refine⟨lim.keeps x.toInCall.keep,codeAny_func ?_⟩
 obtain⟨t,ht,hq⟩:=uE A outer s H vs Q E (hr.deeper _) eB
 have I:Inv (gS cm CX P w K mg base N qual scope f aF A outer s H E) [] (start N vs) H s1:=akI S E6 e0 hl r x
 refine wpAny_mono (ht [] s1 (start N vs) H _ I hq) (fun fl s' hs=>?_) fun e s' hs=>hs
 have fin:∀ {σ':St}{H':Hp}{v:V}{u:Value},Inv (gS cm CX P w K mg base N qual scope f aF A outer s H E) [] σ' H' s'->RelV v u->Q v H'->CE outer P w H s Q u s' :=
  fun {σ' H' v u} J rv q=>⟨v,H',J.os,J.bare,J.base,J.az,rv,q⟩
 cases fl with
 | ret u =>
  obtain⟨v,σ',H',J,rv,q⟩:=hs
  exact fin J rv q
 | next =>
  obtain⟨σ',H',J,q⟩:=hs
  exact fin (v:=V.aH) (u:=Value.none) J rfl q
 | brk =>
  obtain⟨_,_,_,q⟩:=hs
  exact False.elim q
 | cont =>
  obtain⟨_,_,_,q⟩:=hs
  exact False.elim q
end L2
namespace L2
open PySem PySem.Spec PyProof.Rows
section
variable {X:Cx}{x:Str}{p pos:Pos}{e:Expr}{es:List Expr}{t:TA}{id T:String}{r:List V->Hp->VK->Prop}
def tCB (r:List V->Hp->VK->Prop) (t:TA):TE:=fun σ H Q=>t σ H fun vs H1=>r vs H1 Q
theorem da (hc:nZ X (.builtin id) r) (hg:Gl X x) (hm:X.mg x=none) (hv:bootBuiltins x=some (.builtin id)) (ha:PA X (e::es) t) (hn:x≠"__name__":=by decide) (qG:(x==("__debug__":Str))=false:=by decide)
  (he:starEach (e::es) X.env=(false,eval e X.env)::starEach es X.env:=by rfl) (eK:(backTo pos (starEach es X.env)).any (·.1)=false:=by rfl):PE X (.Call (.Name x p) (e::es) [] pos) (tCB r t):=by
 intro pins s σ H Q I h
 refine wpAny_Call_Name_kw (oQ I hg hm hv ?_ hn qG)
 exact PyProof.Rows.callWith_builtin1 (aD (ha pos pins s σ H _ I h) fun us s1 ⟨vs,H1,I1,r1,q1⟩=>hc pins s1 σ H1 vs us Q I1 r1 q1) he eK
end
end L2
namespace HT
open PySem PyProof.Rows
def lexLt:List Int->List Int->Bool
 | [],[]=>false
 | [],_::_=>true
 | _::_,[]=>false
 | x::xs,y::ys=>if x=y then lexLt xs ys else decide (x<y)
theorem t5 (x y:Int) (xs ys:List Int):lexLt (x::xs) (y::ys)=if x=y then lexLt xs ys else decide (x<y):=rfl
theorem Pu:lexLt [] []=false:=rfl
theorem ada (y:Int) (ys:List Int):lexLt [] (y::ys)=true:=rfl
theorem adb (x:Int) (xs:List Int):lexLt (x::xs) []=false:=rfl
theorem amc (A:Around) (s:Shared) (a:Int) (t:Tok) (c:Int) (u:Tok):∃ e,SeqAt.EqAt A s (.int a t) (.int c u) e/\(e=true↔a=c) :=
 ⟨(a==c),SeqAt.EqAt.int_int a t c u,by simp⟩
theorem amd (A:Around) (s:Shared) (a:Int) (t:Tok) (c:Int) (u:Tok) (prog:Program) (w:World) (E:Value->Shared->Prop) (Q:Value->Shared->Prop) (h:Q (.bool (decide (a<c))) s) :
  wpAny (model prog w) A (richCompare .Lt (.int a t) (.int c u)) Q E s :=
 (PyProof.Rows.lt_int h:wpAny (model prog w) A (compareOp .Lt (.int a t) (.int c u)) Q E s)
section
open PySem.SeqAt
open PySem.AutoSeq1 (wpAny_loadPart')
open PySem.MeetsSeq PySem.MeetsSeq2 PySem.MeetsSeq3
theorem aeK (l b:Addr) (items mx:Array Value) (n n2:Nat) (dd E7:Option Addr) (sl sL:Array (Option Value)) (ns ms:List Int) (hi:IntsAre items.toList ns) (hj:IntsAre mx.toList ms) :
  Meets (Builtin.«tuple.__lt__» ⟨[.ref l,.ref b],[]⟩)
   (fun _ R s=>s.heap.get? l=some {cls:=.type "tuple",dict:=dd,data:=.seq items n,slots:=sl}/\s.heap.get? b=some {cls:=.type "tuple",dict:=E7,data:=.seq mx n2,slots:=sL} /\
    R (.ok (.ret (.bool (lexLt ns ms)))) s) :=
 .of_wp fun prog w A R s h=>by
  obtain⟨hp,g,d,tk,os⟩:=s;obtain⟨hl,hb,h⟩:=h
  have f2:=AutoSeq1.sub_tuple_tuple
  have z1:items.size=ns.length:=by rw[<- hi.length];simp
  have z2:mx.size=ms.length:=by rw[<- hj.length];simp
  wp_walk using wpAny_loadPart' hl,wpAny_loadPart' hb,wpAny_forIn_list _ (fun rest b s'=>b.1=none/\s'=⟨hp,g,d,tk,os⟩/\∃ (vs ws:List Value) (sM sN:List Int),rest=vs.zip ws /\
   IntsAre vs sM/\IntsAre ws sN/\sM.length+mx.size=sN.length+items.size/\R (.ok (.ret (.bool (lexLt sM sN)))) ⟨hp,g,d,tk,os⟩) _
  case turn =>
   rintro ⟨y,x⟩ rest b s' ⟨gi,rfl,vs,ws,sM,sN,hz,E8,px,hlen,hR⟩
   cases E8 with
   | nil=>rw[List.zip_nil_left] at hz;cases hz
   | cons a t aru =>
    cases px with
    | nil=>rw[List.zip_nil_right] at hz;cases hz
    | cons c u arv =>
     rw[List.zip_cons_cons] at hz
     injection hz with hyx aqs
     injection hyx with hy hx
     subst hy hx
     rw[t5] at hR
     simp only [List.length_cons] at hlen
     obtain⟨e,he,W8⟩:=amc A.in1 ⟨hp,g,d,tk,os⟩ a t c u
     refine wpAny_bind (he prog w _ _ ?_)
     cases e with
     | true =>
      rw[if_pos (W8.mp rfl)] at hR
      wp_walk
      exact⟨rfl,rfl,_,_,_,_,aqs,aru,arv,by omega,hR⟩
     | false =>
      rw[if_neg (fun q=>absurd (W8.mpr q) Bool.false_ne_true)] at hR
      have hri:=amd A.in1 ⟨hp,g,d,tk,os⟩ a t c u prog w
      wp_walk using hri
      exact⟨_,rfl,by simpa using hR⟩
  case fin =>
   rintro ⟨b1,b2⟩ s' ⟨gi,rfl,vs,ws,sM,sN,hz,E8,px,hlen,hR⟩
   simp only at gi
   subst gi
   have hv:lexLt sM sN=decide (items.size<mx.size):=by
    cases E8 with
    | nil =>
     cases px with
     | nil =>
      simp only [List.length_nil] at hlen
      rw[Pu]
      exact(decide_eq_false (by omega)).symm
     | cons c u hw =>
      simp only [List.length_nil,List.length_cons] at hlen
      rw[ada]
      exact(decide_eq_true (by omega)).symm
    | cons a t hv =>
     cases px with
     | nil =>
      simp only [List.length_nil,List.length_cons] at hlen
      rw[adb]
      exact(decide_eq_false (by omega)).symm
     | cons c u hw =>
      rw[List.zip_cons_cons] at hz
      cases hz
   rw[hv] at hR
   wp_walk
   exact⟨_,rfl,by simpa [Builtin.Tuple.tupleCompareSizes] using hR⟩
  case h =>
   exact⟨rfl,rfl,items.toList,mx.toList,ns,ms,rfl,hi,hj,by omega,h⟩
end
section
variable {prog:Program}{w:World}{A:Around}{E:Value->Shared->Prop}{s:Shared}
theorem aiV {l b:Addr}{items mx:Array Value}{ns ms:List Int}{Q:Value->Shared->Prop} (hl:IsTup s.heap l items) (hb:IsTup s.heap b mx) (hi:IntsAre items.toList ns) (hj:IntsAre mx.toList ms)
  (hu:A.units<cLine) (h:Q (.bool (lexLt ns ms)) s):wpAny (model prog w) A (compareOp .Lt (.ref l) (.ref b)) Q E s:=by
 obtain⟨⟨cls,dd,data,sl⟩,ho,hc,n,hd⟩:=id hl
 obtain⟨⟨auY,E7,data2,sL⟩,eC,XN,n2,hd2⟩:=id hb
 simp only at hc hd XN hd2
 subst hc hd XN hd2
 exact richCompare_meets_room (op:=.Lt) ⟨_,ho,rfl⟩ ⟨_,eC,rfl⟩ PySem.F.slot_tuple_lt PySem.F.entry_tuple_lt (PySem.F.args_tuple_lt_2 _ _) (aeK l b items mx n n2 dd E7 sl sL ns ms hi hj)
  ⟨ho,eC,show Value.bool (lexLt ns ms)≠Value.notImplemented/\Q (.bool (lexLt ns ms)) s from⟨(fun x=>nomatch x),h⟩⟩ hu
def fU (n d:Nat):Option Int->Nat
 | none=>d
 | some v=>if v<0 then (v+(n:Int)).toNat else min v.toNat n
theorem VI (n d k:Nat):fU n d (some (k:Int))=min k n:=by
 show(if (k:Int)<0 then ((k:Int)+(n:Int)).toNat else min (k:Int).toNat n)=min k n
 rw[if_neg (by omega),Int.toNat_natCast]
end
end HT
namespace L2
open PySem PySem.Spec PyProof.Rows
abbrev TO:=St->Hp->(Option Int->Hp->Prop)->Prop
def PO (X:Cx) (e:Option Expr) (t:TO):Prop :=
 ∀ (pins:List (Addr×Obj)) (s:Shared) (σ:St) (H:Hp) (Q:Option Int->Hp->Prop),Inv X pins σ H s->t σ H Q ->
  wpAny (model X.prog X.w) X.A (evalPart e X.env) (fun u s'=>∃ o H',Inv X pins σ H' s'/\IsPart u o/\Q o H') X.xe s
def aqt (t:TE):TO:=fun σ H Q=>t σ H fun x H1=>∃ i,x=.int i/\Q (some i) H1
theorem intsAre_of {ns:List Int}:∀ {us:List Value},Vals (ns.map V.int) us->IntsAre us ns:=by
 induction ns with
 | nil=>intro us r;rw[List.map_nil] at r;cases r;exact .nil
 | cons n ns ih =>
  intro us r
  rw[List.map_cons] at r
  cases r with
  | cons r1 r2 =>
   obtain⟨t,e⟩:=r1
   subst e
   exact .cons n t (ih r2)
section
variable {X:Cx}{e:Expr}{te:TE}{lo hi:Option Expr}{tl th:TO}{pos p2:Pos}
theorem VJ (h:PE X e te):PO X (some e) (aqt te):=by
 intro pins s σ H Q I hw
 rw[evalPart_some]
 refine aD (h pins s σ H _ I hw) fun u s1 ⟨x,H1,I1,r1,q1⟩=>?_
 obtain⟨i,rfl,q⟩:=q1
 obtain⟨t,rfl⟩:=r1
 exact⟨some i,H1,I1,.int i t,q⟩
def XQ (X:Cx) (r:V->Option Int->Option Int->Hp->VK->Prop):Prop :=
 ∀ (pins:List (Addr×Obj)) (s:Shared) (σ:St) (H:Hp) (x:V) (v vl vu:Value) (lo hi:Option Int) (sl:Addr) (Q:VK),Inv X pins σ H s->RelV x v->s.heap.IsSliceOf sl vl vu .none->IsPart vl lo->IsPart vu hi->r x lo hi H Q ->
  ∃ T id,typeLookup (.type T) "__getitem__"=pure (some (.builtin id))/\s.TypeIs v T/\wpAny (model X.prog X.w) X.A (getItem v (.ref sl)) (EP X pins σ Q) X.xe s
def tSl (r:V->Option Int->Option Int->Hp->VK->Prop) (te:TE) (tl th:TO):TE:=fun σ H Q=>te σ H fun x H1=>tl σ H1 fun l H2=>th σ H2 fun u H3=>r x l u H3 Q
theorem ame {r:V->Option Int->Option Int->Hp->VK->Prop} (hr:XQ X r) (he:PE X e te) (hl:PO X lo tl) (hu:PO X hi th):PE X (.Subscript e (.Slice lo hi none p2) pos) (tSl r te tl th):=by
 intro pins s σ H Q I h
 refine Subscript_ (aD (he pins s σ H _ I h) fun v s1 ⟨x,H1,I1,r1,q1⟩=>?_)
 refine wpAny_Slice (aD (hl pins s1 σ H1 _ I1 q1) fun vl s2 ⟨l,H2,I2,pl,q2⟩=>aD (hu pins s2 σ H2 _ I2 q2) fun vu s3 ⟨u,H3,I3,pu,q3⟩=>?_)
 rw[evalPart_none]
 refine wpAny_pure ?_
 have I4:Inv X pins σ H3 {s3 with heap:=s3.heap.push {cls:=.type "slice",data:=.fields #[vl,vu,.none]}}:=I3.kept (t':=s3.toks) fun b ob q=>Heap.get?_push_of_some _ q
 obtain⟨T,id,hT,ht,hg⟩:=hr pins {s3 with heap:=s3.heap.push {cls:=.type "slice",data:=.fields #[vl,vu,.none]}} σ H3 x v vl vu l u s3.heap.objs.size Q I4 r1 (Heap.IsSliceOf.new ..) pl pu q3
 show wpAny (model X.prog X.w) X.A (subscriptTail e (.Slice lo hi none p2) v (.ref s3.heap.objs.size)) (EP X pins σ Q) X.xe {s3 with heap:=s3.heap.push {cls:=.type "slice",data:=.fields #[vl,vu,.none]}}
 exact tail_any (ops:=[.ref s3.heap.objs.size,v]) ht hT hg (by with_unfolding_all rfl)
def sh (xs:List V) (lo hi:Option Int):List V:=(xs.drop (HT.fU xs.length 0 lo)).take (HT.fU xs.length xs.length hi-HT.fU xs.length 0 lo)
theorem ahr (xs:List V) (lo hi:Option Int):(sh xs lo hi).length<=xs.length:=by
 unfold sh
 rw[List.length_take,List.length_drop]
 omega
end
end L2
namespace L2
open PySem PySem.Spec PyProof.Rows
def mI (n:Nat) (i:Int):Option Nat:=if 0<=i then (if i<n then some i.toNat else none) else if -(n:Int)<=i then some (i+n).toNat else none
def iG {α:Type} (xs:List α) (i:Int):Option α:=(mI xs.length i).bind fun j=>xs[j]?
theorem VL {n:Nat}{i:Int}{j:Nat} (h:mI n i=some j):seqIndex? i n=some j/\j<n /\ -(n:Int)<=i/\i<n:=by
 unfold mI at h
 by_cases h0:0<=i
 ·rw[if_pos h0] at h
  by_cases h1:i<n
  ·rw[if_pos h1] at h
   have e:i.toNat=j:=Option.some.inj h
   exact⟨by rw[seqIndex_of h0 h1,e],by omega,by omega,h1⟩
  rw[if_neg h1] at h;cases h
 rw[if_neg h0] at h
 by_cases h1 : -(n:Int)<=i
 ·rw[if_pos h1] at h
  have e:(i+n).toNat=j:=Option.some.inj h
  exact⟨by rw[seqIndex_neg (by omega) h1,e],by omega,h1,by omega⟩
 rw[if_neg h1] at h;cases h
theorem DY {α:Type}{xs:List α}{i:Int}{v:α} (h:iG xs i=some v):∃ j,seqIndex? i xs.length=some j/\xs[j]?=some v/\j<xs.length /\ -(xs.length:Int)<=i/\i<xs.length:=by
 unfold iG at h
 cases e:mI xs.length i with
 | none=>rw[e] at h;cases h
 | some j =>
  rw[e] at h
  obtain⟨h1,h2,h3,h4⟩:=VL e
  exact⟨j,h1,h,h2,h3,h4⟩
theorem il {α:Type}{xs:List α}{j:Nat}{v:α} (h:xs[j]?=some v):iG xs (j:Int)=some v:=by
 have hj:j<xs.length:=(List.getElem?_eq_some_iff.mp h).1
 have e:mI xs.length (j:Int)=some j:=by
  unfold mI
  rw[if_pos (by omega),if_pos (by omega)];simp
 unfold iG;rw[e];exact h
theorem yF {α:Type} (xs:List α) (v:α):iG (xs++[v]) (-1)=some v:=by
 have hl:(xs++[v]).length=xs.length+1:=by simp
 have e:mI (xs++[v]).length (-1)=some xs.length:=by
  unfold mI
  rw[hl,if_neg (by decide),if_pos (by omega)]
  congr 1
  omega
 unfold iG
 rw[e]
 show(xs++[v])[xs.length]?=some v
 simp
def anG (b:Expr):Prop:=∀ o i,subscripted b false o i=operate [o,i] (getItem o i)
def vb (X:Cx) (r:R2):Prop :=
 ∀ (value slice:Expr) (pins:List (Addr×Obj)) (s:Shared) (σ:St) (H:Hp) (x y:V) (v u:Value) (Q:VK),Inv X pins σ H s->RelV x v->RelV y u->r x y H Q ->
  subscripted slice false v u=operate [v,u] (getItem v u)->wpAny (model X.prog X.w) X.A (subscriptTail value slice v u) (EP X pins σ Q) X.xe s
def zK (X:Cx) (id:String) (r:V->List V->Hp->VK->Prop):Prop :=
 ∀ (pins:List (Addr×Obj)) (s:Shared) (σ:St) (H:Hp) (x:V) (xs:List V) (v:Value) (us:List Value) (Q:VK),Inv X pins σ H s->RelV x v->Vals xs us->r x xs H Q ->
  wpAny (model X.prog X.w) X.A (call (.builtin id) (v::us)) (EP X pins σ Q) X.xe s
section
variable {X:Cx}{a b:Expr}{ta tb:TE}{pos:Pos}
theorem bR {r:R2} (hr:vb X r) (ha:PE X a ta) (hb:PE X b tb) (hs:anG b):PE X (.Subscript a b pos) (zJ r ta tb):=by
 intro pins s σ H Q I h
 exact Subscript_ (Ep ha hb I h fun v u s2 x y H2 I2 rx ry q=>hr a b pins s2 σ H2 x y v u Q I2 rx ry q (hs _ _))
def arw (K:W.Frag):R2:=fun x y H Q=>∃ p xs i v,x=.ref p/\y=.int i/\aq K H p xs/\iG xs i=some v/\Q v H
def W9 (K:W.Frag):R2:=fun x y H Q=>∃ p xs i v,x=.ref p/\y=.int i/\cp K H p xs/\iG xs i=some v/\Q v H
def arx:R2:=fun x y H Q=>∃ z i c,x=.str z/\y=.int i/\z.length<=sizeLine/\iG z.cps.toList i=some c/\Q (.str ⟨#[c]⟩) H
theorem cw:vb X (arw X.K):=by
 intro value slice pins s σ H x y v u Q I rx ry h hs
 obtain⟨p,xs,i,z,rfl,rfl,hq,he,q⟩:=h
 cases rx
 obtain⟨t,rfl⟩:=ry
 obtain⟨aj,r,pl,hz⟩:=I.list hq
 obtain⟨j,h1,h2,h3,h4,h5⟩:=DY he
 obtain⟨w,ew,gY⟩:=r.get h2
 have hl:=r.length
 have hn:=ux
 have fin:EP X pins σ Q w s:=⟨z,H,I,gY,q⟩
 by_cases h0:0<=i
 ·have hj:i.toNat=j:=by
   rw[seqIndex_of h0 h5] at h1
   exact Option.some.inj h1
  exact item_listR pl.isList h0 (by omega) (by rw[hj];simpa using ew) fin hs
 have hj:(i+(aj.toArray.size:Int)).toNat=j:=by
  rw[seqIndex_neg (by omega) h4] at h1
  rw[List.size_toArray,<- hl]
  exact Option.some.inj h1
 exact subscriptTail_builtinR (x:=w) pl.isList.typeIs slot_list_getitem.lookup
  (wpAny_getItem_list_neg (Q:=fun r s'=>r=w/\EP X pins σ Q r s') pl.isList (by omega) (by rw[List.size_toArray] <;> omega) (by omega) (by rw[hj];simpa using ew) ⟨rfl,fin⟩) hs
theorem qg:vb X (W9 X.K):=by
 intro value slice pins s σ H x y v u Q I rx ry h hs
 obtain⟨p,xs,i,z,rfl,rfl,hq,he,q⟩:=h
 cases rx
 obtain⟨t,rfl⟩:=ry
 obtain⟨aj,r,pl,hz⟩:=I.tuple hq
 obtain⟨j,h1,h2,h3,h4,h5⟩:=DY he
 obtain⟨w,ew,gY⟩:=r.get h2
 have hl:=r.length
 have hn:=ux
 have fin:EP X pins σ Q w s:=⟨z,H,I,gY,q⟩
 exact subscriptTail_builtinR (x:=w) pl.typeIs slot_tuple_getitem.lookup
  (getItem_tuple (j:=j) (Q:=fun r s'=>r=w/\EP X pins σ Q r s') pl (by omega) (by omega) (by rw[List.size_toArray,<- hl];exact h1) (by simpa using ew) ⟨rfl,fin⟩) hs
theorem apl:vb X arx:=by
 intro value slice pins s σ H x y v u Q I rx ry h hs
 obtain⟨z,i,c,rfl,rfl,hz,he,q⟩:=h
 obtain⟨t,rfl⟩:=rx
 obtain⟨t',rfl⟩:=ry
 obtain⟨j,h1,h2,h3,h4,h5⟩:=DY he
 have hl:z.cps.toList.length=z.length:=by simp[Str.length]
 rw[hl] at h1 h4 h5
 have hn:=ux
 exact tail_any (typeIs_str s z t) slot_str_getitem.lookup (getItem_str (c:=c) (by
  have e1:decide (i < -(2 ^ 63:Int))=false:=decide_eq_false (by omega)
  have e2:decide (i≥2 ^ 63)=false:=decide_eq_false (by omega)
  rw[e1,e2,Bool.or_false]) (by rw[h1];simpa using h2) ⟨.str ⟨#[c]⟩,H,I.tok _,⟨_,rfl⟩,q⟩) hs
theorem aiW (aj:List Value) (n j:Nat) (u:Value):Obj.mapSeq (·.setIfInBounds j u) {cls:=.type "list",data:=.seq aj.toArray n}={cls:=.type "list",data:=.seq (aj.set j u).toArray n}:=by
 simp[Obj.mapSeq]
theorem Inv.lst {pins:List (Addr×Obj)}{σ:St}{H:Hp}{s:Shared}{p:Addr}{xs:List V} (I:Inv X pins σ H s) (h:H p=some (.lst xs)) :
  ∃ (aj:List Value) (n:Nat),Vals xs aj/\s.heap.get? p=some {cls:=.type "list",data:=.seq aj.toArray n}/\xs.length<=sizeLine:=by
 obtain⟨z,aj,n,r,e⟩:=I.az p _ h
 exact⟨aj,n,r,e,z⟩
theorem Inv.apm {pins:List (Addr×Obj)}{σ:St}{H:Hp}{s:Shared}{p:Addr}{xs ys:List V}{aj its':List Value}{n n':Nat}{f:Obj->Obj} (I:Inv X pins σ H s) (h:H p=some (.lst xs))
  (ho:s.heap.get? p=some {cls:=.type "list",data:=.seq aj.toArray n}) (hf:f {cls:=.type "list",data:=.seq aj.toArray n}={cls:=.type "list",data:=.seq its'.toArray n'}) (r:Vals ys its') (hz:ys.length<=sizeLine) (t:Nat) :
  Inv X pins σ (upd H p (.lst ys)) {s with heap:=s.heap.update p f,toks:=t}:=by
 have e:(s.heap.update p f).get? p=some {cls:=.type "list",data:=.seq its'.toArray n'}:=by
  rw[Heap.get?_update_self f ho (by rw[hf] <;> rfl),hf]
 refine I.write (x:=p) (e:=p) (by rw[h];trivial) (.inl rfl) (fun b u hb q=>(Heap.get?_update_other _ _ (Ne.symm hb)).trans q) ⟨_,e⟩ ?_
 exact⟨hz,its',n',r,e⟩
def aqu:V->V->V->Hp->(Hp->Prop)->Prop:=fun o i v H Q=>∃ p xs k j,o=.ref p/\i=.int k/\H p=some (.lst xs)/\mI xs.length k=some j/\Q (upd H p (.lst (xs.set j v)))
theorem set_list:W4 X aqu:=by
 intro pins s σ H o i v ov iv u Q I ro ri rv h
 obtain⟨p,xs,k,j,rfl,rfl,hp,hj,q⟩:=h
 cases ro
 obtain⟨t,rfl⟩:=ri
 obtain⟨aj,n,r,ho,hz⟩:=I.lst hp
 obtain⟨h1,h2,h3,h4⟩:=VL hj
 have hl:=r.length
 have hn:=ux
 have I':Inv X pins σ (upd H p (.lst (xs.set j v))) {s with heap:=s.heap.update p (Obj.mapSeq (·.setIfInBounds j u))} :=
  I.apm hp ho (aiW aj n j u) (r.set rv j) (by rw[List.length_set];exact hz) s.toks
 by_cases h0:0<=k
 ·have hk:k.toNat=j:=by
   rw[seqIndex_of h0 h4] at h1
   exact Option.some.inj h1
  exact W.ki_setAt ho h0 (by omega) (by rw[List.size_toArray,<- hl];exact h4) (by rw[hk];exact⟨_,I',q⟩)
 have hk:(k+(aj.toArray.size:Int)).toNat=j:=by
  rw[seqIndex_neg (by omega) h3] at h1
  rw[List.size_toArray,<- hl]
  exact Option.some.inj h1
 exact W.ki_setBack ho (by omega) (by rw[List.size_toArray,<- hl];exact h3) (by omega) (by rw[hk];exact⟨_,I',q⟩)
theorem afX (lo hi:Option Int) (n:Nat):(sliceBounds lo hi none n).1=((HT.fU n 0 lo:Nat):Int)/\(sliceBounds lo hi none n).2.1=((HT.fU n n hi:Nat):Int)/\(sliceBounds lo hi none n).2.2=1:=by
 refine⟨?_,?_,rfl⟩
 ·cases lo with
  | none=>simp[sliceBounds,HT.fU]
  | some i =>
   simp only [sliceBounds,HT.fU,Option.getD_none,show(1:Int)>0 by decide,if_true]
   by_cases h:i<0
   ·simp only [h,if_true] <;> omega
   simp only [h,if_false] <;> omega
 cases hi with
 | none=>simp[sliceBounds,HT.fU]
 | some i =>
  simp only [sliceBounds,HT.fU,Option.getD_none,show(1:Int)>0 by decide,if_true]
  by_cases h:i<0
  ·simp only [h,if_true] <;> omega
  simp only [h,if_false] <;> omega
theorem aeL (aj:List Value) (lo hi:Option Int):slicePick aj.toArray lo hi none=((aj.drop (HT.fU aj.length 0 lo)).take (HT.fU aj.length aj.length hi-HT.fU aj.length 0 lo)).toArray:=by
 obtain⟨h1,h2,h3⟩:=afX lo hi aj.toArray.size
 unfold slicePick
 rw[h1,h2,h3]
 simp only [sliceRange_one,pick_run,List.size_toArray] <;> rfl
def ary (K:W.Frag):V->Option Int->Option Int->Hp->VK->Prop:=fun x lo hi H Q=>∃ a xs,x=.ref a/\aq K H a xs/\∀ p,H p=none->Q (.ref p) (upd H p (.lst (sh xs lo hi)))
theorem anH:XQ X (ary X.K):=by
 intro pins s σ H x v vl vu lo hi sl Q I rx hs pl pu h
 obtain⟨a,xs,rfl,hx,q⟩:=h
 cases rx
 obtain⟨aj,r,ht,hz⟩:=I.list hx
 have hlen:=r.length
 refine⟨"list",_,slot_list_getitem.lookup,ht.isList.typeIs,?_⟩
 refine wpAny_getItem_list_slice ht.isList hs pl pu .none (by simp) ?_ (by rw[List.size_toArray] <;> omega)
 rw[aeL,<- hlen]
 refine⟨.ref s.heap.objs.size,_,I.laid (t':=s.toks) (o:=.lst (sh xs lo hi)) (fun b ob q=>Heap.get?_push_of_some _ q) (Nat.le_refl _) ?_,rfl,q _ (I.az.fresh (Nat.le_refl _))⟩
 exact⟨Nat.le_trans (ahr xs lo hi) hz,_,0,(r.drop (HT.fU xs.length 0 lo)).take (HT.fU xs.length xs.length hi-HT.fU xs.length 0 lo),Heap.get?_push_size _ rfl⟩
theorem fm:nZ X (.builtin "len") (fun xs H Q=>∃ p ys,xs=[.ref p]/\(aq X.K H p ys\/cp X.K H p ys)/\Q (.int ys.length) H):=by
 intro pins s σ H xs us Q I r h
 obtain⟨p,ys,rfl,hq,q⟩:=h
 obtain⟨u,rfl,rx⟩:=vals1 r
 cases rx
 have hn:=ux
 rcases hq with hq | hq
 ·obtain⟨aj,r',pl,hz⟩:=I.list hq
  have hlen:=r'.length
  exact Calls.call_len_list pl.isList (by simp only [List.size_toArray] <;> omega) ⟨.int ys.length,H,I.tok _,⟨s.toks+1,by rw[List.size_toArray,hlen]⟩,q⟩
 obtain⟨aj,r',pl,hz⟩:=I.tuple hq
 have hlen:=r'.length
 exact len_tuple pl (by simp only [List.size_toArray] <;> omega) ⟨.int ys.length,H,I.tok _,⟨s.toks+1,by rw[List.size_toArray,hlen]⟩,q⟩
def E9 (K:W.Frag) (T:String) (x:V) (H:Hp):Prop:=match x with
 | .str _=>T="str"
 | .int _=>T="int"
 | .ref p=>(T="list"/\∃ xs,aq K H p xs)\/(T="tuple"/\∃ o,K.lookup p=some o/\o.cls=.type "tuple"/\o.dict=none) \/
   (T="dict"/\((∃ ae,H p=some (.dK ae))\/∃ ae,H p=some (.dT ae)))\/(T="set"/\∃ S n,H p=some (.set S n))
 | _=>False
theorem Wo {pins:List (Addr×Obj)}{σ:St}{H:Hp}{s:Shared}{T:String}{x:V}{v:Value} (I:Inv X pins σ H s) (r:RelV x v) (ty:E9 X.K T x H) :
  s.TypeIs v T/\∀ a,v=.ref a->∃ ob,s.heap.get? a=some ob/\ob.dict=none:=by
 cases x with
 | str z =>
  obtain⟨t,rfl⟩:=r
  cases (show T="str" from ty)
  exact⟨typeIs_str s z t,fun _ e=>nomatch e⟩
 | int i =>
  obtain⟨t,rfl⟩:=r
  cases (show T="int" from ty)
  exact⟨typeIs_int s i t,fun _ e=>nomatch e⟩
 | ref p =>
  cases r
  rcases ty with ⟨rfl,xs,hq⟩ | ⟨rfl,o,hk,hc,hd⟩ | ⟨rfl,hk⟩ | ⟨rfl,S,n,hk⟩
  ·obtain⟨aj,_,pl,_⟩:=I.list hq
   refine⟨pl.isList.typeIs,fun a e=>?_⟩
   cases e
   obtain⟨o,n,e,c,hd,_⟩:=pl
   exact⟨o,e,hd⟩
  ·refine⟨⟨o,I.cZ p o hk,hc⟩,fun a e=>?_⟩
   cases e
   exact⟨o,I.cZ _ o hk,hd⟩
  ·have z:∃ o,s.heap.get? p=some o/\o.ExactDict:=by
    rcases hk with ⟨ae,hk⟩ | ⟨ae,hk⟩
    ·obtain⟨_,_,_,_,o,_,_,e,ex,_⟩:=I.az p _ hk
     exact⟨o,e,ex⟩
    obtain⟨_,_,_,_,o,_,_,e,ex,_⟩:=I.az p _ hk
    exact⟨o,e,ex⟩
   obtain⟨o,e,ex⟩:=z
   refine⟨⟨o,e,ex.1⟩,fun a e2=>?_⟩
   cases e2
   exact⟨o,e,ex.2.1⟩
  obtain⟨o,_,_,_,e,ex,_⟩:=I.az p _ hk
  refine⟨⟨o,e,ex.1⟩,fun a e2=>?_⟩
  cases e2
  exact⟨o,e,ex.2.1⟩
 | _=>exact False.elim ty
def arz (K:W.Frag) (T:String) (r:V->List V->Hp->VK->Prop) (to:TE):TE:=fun σ H Q=>to σ H fun x H1=>E9 K T x H1/\r x [] H1 Q
def tBM (K:W.Frag) (T:String) (r:V->List V->Hp->VK->Prop) (to:TE) (t:TA):TE:=fun σ H Q=>to σ H fun x H1=>E9 K T x H1/\t σ H1 fun xs H2=>r x xs H2 Q
variable {o e:Expr}{es:List Expr}{to:TE}{t:TA}{name:Str}{apos cQ:Pos}{T id:String}{r:V->List V->Hp->VK->Prop}
theorem apn (pa:PlainAttrs T) (slot:Slot T name id) (pz:typeOf (.builtin id)=pure (.type "method_descriptor")) (hm:zK X id r) (ho:PE X o to)
  (js:attributeBase o name X.env (eval o X.env)=eval o X.env:=by rfl) (jt:(apos.endLine==cQ.line)=true:=by rfl):PE X (.Call (.Attribute o name apos) [] [] cQ) (arz X.K T r to):=by
 intro pins s σ H Q I h
 refine wpAny_Call_method0_late js jt (aD (ho pins s σ H _ I h) fun v s1 ⟨x,H1,I1,r1,ty,q1⟩=>?_)
 obtain⟨h1,h2⟩:=Wo I1 r1 ty
 exact⟨T,id,pa,slot,pz,h1,h2,Calls.callWith_builtin rfl (PySem.evalArgs_none (hm pins s1 σ H1 x [] v [] Q I1 r1 .nil q1))⟩
theorem gP (pa:PlainAttrs T) (slot:Slot T name id) (pz:typeOf (.builtin id)=pure (.type "method_descriptor")) (hm:zK X id r) (ho:PE X o to) (ha:PA X (e::es) t)
  (js:attributeBase o name X.env (eval o X.env)=eval o X.env:=by rfl)
  (Xa:((backTo cQ (starEach (e::es) X.env)).all (fun x=>!x.1)&&(backToKw cQ (keywordEach [] X.env)).all (fun x=>x.1.isSome)
   && decide ((e::es).length+([]:List Keyword).length+(if ([]:List Keyword).isEmpty then 0 else 1)<30))=true:=by rfl)
  (jt:(apos.endLine==cQ.line)=true:=by rfl) (hs:starEach (e::es) X.env=(false,eval e X.env)::starEach es X.env:=by rfl) (apo:(backTo cQ (starEach es X.env)).any (·.1)=false:=by rfl) :
  PE X (.Call (.Attribute o name apos) (e::es) [] cQ) (tBM X.K T r to t):=by
 intro pins s σ H Q I h
 refine wpAny_Call_method_late js Xa jt rfl (aD (ho pins s σ H _ I h) fun v s1 ⟨x,H1,I1,r1,ty,q1⟩=>?_)
 obtain⟨h1,h2⟩:=Wo I1 r1 ty
 refine⟨T,id,pa,slot,pz,h1,h2,?_⟩
 have hA:=ha cQ pins s1 σ H1 _ I1 q1
 rw[hs] at hA ⊢
 refine Calls.callWith_builtin (by show(false||(backTo cQ (starEach es X.env)).any (·.1))=false;rw[apo] <;> rfl) (Calls.evalArgs_plain ?_)
 exact aD hA fun us s2 ⟨vs,H2,I2,r2,q2⟩=>hm pins s2 σ H2 x vs v us Q I2 r1 r2 q2
end
end L2
namespace L2
open PySem PySem.Spec PyProof.Rows
def Fb (X:Cx) (id:String) (r:V->List V->Hp->VK->Prop):Prop :=
 ∀ (pins:List (Addr×Obj)) (s:Shared) (σ:St) (H:Hp) (x:V) (xs:List V) (v:Value) (us:List Value) (Q:VK),Inv X pins σ H s->RelV x v->Vals xs us->r x xs H Q ->
  wpAny (model X.prog X.w) X.A (call (.builtin id) (v::us)) (EP X pins σ Q) X.xe s
theorem Vals.one:∀ {x:V}{us:List Value},Vals [x] us->∃ u,us=[u]/\RelV x u
 | _,_,.cons r .nil=>⟨_,rfl,r⟩
theorem Vals.zero:∀ {us:List Value},Vals [] us->us=[]
 | _,.nil=>rfl
theorem Vals.reverse {xs:List V}{us:List Value} (h:Vals xs us):Vals xs.reverse us.reverse:=by
 induction h with
 | nil=>exact .nil
 | cons r t ih=>rw[List.reverse_cons,List.reverse_cons];exact Vals.append ih (.cons r .nil)
theorem Vals.rep {xs:List V}{us:List Value} (h:Vals xs us):∀ k:Nat,Vals (List.replicate k xs).flatten (List.replicate k us).flatten
 | 0=>.nil
 | k+1=>by
  rw[List.replicate_succ,List.replicate_succ,List.flatten_cons,List.flatten_cons]
  exact Vals.append h (Vals.rep h k)
theorem foldl_rep (aj:List Value):∀ (k:Nat) (acc:List Value),
  List.foldl (fun x1 x2=>x1++x2) acc.toArray (List.replicate k aj.toArray)=(acc++(List.replicate k aj).flatten).toArray
 | 0,acc=>by simp
 | k+1,acc=>by
  have e:acc.toArray++aj.toArray=(acc++aj).toArray:=by simp
  have e2:(acc++aj)++(List.replicate k aj).flatten=acc++(List.replicate (k+1) aj).flatten:=by
   rw[List.replicate_succ,List.flatten_cons,List.append_assoc]
  rw[<- e2,<- foldl_rep aj k (acc++aj),<- e,List.replicate_succ,List.foldl_cons]
section
variable {X:Cx}{pins:List (Addr×Obj)}{σ:St}{H:Hp}{s:Shared}{l b:Addr}{xs ys zs:List V}
theorem Inv.Ew {aj its':List Value}{n:Nat}{f:Array Value->Array Value}{t':Nat} (I:Inv X pins σ H s) (hH:H l=some (.lst xs))
  (e:s.heap.get? l=some {cls:=.type "list",data:=.seq aj.toArray n}) (hf:f aj.toArray=its'.toArray) (hv:Vals ys its') (hz:ys.length<=sizeLine) :
  Inv X pins σ (upd H l (.lst ys)) {s with heap:=s.heap.update l (Obj.mapSeq f),toks:=t'}:=by
 have q:=PySem.IsL.update e f
 rw[hf] at q
 refine I.write (x:=l) (e:=l) (by rw[hH];exact trivial) (.inl rfl) (fun b' u hb hu=>(Heap.get?_update_other s.heap (Obj.mapSeq f) (Ne.symm hb)).trans hu) ⟨_,q⟩ ?_
 exact⟨hz,its',_,hv,q⟩
theorem Inv.Xb {aj:List Value}{t':Nat} (I:Inv X pins σ H s) (hv:Vals ys aj) (hz:ys.length<=sizeLine) :
  Inv X pins σ (upd H s.heap.objs.size (.lst ys)) {s with heap:=s.heap.push {cls:=.type "list",data:=.seq aj.toArray},toks:=t'} :=
 I.laid (fun _ _ q=>Heap.get?_push_of_some _ q) (Nat.le_refl _) ⟨hz,aj,0,hv,Heap.get?_push_size _ rfl⟩
theorem Inv.fresh (I:Inv X pins σ H s):H s.heap.objs.size=none:=I.az.fresh (Nat.le_refl _)
theorem Inv.qv (I:Inv X pins σ H s) (hH:H l=some (.lst xs)):xs.length<=sizeLine/\∃ (aj:List Value) (n:Nat),Vals xs aj/\xs.length=aj.length/\s.heap.get? l=some {cls:=.type "list",data:=.seq aj.toArray n}:=by
 obtain⟨z,aj,n,r,e⟩:=I.az l _ hH
 exact⟨z,aj,n,r,r.length,e⟩
theorem U3 {n:Nat} (h:n<=sizeLine):Builtin.List.listTooLong n=false:=by
 unfold Builtin.List.listTooLong
 exact decide_eq_false (by omega)
end
section
variable {X:Cx}
def anI:V->List V->Hp->VK->Prop:=fun x vs H Q=>∃ l xs y,x=.ref l/\vs=[y]/\H l=some (.lst xs)/\xs.length<sizeLine/\Q .aH (upd H l (.lst (xs++[y])))
theorem mi:Fb X "list.append" anI:=by
 intro pins s σ H x vs v us Q I rx rv h
 obtain⟨l,xs,y,rfl,rfl,hH,hz,q⟩:=h
 cases rx
 obtain⟨u,rfl,ru⟩:=rv.one
 obtain⟨z,aj,n,r,hl,e⟩:=I.qv hH
 refine call_meets F.slot_list_append ⟨_,e,rfl⟩ F.entry_list_append (F.args_list_append_2 _ _) (PySem.list_append l aj.toArray n u (by rw[List.size_toArray];omega)) ⟨e,?_⟩
 refine⟨.aH,_,I.Ew (its':=aj++[u]) hH e (by simp) (r.append (.cons ru .nil)) ?_,rfl,q⟩
 rw[List.length_append,List.length_singleton]
 omega
def anJ:V->List V->Hp->VK->Prop:=fun x vs H Q=>∃ l b xs zs,x=.ref l/\vs=[.ref b]/\H l=some (.lst xs)/\H b=some (.lst zs)/\xs.length+zs.length<=sizeLine/\Q .aH (upd H l (.lst (xs++zs)))
theorem Ds:Fb X "list.extend" anJ:=by
 intro pins s σ H x vs v us Q I rx rv h
 obtain⟨l,b,xs,zs,rfl,rfl,hH,hB,hz,q⟩:=h
 cases rx
 obtain⟨u,rfl,ru⟩:=rv.one
 cases ru
 obtain⟨z,aj,n,r,hl,e⟩:=I.qv hH
 obtain⟨z2,qw,n2,r2,Fc,e2⟩:=I.qv hB
 have hsz:aj.toArray.size+qw.toArray.size<=sizeLine:=by rw[List.size_toArray,List.size_toArray];omega
 have Eh:¬ (!aj.toArray.isEmpty&&Builtin.List.listTooLong (aj.toArray.size+qw.toArray.size))=true:=by
  rw[U3 hsz,Bool.and_false]
  exact Bool.false_ne_true
 refine call_meets F.slot_list_extend ⟨_,e,rfl⟩ F.entry_list_extend (F.args_list_extend_2 _ _)
  (AutoSeq1.list_extend_list_list_0 l aj.toArray n b qw.toArray n2 Eh (by rw[List.size_toArray];omega) (by omega)) ⟨e,e2,?_⟩
 refine⟨.aH,_,I.Ew (its':=aj++qw) hH e (by simp) (r.append r2) ?_,rfl,q⟩
 rw[List.length_append]
 omega
def amf:V->List V->Hp->VK->Prop:=fun x vs H Q=>∃ l xs,x=.ref l/\vs=[]/\H l=some (.lst xs)/\Q .aH (upd H l (.lst xs.reverse))
theorem aiX:Fb X "list.reverse" amf:=by
 intro pins s σ H x vs v us Q I rx rv h
 obtain⟨l,xs,rfl,rfl,hH,q⟩:=h
 cases rx
 have Fd:=rv.zero
 subst Fd
 obtain⟨z,aj,n,r,hl,e⟩:=I.qv hH
 refine call_meets F.slot_list_reverse ⟨_,e,rfl⟩ F.entry_list_reverse (F.args_list_reverse_1 _) (AutoSeq1.list_reverse_list_0 l aj.toArray n (by rw[List.size_toArray];omega)) ⟨e,?_⟩
 refine⟨.aH,_,I.Ew (its':=aj.reverse) hH e (by simp) r.reverse ?_,rfl,q⟩
 rw[List.length_reverse]
 omega
def arA:R2:=fun x y H Q=>∃ l b xs zs,x=.ref l/\y=.ref b/\H l=some (.lst xs)/\H b=some (.lst zs)/\xs.length+zs.length<=sizeLine/\∀ p,H p=none->Q (.ref p) (upd H p (.lst (xs++zs)))
theorem uy:du X (binaryOp .Add) arA:=by
 intro pins s σ H x y v u Q I rx ry h
 obtain⟨l,b,xs,zs,rfl,rfl,hH,hB,hz,q⟩:=h
 cases rx
 cases ry
 obtain⟨z,aj,n,r,hl,e⟩:=I.qv hH
 obtain⟨z2,qw,n2,r2,Fc,e2⟩:=I.qv hB
 refine PySem.P.add_list e e2 ?_ (by rw[List.size_toArray,List.size_toArray];omega)
 have ea:aj.toArray++qw.toArray=(aj++qw).toArray:=by simp
 rw[ea]
 exact⟨.ref _,_,I.Xb (t':=s.toks) (r.append r2) (by rw[List.length_append];omega),rfl,q _ I.fresh⟩
def arB:R2:=fun x y H Q=>∃ l k xs,x=.ref l/\y=.int k/\H l=some (.lst xs) /\ -(2 ^ 63)<=k/\k<2 ^ 63/\xs.length*k.toNat<=sizeLine /\
 ∀ p,H p=none->Q (.ref p) (upd H p (.lst (List.replicate k.toNat xs).flatten))
theorem len_rep {α:Type} (xs:List α) (k:Nat):(List.replicate k xs).flatten.length=k*xs.length:=by
 induction k with
 | zero=>simp
 | succ k ih=>rw[List.replicate_succ,List.flatten_cons,List.length_append,ih,Nat.succ_mul,Nat.add_comm]
theorem apq:du X (binaryOp .Mult) arB:=by
 intro pins s σ H x y v u Q I rx ry h
 obtain⟨l,k,xs,rfl,rfl,hH,h1,h2,hz,q⟩:=h
 cases rx
 obtain⟨t,rfl⟩:=ry
 obtain⟨z,aj,n,r,hl,e⟩:=I.qv hH
 have hlen:aj.toArray.size*k.toNat<=sizeLine:=by rw[List.size_toArray,<- hl];exact hz
 have si:¬ aj.toArray.size*k.toNat>(2 ^ 63-1) / 8:=by
  have:(sizeLine:Nat)<=(2 ^ 63-1) / 8:=by decide
  omega
 have Xc:¬ (!Builtin.List.listFitsIndex k)=true:=by
  rw[fitsIndex_both h1 h2]
  exact Bool.false_ne_true
 have Eh:¬ Builtin.List.listTooLong (aj.toArray.size*k.toNat)=true:=by
  rw[U3 hlen]
  exact Bool.false_ne_true
 have o9:List.foldl (fun x1 x2=>x1++x2) #[] (List.replicate (if aj.toArray.isEmpty=true then 0 else k.toNat) aj.toArray)=(List.replicate k.toNat aj).flatten.toArray:=by
  have f0:∀ m:Nat,List.foldl (fun x1 x2=>x1++x2) #[] (List.replicate m aj.toArray)=(List.replicate m aj).flatten.toArray:=fun m=>by
   have:=foldl_rep aj m []
   rw[List.nil_append] at this
   exact this
  rw[f0]
  cases aj with
  | nil=>simp
  | cons a r'=>rw[if_neg (by simp)]
 refine wpAny_binaryOp_repeat_ref (T:="list") (U:="int") (by decide) ⟨_,e,rfl⟩ (fun s'=>typeIs_int s' k t) noFill_list_mul F.fills_int_mul F.slot_int_rmul repeat_list F.slot_int_index.lookup
  (call_meets F.slot_int_rmul (typeIs_int s k t) F.entry_int_rmul (F.args_int_rmul_2 _ _) (int___rmul___int_list k t l aj.toArray n)
   ⟨e,rfl,⟨_,e,rfl⟩,call_meets F.slot_list_mul ⟨_,e,rfl⟩ F.entry_list_mul (F.args_list_mul_2 _ _) (AutoListH.list___mul___list_int_3 l aj.toArray n k t Xc si Eh) ⟨e,?_⟩⟩)
 rw[o9]
 exact⟨.ref _,_,I.Xb (t':=s.toks) (r.rep k.toNat) (by rw[len_rep,Nat.mul_comm];exact hz),rfl,q _ I.fresh⟩
end
section
variable {prog:Program}{w:World}{A:Around}{E:Value->Shared->Prop}{s:Shared}
end
section
variable {X:Cx}
end
end L2
namespace L2
open PySem PySem.Spec PyProof.Rows
theorem Vals.ints:∀ {ns:List Int}{us:List Value},Vals (ns.map V.int) us->IntsAre us ns
 | [],us,h=>by
  rw[List.map_nil] at h
  cases h
  exact IntsAre.nil
 | n::ns,us,h=>by
  rw[List.map_cons] at h
  cases h with
  | cons r t =>
   obtain⟨k,rfl⟩:=r
   exact IntsAre.cons n k (Vals.ints t)
theorem Vals.Ex {a:Addr}{us:List Value} (r:Vals [V.ref a] us):us=[Value.ref a]:=by
 cases r with
 | cons r t =>
  cases t
  cases r
  rfl
section
variable {prog:Program}{w:World}{A:Around}{E:Value->Shared->Prop}{s:Shared}{l:Addr}{aj:List Value}{ns:List Int}{Q:Value->Shared->Prop}
theorem anK (hh:A.handled=none) (hl:s.heap.IsList l aj.toArray) (hi:IntsAre aj ns)
  (h:∀ h' tk t',(∀ b o,s.heap.get? b=some o->h'.get? b=some o)->Q (.int ns.sum t') {s with heap:=h',toks:=tk}):wpAny (model prog w) A (call (.builtin "sum") [.ref l]) Q E s:=by
 obtain⟨xs,e⟩:=hi.allInts.items
 have hn:numsOf (intItems xs).toList=ns:=by rw[<- e];exact hi.numsOf
 rw[nums_intItems] at hn
 rw[e] at hl
 refine PySem.sum_intListG hh hl fun h' tk t' hk=>?_
 have:=h h' tk t' hk
 rw[preSum_eq,List.take_of_length_le (by simp),hn];exact this
end
section
variable {X:Cx}
def arC (K:W.Frag):List V->Hp->VK->Prop:=fun vs H Q=>∃ (a:Addr) (ns:List Int),vs=[V.ref a]/\aq K H a (ns.map V.int)/\Q (.int ns.sum) H
theorem apr (hc:X.calm=true):nZ X (.builtin "sum") (arC X.K):=by
 intro pins s σ H vs us Q I r h
 obtain⟨a,ns,rfl,hs,q⟩:=h
 obtain⟨aj,rv,hl,_⟩:=I.list hs
 rw[Vals.Ex r]
 exact anK (I.ok.hd hc) hl.isList rv.ints fun h' tk t' hk=>⟨.int _,H,I.kept hk,⟨_,rfl⟩,q⟩
end
section
variable {X:Cx}
end
section
variable {X:Cx}
end
section
variable {X:Cx}
end
section
variable {X:Cx}{pins:List (Addr×Obj)}{σ:St}{H:Hp}{s:Shared}
end
section
variable {X:Cx}
end
end L2
namespace L2
open PySem PySem.Spec PyProof.Rows
abbrev Wq (h:Heap) (c:Addr) (v:Option Value):Prop:=h.IsCell c v
def arD (scope sc:Scope):Scope :=
 {scope with names:=scope.names.map fun (n,k)=>if (k==.free&&sc.kind==.function&&sc.names.lookup n==some .cell) then (n,.cell) else (n,k)}
def eo (cells:List (Str×Addr)):List (Str×NameKind)->List (Str×Addr)->List (Str×Addr)
 | [],acc=>acc
 | (n,k)::r,acc=>if k==.free then eo cells r ((n,(cells.lookup n).getD 0)::acc) else eo cells r acc
theorem QF (env:Env) (f:Str×NameKind->List (Str×Addr)->Sem (ForInStep (List (Str×Addr))))
  (hf:∀ n k c,f (n,k) c=if k==.free then (do let a <- cellOf env n;pure (.yield ((n,a)::c))) else pure (.yield c)) :
  ∀ (names:List (Str×NameKind)) (acc:List (Str×Addr)),(∀ y∈names,y.2=.free->∃ c,env.cells.lookup y.1=some c)->forIn names acc f=pure (eo env.cells names acc)
 | [],acc,_=>by rw[List.forIn_nil];rfl
 | (n,k)::r,acc,h=>by
  rw[List.forIn_cons,hf]
  have ih:=fun acc=>QF env f hf r acc fun y hy=>h y (List.mem_cons_of_mem _ hy)
  unfold eo
  by_cases hk:(k==NameKind.free)=true
  ·rw[if_pos hk,if_pos hk]
   obtain⟨c,hc⟩:=h (n,k) List.mem_cons_self (by simpa using hk)
   have e:cellOf env n=pure c:=by unfold cellOf;rw[hc]
   rw[e]
   have e2:(env.cells.lookup n).getD 0=c:=by rw[hc];rfl
   rw[e2]
   exact ih _
  rw[if_neg hk,if_neg hk]
  exact ih _
theorem aiY {scope:Scope}{env:Env} (h:∀ y∈scope.names,y.2=.free->∃ c,env.cells.lookup y.1=some c):closureFor scope env=pure (eo env.cells scope.names []):=by
 simp only [closureFor]
 rw[QF env _ (fun n k c=>rfl) scope.names [] h]
 rfl
theorem mem_lookup {α:Type}:∀ {l:List (Str×α)}{n:Str}{c:α},(n,c)∈l->∃ c',l.lookup n=some c'
 | (k,v)::r,n,c,h=>by
  rw[List.lookup_cons]
  cases hb:n==k with
  | true=>exact⟨_,rfl⟩
  | false =>
   rcases List.mem_cons.mp h with e | h
   ·cases e;simp at hb
   exact mem_lookup h
theorem xX {cells:List (Str×Addr)}:∀ {names:List (Str×NameKind)}{acc:List (Str×Addr)}{n:Str}{c:Addr},(n,c)∈eo cells names acc->(n,c)∈acc\/((n,.free)∈names/\c=(cells.lookup n).getD 0)
 | [],_,_,_,h=>.inl h
 | (m,k)::r,acc,n,c,h=>by
  unfold eo at h
  split at h
  ·rename_i hk
   have hk:k=.free:=by simpa using hk
   rcases xX h with h | ⟨h1,h2⟩
   ·rcases List.mem_cons.mp h with e | h
    ·cases e;exact .inr ⟨hk ▸ List.mem_cons_self,rfl⟩
    exact .inl h
   exact .inr ⟨List.mem_cons_of_mem _ h1,h2⟩
  rcases xX h with h | ⟨h1,h2⟩
  ·exact .inl h
  exact .inr ⟨List.mem_cons_of_mem _ h1,h2⟩
theorem CS {cells:List (Str×Addr)}:∀ {names:List (Str×NameKind)}{acc:List (Str×Addr)}{p:Str×Addr},p∈acc->p∈eo cells names acc
 | [],_,_,h=>h
 | (m,k)::r,acc,p,h=>by
  unfold eo
  split
  ·exact CS (List.mem_cons_of_mem _ h)
  exact CS h
theorem CT {cells:List (Str×Addr)}:∀ {names:List (Str×NameKind)}{acc:List (Str×Addr)}{n:Str},(n,.free)∈names->(n,(cells.lookup n).getD 0)∈eo cells names acc
 | (m,k)::r,acc,n,h=>by
  unfold eo
  rcases List.mem_cons.mp h with e | h
  ·cases e
   exact CS List.mem_cons_self
  split
  ·exact CT h
  exact CT h
theorem ua:∀ {names:List (Str×NameKind)}{h:Heap}{acc:List (Str×Addr)}{x:Str}{c:Addr},(x,c)∈cellsFrom h.objs.size names acc ->
  (x,c)∈acc\/((x,.cell)∈names/\h.objs.size<=c/\Wq (pushCells h names) c none)
 | [],_,_,_,_,h=>.inl h
 | (n,k)::r,h,acc,x,c,hm=>by
  unfold cellsFrom at hm
  unfold pushCells
  split at hm
  ·rename_i hk
   rw[if_pos hk]
   have hk:k=.cell:=by simpa using hk
   rw[<- Heap.size_push h {cls:=.type "cell",data:=.cell none}] at hm
   rcases ua hm with hm | ⟨h1,h2,h3⟩
   ·rcases List.mem_cons.mp hm with e | hm
    ·cases e
     exact .inr ⟨hk ▸ List.mem_cons_self,Nat.le_refl _,_,pushCells_keeps r _ _ _ (Heap.get?_push_size _ rfl),rfl⟩
    exact .inl hm
   rw[Heap.size_push] at h2
   exact .inr ⟨List.mem_cons_of_mem _ h1,Nat.le_of_succ_le h2,h3⟩
  rename_i hk
  rw[if_neg hk]
  rcases ua hm with hm | ⟨h1,h2,h3⟩
  ·exact .inl hm
  exact .inr ⟨List.mem_cons_of_mem _ h1,h2,h3⟩
theorem yy:∀ {names:List (Str×NameKind)}{n:Nat}{acc:List (Str×Addr)}{p:Str×Addr},p∈acc->p∈cellsFrom n names acc
 | [],_,_,_,h=>h
 | (m,k)::r,n,acc,p,h=>by
  unfold cellsFrom
  split
  ·exact yy (List.mem_cons_of_mem _ h)
  exact yy h
theorem Dt:∀ {names:List (Str×NameKind)}{n:Nat}{acc:List (Str×Addr)}{x:Str},(x,.cell)∈names->∃ c,(x,c)∈cellsFrom n names acc
 | (m,k)::r,n,acc,x,h=>by
  unfold cellsFrom
  rcases List.mem_cons.mp h with e | h
  ·cases e
   exact⟨n,yy List.mem_cons_self⟩
  split
  ·exact Dt h
  exact Dt h
theorem Du:∀ {names:List (Str×NameKind)}{h:Heap}{acc:List (Str×Addr)}{x y:Str}{c:Addr},(∀ p∈acc,p.2<h.objs.size)->(∀ x y c,(x,c)∈acc->(y,c)∈acc->x=y) ->
  (x,c)∈cellsFrom h.objs.size names acc->(y,c)∈cellsFrom h.objs.size names acc->x=y
 | [],_,_,_,_,_,_,hi,h1,h2=>hi _ _ _ h1 h2
 | (n,k)::r,h,acc,x,y,c,hl,hi,h1,h2=>by
  unfold cellsFrom at h1 h2
  split at h1
  ·rename_i hk
   rw[if_pos hk] at h2
   rw[<- Heap.size_push h {cls:=.type "cell",data:=.cell none}] at h1 h2
   refine Du (h:=h.push _) (fun p hp=>?_) (fun x y c a b=>?_) h1 h2
   ·rw[Heap.size_push]
    rcases List.mem_cons.mp hp with rfl | hp
    ·exact Nat.lt_succ_self _
    exact Nat.lt_succ_of_lt (hl p hp)
   rcases List.mem_cons.mp a with e | a <;> rcases List.mem_cons.mp b with e' | b
   ·cases e;cases e';rfl
   ·cases e;exact absurd (hl _ b) (Nat.lt_irrefl _)
   ·cases e';exact absurd (hl _ a) (Nat.lt_irrefl _)
   exact hi _ _ _ a b
  rename_i hk
  rw[if_neg hk] at h2
  exact Du hl hi h1 h2
theorem ahs {M:Model}{A:Around}{E:Value->Shared->Prop}{s:Shared}{scope:Scope}{globals:Addr}{closure:List (Str×Addr)}{qual:Str}{func:Option Addr}{code:Value}{around:Env}{builtins:Addr}{Q:Env->Shared->Prop}
  (h:Q (newEnv scope s.heap.objs.size globals (cellsFrom (s.heap.objs.size+1) scope.names closure) qual func code (some around) builtins)
   {s with heap:=pushCells (s.heap.push {cls:=.type "dict",data:=.dict #[]}) scope.names}) :
  wpAny M A (newFunctionEnv scope globals closure [] qual func code (some around) builtins) Q E s:=by
 simp only [newFunctionEnv,Option.isSome_some,if_true]
 refine wpAny_bind (wpAny_alloc ?_)
 refine wpAny_bind (wpAny_layCells _ (fun n k c=>rfl) scope.names closure _ _ ?_)
 rw[show({s with heap:=s.heap.push {cls:=.type "dict",data:=.dict #[]}}:Shared).heap.objs.size=s.heap.objs.size+1 from Heap.size_push ..]
 rw[List.forIn_nil]
 exact wpAny_bind (wpAny_pure (wpAny_pure h))
theorem CU {sc:Scope}:∀ {names:List (Str×NameKind)}{x:Str}{k:NameKind},
  (names.map fun (n,k)=>if (k==NameKind.free&&sc.kind==.function&&sc.names.lookup n==some .cell) then (n,NameKind.cell) else (n,k)).lookup x=some k ->
  ∃ k',names.lookup x=some k'/\(k=k'\/(k'=.free/\k=.cell))
 | [],_,_,h=>by simp at h
 | (n,k₀)::r,x,k,h=>by
  have ih:=@CU sc r x k
  have h':List.lookup x ((if (k₀==NameKind.free&&sc.kind==.function&&sc.names.lookup n==some .cell)=true then (n,NameKind.cell) else (n,k₀))::(r.map _))=some k:=h
  cases hx:x==n with
  | true =>
   simp only [List.lookup_cons,hx]
   by_cases hc:(k₀==NameKind.free&&sc.kind==.function&&sc.names.lookup n==some .cell)=true
   ·rw[if_pos hc] at h'
    simp only [List.lookup_cons,hx] at h'
    cases h'
    simp only [Bool.and_eq_true,beq_iff_eq] at hc
    exact⟨k₀,rfl,.inr ⟨hc.1.1,rfl⟩⟩
   rw[if_neg hc] at h'
   simp only [List.lookup_cons,hx] at h'
   cases h'
   exact⟨_,rfl,.inl rfl⟩
  | false =>
   simp only [List.lookup_cons,hx]
   by_cases hc:(k₀==NameKind.free&&sc.kind==.function&&sc.names.lookup n==some .cell)=true
   ·rw[if_pos hc] at h'
    simp only [List.lookup_cons,hx] at h'
    exact ih h'
   rw[if_neg hc] at h'
   simp only [List.lookup_cons,hx] at h'
   exact ih h'
structure uF (N:List Str) (sc scope:Scope) (own:List (Str×Nat)):Prop where
 kind:scope.kind=.function
 uniq:∀ y∈scope.names,scope.names.lookup y.1=some y.2
 ix:∀ p∈own,N[p.2]?=some p.1
 free:∀ y∈scope.names,y.2=.free->sc.names.lookup y.1=some .cell\/sc.names.lookup y.1=some .free
 own:∀ y∈scope.names,y.2=.local\/y.2=.cell->y.1∈own.map (·.1)\/y.1∉N
def wipe (σ:St):List Nat->St
 | []=>σ
 | v::vs=>(wipe σ vs).set v none
theorem CW (σ:St):∀ vs:List Nat,(wipe σ vs).length=σ.length
 | []=>rfl
 | v::vs=>by unfold wipe;rw[List.length_set,CW σ vs]
theorem Dv {σ:St}{i:Nat}{x:V}:∀ {vs:List Nat},(wipe σ vs)[i]?=some (some x)->σ[i]?=some (some x)/\i∉vs
 | [],h=>⟨h,by simp⟩
 | v::vs,h=>by
  unfold wipe at h
  by_cases hi:v=i
  ·subst hi
   by_cases hv:v<(wipe σ vs).length
   ·rw[List.getElem?_set_self hv] at h;cases h
   rw[List.getElem?_eq_none (by simpa using hv)] at h;cases h
  rw[List.getElem?_set_ne hi] at h
  obtain⟨h1,h2⟩:=Dv h
  exact⟨h1,by simp only [List.mem_cons,not_or];exact⟨fun e=>hi e.symm,h2⟩⟩
abbrev Cx.cS (X:Cx) (s:Shared) (H:Hp) (scope:Scope) (cR:Env) (fp:List Addr):Cx:={X with di:=s,om:=H,env:=cR,outer:=X.stack,ex:=fp,fn:=fun x=>scope.names.lookup x==some .cell,pn:=[],xe:=fun _ _=>False}
section
variable {X:Cx}{pins:List (Addr×Obj)}{σ:St}{H:Hp}{s:Shared}
theorem aht {scope:Scope}{own:List (Str×Nat)}{fp:List Addr} (I:Inv X pins σ H s) (ok:uF X.N X.env.scope scope own) (hN:X.N.Nodup) (sO:∀ b∈fp,jw X pins H b/\b<s.heap.objs.size) :
  Inv (X.cS s H scope (compEnvC scope (cellsFrom (s.heap.objs.size+1) scope.names (eo X.env.cells scope.names [])) s.heap.objs.size X.env) fp) [] (wipe σ (own.map (·.2))) H {s with heap:=pushCells (s.heap.push {cls:=.type "dict",data:=.dict #[]}) scope.names}:=by
 have rW:∀ y∈scope.names,y.2=.free->∃ c,X.env.cells.lookup y.1=some c:=fun y hy e=>by
  rcases ok.free y hy e with k | k
  ·exact I.ok.has _ (.inl k)
  exact I.ok.has _ (.inr k)
 generalize uG:compEnvC scope (cellsFrom (s.heap.objs.size+1) scope.names (eo X.env.cells scope.names [])) s.heap.objs.size X.env=cR
 have kp:∀ b o,s.heap.get? b=some o->(pushCells (s.heap.push {cls:=.type "dict",data:=.dict #[]}) scope.names).get? b=some o:=fun b o e=>pushCells_keeps _ _ _ _ (Heap.get?_push_of_some _ e)
 have hL:cR.locals=s.heap.objs.size:=by rw[<- uG];rfl
 have jE:cR.cells=cellsFrom (s.heap.objs.size+1) scope.names (eo X.env.cells scope.names []):=by rw[<- uG];rfl
 have Fe:cR.scope=arD scope X.env.scope:=by rw[<- uG];rfl
 rw[<- Heap.size_push s.heap {cls:=.type "dict",data:=.dict #[]}] at jE
 have cm:∀ {y c},(y,c)∈eo X.env.cells scope.names []->X.env.cells.lookup y=some c/\c<s.heap.objs.size:=fun {y c} hm=>by
  rcases xX hm with hm | ⟨h1,rfl⟩
  ·cases hm
  obtain⟨c,hc⟩:=rW _ h1 rfl
  rw[hc]
  obtain⟨w,z⟩:=I.cell _ _ hc
  exact⟨rfl,z.lt⟩
 have mem:∀ {y c},cR.cells.lookup y=some c->(X.env.cells.lookup y=some c/\c<s.heap.objs.size)\/(s.heap.objs.size+1<=c/\Wq (pushCells (s.heap.push {cls:=.type "dict",data:=.dict #[]}) scope.names) c none):=fun {y c} e=>by
  rw[jE] at e
  rcases ua (PySem.mem_of_lookup e) with hm | ⟨_,h2,h3⟩
  ·exact .inl (cm hm)
  rw[Heap.size_push] at h2;exact .inr ⟨h2,h3⟩
 have look:∀ {y},scope.names.lookup y=some .free->∃ c,cR.cells.lookup y=some c/\X.env.cells.lookup y=some c:=fun {y} hl=>by
  have hy:(y,NameKind.free)∈scope.names:=PySem.mem_of_lookup hl
  obtain⟨c',e'⟩:=mem_lookup (yy (names:=scope.names) (n:=(s.heap.push {cls:=.type "dict",data:=.dict #[]}).objs.size) (CT (cells:=X.env.cells) (acc:=[]) hy))
  rw[<- jE] at e'
  refine⟨c',e',?_⟩
  rw[jE] at e'
  rcases ua (PySem.mem_of_lookup e') with hm | ⟨h1,_,_⟩
  ·exact(cm hm).1
  have:=ok.uniq _ h1
  rw[hl] at this;cases this
 have okB:(X.cS s H scope cR fp).Ok:=by
  refine⟨I.ok.mod,by show cR.scope.kind=_;rw[Fe];exact ok.kind,by show cR.globals=_;rw[<- uG];exact I.ok.glob,by show cR.builtins=_;rw[<- uG];exact I.ok.blt,by show s.heap.objs.size<=cR.locals;rw[hL];exact Nat.le_refl _,
   fun y z c e1 e2=>?_,fun y hy=>?_,fun y c z e=>?_,I.ok.hd,I.ok.frames,.inl rfl,fun b hb=>⟨?_,fun y c e z=>?_⟩,I.bs,Nat.le_trans I.ok.jC I.sz,fun b o e hb=>?_,fun b hb z=>?_,I.stack,I.DT⟩
  ·have e1:cR.cells.lookup y=some c:=e1
   have e2:cR.cells.lookup z=some c:=e2
   rw[jE] at e1 e2
   refine Du (fun p hp=>?_) (fun y z c a b=>I.ok.inj y z c (cm a).1 (cm b).1) (PySem.mem_of_lookup e1) (PySem.mem_of_lookup e2)
   rw[Heap.size_push]
   exact Nat.lt_succ_of_lt (cm (y:=p.1) (c:=p.2) hp).2
  ·show ∃ c,cR.cells.lookup y=some c
   have key:∀ k,cR.kindOf y=some k->(k=.cell\/k=.free)->∃ c,cR.cells.lookup y=some c:=fun k hk vc=>by
    unfold Env.kindOf at hk
    rw[Fe] at hk
    obtain⟨k',e,r⟩:=CU hk
    have:k'=.cell\/k'=.free:=by
     rcases r with rfl | ⟨rfl,_⟩
     ·exact vc
     exact .inr rfl
    rcases this with rfl | rfl
    ·obtain⟨c,hm⟩:=Dt (n:=(s.heap.push {cls:=.type "dict",data:=.dict #[]}).objs.size) (acc:=eo X.env.cells scope.names []) (PySem.mem_of_lookup e)
     obtain⟨c',e'⟩:=mem_lookup hm
     exact⟨c',by rw[jE];exact e'⟩
    obtain⟨c,h1,_⟩:=look e
    exact⟨c,h1⟩
   rcases hy with hy | hy
   ·exact key _ hy (.inl rfl)
   exact key _ hy (.inr rfl)
  ·have z:(scope.names.lookup y==some NameKind.cell)=true:=z
   have z:scope.names.lookup y=some .cell:=by simpa using z
   have e:cR.cells.lookup y=some c:=e
   rw[jE] at e
   rcases ua (PySem.mem_of_lookup e) with hm | ⟨_,h2,_⟩
   ·rcases xX hm with hm | ⟨h1,_⟩
    ·cases hm
    have q:=ok.uniq _ h1
    rw[z] at q;cases q
   rw[Heap.size_push] at h2
   exact Nat.le_of_succ_le h2
  ·show b≠cR.locals
   rw[hL];exact Nat.ne_of_lt (sO b hb).2
  ·have e:cR.cells.lookup y=some c:=e
   rcases mem e with ⟨h1,_⟩ | ⟨h1,_⟩
   ·exact(sO b hb).1.2.2.2.2.1 y c h1 z
   have h2:s.heap.objs.size+1<=b:=by rw[<- z];exact h1
   exact absurd (Nat.lt_of_lt_of_le (sO b hb).2 (Nat.le_of_succ_le h2)) (Nat.lt_irrefl _)
  ·rcases (sO b hb).1.2.2.2.1 with z | z
   ·exact I.ok.qo b o e z
   exact absurd (Nat.lt_of_lt_of_le (Heap.lt_size e) (Nat.le_trans I.ok.jC z)) (Nat.lt_irrefl _)
  rcases List.mem_cons.mp (I.D7 b z) with z | z
  ·exact(sO b hb).1.2.1 z
  exact(sO b hb).1.2.2.1 z
 refine⟨okB,rfl,I.bare,Un.kept kp,⟨fun _=>none,?_,fun i y av e1 e2 e3=>?_⟩,fun y c e=>?_,?_,fun y c e=>?_,fun p hp=>?_,I.az.kept kp,by rw[CW];exact I.len⟩
 ·show Heap.Ns _ cR.locals _
  rw[hL]
  exact Heap.Ns.keeps (Heap.Ns.new ..) fun b o e=>pushCells_keeps _ _ _ _ e
 ·obtain⟨e2,cq⟩:=Dv e2
  have sP:scope.names.lookup y=some .free/\(cR.kindOf y=some .cell\/cR.kindOf y=some .free):=by
   have key:∀ k,cR.scope.names.lookup y=some k->k=.local\/k=.cell\/k=.free->scope.names.lookup y=some .free/\(cR.kindOf y=some .cell\/cR.kindOf y=some .free):=fun k hk vc=>by
    have XR:=hk
    rw[Fe] at hk
    obtain⟨k',e,r⟩:=CU hk
    have no:¬ (k'=.local\/k'=.cell):=fun hh=>by
     rcases ok.own _ (PySem.mem_of_lookup e) hh with e' | e'
     ·obtain⟨p,hp,hpy⟩:=List.mem_map.mp e'
      have e3:=ok.ix p hp
      have:p.1=y:=hpy
      rw[this] at e3
      exact cq (List.mem_map.mpr ⟨p,hp,DL hN e3 e1⟩)
     exact e' (List.mem_of_getElem? e1)
    rcases r with rfl | ⟨rfl,rfl⟩
    ·rcases vc with rfl | rfl | rfl
     ·exact absurd (.inl rfl) no
     ·exact absurd (.inr rfl) no
     exact⟨e,.inr XR⟩
    exact⟨e,.inl XR⟩
   have e3:sE cR.scope y:=e3
   rcases e3 with e3 | e3 | e3
   ·exact key _ e3 (.inl rfl)
   ·exact key _ e3 (.inr (.inl rfl))
   exact key _ e3 (.inr (.inr rfl))
  obtain⟨m,hn,hl⟩:=I.loc
  have arE:sE X.env.scope y:=(ok.free _ (PySem.mem_of_lookup sP.1) rfl).elim (fun k=>.inr (.inl k)) (fun k=>.inr (.inr k))
  obtain⟨w,r,q⟩:=hl i y av e1 e2 arE
  refine⟨w,r,.inr ⟨sP.2,?_⟩⟩
  obtain⟨c,h1,h2⟩:=look sP.1
  rcases q with ⟨k,_⟩ | ⟨_,c',e',z⟩
  ·have k:X.env.scope.names.lookup y=some .local:=k
   rcases ok.free _ (PySem.mem_of_lookup sP.1) rfl with k' | k' <;> rw[show X.env.scope.names.lookup y=_ from k'] at k <;> cases k
  rw[h2] at e';cases e'
  exact⟨c,h1,z.keeps kp⟩
 ·have e:cR.cells.lookup y=some c:=e
  rcases mem e with ⟨h1,_⟩ | ⟨_,z⟩
  ·obtain⟨w,z⟩:=I.cell y c h1
   exact⟨w,z.keeps kp⟩
  exact⟨_,z⟩
 ·show H cR.locals=none
  rw[hL];exact I.az.fresh (Nat.le_refl _)
 ·have e:cR.cells.lookup y=some c:=e
  rcases mem e with ⟨h1,_⟩ | ⟨h1,_⟩
  ·exact I.e8 y c h1
  exact I.az.fresh (Nat.le_of_succ_le h1)
 exact absurd (show p∈([]:List (Addr×Obj))++[] from hp) (by simp)
theorem aps {E:Value->Shared->Prop}{D:Addr}{xs:List V}{y:V}{v:Value}{Q:Value->Shared->Prop} (I:Inv X pins σ H s) (hD:H D=some (.lst xs)) (hz:xs.length<sizeLine) (r:RelV y v)
  (h:∀ s',Inv X pins σ (upd H D (.lst (xs++[y]))) s'->Q .none s'):wpAny (model X.prog X.w) X.A (call (.builtin "list.append") [.ref D,v]) Q E s:=by
 obtain⟨hz',aj,n,ri,e⟩:=I.az D _ hD
 have hl:=ri.length
 refine append_at (hsz:=by rw[List.size_toArray];omega) e fun h' sb br=>?_
 refine h {s with heap:=h'} (I.write (t':=s.toks) (by rw[hD];trivial) (.inl rfl) (fun b u hb q=>(sb.2 b hb).trans q) ⟨_,br⟩ ⟨by rw[List.length_append];exact hz,aj++[v],n+1,ri.append (.cons r .nil),?_⟩)
 rw[br]
 simp
def vd (X:Cx) (ifs:List Expr) (t:TT):Prop :=
 ∀ (pins:List (Addr×Obj)) (s:Shared) (σ:St) (H:Hp) (Q:Bool->Hp->Prop),Inv X pins σ H s->t σ H Q ->
  wpAny (model X.prog X.w) X.A (forIn ifs true fun c r=>if r=true then do let ok <- isTrue c X.env (eval c X.env);pure (ForInStep.yield ok) else pure (ForInStep.yield r)) (TP X pins σ Q) X.xe s
def arF:TT:=fun _ H Q=>Q true H
theorem mq:vd X [] arF:=fun _ _ _ H _ I h=>wpAny_tests_nil ⟨H,I,h⟩
theorem yP {c:Expr}{t:TT} (h:PT X c t):vd X [c] t:=fun pins s σ H Q I hw=>wpAny_tests_one (h pins s σ H Q I hw)
end
theorem sj {α:Type}{t:Sem α}{Q Q':α->Shared->Prop}{M:Model}{A:Around}{E:Value->Shared->Prop}{s:Shared} (h:wpAny M A t Q (fun _ _=>False) s) (hQ:∀ a s,Q a s->Q' a s):wpAny M A t Q' E s:=wpAny_mono h hQ fun _ _ z=>False.elim z
theorem afY {prog:Program}{w:World}{A:Around}{R:Result->Shared->Prop}{s:Shared}{elt target iter:Expr}{ifs:List Expr}{scope:Scope}{pos:Pos}{it acc:Value}{env:Env} (I:Nat->Shared->Prop)
  (turn:∀ n s,I n s->wpAny (model prog w) A (pyNext it) (fun r s₁=>match r with
   | none=>R (.ok .next) s₁
   | some v=>wpAny (model prog w) A (letOwnedTupleGo target it v) (fun _ XS=>wpAny (model prog w) A (assign target env v) (fun _ s₂ =>
     wpAny (model prog w) A (forIn ifs true fun c r=>if r=true then do let ok <- isTrue c env (eval c env);pure (ForInStep.yield ok) else pure (ForInStep.yield r)) (fun ok s₃ =>
      if ok=true then wpAny (model prog w) A (eval elt env) (fun x s₄ =>
       wpAny (model prog w) A (call (.builtin "list.append") [acc,x]) (fun _ s₅=>∃ m,m<n/\I m s₅) (notedBy (model prog w) A env fun e s'=>R (.error e) s') s₄) (notedBy (model prog w) A env fun e s'=>R (.error e) s') s₃
      else ∃ m,m<n/\I m s₃) (notedBy (model prog w) A env fun e s'=>R (.error e) s') s₂) (notedBy (model prog w) A env fun e s'=>R (.error e) s') XS) (notedBy (model prog w) A env fun e s'=>R (.error e) s') s₁) (notedBy (model prog w) A env fun e s'=>R (.error e) s') s)
  (n:Nat) (h:I n s) :
  codeAny (model prog w) A (.compLoop (.ListComp elt [⟨target,iter,ifs,0⟩] scope pos) 0 it acc env) R s:=by
 refine codeAny_loop rfl I (fun n s hI=>?_) n h
 show wpAny _ A ((compTurn (.ListComp elt [⟨target,iter,ifs,0⟩] scope pos) 0 it acc env).onRaise (fun x=>do noteFrame x env;theTreesLotGoes x)) _ _ s
 refine wpAny_noted ?_
 rw[compTurn_list]
 refine wpAny_bind (wpAny_standAt (wpAny_bind (wpAny_mono (turn n s hI) (fun r s₁ h₁=>?_) fun _ _ h'=>h')))
 cases r with
 | none=>exact wpAny_pure h₁
 | some v =>
  refine wpAny_bind (wpAny_mono h₁ (fun _ XS h₁'=>?_) fun _ _ h'=>h')
  refine wpAny_bind (wpAny_mono h₁' (fun _ s₂ h₂=>wpAny_bind (wpAny_mono h₂ (fun ok s₃ h₃=>?_) fun _ _ h'=>h')) fun _ _ h'=>h')
  cases ok with
  | false=>exact wpAny_pure ⟨rfl,h₃⟩
  | true =>
   exact wpAny_bind (wpAny_bind (wpAny_mono h₃ (fun x s₄ h₄=>wpAny_bind (wpAny_mono h₄ (fun _ s₅ h₅=>wpAny_pure (wpAny_pure ⟨rfl,h₅⟩)) fun _ _ h'=>h')) fun _ _ h'=>h'))
section
variable {X:Cx}
def zL (wi:TI) (g:TG) (tt:TT) (te:TE) (vs:List Nat):TE:=fun σ H Q=>wi σ H fun J H1=>∀ D,H1 D=none->∃ W:Nat->Nat->Hp->Prop,(∃ m,W 0 m (upd H1 D (.lst [])))/\∀ i m H,W i m H ->
 (J.stop i H/\Q (.ref D) H)\/(J.go i H/\∃ Nx:Hp->Prop,(∀ H',Nx H'->∃ m',m'<m/\W (i+1) m' H')/\∀ x H',J.fT i H x H'->g x (wipe σ vs) H' fun σ2 H2=>wipe σ2 vs=wipe σ vs/\tt σ2 H2 fun b H3 =>
  if b=true then te σ2 H3 fun y H4=>∃ acc,H4 D=some (.lst acc)/\acc.length<sizeLine/\Nx (upd H4 D (.lst (acc++[y]))) else Nx H3)
theorem VM {pins:List (Addr×Obj)}{s:Shared}{σ:St}{H:Hp}{Q:VK}{elt tg iter:Expr}{ifs:List Expr}{scope:Scope}{own:List (Str×Nat)}{pos pos':Pos}{wi:TI}{g:TG}{tt:TT}{te:TE}{use:Option (Value->Sem Unit)}{Qf:Value->Shared->Prop}
  (hc:X.calm=true) (hN:X.N.Nodup) (I:Inv X pins σ H s) (hi:PI X tg iter wi) (ok:uF X.N X.env.scope scope own)
  (hg:∀ (s:Shared) (H:Hp) (C:Addr) (cl:List (Str×Addr)) (fp:List Addr),PG (X.cS s H scope (compEnvC scope cl C X.env) fp) tg g) (ht:∀ (s:Shared) (H:Hp) (C:Addr) (cl:List (Str×Addr)) (fp:List Addr),vd (X.cS s H scope (compEnvC scope cl C X.env) fp) ifs tt)
  (he:∀ (s:Shared) (H:Hp) (C:Addr) (cl:List (Str×Addr)) (fp:List Addr),PE (X.cS s H scope (compEnvC scope cl C X.env) fp) elt te) (hs:∀ x,foldedSetIterable iter X.env x=pure x)
  (h:zL wi g tt te (own.map (·.2)) σ H Q)
  (hRR:∀ D C s' m H',Inv X pins σ H' s'->Q (.ref D) H'->s'.heap.Ns C m->jw X pins H' C->compPost (model X.prog X.w) X.A X.xe use Qf (.ref D) C (.ok .next) s') :
  wpAny (model X.prog X.w) X.A (comprehension (.ListComp elt [⟨tg,iter,ifs,0⟩] scope pos) scope X.env pos' (newList []) false (eval iter X.env) use) Qf X.xe s:=by
 have rW:∀ y∈scope.names,y.2=.free->∃ c,X.env.cells.lookup y.1=some c:=fun y hy e=>by
  rcases ok.free y hy e with k | k
  ·exact I.ok.has _ (.inl k)
  exact I.ok.has _ (.inr k)
 refine wpAny_comprehension_free (use:=use) rfl hs (aiY rW) ok.kind (fun y hy e=>by rw[ok.uniq y hy,e])
  (aD (hi pins s σ H _ I h) fun xv s1 hx=>aD hx fun EZ s2 h2=>?_)
 obtain⟨it,fp,tn,J,H2,e,I2,T,zH,f2,q⟩:=h2
 subst e
 refine wpAny_newObj_type (ahs ?_) (by show 0<=sizeLine;decide)
 generalize hD:s2.heap.objs.size=D
 have hDn:H2 D=none:=I2.az.fresh (Nat.le_of_eq hD)
 obtain⟨W,⟨m0,w0⟩,turn⟩:=q D hDn
 generalize XT:({s2 with heap:=s2.heap.push {cls:=.type "list",data:=.seq ([]:List Value).toArray}}:Shared)=s3
 have I3:Inv X pins σ (upd H2 D (.lst [])) s3:=by
  rw[<- XT]
  refine I2.laid (t':=s2.toks) (fun b o e=>Heap.get?_push_of_some _ e) (Nat.le_of_eq hD) ⟨Nat.zero_le _,[],0,.nil,?_⟩
  rw[<- hD]
  exact Heap.get?_push_size _ rfl
 have h3:s3.heap=s2.heap.push {cls:=.type "list",data:=.seq ([]:List Value).toArray}:=by rw[<- XT]
 have sz:∀ b∈fp,b<s2.heap.objs.size:=fun b hb=>by
  obtain⟨o,e,_⟩:=T.obj _ _ zH b hb
  exact Heap.lt_size e
 have f3:∀ b∈fp,jw X pins (upd H2 D (.lst [])) b/\b<s3.heap.objs.size:=fun b hb=>by
  have aO:=sz b hb
  refine⟨⟨?_,(f2 b hb).2⟩,by rw[h3,Heap.size_push];exact Nat.lt_succ_of_lt aO⟩
  rw[ai (by rw[<- hD];exact Nat.ne_of_lt aO)]
  exact(f2 b hb).1
 have zI:tn 0 s3.heap:=T.keep _ _ _ zH fun b _ o e=>by rw[h3];exact Heap.get?_push_of_some _ e
 have I4:=aht I3 ok hN f3
 have pg:=hg s3 (upd H2 D (.lst [])) s3.heap.objs.size (cellsFrom (s3.heap.objs.size+1) scope.names (eo X.env.cells scope.names [])) fp
 have pt:=ht s3 (upd H2 D (.lst [])) s3.heap.objs.size (cellsFrom (s3.heap.objs.size+1) scope.names (eo X.env.cells scope.names [])) fp
 have pe:=he s3 (upd H2 D (.lst [])) s3.heap.objs.size (cellsFrom (s3.heap.objs.size+1) scope.names (eo X.env.cells scope.names [])) fp
 show codeAny _ _ (.compStart (.ListComp elt [⟨tg,iter,ifs,0⟩] scope pos) 0 (.ref it) (.ref D) (compEnvC scope (cellsFrom (s3.heap.objs.size+1) scope.names (eo X.env.cells scope.names [])) s3.heap.objs.size X.env)) (compPost (model X.prog X.w) X.A X.xe use Qf (.ref D) s3.heap.objs.size) {s3 with heap:=pushCells (s3.heap.push {cls:=.type "dict",data:=.dict #[]}) scope.names}
 have XU:∀ b∈fp,(upd H2 D (.lst [])) b=none:=fun b hb=>(f3 b hb).1.1
 generalize Ff:compEnvC scope (cellsFrom (s3.heap.objs.size+1) scope.names (eo X.env.cells scope.names [])) s3.heap.objs.size X.env=ce at I4 pg pt pe ⊢
 have cL:ce.locals=s3.heap.objs.size:=by subst Ff;rfl
 generalize hH3:upd H2 D (.lst [])=H3 at I3 I4 pg pt pe w0 XU f3
 generalize hs4:({s3 with heap:=pushCells (s3.heap.push {cls:=.type "dict",data:=.dict #[]}) scope.names}:Shared)=s4 at I4 ⊢
 have XW:tn 0 s4.heap:=T.keep _ _ _ zI fun b _ o e=>by rw[<- hs4];exact pushCells_keeps _ _ _ _ (Heap.get?_push_of_some _ e)
 have qr:∀ {σ':St}{H':Hp}{s':Shared},Inv (X.cS s3 H3 scope ce fp) [] σ' H' s'->(∀ b∈fp,H' b=none)->∀ b∈fp,jw (X.cS s3 H3 scope ce fp) [] H' b:=fun {σ' H' s'} I' hn b hb =>
  ⟨hn b hb,(I'.ok.sF b hb).1,I'.ok.o7 b hb,.inl hb,fun x c e=>(I'.ok.sF b hb).2 x c e,fun p hp=>absurd (show p∈([]:List (Addr×Obj))++[] from hp) (by simp)⟩
 have loop:codeAny (model X.prog X.w) X.A (.compLoop (.ListComp elt [⟨tg,iter,ifs,0⟩] scope pos) 0 (.ref it) (.ref D) ce) (compPost (model X.prog X.w) X.A X.xe use Qf (.ref D) s3.heap.objs.size) s4:=by
  refine afY (fun n s'=>∃ i H',Inv (X.cS s3 H3 scope ce fp) [] (wipe σ (own.map (·.2))) H' s'/\tn i s'.heap/\(∀ b∈fp,H' b=none)/\W i n H') ?_ m0 ⟨0,H3,I4,XW,XU,w0⟩
  rintro n s5 ⟨i,H5,I5,sI,n5,w5⟩
  rcases turn i n H5 w5 with ⟨stop,qq⟩ | ⟨go,Nx,hNx,step⟩
  ·have td:=T.done (X.cS s3 H3 scope ce fp) rfl rfl rfl hc i [] s5 _ H5 (fun _ _=>False) I5 (qr I5 n5) sI stop
   refine sj td fun r s6 ⟨hr,I6⟩=>?_
   subst hr
   have I7:Inv X pins σ H5 s6:=I3.WG (ch:=fp) I6.os I6.base I6.az I6.bare fun b hb=>⟨(f3 b hb).1.2.2.2.1,(f3 b hb).1.2.1,(f3 b hb).1.2.2.2.2.1,(f3 b hb).1.2.2.2.2.2⟩
   have nC:H5 s3.heap.objs.size=none:=by
    have z:H5 ce.locals=none:=I6.free
    rw[cL] at z
    exact z
   obtain⟨m,hn,_⟩:=I6.loc
   have hn:s6.heap.Ns ce.locals m:=hn
   rw[cL] at hn
   exact hRR D s3.heap.objs.size s6 m H5 I7 qq hn (I3.qp (Nat.le_refl _) nC)
  have ti:=T.item (X.cS s3 H3 scope ce fp) rfl rfl rfl hc i [] s5 _ H5 (fun _ _=>False) I5 (qr I5 n5) sI go
  refine sj ti fun r s6 ⟨u,hr,h6⟩=>?_
  subst hr
  refine sj h6 fun _ s7 ⟨x,H7,I7,r7,y7,Fg,n7⟩=>?_
  have I7':=I7.pinned (qr I7 n7) (T.obj _ _ Fg)
  refine sj (pg _ s7 _ H7 x u _ I7' r7 (step x H7 y7)) fun _ s8 ⟨σ8,H8,I8,XX,q8⟩=>?_
  refine sj (pt _ s8 σ8 H8 _ I8 q8) fun b s9 ⟨H9,I9,q9⟩=>?_
  have fin:∀ {s':Shared}{H':Hp},Inv (X.cS s3 H3 scope ce fp) ([]++uw fp s7.heap) σ8 H' s'->Nx H'->∃ m,m<n/\∃ i H',Inv (X.cS s3 H3 scope ce fp) [] (wipe σ (own.map (·.2))) H' s'/\tn i s'.heap/\(∀ b∈fp,H' b=none)/\W i m H':=fun {s' H'} I' nx=>by
   obtain⟨m',hm,w'⟩:=hNx H' nx
   have Xd:∀ b∈fp,∀ o,s7.heap.get? b=some o->s'.heap.get? b=some o/\H' b=none:=fun b hb o e =>
    let z:=I'.pin (b,o) (List.mem_append_right _ (List.mem_append_right _ (Dg hb e)))
    ⟨z.1,z.2.1⟩
   have hl:(wipe σ (own.map (·.2))).length=σ8.length:=by rw[<- XX,CW]
   refine⟨m',hm,i+1,H',(I'.yE (pins:=[])).weak hl (fun j v e=>?_),T.keep _ _ _ Fg fun b hb o e=>(Xd b hb o e).1,fun b hb=>?_,w'⟩
   ·rw[<- XX] at e
    exact(Dv e).1
   obtain⟨o,e,_⟩:=T.obj _ _ Fg b hb
   exact(Xd b hb o e).2
  cases b with
  | false =>
   simp only [Bool.false_eq_true,if_false] at q9 ⊢
   exact fin I9 q9
  | true =>
   simp only [if_true] at q9 ⊢
   refine sj (pe _ s9 σ8 H9 _ I9 q9) fun z s10 ⟨yv,zM,I10,r10,acc,arG,arH,nx⟩=>?_
   exact aps (X:=X.cS s3 H3 scope ce fp) I10 arG arH r10 fun s11 I11=>fin I11 nx
 exact codeAny_compStart_list loop (T.self X.A 0 _ _ _ XW loop)
theorem iy {elt tg iter:Expr}{ifs:List Expr}{scope:Scope}{own:List (Str×Nat)}{pos:Pos}{wi:TI}{g:TG}{tt:TT}{te:TE} (hc:X.calm=true) (hN:X.N.Nodup) (hi:PI X tg iter wi) (ok:uF X.N X.env.scope scope own)
  (hg:∀ (s:Shared) (H:Hp) (C:Addr) (cl:List (Str×Addr)) (fp:List Addr),PG (X.cS s H scope (compEnvC scope cl C X.env) fp) tg g) (ht:∀ (s:Shared) (H:Hp) (C:Addr) (cl:List (Str×Addr)) (fp:List Addr),vd (X.cS s H scope (compEnvC scope cl C X.env) fp) ifs tt)
  (he:∀ (s:Shared) (H:Hp) (C:Addr) (cl:List (Str×Addr)) (fp:List Addr),PE (X.cS s H scope (compEnvC scope cl C X.env) fp) elt te) (hs:∀ x,foldedSetIterable iter X.env x=pure x:=by intro _;rfl) :
  PE X (.ListComp elt [⟨tg,iter,ifs,0⟩] scope pos) (zL wi g tt te (own.map (·.2))):=by
 intro pins s σ H Q I h
 rw[eval_ListComp]
 refine VM hc hN I hi ok hg ht he hs h fun D C s' m H' I' q hn f=>⟨m,hn,fun iH sb=>?_⟩
 obtain⟨f0,f1,f2,f3,f4,f5⟩:=f
 exact⟨.ref D,H',I'.turned (t':=s'.toks) (fun b o hb e=>(sb.2 b hb).trans e) f0 f1 f3 f4 f5,rfl,q⟩
theorem U4 {i:Nat}{y:Str}{py:Pos}{elt tg iter:Expr}{ifs:List Expr}{scope:Scope}{own:List (Str×Nat)}{pos Xe:Pos}{wi:TI}{g:TG}{tt:TT}{te:TE} (hc:X.calm=true) (hN:X.N.Nodup) (hy:X.N[i]?=some y) (XY:X.env.scope.names.lookup y=some .local)
  (hsw:swapsWith (.ListComp elt [⟨tg,iter,ifs,0⟩] scope pos) (some (.Name y py)) Xe.line X.env=pure true) (hi:PI X tg iter wi) (ok:uF X.N X.env.scope scope own)
  (hg:∀ (s:Shared) (H:Hp) (C:Addr) (cl:List (Str×Addr)) (fp:List Addr),PG (X.cS s H scope (compEnvC scope cl C X.env) fp) tg g) (ht:∀ (s:Shared) (H:Hp) (C:Addr) (cl:List (Str×Addr)) (fp:List Addr),vd (X.cS s H scope (compEnvC scope cl C X.env) fp) ifs tt)
  (he:∀ (s:Shared) (H:Hp) (C:Addr) (cl:List (Str×Addr)) (fp:List Addr),PE (X.cS s H scope (compEnvC scope cl C X.env) fp) elt te) (hs:∀ x,foldedSetIterable iter X.env x=pure x:=by intro _;rfl) :
  PS X (.Assign [.Name y py] (.ListComp elt [⟨tg,iter,ifs,0⟩] scope pos) Xe) (Eo (zL wi g tt te (own.map (·.2))) (zr i)):=by
 intro pins s σ H D I h
 rw[exec_Assign_Name_used _ _ _ _ hsw]
 refine wpAny_bind (wpAny_standAt (wpAny_bind ?_))
 show wpAny _ X.A (do let _ <- comprehension (.ListComp elt [⟨tg,iter,ifs,0⟩] scope pos) scope X.env (firstIterPos [⟨tg,iter,ifs,0⟩] pos) (newList []) false (eval iter X.env) (some (assign (.Name y py) X.env))) _ _ s
 have h:zL wi g tt te (own.map (·.2)) σ H (fun x H1=>zr i x σ H1 D.nx):=h
 refine wpAny_bind (aD (VM (Qf:=fun _ s'=>SP X pins D .next s') hc hN I hi ok hg ht he hs h fun L C s' m H' I' q hn f=>?_) fun _ s' hq=>wpAny_pure (wpAny_pure hq))
 show wpAny _ _ (assign (.Name y py) X.env (.ref L)) _ _ _
 refine wpAny_assign_Name (Ug (v:=V.ref L) I' hN hy (.inl XY) rfl (fun s2 I2 ⟨a,sb,ha⟩=>?_) (.inr XY))
 obtain⟨f0,f1,f2,f3,f4,f5⟩:=f
 have haC:C≠a:=by
  rcases ha with z | z
  ·rw[z];exact f1
  exact fun e=>f4 y a z e.symm
 refine⟨m,hn.sameBut sb haC,fun h3 sb3=>?_⟩
 exact⟨_,H',I2.turned (t':=s2.toks) (fun b o hb e=>(sb3.2 b hb).trans e) f0 f1 f3 f4 f5,q⟩
theorem VN {elt:Expr}{gs:List Comprehension}{scope:Scope}{pos py:Pos}{y:Str}{l:Nat}{env:Env} (hk:env.scope.kind=.function) (hy:env.scope.names.lookup y=some .local) (hl:(py.line==pos.line)=true)
  (ha:(scope.names.any fun (n,k)=>n==y&&(k==.local||k==.cell))=false):swapsWith (.ListComp elt gs scope pos) (some (.Name y py)) l env=pure true:=by
 have ky:env.kindOf y=some .local:=hy
 have hb:env.blockKind=.function:=by unfold Env.blockKind;rw[hk];rfl
 unfold swapsWith
 simp only [hb,ky,ha,Expr.pos,hl]
 rfl
end
theorem U5 {lo:Int}{n:Nat}{g:TG}{tt:TT}{te:TE}{vs:List Nat}{σ:St}{H1:Hp}{D:Addr}{Qd:Hp->Prop} (Pv:Nat->Hp->Prop) (h0:Pv 0 (upd H1 D (.lst [])))
  (hs:∀ i H,i<n->Pv i H->g (.int (lo+i)) (wipe σ vs) H fun σ2 H2=>wipe σ2 vs=wipe σ vs/\tt σ2 H2 fun b H3 =>
   if b=true then te σ2 H3 fun y H4=>∃ acc,H4 D=some (.lst acc)/\acc.length<sizeLine/\Pv (i+1) (upd H4 D (.lst (acc++[y]))) else Pv (i+1) H3) (hd:∀ H,Pv n H->Qd H) :
  ∃ W:Nat->Nat->Hp->Prop,(∃ m,W 0 m (upd H1 D (.lst [])))/\∀ i m H,W i m H ->
   ((mH lo n).stop i H/\Qd H)\/((mH lo n).go i H/\∃ Nx:Hp->Prop,(∀ H',Nx H'->∃ m',m'<m/\W (i+1) m' H')/\∀ x H',(mH lo n).fT i H x H'->g x (wipe σ vs) H' fun σ2 H2=>wipe σ2 vs=wipe σ vs/\tt σ2 H2 fun b H3 =>
    if b=true then te σ2 H3 fun y H4=>∃ acc,H4 D=some (.lst acc)/\acc.length<sizeLine/\Nx (upd H4 D (.lst (acc++[y]))) else Nx H3):=by
 refine⟨fun i m H=>m=n-i/\i<=n/\Pv i H,⟨n,by simp,Nat.zero_le _,h0⟩,?_⟩
 rintro i m H ⟨rfl,hi,p⟩
 by_cases aO:i<n
 ·refine .inr ⟨aO,Pv (i+1),fun H' p'=>⟨n-(i+1),by omega,rfl,aO,p'⟩,fun x H' y=>?_⟩
  obtain⟨e,y⟩:=y
  subst e y
  exact hs i _ aO p
 have e:i=n:=by omega
 subst e
 exact .inl ⟨Nat.le_refl _,hd H p⟩
theorem jh {K:W.Frag}{a:Addr}{xs:List V}{g:TG}{tt:TT}{te:TE}{vs:List Nat}{σ:St}{H1:Hp}{D:Addr}{Qd:Hp->Prop} (Pv:Nat->Hp->Prop) (h0:Pv 0 (upd H1 D (.lst []))) (hl:∀ i H,i<=xs.length->Pv i H->aq K H a xs)
  (hs:∀ i x H,xs[i]?=some x->Pv i H->g x (wipe σ vs) H fun σ2 H2=>wipe σ2 vs=wipe σ vs/\tt σ2 H2 fun b H3 =>
   if b=true then te σ2 H3 fun y H4=>∃ acc,H4 D=some (.lst acc)/\acc.length<sizeLine/\Pv (i+1) (upd H4 D (.lst (acc++[y]))) else Pv (i+1) H3) (hd:∀ H,Pv xs.length H->Qd H) :
  ∃ W:Nat->Nat->Hp->Prop,(∃ m,W 0 m (upd H1 D (.lst [])))/\∀ i m H,W i m H ->
   ((pw K a).stop i H/\Qd H)\/((pw K a).go i H/\∃ Nx:Hp->Prop,(∀ H',Nx H'->∃ m',m'<m/\W (i+1) m' H')/\∀ x H',(pw K a).fT i H x H'->g x (wipe σ vs) H' fun σ2 H2=>wipe σ2 vs=wipe σ vs/\tt σ2 H2 fun b H3 =>
    if b=true then te σ2 H3 fun y H4=>∃ acc,H4 D=some (.lst acc)/\acc.length<sizeLine/\Nx (upd H4 D (.lst (acc++[y]))) else Nx H3):=by
 refine⟨fun i m H=>m=xs.length-i/\i<=xs.length/\Pv i H,⟨xs.length,by simp,Nat.zero_le _,h0⟩,?_⟩
 rintro i m H ⟨rfl,hi,p⟩
 have q:=hl i H hi p
 by_cases aO:i<xs.length
 ·refine .inr ⟨⟨xs,xs[i],q,by simp[aO]⟩,Pv (i+1),fun H' p'=>⟨xs.length-(i+1),by omega,rfl,aO,p'⟩,fun x H' y=>?_⟩
  obtain⟨e,y⟩:=y
  subst e
  exact hs i x _ (y xs q) p
 have e:i=xs.length:=by omega
 subst e
 exact .inl ⟨⟨xs,q,Nat.le_refl _⟩,hd H p⟩
end L2
namespace L2
open PySem PySem.Spec PyProof.Rows
section
variable {prog:Program}{w:World}{A:Around}{R:Result->Shared->Prop}{s:Shared}{elt t0 i0 t1 i1:Expr}{auZ av0:List Expr}{scope:Scope}{pos:Pos}{it acc:Value}{env:Env}
end
section
variable {X:Cx}
end
end L2
namespace L2
open PySem PySem.Spec PyProof.Rows
section
variable {κ:Type} [DecidableEq κ]
def cM (ae:List (κ×V)) (k:κ):Option V:=(ae.find? fun kv=>decide (kv.1=k)).map (·.2)
def putK (ae:List (κ×V)) (k:κ) (v:V):List (κ×V) :=
 if (ae.any fun kv=>decide (kv.1=k))=true then ae.map (fun kv=>if kv.1=k then (kv.1,v) else kv) else ae++[(k,v)]
theorem ij {p:κ×V}{r:List (κ×V)}{k:κ} (e:p.1=k):cM (p::r) k=some p.2:=by simp[cM,List.find?_cons,e]
theorem ik {p:κ×V}{r:List (κ×V)}{k:κ} (e:¬ p.1=k):cM (p::r) k=cM r k:=by simp[cM,List.find?_cons,e]
theorem yG (k:κ):∀ ae:List (κ×V),(ae.any fun kv=>decide (kv.1=k))=(cM ae k).isSome
 | []=>rfl
 | p::r=>by
  rw[List.any_cons]
  by_cases e:p.1=k
  ·simp only [ij e,decide_eq_true e,Bool.true_or,Option.isSome_some]
  rw[ik e,decide_eq_false e,Bool.false_or];exact yG k r
theorem U6 (k j:κ) (y:V):∀ ae:List (κ×V),cM (ae.map fun kv=>if kv.1=k then (kv.1,y) else kv) j=(cM ae j).map fun x=>if j=k then y else x
 | []=>rfl
 | p::r=>by
  have ih:=U6 k j y r
  rw[List.map_cons]
  by_cases h:p.1=k
  ·rw[if_pos h]
   by_cases e:p.1=j
   ·rw[ij (p:=(p.1,y)) e,ij e,Option.map_some,if_pos (e.symm.trans h)]
   rw[ik (p:=(p.1,y)) e,ik e,ih]
  rw[if_neg h]
  by_cases e:p.1=j
  ·rw[ij (p:=p) e,ij e,Option.map_some,if_neg (fun z=>h (e.trans z))]
  rw[ik (p:=p) e,ik e,ih]
theorem Uq (k j:κ) (y:V):∀ ae:List (κ×V),cM ae k=none->cM (ae++[(k,y)]) j=if j=k then some y else cM ae j
 | [],_=>by
  by_cases e:k=j
  ·rw[if_pos e.symm];exact ij (p:=(k,y)) e
  rw[if_neg (fun z=>e z.symm)];exact ik (p:=(k,y)) e
 | p::r,hn=>by
  rw[List.cons_append]
  have hk:¬ p.1=k:=fun z=>by rw[ij z] at hn;cases hn
  rw[ik hk] at hn
  have ih:=Uq k j y r hn
  by_cases e:p.1=j
  ·rw[ij e,ij e,if_neg (fun z=>hk (e.trans z))]
  rw[ik e,ik e,ih]
theorem amg (ae:List (κ×V)) (k j:κ) (y:V):cM (putK ae k y) j=if j=k then some y else cM ae j:=by
 unfold putK
 by_cases a:(ae.any fun kv=>decide (kv.1=k))=true
 ·rw[if_pos a,U6]
  rw[yG] at a
  by_cases e:j=k
  ·obtain⟨x,hx⟩:=Option.isSome_iff_exists.mp a
   rw[if_pos e,e,hx,Option.map_some,if_pos rfl]
  rw[if_neg e]
  cases cM ae j with
  | none=>rfl
  | some x=>rw[Option.map_some,if_neg e]
 rw[if_neg a]
 refine Uq k j y ae ?_
 rw[yG] at a
 cases q:cM ae k with
 | none=>rfl
 | some x=>rw[q] at a;exact(a rfl).elim
theorem CY (ae:List (κ×V)) (k:κ) (v:V):(putK ae k v).length<=ae.length+1:=by
 unfold putK
 split
 ·rw[List.length_map];omega
 rw[List.length_append,List.length_cons,List.length_nil];omega
theorem dP.Dx {o:Option V}{u:Option Value} (r:dP o u):o.isSome=u.isSome:=by
 cases o with
 | none=>cases u with
  | none=>rfl
  | some _=>exact(show False from r).elim
 | some _=>cases u with
  | none=>exact(show False from r).elim
  | some _=>rfl
theorem dP.getD {o:Option V}{u:Option Value}{d:V}{d':Value} (r:dP o u) (rd:RelV d d'):RelV (o.getD d) (u.getD d'):=by
 cases o with
 | none=>cases u with
  | none=>exact rd
  | some _=>exact(show False from r).elim
 | some _=>cases u with
  | none=>exact(show False from r).elim
  | some _=>exact r
theorem KV.val {ae:List (κ×V)}{vs:List (κ×Value)} (r:KV ae vs) (k:κ):dP (cM ae k) (valueAt vs k):=by
 unfold KV at r
 induction r with
 | nil=>exact True.intro
 | @cons p q ps qs h t ih =>
  obtain⟨h1,h2⟩:=h
  by_cases e:p.1=k
  ·have e':q.1=k:=h1.symm.trans e
   have b:valueAt (q::qs) k=some q.2:=by simp[valueAt,List.find?_cons,e']
   rw[ij e,b];exact h2
  have e':¬ q.1=k:=fun z=>e (h1.trans z)
  have b:valueAt (q::qs) k=valueAt qs k:=by simp[valueAt,List.find?_cons,e']
  rw[ik e,b];exact ih
theorem KV.any {ae:List (κ×V)}{vs:List (κ×Value)} (r:KV ae vs) (k:κ):(ae.any fun kv=>decide (kv.1=k))=vs.any fun kv=>decide (kv.1=k):=by
 unfold KV at r
 induction r with
 | nil=>rfl
 | cons h t ih=>rw[List.any_cons,List.any_cons,ih,h.1]
theorem KV.Ey {ae:List (κ×V)}{vs:List (κ×Value)} (r:KV ae vs) (k:κ) {y:V}{u:Value} (ry:RelV y u) :
  KV (ae.map fun kv=>if kv.1=k then (kv.1,y) else kv) (vs.map fun kv=>if kv.1=k then (kv.1,u) else kv):=by
 unfold KV at r ⊢
 induction r with
 | nil=>exact .nil
 | @cons p q ps qs h t ih =>
  rw[List.map_cons,List.map_cons]
  refine .cons ?_ ih
  obtain⟨h1,h2⟩:=h
  by_cases e:p.1=k
  ·rw[if_pos e,if_pos (h1.symm.trans e)];exact⟨h1,ry⟩
  rw[if_neg e,if_neg (fun z=>e (h1.trans z))];exact⟨h1,h2⟩
theorem KV.put {ae:List (κ×V)}{vs:List (κ×Value)} (r:KV ae vs) (k:κ) {y:V}{u:Value} (ry:RelV y u):KV (putK ae k y) (stored vs k u):=by
 unfold putK stored
 rw[r.any k]
 by_cases e:(vs.any fun kv=>decide (kv.1=k))=true
 ·rw[if_pos e,if_pos e];exact r.Ey k ry
 rw[if_neg e,if_neg e];exact Paired.snoc r ⟨rfl,ry⟩
theorem KV.length {ae:List (κ×V)}{vs:List (κ×Value)} (r:KV ae vs):ae.length=vs.length:=Paired.length r
end
theorem qi {P:Program}{w:World}{k:Key}{u:Value} (r:RelV (kV k) u):(cJ P w).is k u=true:=by
 cases k with
 | inl i=>obtain⟨t,e⟩:=(show ∃ t,u=Value.int i t from r);subst e;exact ahq P w i t
 | inr x=>obtain⟨t,e⟩:=(show ∃ t,u=Value.str x t from r);subst e;exact xW P w x t
theorem Ur {P:Program}{w:World}:∀ {ks:List Key}{us:List Value},Vals (ks.map kV) us->ItemsAre (cJ P w) ks us
 | [],_,r=>by rw[List.map_nil] at r;cases r;exact .nil
 | k::ks,_,r=>by
  rw[List.map_cons] at r
  cases r with
  | cons h t=>exact .cons (qi h) (Ur t)
abbrev KT (H:Hp):List (List Key×V)->List (List Key×Addr×Value)->Prop:=Paired fun p q=>p.1=q.1/\H q.2.1=some (.tup (p.1.map kV))/\RelV p.2 q.2.2
theorem KT.val {H:Hp}{ae:List (List Key×V)}{xs:List (List Key×Addr×Value)} (r:KT H ae xs) (k:List Key):dP (cM ae k) ((atKey xs k).map (·.2)):=by
 induction r with
 | nil=>exact True.intro
 | @cons p q ps qs h t ih =>
  obtain⟨h1,_,h2⟩:=h
  by_cases e:p.1=k
  ·have e':q.1=k:=h1.symm.trans e
   have b:atKey (q::qs) k=some q.2:=by simp[atKey,List.find?_cons,e']
   rw[ij e,b];exact h2
  have e':¬ q.1=k:=fun z=>e (h1.trans z)
  have b:atKey (q::qs) k=atKey qs k:=by simp[atKey,List.find?_cons,e']
  rw[ik e,b];exact ih
theorem KT.Ey {H:Hp}{ae:List (List Key×V)}{xs:List (List Key×Addr×Value)} (r:KT H ae xs) (k:List Key) {y:V}{u:Value} (ry:RelV y u) :
  KT H (ae.map fun kv=>if kv.1=k then (kv.1,y) else kv) (xs.map (putAt k u)):=by
 induction r with
 | nil=>exact .nil
 | @cons p q ps qs h t ih =>
  rw[List.map_cons,List.map_cons]
  refine .cons ?_ ih
  obtain⟨h1,h2,h3⟩:=h
  unfold putAt
  by_cases e:p.1=k
  ·rw[if_pos e,if_pos (h1.symm.trans e)];exact⟨h1,h2,ry⟩
  rw[if_neg e,if_neg (fun z=>e (h1.trans z))];exact⟨h1,h2,h3⟩
theorem KT.put {H:Hp}{ae:List (List Key×V)}{xs:List (List Key×Addr×Value)} (r:KT H ae xs) (k:List Key) {b:Addr}{y:V}{u:Value} (hb:H b=some (.tup (k.map kV))) (ry:RelV y u) :
  KT H (putK ae k y) (storedH xs k b u):=by
 have e:(ae.any fun kv=>decide (kv.1=k))=(atKey xs k).isSome:=by
  rw[yG,(r.val k).Dx,Option.isSome_map]
 unfold putK storedH
 rw[e]
 by_cases q:(atKey xs k).isSome=true
 ·rw[if_pos q,if_pos q];exact r.Ey k ry
 rw[if_neg q,if_neg q];exact Paired.snoc r ⟨rfl,hb,ry⟩
theorem KT.keeps {H H':Hp}{ae:List (List Key×V)}{xs:List (List Key×Addr×Value)} (r:KT H ae xs) (ht:∀ b ys,H b=some (.tup ys)->H' b=some (.tup ys)):KT H' ae xs :=
 Paired.Em r fun _ _ z=>⟨z.1,ht _ _ z.2.1,z.2.2⟩
section
variable {P:Program}{w:World}{H:Hp}{h:Heap}{a:Addr}
theorem WM {u:HO} (ok:bO P w H h) (e:Rd H a u):cN P w H h a u:=e.ok ok
theorem rY {ae:List (Key×V)} (ok:bO P w H h) (e:Rd H a (.dK ae)):ae.length<=sizeLine/\(a==sysModules)=false/\∃ vs,KV ae vs/\h.DictOf (cJ P w) a vs :=
 show cN P w H h a (.dK ae) from WM ok e
theorem aqv {ae:List (Key×V)} (ok:bO P w H h) (e:H a=some (.dK ae)):ae.length<=sizeLine/\(a==sysModules)=false/\∃ vs,KV ae vs/\h.DictOf (cJ P w) a vs:=rY ok (.inl e)
theorem uz {ks:List Key} (ok:bO P w H h) (e:H a=some (.tup (ks.map kV))):(tupleKind (cJ P w)).is h ks a:=by
 obtain⟨_,aj,r,o,h1,h2,n,h3⟩:=(show cN P w H h a (.tup (ks.map kV)) from ok a _ e)
 exact⟨o,aj.toArray,n,h1,h2,h3,by simpa using Ur r⟩
theorem rZ {ae:List (List Key×V)} (ok:bO P w H h) (e:Rd H a (.dT ae)):ae.length<=sizeLine/\(a==sysModules)=false /\
  ∃ xs,KT H ae xs/\h.DictOfH (tupleKind (cJ P w)) a xs:=by
 obtain⟨z,y,xs,r,o,es,ep,h1,h2,h3,h4,h5⟩:=(show cN P w H h a (.dT ae) from WM ok e)
 refine⟨z,y,xs,r,o,es,ep,h1,h2,h3,h4,fun x hx=>?_,h5⟩
 have all:∀ {l:List (List Key×V)}{m:List (List Key×Addr×Value)},KT H l m->∀ x∈m,(tupleKind (cJ P w)).is h x.1 x.2.1:=by
  intro l m q
  induction q with
  | nil=>intro x hx;exact nomatch hx
  | @cons p q ps qs hq t ih =>
   intro x hx
   rcases List.mem_cons.mp hx with e | hx
   ·subst e
    exact uz ok (by rw[<- hq.1];exact hq.2.1)
   exact ih x hx
 exact all r x hx
theorem aqw {ae:List (List Key×V)} (ok:bO P w H h) (e:H a=some (.dT ae)):ae.length<=sizeLine/\(a==sysModules)=false /\
  ∃ xs,KT H ae xs/\h.DictOfH (tupleKind (cJ P w)) a xs:=rZ ok (.inl e)
end
def gh (H:Hp) (a:Addr) (y:V) (r:Option V):Prop :=
 (∃ ae k,Rd H a (.dK ae)/\y=kV k/\r=cM ae k)\/∃ ae k b,Rd H a (.dT ae)/\y=.ref b/\H b=some (.tup (k.map kV))/\r=cM ae k
def mC (H:Hp) (a:Addr) (y v:V) (H':Hp):Prop :=
 (∃ ae k,H a=some (.dK ae)/\y=kV k/\ae.length<sizeLine/\H'=upd H a (.dK (putK ae k v))) \/
 ∃ ae k b,H a=some (.dT ae)/\y=.ref b/\H b=some (.tup (k.map kV))/\ae.length<sizeLine/\H'=upd H a (.dT (putK ae k v))
theorem gh.k {H:Hp}{a:Addr}{ae:List (Key×V)}{k:Key} (e:H a=some (.dK ae)):gh H a (kV k) (cM ae k):=.inl ⟨ae,k,.inl e,rfl,rfl⟩
theorem gh.t {H:Hp}{a b:Addr}{ae:List (List Key×V)}{k:List Key} (e:H a=some (.dT ae)) (eb:H b=some (.tup (k.map kV))):gh H a (.ref b) (cM ae k):=.inr ⟨ae,k,b,.inl e,rfl,eb,rfl⟩
theorem mC.k {H:Hp}{a:Addr}{ae:List (Key×V)}{k:Key}{v:V} (e:H a=some (.dK ae)) (hl:ae.length<sizeLine):mC H a (kV k) v (upd H a (.dK (putK ae k v))):=.inl ⟨ae,k,e,rfl,hl,rfl⟩
theorem mC.t {H:Hp}{a b:Addr}{ae:List (List Key×V)}{k:List Key}{v:V} (e:H a=some (.dT ae)) (eb:H b=some (.tup (k.map kV))) (hl:ae.length<sizeLine) :
  mC H a (.ref b) v (upd H a (.dT (putK ae k v))):=.inr ⟨ae,k,b,e,rfl,eb,hl,rfl⟩
section
variable {X:Cx}{pins:List (Addr×Obj)}{σ:St}{H:Hp}{s:Shared}{a:Addr}{y v:V}{u r:Value}{o:Option V}{A:Around}{E:Value->Shared->Prop}
theorem Inv.big (I:Inv X pins σ H s):sysModules<s.heap.objs.size:=by
 have h:mainGlobals<s.heap.objs.size:=(I.mod.glob.keeps I.bk).lt
 exact Nat.lt_trans (by decide) h
theorem akJ {Q:Value->Shared->Prop} (hu:A.units+1<cLine) (I:Inv X pins σ H s) (g:gh H a y (some v)) (ry:RelV y u) (h:∀ w' s',Inv X pins σ H s'->RelV v w'->Q w' s') :
  wpAny (model X.prog X.w) A (getItem (.ref a) u) Q E s:=by
 rcases g with ⟨ae,k,e,ey,l⟩ | ⟨ae,k,b,e,ey,eb,l⟩
 ·subst ey
  obtain⟨z,hd,vs,rel,dd⟩:=rY I.az e
  obtain⟨w',hw,gY⟩:=dP.some_of (v:=v) (o:=valueAt vs k) (by rw[l];exact rel.val k)
  exact wpAny_getItem_of (qi ry) dd.mapOf hw (h w' _ (I.tok _) gY)
 subst ey
 cases (show u=Value.ref b from ry)
 obtain⟨z,hd,xs,rel,dd⟩:=rZ I.az e
 obtain⟨w',hw,gY⟩:=dP.some_of (v:=v) (o:=(atKey xs k).map (·.2)) (by rw[l];exact rel.val k)
 obtain⟨p,hp,Fh⟩:=Option.map_eq_some_iff.mp hw
 refine wpAny_getItem_heap (tupleKind_room_in1 hu) (uz I.az eb) dd hp ?_
 rw[Fh]
 exact h w' _ (I.tok _) gY
theorem arI {Q:Value->Shared->Prop} (hu:A.units+1<cLine) (I:Inv X pins σ H s) (g:gh H a y o) (ry:RelV y u) (h:∀ s',Inv X pins σ H s'->Q (.bool o.isSome) s') :
  wpAny (model X.prog X.w) A (compareOp .In u (.ref a)) Q E s:=by
 rcases g with ⟨ae,k,e,ey,l⟩ | ⟨ae,k,b,e,ey,eb,l⟩
 ·subst ey
  obtain⟨z,hd,vs,rel,dd⟩:=rY I.az e
  refine wpAny_in_of (qi ry) hd dd.mapOf ?_
  rw[<- (rel.val k).Dx,<- l]
  exact h _ (I.tok _)
 subst ey
 cases (show u=Value.ref b from ry)
 obtain⟨z,hd,xs,rel,dd⟩:=rZ I.az e
 refine wpAny_in_heap (tupleKind_room_in1 hu) (uz I.az eb) hd dd ?_
 have q:=(rel.val k).Dx
 rw[Option.isSome_map] at q
 rw[<- q,<- l]
 exact h _ (I.tok _)
theorem VO {h':Heap}{t':Nat}{ob:HO} (I:Inv X pins σ H s) (mu:oj (H a)) (hs:Heap.SameBut a s.heap h') (he:∃ q,h'.get? a=some q) (new:cN X.prog X.w (upd H a ob) h' a ob) :
  Inv X pins σ (upd H a ob) {s with heap:=h',toks:=t'} :=
 I.write (x:=a) (e:=a) mu (.inl rfl) (fun b q hb z=>(hs.2 b hb).trans z) he new
theorem apt {P:Program}{w:World}{H':Hp}{h':Heap}{ae:List (Key×V)}{vs:List (Key×Value)} (z:ae.length<=sizeLine) (hd:(a==sysModules)=false) (rel:KV ae vs) (dd:h'.DictOf (cJ P w) a vs) :
  cN P w H' h' a (.dK ae):=⟨z,hd,vs,rel,dd⟩
theorem akK {H':Hp}{Q:Unit->Shared->Prop} (hu:A.units+1<cLine) (I:Inv X pins σ H s) (g:mC H a y v H') (ry:RelV y u) (rv:RelV v r) (h:∀ s',Inv X pins σ H' s'->Q () s') :
  wpAny (model X.prog X.w) A (setItem (.ref a) u r) Q E s:=by
 rcases g with ⟨ae,k,e,ey,l,eH⟩ | ⟨ae,k,b,e,ey,eb,l,eH⟩
 ·subst ey eH
  obtain⟨z,hd,vs,rel,dd⟩:=aqv I.az e
  have hz:vs.length<=sizeLine:=by rw[<- rel.length];exact z
  have hl:(putK ae k v).length<=sizeLine:=by have:=CY ae k v;omega
  refine wpAny_setItem_pairs (hsz:=hz) (qi ry) dd fun h' sQ hs=>h _ ?_
  have he:∃ q,h'.get? a=some q:=let ⟨q,_,_,hq,_⟩:=sQ;⟨q,hq⟩
  exact VO I (by rw[e];exact True.intro) hs he (apt hl hd (rel.put k rv) sQ)
 subst ey eH
 cases (show u=Value.ref b from ry)
 obtain⟨z,hd,xs,rel,dd⟩:=aqw I.az e
 have hz:xs.length<=sizeLine:=by rw[<- Paired.length rel];exact z
 have hl:(putK ae k v).length<=sizeLine:=by have:=CY ae k v;omega
 refine wpAny_setItem_heap (hsz:=hz) (tupleKind_room_in1 hu) (uz I.az eb) dd fun h' sQ hs=>h _ ?_
 obtain⟨q,es,ep,hq,h2,h3,h4,_,h5⟩:=sQ
 refine VO I (by rw[e];exact True.intro) hs ⟨q,hq⟩ ⟨hl,hd,_,(rel.put k eb rv).keeps fun c ys ec=>?_,q,es,ep,hq,h2,h3,h4,h5⟩
 rw[ai (WE ec e (fun z=>nomatch z))]
 exact ec
end
section
variable {X:Cx}{pins:List (Addr×Obj)}{σ:St}{H:Hp}{s:Shared}{a:Addr}{ae:List (Key×V)}{k:Key}{u:Value}{A:Around}{E:Value->Shared->Prop}
end
def Ez (i:Expr):Prop:=∀ ov iv,subscripted i false ov iv=operate [ov,iv] (getItem ov iv)
theorem VP {prog:Program}{w:World}{A:Around}{E:Value->Shared->Prop}{s:Shared}{env:Env}{value slice:Expr}{pos:Pos}{T id:String}{Q:Value->Shared->Prop}
  (hl:typeLookup (.type T) "__getitem__"=pure (some (.builtin id))) (hs:Ez slice)
  (h:wpAny (model prog w) A (eval value env) (fun o s₁=>wpAny (model prog w) A (eval slice env) (fun i s₂=>s₂.TypeIs o T/\wpAny (model prog w) A (getItem o i) Q E s₂) E s₁) E s) :
  wpAny (model prog w) A (eval (.Subscript value slice pos) env) Q E s:=by
 refine Subscript_ (wpAny_mono h (fun o s₁ h₁=>wpAny_mono h₁ (fun i s₂ h₂=>?_) fun _ _ x=>x) fun _ _ x=>x)
 obtain⟨hT,h₂⟩:=h₂
 unfold subscriptTail
 refine wpAny_bind ?_
 rw[getitemInPython_of_ne hT.not_modules]
 refine wpAny_bind (wpAny_specialOf hT hl ?_)
 have fin:wpAny (model prog w) A (subscripted slice false o i) (fun r s₃=>wpAny (model prog w) A (letTemporaryGo value o r >>= fun _=>pure r) Q E s₃) E s₂:=by
  rw[hs o i]
  exact wpAny_operating (wpAny_mono h₂ (fun r s₃ h₃=>wpAny_bind (wpAny_letTemporaryGo (wpAny_pure h₃))) fun _ _ x=>x)
 first
  | exact wpAny_pure (wpAny_bind fin)
  | exact wpAny_bind (wpAny_pure (wpAny_bind fin))
  | exact wpAny_bind fin
theorem ahu {X:Cx}{pins:List (Addr×Obj)}{σ:St}{H:Hp}{s:Shared}{a:Addr}{y:V}{o:Option V} (I:Inv X pins σ H s) (g:gh H a y o):s.TypeIs (.ref a) "dict":=by
 rcases g with ⟨ae,k,e,_,_⟩ | ⟨ae,k,b,e,_,_,_⟩
 ·obtain⟨_,_,vs,_,dd⟩:=rY I.az e
  exact dd.typeIs
 obtain⟨_,_,xs,_,dd⟩:=rZ I.az e
 exact dd.typeIs
def aqx (td ty:TE):TE:=fun σ H Q=>td σ H fun x H1=>ty σ H1 fun y H2=>∃ a v,x=.ref a/\gh H2 a y (some v)/\Q v H2
def arJ (ty td:TE):TE:=fun σ H Q=>ty σ H fun y H1=>td σ H1 fun x H2=>∃ a o,x=.ref a/\gh H2 a y o/\Q (.bl o.isSome) H2
def aqy (td ty tv:TE):TS:=fun D σ H=>tv σ H fun v H1=>td σ H1 fun x H2=>ty σ H2 fun y H3=>∃ a H4,x=.ref a/\mC H3 a y v H4/\D.nx σ H4
section
variable {X:Cx}{o i e value:Expr}{pos pos' gg:Pos}{td ty tv:TE}
theorem VQ (hu:X.A.units+1<cLine) (ho:PE X o td) (hi:PE X i ty) (hs:Ez i):PE X (.Subscript o i pos) (aqx td ty):=by
 intro pins s σ H Q I h
 refine VP PySem.F.slot_dict_getitem.lookup hs (aD (ho pins s σ H _ I h) fun u s1 ⟨x,H1,I1,rx,q1⟩=>aD (hi pins s1 σ H1 _ I1 q1) fun iv s2 ⟨y,H2,I2,ry,a,v,ex,g,q2⟩=>?_)
 subst ex
 obtain rfl:u=Value.ref a:=rx
 exact⟨ahu I2 g,akJ hu I2 g ry fun w' s3 I3 gY=>⟨v,H2,I3,gY,q2⟩⟩
theorem apu (hu:X.A.units+1<cLine) (hi:PE X i ty) (ho:PE X o td):PC X .In i o (arJ ty td):=by
 intro pins s σ H Q I h
 refine aD (hi pins s σ H _ I h) fun iv s1 ⟨y,H1,I1,ry,q1⟩=>aD (ho pins s1 σ H1 _ I1 q1) fun u s2 ⟨x,H2,I2,rx,a,ov,ex,g,q2⟩=>?_
 subst ex
 obtain rfl:u=Value.ref a:=rx
 exact arI hu I2 g ry fun s3 I3=>⟨.bl ov.isSome,H2,I3,rfl,q2⟩
theorem yQ (hu:X.A.units+1<cLine) (ho:PE X o td) (hi:PE X i ty) (hv:PE X value tv) (hs:swapsWith value (some (.Subscript o i pos')) pos.line X.env=pure false) :
  PS X (.Assign [.Subscript o i pos'] value pos) (aqy td ty tv):=by
 intro pins s σ H D I h
 refine wpAny_Assign_Subscript (aD (hv pins s σ H _ I h) fun r s1 ⟨v,H1,I1,rv,q1⟩=>aD (ho pins s1 σ H1 _ I1 q1) fun u s2 ⟨x,H2,I2,rx,q2⟩=>aD (hi pins s2 σ H2 _ I2 q2) fun iv s3 ⟨y,H3,I3,ry,a,H4,ex,g,q3⟩=>?_) hs
 subst ex
 obtain rfl:u=Value.ref a:=rx
 exact akK hu I3 g ry rv fun s4 I4=>⟨σ,H4,I4,q3⟩
end
theorem amh {P:Program}{w:World}{H:Hp} (h:Heap) (hb:sysModules<h.objs.size):cN P w H (h.push {cls:=.type "dict",data:=.dict #[]}) h.objs.size (.dK []) :=
 ⟨Nat.zero_le _,beq_eq_false_iff_ne.mpr (Ne.symm (Nat.ne_of_lt hb)),[],.nil,Heap.DictOf.new h⟩
theorem ami {P:Program}{w:World}{H:Hp} (h:Heap) (hb:sysModules<h.objs.size):cN P w H (h.push {cls:=.type "dict",data:=.dict #[]}) h.objs.size (.dT []) :=
 ⟨Nat.zero_le _,beq_eq_false_iff_ne.mpr (Ne.symm (Nat.ne_of_lt hb)),[],.nil,_,#[],0,Heap.get?_push_size _ rfl,⟨rfl,rfl,rfl⟩,rfl,rfl,List.nodup_nil⟩
def apv:TE:=fun _ H Q=>∀ p,H p=none->Q (.ref p) (upd H p (.dK []))
def apw:TE:=fun _ H Q=>∀ p,H p=none->Q (.ref p) (upd H p (.dT []))
section
variable {X:Cx}{pos:Pos}
theorem DN:PE X (.Dict [] [] pos) apv:=fun pins s σ H Q I h =>
 wpAny_Dict_empty ⟨.ref s.heap.objs.size,_,I.laid (a:=s.heap.objs.size) (o:=.dK []) (t':=s.toks) (fun _ _ q=>Heap.get?_push_of_some _ q) (Nat.le_refl _) (amh s.heap I.big),rfl,h _ (I.az.fresh (Nat.le_refl _))⟩
theorem U7:PE X (.Dict [] [] pos) apw:=fun pins s σ H Q I h =>
 wpAny_Dict_empty ⟨.ref s.heap.objs.size,_,I.laid (a:=s.heap.objs.size) (o:=.dT []) (t':=s.toks) (fun _ _ q=>Heap.get?_push_of_some _ q) (Nat.le_refl _) (ami s.heap I.big),rfl,h _ (I.az.fresh (Nat.le_refl _))⟩
end
structure M1 (X:Cx) (o:Expr) (m:Str) (apos:Pos) (e:Expr) (cQ:Pos):Prop where
 base:attributeBase o m X.env (eval o X.env)=eval o X.env
 pB:((backTo cQ (starEach [e] X.env)).all (fun x=>!x.1)&&(backToKw cQ (keywordEach [] X.env)).all (fun x=>x.1.isSome)
  && decide (([e]:List Expr).length+([]:List Keyword).length+(if ([]:List Keyword).isEmpty then 0 else 1)<30))=true
 line:(apos.endLine==cQ.line)=true
 trees:backTo cQ (starEach [e] X.env)=[(false,eval e X.env)]
def XZ (H:Hp) (a:Addr):Prop:=(∃ ae,Rd H a (.dK ae))\/∃ ae,Rd H a (.dT ae)
theorem apx {X:Cx}{pins:List (Addr×Obj)}{σ:St}{H:Hp}{s:Shared}{a:Addr} (I:Inv X pins σ H s) (d:XZ H a) :
  s.TypeIs (.ref a) "dict"/\(∀ b,Value.ref a=.ref b->∃ ob,s.heap.get? b=some ob/\ob.dict=none)/\(a==sysModules)=false:=by
 rcases d with ⟨ae,e⟩ | ⟨ae,e⟩
 ·obtain⟨_,hd,vs,_,dd⟩:=rY I.az e
  refine⟨dd.typeIs,fun b q=>?_,hd⟩
  cases q
  obtain⟨ob,_,_,h1,h2,_⟩:=dd
  exact⟨ob,h1,h2.2.1⟩
 obtain⟨_,hd,xs,_,dd⟩:=rZ I.az e
 refine⟨dd.typeIs,fun b q=>?_,hd⟩
 cases q
 obtain⟨ob,_,_,h1,h2,_⟩:=dd
 exact⟨ob,h1,h2.2.1⟩
section
variable {X:Cx}{pins:List (Addr×Obj)}{σ:St}{H:Hp}{s:Shared}{a:Addr}{y d:V}{u r:Value}{o:Option V}{A:Around}{E:Value->Shared->Prop}
theorem apy {Q:Value->Shared->Prop} (hu:A.units+1<cLine) (I:Inv X pins σ H s) (g:gh H a y o) (ry:RelV y u) (h:∀ w' s',Inv X pins σ H s'->RelV (o.getD .aH) w'->Q w' s') :
  wpAny (model X.prog X.w) A (call (.builtin "dict.get") [.ref a,u]) Q E s:=by
 rcases g with ⟨ae,k,e,ey,l⟩ | ⟨ae,k,b,e,ey,eb,l⟩
 ·subst ey
  obtain⟨z,hd,vs,rel,dd⟩:=rY I.az e
  refine call_meetsIn PySem.F.slot_dict_get dd.typeIs PySem.F.entry_dict_get (PySem.F.args_dict_get_2 _ _) (meets_dict_get (cJ X.prog X.w) a (qi ry) hd) ⟨_,dd.mapOf,h _ _ (I.tok _) ?_⟩
  rw[l]
  exact(rel.val k).getD rfl
 subst ey
 cases (show u=Value.ref b from ry)
 obtain⟨z,hd,xs,rel,dd⟩:=rZ I.az e
 refine call_meetsIn PySem.F.slot_dict_get dd.typeIs PySem.F.entry_dict_get (PySem.F.args_dict_get_2 _ _) (meetsH_dict_get (tupleKind (cJ X.prog X.w)) a b hd) ⟨tupleKind_room_in1 hu,k,xs,uz I.az eb,dd,h _ _ (I.tok _) ?_⟩
 rw[l]
 exact(rel.val k).getD rfl
end
def apz (td ty:TE):TE:=fun σ H Q=>td σ H fun x H1=>∃ a,x=.ref a/\XZ H1 a/\ty σ H1 fun y H2=>∃ o,gh H2 a y o/\Q (o.getD .aH) H2
section
variable {X:Cx}{o e f:Expr}{apos cQ:Pos}{td ty tx:TE}
theorem amj (hu:X.A.units+1<cLine) (ho:PE X o td) (he:PE X e ty) (m:M1 X o "get" apos e cQ):PE X (.Call (.Attribute o "get" apos) [e] [] cQ) (apz td ty):=by
 intro pins s σ H Q I h
 refine wpAny_Call_method m.base m.pB m.line PySem.F.plainAttrs_dict PySem.F.slot_dict_get PySem.F.type_dict_get (aD (ho pins s σ H _ I h) fun u s1 ⟨x,H1,I1,rx,a,ex,d,q1⟩=>?_)
 subst ex
 obtain rfl:u=Value.ref a:=rx
 obtain⟨t1,t2,_⟩:=apx I1 d
 refine⟨t1,t2,?_⟩
 rw[m.trees]
 refine Calls.callWith_builtin rfl (Calls.evalArgs_plain (Calls.spliced_cons (aD (he pins s1 σ H1 _ I1 q1) fun iv s2 ⟨y,H2,I2,ry,ov,g,q2⟩=>Calls.spliced_nil ?_)))
 exact apy hu I2 g ry fun w' s3 I3 gY=>⟨_,H2,I3,gY,q2⟩
end
section
variable {X:Cx}{pins:List (Addr×Obj)}{σ:St}{H:Hp}{s:Shared}{a:Addr}{ae:List (Key×V)}{A:Around}{E:Value->Shared->Prop}
end
section
variable {X:Cx}{pins:List (Addr×Obj)}{σ:St}{H:Hp}{s:Shared}{a:Addr}{y:V}{u:Value}{A:Around}{E:Value->Shared->Prop}
end
end L2
namespace L2
open PySem PySem.Spec PyProof.Rows
section
variable {prog:Program}{w:World}{A:Around}{E:Value->Shared->Prop}
end
section
variable {X:Cx}
end
end L2
namespace L2
open PySem PySem.Spec PyProof.Rows
theorem ade:bootBuiltins "reversed"=some (.type "reversed"):=by decide +kernel
section
variable {X:Cx}{pins:List (Addr×Obj)}{σ:St}{H:Hp}{s:Shared}{h':Heap}
theorem Inv.Dy {t':Nat}{ch:List Addr}{T:Addr}{ob:HO} (I:Inv X pins σ H s) (k:∀ b o,b∉ch->s.heap.get? b=some o->h'.get? b=some o) (hf:∀ b∈ch,jw X pins H b) (hT:s.heap.objs.size<=T)
  (new:cN X.prog X.w (upd H T ob) h' T ob):Inv X pins σ (upd H T ob) {s with heap:=h',toks:=t'}:=by
 have hn:H T=none:=I.az.fresh hT
 have uX:∀ b u,H b=some u->b∉ch:=fun b u e z=>by
  have q:=(hf b z).1
  rw[q] at e;cases e
 refine I.step (g':=s.gens) (d':=s.drawn) (ch:=ch) (fun b hb=>⟨(hf b hb).2.2.2.1,(hf b hb).2.1,(hf b hb).2.2.2.2.1,(hf b hb).2.2.2.2.2⟩) (fun b o _ _ hc e _=>k b o hc e) (fun b o _ _ hc e _=>⟨o.slots,k b o hc e⟩)
  (fun b o _ e n=>?_) (fun b o hc e=>⟨o,k b o hc e⟩) (fun b xs e=>?_) (fun b o u e=>?_) (fun b ps e=>⟨#[],?_⟩) (fun m hm=>?_) (fun b u e=>?_) I.bare
 ·rw[ai (Nat.ne_of_lt (Nat.lt_of_lt_of_le (Heap.lt_size e) hT))];exact n
 ·rw[ai (aJ e hn)];exact e
 ·rw[ai (aJ e hn)];exact e
 ·rw[ai (aJ e hn),e];simp
 ·obtain⟨o,es,ep,ho,r⟩:=hm
  exact⟨o,es,ep,k _ o (fun z=>(hf _ z).2.1 rfl) ho,r⟩
 by_cases hb:b=T
 ·subst hb
  rw[ak] at e
  cases e
  exact new
 rw[ai hb] at e
 refine(I.az b u e).gR (fun c v hc q=>k c v ?_ q) (fun c q=>by rw[ai (aJ q hn)];exact q) fun c xs q=>by rw[ai (aJ q hn)];exact q
 rcases hc with z | z
 ·rw[z];exact uX b u e
 exact uX c _ z
theorem Inv.lock {d:Addr}{u:HO} (I:Inv X pins σ H s) (h:H d=some u) (mu:oj (some u)):∃ od,Inv X pins σ (upd H d (.bK od u)) s:=by
 have x:=I.az d u h
 have ex:∃ od,s.heap.get? d=some od:=by
  cases u with
  | lst xs=>obtain⟨_,_,_,_,e⟩:=x;exact⟨_,e⟩
  | dK ae=>obtain⟨_,_,_,_,o,_,_,e,_⟩:=x;exact⟨o,e⟩
  | dT ae=>obtain⟨_,_,_,_,o,_,_,e,_⟩:=x;exact⟨o,e⟩
  | set S n=>obtain⟨o,_,_,_,e,_⟩:=x;exact⟨o,e⟩
  | ins C dx fs=>obtain⟨_,_,_,e,_⟩:=x;exact⟨_,e⟩
  | ext φ=>obtain⟨_,⟨_,e⟩,_⟩:=x;exact⟨_,e⟩
  | _=>exact False.elim mu
 obtain⟨od,e⟩:=ex
 have new:cN X.prog X.w (upd H d (.bK od u)) s.heap d (.bK od u):=by
  refine⟨e,x.gR (fun b v _ q=>q) (fun b q=>?_) fun b xs q=>?_⟩
  ·rw[ai (fun z=>by rw[z,h] at q;cases q;exact mu)];exact q
  rw[ai (fun z=>by rw[z,h] at q;cases q;exact mu)];exact q
 exact⟨od,I.write (x:=d) (e:=d) (t':=s.toks) (h':=s.heap) (by rw[h];exact mu) (.inl rfl) (fun b v _ q=>q) ⟨od,e⟩ new⟩
theorem Inv.uH {d:Addr}{u:HO} (I:Inv X pins σ H s) (h:H d=some u) (mu:oj (some u)):∀ o' u',X.om d≠some (.bK o' u'):=fun o' u' e=>by
 have q:=I.base.fe d o' u' e
 rw[h] at q
 cases q
 exact mu
theorem Inv.unlock {d:Addr}{od:Obj}{u:HO} (I:Inv X pins σ H s) (h:H d=some (.bK od u)) (hn:∀ o' u',X.om d≠some (.bK o' u')):Inv X pins σ (upd H d u) s:=by
 have sR:∀ b o,H b=some o->(∀ o' u',o≠.bK o' u')->b≠d:=fun b o e cq z=>by
  rw[z,h] at e
  cases e
  exact cq _ _ rfl
 have neN:∀ b,H b=none->b≠d:=fun b e z=>by rw[z,h] at e;cases e
 refine⟨I.ok,I.os,I.bare,⟨I.base.keep,I.base.slot,fun b o e n hx=>?_,I.base.there,fun b xs e=>?_,fun b o x e=>?_,fun b ps e=>?_⟩,I.loc,I.cell,?_,fun x c e=>?_,fun p hp=>?_,fun b o e=>?_,I.len⟩
 ·rw[ai (neN b (I.base.free b o e n hx))];exact I.base.free b o e n hx
 ·have q:=I.base.fP b xs e
  rw[ai (sR b _ q (fun _ _ z=>nomatch z))];exact q
 ·have q:=I.base.fe b o x e
  rw[ai (fun z=>by rw[z] at e;exact hn _ _ e)];exact q
 ·obtain⟨m,q⟩:=I.base.fQ b ps e
  exact⟨m,by rw[ai (sR b _ q (fun _ _ z=>nomatch z))];exact q⟩
 ·rw[ai (neN _ I.free)];exact I.free
 ·rw[ai (neN c (I.e8 x c e))];exact I.e8 x c e
 ·obtain⟨e,n,r⟩:=I.pin p hp
  exact⟨e,by rw[ai (neN _ n)];exact n,r⟩
 by_cases hb:b=d
 ·rw[hb,ak] at e
  cases e
  rw[hb]
  obtain⟨_,x⟩:=I.az d _ h
  exact x.gR (fun c v _ q=>q) (fun c q=>by rw[ai (sR c _ q (fun _ _ z=>nomatch z))];exact q) fun c xs q=>by rw[ai (sR c _ q (fun _ _ z=>nomatch z))];exact q
 rw[ai hb] at e
 exact(I.az b o e).gR (fun c v _ q=>q) (fun c q=>by rw[ai (sR c _ q (fun _ _ z=>nomatch z))];exact q) fun c xs q=>by rw[ai (sR c _ q (fun _ _ z=>nomatch z))];exact q
end
def aqz (t:TS):TS:=fun D σ H=>∃ d u,H d=some u/\oj (some u)/\∀ od,t ⟨fun σ' H'=>H' d=some (.bK od u)/\D.nx σ' (upd H' d u),fun v H'=>H' d=some (.bK od u)/\D.rt v (upd H' d u),fun σ' H'=>H' d=some (.bK od u)/\D.bk σ' (upd H' d u),fun σ' H'=>H' d=some (.bK od u)/\D.ct σ' (upd H' d u)⟩ σ (upd H d (.bK od u))
def apA (t:TE):TE:=fun σ H Q=>∃ d u,H d=some u/\oj (some u)/\∀ od,t σ (upd H d (.bK od u)) fun v H'=>H' d=some (.bK od u)/\Q v (upd H' d u)
section
variable {X:Cx}
theorem anL {st:Stmt}{t:TS} (h:PS X st t):PS X st (aqz t):=by
 intro pins s σ H D I hw
 obtain⟨d,u,hd,mu,hw⟩:=hw
 obtain⟨od,I1⟩:=I.lock hd mu
 refine aD (h pins s σ _ _ I1 (hw od)) fun f s1 q=>?_
 cases f with
 | next=>obtain⟨σ',H',I2,e,q⟩:=q;exact⟨σ',_,I2.unlock e (I.uH hd mu),q⟩
 | brk=>obtain⟨σ',H',I2,e,q⟩:=q;exact⟨σ',_,I2.unlock e (I.uH hd mu),q⟩
 | cont=>obtain⟨σ',H',I2,e,q⟩:=q;exact⟨σ',_,I2.unlock e (I.uH hd mu),q⟩
 | ret v=>obtain⟨x,σ',H',I2,r,e,q⟩:=q;exact⟨x,σ',_,I2.unlock e (I.uH hd mu),r,q⟩
theorem anM {e:Expr}{t:TE} (h:PE X e t):PE X e (apA t):=by
 intro pins s σ H Q I hw
 obtain⟨d,u,hd,mu,hw⟩:=hw
 obtain⟨od,I1⟩:=I.lock hd mu
 refine aD (h pins s σ _ _ I1 (hw od)) fun v s1 ⟨x,H1,I2,r,e2,q⟩=>?_
 exact⟨x,_,I2.unlock e2 (I.uH hd mu),r,q⟩
theorem uA {tg:Expr}{pins:List (Addr×Obj)}{σ:St}{H:Hp}{s:Shared}{R:It->Hp->Prop}{J:It}{tn:Nat->Heap->Prop}{tk:Nat} (I:Inv X pins σ H s) (o:Obj)
  (T:Turn X.prog X.w X.K tg J [s.heap.objs.size] s.heap.objs.size tn) (st:tn 0 (s.heap.push o)) (q:R J H):zG X pins σ tg R (.ref s.heap.objs.size) {s with heap:=s.heap.push o,toks:=tk}:=by
 refine⟨s.heap.objs.size,[s.heap.objs.size],tn,J,H,rfl,I.kept fun b ob e=>Heap.get?_push_of_some _ e,T,st,fun b hb=>?_,q⟩
 have e:b=s.heap.objs.size:=by simpa using hb
 subst e
 exact I.qp (Nat.le_refl _) (I.az.fresh (Nat.le_refl _))
end
def ve (lo c:Int) (n:Nat):It:=⟨fun i _=>i<n,fun i H x H'=>H'=H/\x=.int (lo+(i:Nat)*c),fun i _=>n<=i⟩
theorem ahv {P:Program}{w:World}{K:W.Frag}{tg:Expr} (it:Addr) (lo c:Int) (n:Nat):Turn P w K tg (ve lo c n) [it] it (fun i h=>IsRangeIter h it (lo+(i:Nat)*c) ((n:Int)-(i:Nat)) c) where
 mem:=by simp
 obj:=fun i h st b hb=>by
  have e:b=it:=by simpa using hb
  subst e
  exact⟨_,st,fun v z=>nomatch z⟩
 keep:=fun i h h' st k=>k it (by simp) _ st
 item:=by
  intro X hP hw hK hc i pins s σ H E I hf st hg
  subst hP hw hK
  obtain⟨f0,f1,f2,f3,f4,f5⟩:=hf it (by simp)
  have W:=Walks.range (prog:=X.prog) (w:=X.w) (I.ok.hd hc) it lo c n
  refine W.item i s _ _ hg st fun v h' tk hv dq kk=>?_
  obtain⟨t,rfl⟩:=hv
  have I1:Inv X pins σ H {s with heap:=h',toks:=tk}:=I.turned (fun b o hb e=>kk b o (by simpa using hb) e) f0 f1 f3 f4 f5
  exact⟨_,rfl,rX (s:={s with heap:=h',toks:=tk}) (n:="range_iterator") dq rfl rfl (by decide) ⟨.int (lo+(i:Nat)*c),H,I1,⟨t,rfl⟩,⟨rfl,rfl⟩,dq,fun b hb=>(hf b hb).1⟩⟩
 done:=by
  intro X hP hw hK hc i pins s σ H E I hf st hg
  subst hP hw hK
  obtain⟨f0,f1,f2,f3,f4,f5⟩:=hf it (by simp)
  exact wpAny_pyNext_range_end (I.ok.hd hc) st (by have:n<=i:=hg;omega) fun h' eb=>⟨rfl,I.turned (t':=s.toks) (fun b o hb e=>eb b o hb e) f0 f1 f3 f4 f5⟩
 self:=fun A i s Q E st h=>wpAny_pyIter_rangeiter st h
def X0 (i j c:Int) (n:Nat):Prop:=c≠0/\c.natAbs<1073741824/\Builtin.Range.small i j c=true/\Builtin.Range.rangeSize i j c=n
def aqA (ta:TA):TI:=fun σ H R=>ta σ H fun vs H1=>∃ (i j c:Int) (n:Nat),vs=[.int i,.int j,.int c]/\X0 i j c n/\R (ve i c n) H1
section
variable {X:Cx}{tg:Expr}
theorem akL {a b c:Expr}{ta:TA}{p pos:Pos} (hg:Gl X "range") (hm:X.mg "range"=none) (ha:PA X [a,b,c] ta)
  (hs:starEach [a,b,c] X.env=(false,eval a X.env)::starEach [b,c] X.env:=by rfl) (eK:(backTo pos (starEach [b,c] X.env)).any (·.1)=false:=by rfl) :
  PI X tg (.Call (.Name "range" p) [a,b,c] [] pos) (aqA ta):=by
 intro pins s σ H R I h
 refine Call_ (oQ I hg hm boot_range (PyProof.Rows.callWith_type1 (aD (ha pos pins s σ H _ I h) fun us s1 ⟨vs,H1,I1,r1,q1⟩=>?_) hs eK))
 obtain⟨i,j,k,n,e,⟨c0,c1,c2,c3⟩,q⟩:=q1
 subst e
 cases r1 with
 | cons r rr =>
  cases rr with
  | cons r' rr =>
   cases rr with
   | cons r'' rr =>
    cases rr
    obtain⟨t,rfl⟩:=r
    obtain⟨t',rfl⟩:=r'
    obtain⟨t'',rfl⟩:=r''
    refine call_range_3 c0 ?_ (.inl (PyProof.noPylong_small c1))
    refine wpAny_pyIter_range (IsRange.new ..) c2 ?_
    have I2:Inv X pins σ H1 {s1 with heap:=s1.heap.push {cls:=.type "range",data:=.fields #[.int i t,.int j t',.int k t'']}}:=I1.kept (t':=s1.toks) fun b o e=>Heap.get?_push_of_some _ e
    refine uA (tk:=s1.toks) I2 _ (ahv _ i k n) ?_ q
    have e1:i+((0:Nat):Int)*k=i:=by simp
    have e2:(n:Int)-((0:Nat):Int)=Builtin.Range.rangeSize i j k:=by rw[c3];simp
    show IsRangeIter _ _ (i+((0:Nat):Int)*k) ((n:Int)-((0:Nat):Int)) k
    rw[e1,e2]
    exact Heap.get?_push_size _ rfl
end
theorem aiZ {lo c:Int}{n:Nat}{g:TG}{tb:TS}{D:Ends}{σ:St}{H:Hp} (Pv:Nat->St->Hp->Prop) (h0:Pv 0 σ H)
  (hs:∀ i σ H,i<n->Pv i σ H->g (.int (lo+(i:Nat)*c)) σ H fun σ2 H2=>tb {D with nx:=Pv (i+1),ct:=Pv (i+1),bk:=D.nx} σ2 H2) (hd:∀ σ H,Pv n σ H->D.nx σ H) :
  ∃ W:Nat->Nat->St->Hp->Prop,(∃ m,W 0 m σ H)/\∀ i m σ H,W i m σ H ->
   ((ve lo c n).stop i H/\D.nx σ H)\/((ve lo c n).go i H/\∃ N:St->Hp->Prop,(∀ σ' H',N σ' H'->∃ m',m'<m/\W (i+1) m' σ' H')/\∀ x H',(ve lo c n).fT i H x H'->g x σ H' fun σ2 H2=>tb {D with nx:=N,ct:=N,bk:=D.nx} σ2 H2):=by
 refine⟨fun i m σ H=>m=n-i/\i<=n/\Pv i σ H,⟨n,by simp,Nat.zero_le _,h0⟩,?_⟩
 rintro i m σ H ⟨rfl,hi,p⟩
 by_cases aO:i<n
 ·refine .inr ⟨aO,Pv (i+1),fun σ' H' p'=>⟨n-(i+1),by omega,rfl,aO,p'⟩,fun x H' y=>?_⟩
  obtain⟨e,y⟩:=y
  subst e y
  exact hs i σ _ aO p
 have e:i=n:=by omega
 subst e
 exact .inl ⟨Nat.le_refl _,hd σ H p⟩
def X2 (K:W.Frag) (a:Addr) (n:Nat):It :=
 ⟨fun i H=>i<n/\∃ (xs:List V) (x:V),aq K H a xs/\xs[n-1-i]?=some x,fun i H x H'=>H'=H/\∀ xs,aq K H a xs->xs[n-1-i]?=some x,fun i _=>n<=i⟩
theorem amk {P:Program}{w:World}{K:W.Frag}{tg:Expr} (a it:Addr) (n:Nat):Turn P w K tg (X2 K a n) [it] it (fun i h=>i<=n/\h.IsRevIter it a ((n:Int)-1-(i:Nat))) where
 mem:=by simp
 obj:=fun i h st b hb=>by
  have e:b=it:=by simpa using hb
  subst e
  obtain⟨_,o,e,c,d⟩:=st
  exact⟨o,e,fun v z=>by rw[d] at z;cases z⟩
 keep:=fun i h h' st k=>⟨st.1,st.2.at fun o e=>k it (by simp) o e⟩
 item:=by
  intro X hP hw hK hc i pins s σ H E I hf st hg
  subst hP hw hK
  obtain⟨mJ,xs,x,hq,hx⟩:=hg
  obtain⟨aj,rv,p,hz⟩:=I.list hq
  obtain⟨u,hu,ru⟩:=rv.get hx
  obtain⟨f0,f1,f2,f3,f4,f5⟩:=hf it (by simp)
  obtain⟨_,hit⟩:=st
  have e1:(n:Int)-1-((i:Nat):Int)=((n-1-i:Nat):Int):=by omega
  rw[e1] at hit
  refine wpAny_pyNext_rev_item hit p.isList (x:=u) (by simpa using hu) fun h' dq sb=>?_
  have e2:((n-1-i:Nat):Int)-1=(n:Int)-1-((i+1:Nat):Int):=by omega
  rw[e2] at dq
  have I1:Inv X pins σ H {s with heap:=h'}:=I.turned (t':=s.toks) (fun b o hb e=>(sb.2 b hb).trans e) f0 f1 f3 f4 f5
  obtain⟨o,e,c,d⟩:=id dq
  exact⟨u,rfl,rX (s:={s with heap:=h'}) e c d (by decide) ⟨x,H,I1,ru,⟨rfl,fun ys hy=>by rw[I.DM hy hq];exact hx⟩,⟨mJ,dq⟩,fun b hb=>(hf b hb).1⟩⟩
 done:=by
  intro X hP hw hK hc i pins s σ H E I hf st hg
  subst hP hw hK
  obtain⟨f0,f1,f2,f3,f4,f5⟩:=hf it (by simp)
  obtain⟨mJ,hit⟩:=st
  have X3:n<=i:=hg
  have e1:(n:Int)-1-((i:Nat):Int) = -1:=by omega
  rw[e1] at hit
  exact wpAny_pyNext_rev_end (I.ok.hd hc) hit fun h' eb=>⟨rfl,I.turned (t':=s.toks) (fun b o hb e=>eb b o hb e) f0 f1 f3 f4 f5⟩
 self:=fun A i s Q E st h=>wpAny_pyIter_revIter st.2 h
def arK (K:W.Frag) (ta:TA):TI:=fun σ H R=>ta σ H fun vs H1=>∃ (a:Addr) (xs:List V),vs=[.ref a]/\aq K H1 a xs/\R (X2 K a xs.length) H1
section
variable {X:Cx}{tg:Expr}
theorem ahw {e:Expr}{ta:TA}{p pos:Pos} (hg:Gl X "reversed") (hm:X.mg "reversed"=none) (ha:PA X [e] ta) (hs:starEach [e] X.env=[(false,eval e X.env)]:=by rfl):PI X tg (.Call (.Name "reversed" p) [e] [] pos) (arK X.K ta):=by
 intro pins s σ H R I h
 refine Call_ (oQ I hg hm ade (PyProof.Rows.callWith_type1 (aD (ha pos pins s σ H _ I h) fun us s1 ⟨vs,H1,I1,r1,q1⟩=>?_) hs rfl))
 obtain⟨a,xs,e,hq,q⟩:=q1
 subst e
 cases r1 with
 | cons r rr =>
  cases rr
  cases r
  obtain⟨aj,rv,p',hz⟩:=I1.list hq
  have hl:=rv.length
  have e1:((aj.toArray.size:Nat):Int)-1=(xs.length:Int)-1-((0:Nat):Int):=by simp only [List.size_toArray];omega
  refine call_reversed_list p'.isList (wpAny_pyIter_revIter (l:=a) (i:=((aj.toArray.size:Nat):Int)-1) ⟨_,Heap.get?_push_size _ rfl,rfl,rfl⟩ ?_)
  refine uA (tk:=s1.toks) I1 _ (amk a _ xs.length) ⟨Nat.zero_le _,?_⟩ q
  rw[<- e1]
  exact⟨_,Heap.get?_push_size _ rfl,rfl,rfl⟩
end
def vf (x:Str):It:=⟨fun i _=>i<x.cps.size,fun i H v H'=>H'=H/\∃ c,x.cps[i]?=some c/\v=.str ⟨#[c]⟩,fun i _=>x.cps.size<=i⟩
theorem U8 {P:Program}{w:World}{K:W.Frag}{tg:Expr} (it:Addr) (x:Str) (t:Tok) (ty:String) (pz:ty="str_ascii_iterator"\/ty="str_iterator") :
  Turn P w K tg (vf x) [it] it (fun i h=>h.IsStrIter it ty x t i) where
 mem:=by simp
 obj:=fun i h st b hb=>by
  have e:b=it:=by simpa using hb
  subst e
  obtain⟨o,e,c,d⟩:=st
  exact⟨o,e,fun v z=>by rw[d] at z;cases z⟩
 keep:=fun i h h' st k=>let ⟨o,ho,r⟩:=st;⟨o,k it (by simp) o ho,r⟩
 item:=by
  intro X hP hw hK hc i pins s σ H E I hf st hg
  subst hP hw hK
  obtain⟨f0,f1,f2,f3,f4,f5⟩:=hf it (by simp)
  have W:Walks X.prog X.w X.A it [it] [it] x.cps.size (SignAt x) (fun i h=>h.IsStrIter it ty x t i):=by
   rcases pz with e | e
   ·rw[e];exact Walks.strAscii (I.ok.hd hc) it x t
   rw[e];exact Walks.strWide (I.ok.hd hc) it x t
  have hno:["enumerate","zip","dict_itemiterator","dict_reverseitemiterator","odict_iterator","itertools.zip_longest","itertools.pairwise"].contains ty=false:=by
   rcases pz with e | e
   ·rw[e];decide
   rw[e];decide
  refine W.item i s _ _ hg st fun v h' tk hv dq kk=>?_
  obtain⟨c,u,hcx,rfl⟩:=hv
  have I1:Inv X pins σ H {s with heap:=h',toks:=tk}:=I.turned (fun b o hb e=>kk b o (by simpa using hb) e) f0 f1 f3 f4 f5
  obtain⟨oi,e,cc,dd⟩:=id dq
  exact⟨_,rfl,rX (s:={s with heap:=h',toks:=tk}) e cc dd hno ⟨.str ⟨#[c]⟩,H,I1,⟨u,rfl⟩,⟨rfl,c,hcx,rfl⟩,dq,fun b hb=>(hf b hb).1⟩⟩
 done:=by
  intro X hP hw hK hc i pins s σ H E I hf st hg
  subst hP hw hK
  obtain⟨f0,f1,f2,f3,f4,f5⟩:=hf it (by simp)
  have hx:x.cps[i]?=none:=Array.getElem?_eq_none hg
  rcases pz with e | e
  ·rw[e] at st
   exact wpAny_pyNext_ascii_end (I.ok.hd hc) st hx fun h' eb=>⟨rfl,I.turned (t':=s.toks) (fun b o hb e=>eb b o hb e) f0 f1 f3 f4 f5⟩
  rw[e] at st
  exact wpAny_pyNext_wide_end (I.ok.hd hc) st hx fun h' eb=>⟨rfl,I.turned (t':=s.toks) (fun b o hb e=>eb b o hb e) f0 f1 f3 f4 f5⟩
 self:=fun A i s Q E st h=>by
  rcases pz with e | e
  ·rw[e] at st;exact wpAny_pyIter_striter_ascii st h
  rw[e] at st;exact wpAny_pyIter_striter_wide st h
def arL (te:TE):TI:=fun σ H R=>te σ H fun v H1=>∃ x,v=.str x/\R (vf x) H1
theorem apB {X:Cx}{tg e:Expr}{te:TE} (he:PE X e te):PI X tg e (arL te):=by
 intro pins s σ H R I h
 refine aD (he pins s σ H _ I h) fun v s1 ⟨y,H1,I1,r1,x,ex,q⟩=>?_
 subst ex
 obtain⟨t,rfl⟩:=r1
 cases ha:x.cps.all (·<128)
 ·exact wpAny_pyIter_wide ha (uA (tk:=s1.toks) I1 _ (U8 _ x t "str_iterator" (.inr rfl)) ⟨_,Heap.get?_push_size _ rfl,rfl,rfl⟩ q)
 exact wpAny_pyIter_ascii ha (uA (tk:=s1.toks) I1 _ (U8 _ x t "str_ascii_iterator" (.inl rfl)) ⟨_,Heap.get?_push_size _ rfl,rfl,rfl⟩ q)
section
variable {prog:Program}{w:World}{A:Around}{E:Value->Shared->Prop}{s:Shared}
end
theorem Wr {κ:Type}{ae:List (κ×V)}{vs:List (κ×Value)} (h:KV ae vs):∀ {i:Nat}{k:κ}{v:V},ae[i]?=some (k,v)->∃ u,vs[i]?=some (k,u)/\RelV v u:=by
 unfold KV at h
 induction h with
 | nil=>intro i k v e;simp at e
 | @cons a b l₁ l₂ r t ih =>
  intro i k v e
  cases i with
  | zero =>
   simp only [List.getElem?_cons_zero,Option.some.injEq] at e
   subst e
   refine⟨b.2,?_,r.2⟩
   simp only [List.getElem?_cons_zero]
   exact congrArg some (Prod.ext r.1.symm rfl)
  | succ j =>
   simp only [List.getElem?_cons_succ] at e ⊢
   exact ih e
theorem aml {k:Key}{u:Value} (h:oX k u=true):RelV (kV k) u:=by
 rcases lL h with ⟨i,t,rfl,rfl⟩ | ⟨x,t,rfl,rfl⟩
 ·exact⟨t,rfl⟩
 exact⟨t,rfl⟩
section
variable {X:Cx}{pins:List (Addr×Obj)}{σ:St}{H:Hp}{s:Shared}{d:Addr}{o:Obj}
theorem Inv.EA {ae:List (Key×V)} (I:Inv X pins σ H s) (h:H d=some (.bK o (.dK ae))) :
  (d==sysModules)=false/\s.heap.get? d=some o/\o.ExactDict/\∃ (es:Array DictEntry) (ep:Nat) (vs:List (Key×Value)),o.data=.dict es ep/\es.size=ae.length/\KV ae vs/\s.heap.DictAt (cJ X.prog X.w) d vs ep:=by
 obtain⟨hd,z,hs,vs,kv,o',es,ep,ho,hx,gG,r⟩:=I.az d _ h
 rw[hd] at ho
 cases ho
 refine⟨hs,hd,hx,es,ep,vs,gG,?_,kv,o,es,hd,hx,gG,r⟩
 have l1:=r.2.1.length
 have l2:ae.length=vs.length:=Paired.length kv
 rw[Array.length_toList] at l1
 omega
end
def X4 (d:Addr) (o:Obj) (ae:List (Key×V)):It :=
 ⟨fun i H=>H d=some (.bK o (.dK ae))/\i<ae.length,fun i H x H'=>∃ T k v,ae[i]?=some (k,v)/\x=.ref T/\H T=none/\H'=upd H T (.tup [kV k,v]),fun i H=>H d=some (.bK o (.dK ae))/\ae.length<=i⟩
theorem VR {o:Obj}{es ph:Array DictEntry}{ep pk:Nat} (h:o.data=.dict es ep) (h':o.data=.dict ph pk):ph=es/\pk=ep:=by
 rw[h] at h'
 cases h'
 exact⟨rfl,rfl⟩
section
variable {P:Program}{w:World}{K:W.Frag}{tg:Expr}{d:Addr}{o:Obj}{es:Array DictEntry}{ep:Nat}
theorem aj0 {ae:List (Key×V)}{elts:List Expr}{kk:Nat}{gg:Pos} (it:Addr) (zN:o.data=.dict es ep) :
  Turn P w K (.Tuple elts kk gg) (X4 d o ae) [it] it (fun i h=>∃ ok ov,IsItemIter h it d i ae.length ep ok ov) where
 mem:=by simp
 obj:=fun i h st b hb=>by
  have e:b=it:=by simpa using hb
  subst e
  obtain⟨ok,ov,e⟩:=st
  exact⟨_,e,fun v z=>nomatch z⟩
 keep:=fun i h h' st k=>let ⟨ok,ov,e⟩:=st;⟨ok,ov,k it (by simp) _ e⟩
 item:=by
  intro X hP hw hK hc i pins s σ H E I hf st hg
  subst hP hw hK
  obtain⟨hd,hi⟩:=hg
  obtain⟨hs,zO,hx,ph,pk,vs,gG,hsz,kv,hm⟩:=I.EA hd
  obtain⟨rfl,rfl⟩:=VR zN gG
  obtain⟨⟨k,v⟩,sS⟩:∃ p,ae[i]?=some p:=⟨ae[i],List.getElem?_eq_getElem hi⟩
  obtain⟨u,hu,ru⟩:=Wr kv sS
  have hl:ae.length=vs.length:=Paired.length kv
  obtain⟨ok,ov,he⟩:=st
  rw[hl] at he
  have aO:it<s.heap.objs.size:=Heap.lt_size he
  refine wpAny_pyNext_items_item he hm hu fun key h' uO ho hT hz hk=>?_
  refine⟨_,rfl,wpAny_letOwnedTupleGo_items (s:={s with heap:=h'}) ho fun iH ot sb=>?_⟩
  have qH:iH.get? s.heap.objs.size=some {cls:=.type "tuple",data:=.seq #[key,u]}:=(sb.2 _ (Nat.ne_of_gt aO)).trans hT
  have new:cN X.prog X.w (upd H s.heap.objs.size (.tup [kV k,v])) iH s.heap.objs.size (.tup [kV k,v]) :=
   ⟨by show 2<=sizeLine;decide,[key,u],.cons (aml (show oX k key=true from uO)) (.cons ru .nil),⟨_,qH,rfl,_,rfl⟩⟩
  have I1:Inv X pins σ (upd H s.heap.objs.size (.tup [kV k,v])) {s with heap:=iH} :=
   I.Dy (t':=s.toks) (ch:=[it]) (fun b ob hb e=>(sb.2 b (by simpa using hb)).trans (hk b ob (by simpa using hb) e)) hf (Nat.le_refl _) new
  refine⟨.ref s.heap.objs.size,_,I1,rfl,⟨_,k,v,sS,rfl,I.az.fresh (Nat.le_refl _),rfl⟩,⟨key,u,?_⟩,fun b hb=>?_⟩
  ·rw[hl];exact ot
  have e:b=it:=by simpa using hb
  rw[e,ai (Nat.ne_of_lt aO)]
  exact(hf it (by simp)).1
 done:=by
  intro X hP hw hK hc i pins s σ H E I hf st hg
  subst hP hw hK
  obtain⟨hd,hi⟩:=hg
  obtain⟨f0,f1,f2,f3,f4,f5⟩:=hf it (by simp)
  obtain⟨hs,zO,hx,ph,pk,vs,gG,hsz,kv,hm⟩:=I.EA hd
  obtain⟨rfl,rfl⟩:=VR zN gG
  have hl:ae.length=vs.length:=Paired.length kv
  obtain⟨ok,ov,he⟩:=st
  rw[hl] at he
  exact wpAny_pyNext_items_end (I.ok.hd hc) he hm (List.getElem?_eq_none (by omega)) fun h' eb=>⟨rfl,I.turned (t':=s.toks) (fun b ob hb e=>eb b ob hb e) f0 f1 f3 f4 f5⟩
 self:=fun A i s Q E st h=>let ⟨_,_,e⟩:=st;W.kcp_self e h
end
def apC (td:TE):TI:=fun σ H R=>td σ H fun x H1=>∃ d o ae,x=.ref d/\H1 d=some (.bK o (.dK ae))/\R (X4 d o ae) H1
section
variable {X:Cx}{tg e:Expr}{td:TE}{apos cQ:Pos}
theorem U9 {elts:List Expr}{kk:Nat}{gg:Pos} (he:PE X e td) (js:attributeBase e "items" X.env (eval e X.env)=eval e X.env:=by rfl) (jt:(apos.endLine==cQ.line)=true:=by rfl) :
  PI X (.Tuple elts kk gg) (.Call (.Attribute e "items" apos) [] [] cQ) (apC td):=by
 intro pins s σ H R I h
 refine wpAny_Call_method (T:="dict") (id:="dict.items") js rfl jt F.plainAttrs_dict F.slot_dict_items F.type_dict_items (aD (he pins s σ H _ I h) fun u s1 ⟨x,H1,I1,rx,d,o,ae,ex,hd,q⟩=>?_)
 subst ex
 obtain rfl:u=Value.ref d:=rx
 obtain⟨hs,zO,hx,es,ep,vs,gG,hsz,kv,hm⟩:=I1.EA hd
 have hl:ae.length=vs.length:=Paired.length kv
 refine⟨hm.dictOf.typeIs,hm.dictOf.mapOf.noDict,?_⟩
 have I2:Inv X pins σ H1 {s1 with heap:=s1.heap.push {cls:=.type "dict_items",data:=.fields #[.ref d]}}:=I1.kept (t':=s1.toks) fun b ob q=>Heap.get?_push_of_some _ q
 have fin:wpAny (model X.prog X.w) X.A (pyIter (.ref s1.heap.objs.size)) (zG X pins σ (.Tuple elts kk gg) R) X.xe {s1 with heap:=s1.heap.push {cls:=.type "dict_items",data:=.fields #[.ref d]}}:=by
  refine wpAny_pyIter_items (d:=d) (knd:=cJ X.prog X.w) ⟨_,Heap.get?_push_size _ rfl,rfl,rfl⟩ (hm.push _) (uA (tk:=s1.toks) I2 _ (aj0 _ gG) ⟨.none,.none,?_⟩ q)
  rw[hl]
  exact Heap.get?_push_size _ rfl
 show wpAny _ _ (callWith cQ (.builtin "dict.items") [.ref d] [] []) _ X.xe s1
 exact method_meetsIn F.slot_dict_items F.entry_dict_items rfl (PySem.evalArgs_none ⟨rfl,hm.dictOf.typeIs,F.args_dict_items_1 _,_,meets_dict_items (cJ X.prog X.w) d hs,⟨vs,hm.dictOf⟩,fin⟩)
end
def vg (K:W.Frag) (a:Addr):It :=
 ⟨fun i H=>∃ (xs:List V) (x:V),aq K H a xs/\xs[i]?=some x,fun i H v H'=>∃ T x,v=.ref T/\H T=none/\H'=upd H T (.tup [.int (i:Nat),x])/\∀ xs,aq K H a xs->xs[i]?=some x,fun i H=>∃ xs:List V,aq K H a xs/\xs.length<=i⟩
theorem akM {P:Program}{w:World}{K:W.Frag}{elts:List Expr}{kk:Nat}{gg:Pos} (a e it:Addr) :
  Turn P w K (.Tuple elts kk gg) (vg K a) [e,it] e (fun i h=>(∃ old,IsEnum h e it ((i:Nat):Int) old)/\h.IsListIter it a i/\e≠it) where
 mem:=by simp
 obj:=fun i h st b hb=>by
  obtain⟨⟨old,he⟩,⟨o,ho,hc,hd⟩,_⟩:=st
  have e':b=e\/b=it:=by simpa using hb
  rcases e' with z | z
  ·rw[z];exact⟨_,he,fun v q=>nomatch q⟩
  rw[z];exact⟨o,ho,fun v q=>by rw[hd] at q;cases q⟩
 keep:=fun i h h' st k=>let ⟨⟨old,he⟩,hi,cq⟩:=st;⟨⟨old,k e (by simp) _ he⟩,hi.at fun o q=>k it (by simp) o q,cq⟩
 item:=by
  intro X hP hw hK hc i pins s σ H E I hf st hg
  subst hP hw hK
  obtain⟨⟨old,he⟩,hit,cq⟩:=st
  obtain⟨xs,x,hq,hx⟩:=hg
  obtain⟨aj,rv,p,hz⟩:=I.list hq
  obtain⟨u,hu,ru⟩:=rv.get hx
  have vh:e<s.heap.objs.size:=Heap.lt_size he
  have Fi:it<s.heap.objs.size:=by obtain⟨_,q,_⟩:=hit;exact Heap.lt_size q
  refine wpAny_pyNext_enum_item he hit p.isList (x:=u) (by simpa using hu) cq fun h' ho EB hT hsz hk=>?_
  refine⟨_,rfl,wpAny_letOwnedTupleGo_enum (s:={s with heap:=h',toks:=s.toks+1}) ho fun iH ot sb=>?_⟩
  have qH:iH.get? s.heap.objs.size=some {cls:=.type "tuple",data:=.seq #[.int i s.toks,u]}:=(sb.2 _ (Nat.ne_of_gt vh)).trans hT
  have new:cN X.prog X.w (upd H s.heap.objs.size (.tup [.int (i:Nat),x])) iH s.heap.objs.size (.tup [.int (i:Nat),x]) :=
   ⟨by show 2<=sizeLine;decide,[.int i s.toks,u],.cons ⟨_,rfl⟩ (.cons ru .nil),⟨_,qH,rfl,_,rfl⟩⟩
  have I1:Inv X pins σ (upd H s.heap.objs.size (.tup [.int (i:Nat),x])) {s with heap:=iH,toks:=s.toks+1} :=
   I.Dy (ch:=[e,it]) (fun b ob hb q=>(sb.2 b (fun z=>hb (by simp[z]))).trans (hk b ob (fun z=>hb (by simp[z])) (fun z=>hb (by simp[z])) q)) hf (Nat.le_refl _) new
  refine⟨.ref s.heap.objs.size,_,I1,rfl,⟨_,x,rfl,I.az.fresh (Nat.le_refl _),rfl,fun ys hy=>by rw[I.DM hy hq];exact hx⟩,⟨⟨u,?_⟩,EB.at fun o q=>(sb.2 it (Ne.symm cq)).trans q,cq⟩,fun b hb=>?_⟩
  ·have e1:((i+1:Nat):Int)=(i:Int)+1:=by omega
   rw[e1];exact ot
  have gi:b<s.heap.objs.size:=by
   have e':b=e\/b=it:=by simpa using hb
   rcases e' with z | z
   ·rw[z];exact vh
   rw[z];exact Fi
  rw[ai (Nat.ne_of_lt gi)]
  exact(hf b hb).1
 done:=by
  intro X hP hw hK hc i pins s σ H E I hf st hg
  subst hP hw hK
  obtain⟨⟨old,he⟩,hit,cq⟩:=st
  obtain⟨xs,hq,hx⟩:=hg
  obtain⟨aj,rv,p,hz⟩:=I.list hq
  obtain⟨f0,f1,f2,f3,f4,f5⟩:=hf it (by simp)
  have hl:=rv.length
  exact wpAny_pyNext_enum_end (I.ok.hd hc) he hit p.isList (by simp;omega) fun h' eb=>⟨rfl,I.turned (t':=s.toks) (fun b o hb q=>eb b o hb q) f0 f1 f3 f4 f5⟩
 self:=fun A i s Q E st h=>let ⟨⟨_,he⟩,_⟩:=st;wpAny_pyIter_enum he h
def aqB (K:W.Frag) (ta:TA):TI:=fun σ H R=>ta σ H fun vs H1=>∃ a xs,vs=[.ref a]/\aq K H1 a xs/\R (vg K a) H1
theorem VS {X:Cx}{e:Expr}{ta:TA}{p pos gg:Pos}{elts:List Expr}{kk:Nat} (hg:Gl X "enumerate") (hm:X.mg "enumerate"=none) (ha:PA X [e] ta) (hs:starEach [e] X.env=[(false,eval e X.env)]:=by rfl) :
  PI X (.Tuple elts kk gg) (.Call (.Name "enumerate" p) [e] [] pos) (aqB X.K ta):=by
 intro pins s σ H R I h
 refine Call_ (oQ I hg hm boot_enumerate (PyProof.Rows.callWith_type1 (aD (ha pos pins s σ H _ I h) fun us s1 ⟨vs,H1,I1,r1,q1⟩=>?_) hs rfl))
 obtain⟨a,xs,ex,hq,q⟩:=q1
 subst ex
 cases r1 with
 | cons r rr =>
  cases rr
  cases r
  obtain⟨aj,rv,p',hz⟩:=I1.list hq
  refine call_enumerate_list p'.isList fun h' he hit hsz hk=>wpAny_pyIter_enum he ?_
  have I2:Inv X pins σ H1 {s1 with heap:=h'}:=I1.kept (t':=s1.toks) hk
  refine⟨s1.heap.objs.size+1,[s1.heap.objs.size+1,s1.heap.objs.size],_,_,H1,rfl,I2,akM a (s1.heap.objs.size+1) s1.heap.objs.size,⟨⟨.none,he⟩,hit,Nat.succ_ne_self _⟩,fun b hb=>?_,q⟩
  have e':b=s1.heap.objs.size+1\/b=s1.heap.objs.size:=by simpa using hb
  have hle:s1.heap.objs.size<=b:=by
   rcases e' with z | z
   ·rw[z];exact Nat.le_add_right _ _
   rw[z];exact Nat.le_refl _
  exact I1.qp hle (I1.az.fresh hle)
end L2
section
namespace Xf
open PySem PyProof.Rows
theorem abL (m:Nat):∀ n:Nat,(m^^^n)+2*(m&&&n)=m+n:=by
 induction m using Nat.strongRecOn with
 | _ m ih =>
  intro n
  by_cases h0:m=0
  ·subst h0
   simp
  have Fj:=ih (m / 2) (by omega) (n / 2)
  rw[<- Nat.xor_div_two,<- Nat.and_div_two] at Fj
  have o1:=@Nat.xor_mod_two_eq_one m n
  have a1:=@Nat.and_mod_two_eq_one m n
  omega
theorem akN {x y:Int} (hx:0<=x) (hy:0<=y):Builtin.bitXor x y=((x.toNat^^^y.toNat:Nat):Int):=by
 have e:=abL x.toNat y.toNat
 rw[bitXor_and,bitAnd_pp hx hy]
 omega
end Xf
end
section
namespace TL
open PySem PySem.Builtin PySem.Builtin.Str PySem.StrLaws
abbrev tl (x:Str):List Nat:=x.cps.toList
theorem apD {x y:Str} (h:tl x=tl y):x=y:=Str.ext' (Array.toList_inj.mp h)
theorem Us (x y:Str):tl (x++y)=tl x++tl y:=by
 show(x++y).cps.toList=_
 rw[Str.cps_append,Array.toList_append]
def r8 (S:List Nat):List (List Nat)->List Nat
 | []=>[]
 | [p]=>p
 | p::q::r=>p++(S++r8 S (q::r))
theorem VT (y:Str):∀ parts:List Str,tl (Str.join y parts)=r8 (tl y) (parts.map tl)
 | []=>rfl
 | [_]=>rfl
 | x::z::r=>by
  show tl (x++y++Str.join y (z::r))=tl x++(tl y++r8 (tl y) ((z::r).map tl))
  rw[Us,Us,VT y (z::r),List.append_assoc]
theorem join_eq (y:Str) (parts:List Str):Txt.join y parts=Str.join y parts:=glued_eq_join y parts
end TL
end
namespace L2
open PySem PySem.Spec PyProof.Rows
theorem Cz:∀ {ys:List Str}{us:List Value},Vals (ys.map V.str) us->StrsAre us ys
 | [],_,.nil=>.nil
 | y::ys,_,.cons r t=>by
  obtain⟨k,rfl⟩:=r
  exact .cons y k (Cz t)
section
variable {X:Cx}{pins:List (Addr×Obj)}{σ:St}{H:Hp}{s:Shared}{Q:VK}
end
section
variable {X:Cx}
theorem anN:zK X "str.join" (fun x xs H Q=>∃ a p,∃ ys:List Str,x=.str a/\xs=[.ref p]/\(aq X.K H p (ys.map V.str)\/cp X.K H p (ys.map V.str)) /\
  (ys.map (·.length)).sum+ys.length*a.length<=16777216/\Q (.str (Txt.join a ys)) H):=by
 intro pins s σ H x xs v us Q I rx rs h
 obtain⟨a,p,ys,rfl,rfl,hp,hz,h⟩:=h
 obtain⟨t,rfl⟩:=rx
 cases rs with
 | cons r1 rs =>
  cases rs
  cases r1
  rcases hp with hp | hp
  ·obtain⟨aj,r,⟨o,n,ho,hc,_,hd⟩,_⟩:=I.list hp
   exact PyProof.Rows.join_list (items:=aj.toArray) ⟨o,ho,hc,n,hd⟩ (by rw[List.toList_toArray];exact Cz r) hz fun t' k=>⟨.str _,H,I.tok k,⟨t',rfl⟩,h⟩
  obtain⟨aj,r,ht,_⟩:=I.tuple hp
  exact PyProof.Rows.join_tuple (items:=aj.toArray) ht (by rw[List.toList_toArray];exact Cz r) hz fun t' k=>⟨.str _,H,I.tok k,⟨t',rfl⟩,h⟩
end
section
variable {X:Cx}{o e:Expr}{to te:TE}
def X5 (r:V->List V->Hp->VK->Prop) (to te:TE):TE:=fun σ H Q=>to σ H fun x H1=>(∃ a,x=.str a)/\te σ H1 fun y H2=>r x [y] H2 Q
theorem aqC {id:String}{name:Str}{apos pos:Pos}{r:V->List V->Hp->VK->Prop} (slot:Slot "str" name id) (ty:typeOf (.builtin id)=pure (.type "method_descriptor")) (rule:zK X id r) (ho:PE X o to) (he:PE X e te)
  (hs:starEach [e] X.env=[(false,eval e X.env)]:=by rfl) (js:attributeBase o name X.env (eval o X.env)=eval o X.env:=by rfl) (jt:(apos.endLine==pos.line)=true:=by rfl) :
  PE X (.Call (.Attribute o name apos) [e] [] pos) (X5 r to te):=by
 intro pins s σ H Q I h
 refine PySem.Call_method1 js hs jt (aD (ho pins s σ H _ I h) fun v s1 ⟨x,H1,I1,r1,q1⟩=>?_)
 obtain⟨⟨a,rfl⟩,q1⟩:=q1
 obtain⟨t,rfl⟩:=_root_.id r1
 refine⟨"str",_,F.plainAttrs_str,slot,ty,typeIs_str _ _ _,(fun _ e=>nomatch e),Calls.callWith_builtin rfl (Calls.evalArgs_plain (Calls.spliced_cons ?_))⟩
 exact aD (he pins s1 σ H1 _ I1 q1) fun u s2 ⟨y,H2,I2,r2,q2⟩=>Calls.spliced_nil (rule pins s2 σ H2 _ [y] _ [u] Q I2 r1 (.cons r2 .nil) q2)
theorem anO {apos pos:Pos} (ho:PE X o to) (he:PE X e te) (hs:starEach [e] X.env=[(false,eval e X.env)]:=by rfl) (js:attributeBase o "join" X.env (eval o X.env)=eval o X.env:=by rfl) (jt:(apos.endLine==pos.line)=true:=by rfl) :
  PE X (.Call (.Attribute o "join" apos) [e] [] pos) (X5 (fun x xs H Q=>∃ a p,∃ ys:List Str,x=.str a/\xs=[.ref p]/\(aq X.K H p (ys.map V.str)\/cp X.K H p (ys.map V.str)) /\
   (ys.map (·.length)).sum+ys.length*a.length<=16777216/\Q (.str (Txt.join a ys)) H) to te) :=
 aqC F.slot_str_join F.type_str_join anN ho he hs js jt
end
end L2
namespace L2
open PySem PySem.Spec PyProof.Rows
section
variable {X:Cx}
end
end L2
namespace L2
open PySem PySem.Spec PyProof.Rows
def inClass (s:Stmt) (j:Nat):Stmt:=match s with
 | .ClassDef _ _ _ body _ _ _ _ _ _ _=>body.getD j (.Pass ⟨0,0,0,0⟩)
 | _=>.Pass ⟨0,0,0,0⟩
def ay (s:Stmt):Arguments:=match s with
 | .FunctionDef _ a _ _ _ _ _ _ _ _=>a
 | _=>{posonlyargs:=[],args:=[],vararg:=none,kwonlyargs:=[],kw_defaults:=[],kwarg:=none,defaults:=[]}
def ax (s:Stmt):List Stmt:=match s with
 | .FunctionDef _ _ b _ _ _ _ _ _ _=>b
 | _=>[]
def ah (s:Stmt):Scope:=match s with
 | .FunctionDef _ _ _ _ _ _ sc _ _ _=>sc
 | _=>{kind:=.function,names:=[],isGenerator:=false,isCoroutine:=false}
abbrev bC:gW:=fun _ _ _ _ _ _=>False
abbrev E0:XK:=fun _ _ _=>False
theorem aL {X:Cx}:Passes bC X E0:=fun _ _ _ _ _ _ _ h=>h.elim
structure aR (K:W.Frag) (x qual:Str) (st:Stmt) (f:Addr) (fd:FuncData):Prop where
 ex:∃ (oc:Value) (od:Option Addr) (kV doc pm:Value) (an:Option Addr) (aF ct:Value) (oq:Array (Option Value)),
  fd=W.fnOf x qual (ay st) (ax st) (ah st) .none kV doc pm an aF ct/\K.lookup f=some ⟨oc,od,.func fd,oq⟩/\W.codeIn K aF qual=true
 kp:W.keepIn K (.ref f)=true
section
variable {P:Program}{w:World}{K:W.Frag}{mg:Str->Option Value}{base:Heap}
theorem aR.ok {x qual:Str}{st:Stmt}{f:Addr}{fd:FuncData}{N ps:List Str}{cm:Bool}{k:Nat}{sp:Sp} (F:aR K x qual st f fd) (S:aS N ps (ah st)) (len:∀ vs H Q E,sp vs H Q E->vs.length=ps.length)
  (uE:∀ (aF:Value) (A:Around) (outer:List Env) (s:Shared) (H:Hp) (vs:List V) (Q:VK) (E:XK),cK k (A.deeper (envOfC qual (ah st) s.heap.objs.size f aF))->sp vs H Q E ->
   ∃ t,fz (gS cm bC P w K mg base N qual (ah st) f aF A outer s H E).zE (ax st) t/\t {nx:=fun _ H'=>Q .aH H',rt:=Q} (start N vs) H):aN P w K mg base bC cm (k+1) f fd ps sp:=by
 obtain⟨oc,od,kV,doc,pm,an,aF,ct,oq,rfl,lk,dY⟩:=F.ex
 refine WL lk dY S len fun A outer s H vs Q E hr eB=>?_
 obtain⟨t,h,q⟩:=uE aF A outer s H vs Q E hr eB
 exact⟨t,h.zE,q⟩
theorem aR.binds {x qual:Str}{st:Stmt}{f:Addr}{fd:FuncData}{ps:List Str} (F:aR K x qual st f fd)
  (h:∀ (kV doc pm:Value) (an:Option Addr) (aF ct:Value) (us:List Value),us.length=ps.length->bindArgs (W.fnOf x qual (ay st) (ax st) (ah st) .none kV doc pm an aF ct) ⟨us,[]⟩=pure (ps.zip us)):Binds K fd ps []:=by
 obtain⟨oc,od,kV,doc,pm,an,aF,ct,oq,rfl,lk,dY⟩:=F.ex
 exact .all (h kV doc pm an aF ct)
theorem aA {x qual:Str}{st:Stmt}{f:Addr}{oc:Value}{od an:Option Addr}{oq:Array (Option Value)}{kV doc pm aF ct:Value} (l:K.lookup f=some ⟨oc,od,.func (W.fnOf x qual (ay st) (ax st) (ah st) .none kV doc pm an aF ct),oq⟩)
  (c:W.codeIn K aF qual=true) (k:W.keepIn K (.ref f)=true):aR K x qual st f (W.fnOf x qual (ay st) (ax st) (ah st) .none kV doc pm an aF ct):=⟨⟨oc,od,kV,doc,pm,an,aF,ct,oq,rfl,l,c⟩,k⟩
end
theorem n6 {A:Around}{k:Nat} (hr:cK k A):A.units+1<cLine:=Nat.lt_of_le_of_lt (Nat.add_le_add_left (by decide:1<=64) _) hr.units
section
variable {X:Cx}
theorem pv (i:Nat) {x:Str}{pos:Pos} (hN:X.N[i]?=some x:=by rfl) (hv:sE X.env.scope x:=by first | exact Or.inl rfl | exact Or.inr (Or.inl rfl) | exact Or.inr (Or.inr rfl)) (hd:(x==("__debug__":Str))=false:=by decide)
  (dY:(x==("__classdict__":Str))=false:=by decide):PE X (.Name x pos) (W3 i):=ap9 hN hv hd dY
end
theorem aE {A B:Prop} (h:B):if false=true then A else B:=by
 rw[if_neg Bool.false_ne_true]
 exact h
theorem aX {A B:Prop} (h:A):if true=true then A else B:=by
 rw[if_pos rfl]
 exact h
theorem arM {c A B:Prop} [Decidable c] (h1:c->A) (h2:¬ c->B):if c then A else B:=by
 by_cases h:c
 ·rw[if_pos h]
  exact h1 h
 rw[if_neg h]
 exact h2 h
def au (H H':Hp):Prop:=∀ b o,H b=some o->H' b=some o
theorem au.trans {H H1 H2:Hp} (a:au H H1) (b:au H1 H2):au H H2:=fun c o h=>b c o (a c o h)
theorem au.free {H H':Hp} (e:au H H') {l:Addr} (h:H' l=Option.none):H l=Option.none:=by
 cases q:H l with
 | none=>rfl
 | some o =>
  rw[e l o q] at h
  cases h
theorem au.seq {K:W.Frag}{H H':Hp}{a:Addr}{xs:List V} (e:au H H') (h:aq K H a xs):aq K H' a xs:=by
 rcases h with (h | ⟨o,h⟩) | h
 ·exact .inl (.inl (e _ _ h))
 ·exact .inl (.inr ⟨o,e _ _ h⟩)
 exact .inr h
section
variable {κ:Type} [DecidableEq κ]
end
end L2
section
namespace L2
open PySem PySem.Spec PyProof.Rows
open PySem.W (WData Codec OpenSpec Well WellAll ReadsW ReadsAllW)
mutual
inductive Dw (K:W.Frag) (H:Hp):V->WData->Prop
 | aH:Dw K H .aH .none
 | bl (b:Bool):Dw K H (.bl b) (.bool b)
 | int (i:Int):Dw K H (.int i) (.int i)
 | str (x:Str):Dw K H (.str x) (.str x)
 | fy (b:Array UInt8):Dw K H (.fy b) (.bytes b.toList)
 | lst {a:Addr}{xs:List V}{ds:List WData}:aq K H a xs->iA K H xs ds->Dw K H (.ref a) (.list ds)
 | tup {a:Addr}{xs:List V}{ds:List WData}:cp K H a xs->iA K H xs ds->Dw K H (.ref a) (.tuple ds)
inductive iA (K:W.Frag) (H:Hp):List V->List WData->Prop
 | nil:iA K H [] []
 | cons {v:V}{vs:List V}{d:WData}{ds:List WData}:Dw K H v d->iA K H vs ds->iA K H (v::vs) (d::ds)
end
theorem VU {K:W.Frag}{H:Hp}:∀ ns:List Int,iA K H (ns.map V.int) (ns.map WData.int)
 | []=>.nil
 | n::r=>.cons (.int n) (VU r)
theorem VV {K:W.Frag}{H:Hp}:∀ (ns:List Int) (xs:List V),iA K H xs (ns.map WData.int)->xs=ns.map V.int
 | [],xs,h=>by
  cases h
  rfl
 | n::r,xs,h=>by
  cases h with
  | cons h1 h2 =>
   cases h1
   rw[VV r _ h2] <;> rfl
section
variable {P:Program}{w:World}{K:W.Frag}{H:Hp}{h:Heap}{R:W.WRecords}{cl:Str->Option Addr}
theorem apE {a:Addr}{xs:List V} (az:bO P w H h) (KX:K.In h) (q:aq K H a xs):∃ (aj:List Value) (o:Obj) (n:Nat),Vals xs aj/\h.get? a=some o/\o.cls=.type "list"/\o.data=.seq aj.toArray n:=by
 rcases q with q | ⟨o,aj,n,e,hc,_,hd,_,hv⟩
 ·obtain⟨_,aj,n,hv,e⟩:=(show cN P w H h a (.lst xs) from q.ok az)
  exact⟨aj,_,n,hv,e,rfl,rfl⟩
 exact⟨aj.toList,o,n,hv,KX _ _ e,hc,by simp[hd]⟩
theorem apF {a:Addr}{xs:List V} (az:bO P w H h) (KX:K.In h) (q:cp K H a xs):∃ (aj:List Value) (o:Obj) (n:Nat),Vals xs aj/\h.get? a=some o/\o.cls=.type "tuple"/\o.data=.seq aj.toArray n:=by
 rcases q with q | ⟨o,aj,n,e,hc,hd,_,hv⟩
 ·obtain⟨_,aj,hv,o,e,hc,n,hd⟩:=(show cN P w H h a (.tup xs) from q.ok az)
  exact⟨aj,o,n,hv,e,hc,hd⟩
 exact⟨aj.toList,o,n,hv,KX _ _ e,hc,by simp[hd]⟩
mutual
theorem Dw.reads (az:bO P w H h) (KX:K.In h):∀ (d:WData) (v:V) (u:Value),Dw K H v d->RelV v u->∃ as,ReadsW R cl h u d as
 | .none,_,_,x,r=>by
  cases x
  cases r
  exact⟨_,ReadsW.none⟩
 | .bool b,_,_,x,r=>by
  cases x
  cases r
  exact⟨_,ReadsW.bool b⟩
 | .int i,_,_,x,r=>by
  cases x
  obtain⟨t,rfl⟩:=r
  exact⟨_,ReadsW.int i t⟩
 | .str s,_,_,x,r=>by
  cases x
  obtain⟨t,rfl⟩:=r
  exact⟨_,ReadsW.str s t⟩
 | .bytes b,_,_,x,r=>by
  cases x
  obtain⟨t,rfl⟩:=r
  exact⟨_,ReadsW.bytes _ t⟩
 | .list ds,_,_,x,r=>by
  cases x with
  | lst hs ha =>
   cases r
   obtain⟨aj,o,n,rv,ho,hc,hd⟩:=apE az KX hs
   obtain⟨as,hr⟩:=Dw.readsAll az KX ds _ aj ha rv
   exact⟨_,ReadsW.list ho hc hd hr⟩
 | .tuple ds,_,_,x,r=>by
  cases x with
  | tup hs ha =>
   cases r
   obtain⟨aj,o,n,rv,ho,hc,hd⟩:=apF az KX hs
   obtain⟨as,hr⟩:=Dw.readsAll az KX ds _ aj ha rv
   exact⟨_,ReadsW.tuple ho hc hd hr⟩
 | .float _,_,_,x,_=>by cases x
 | .dict _,_,_,x,_=>by cases x
 | .bytearray _,_,_,x,_=>by cases x
 | .set _,_,_,x,_=>by cases x
 | .frozenset _,_,_,x,_=>by cases x
 | .obj _ _,_,_,x,_=>by cases x
theorem Dw.readsAll (az:bO P w H h) (KX:K.In h):∀ (ds:List WData) (vs:List V) (us:List Value),iA K H vs ds->Vals vs us->∃ as,ReadsAllW R cl h us ds as
 | [],_,_,x,r=>by
  cases x
  cases r
  exact⟨_,ReadsAllW.nil⟩
 | d::ds,_,_,x,r=>by
  cases x with
  | cons h1 h2 =>
   cases r with
   | cons r1 r2 =>
    obtain⟨as,q1⟩:=Dw.reads az KX d _ _ h1 r1
    obtain⟨bs,q2⟩:=Dw.readsAll az KX ds _ _ h2 r2
    exact⟨_,ReadsAllW.cons q1 q2⟩
end
end
mutual
def gH:WData->Bool
 | .none=>true
 | .bool _=>true
 | .int _=>true
 | .str _=>true
 | .bytes _=>true
 | .list xs=>iD xs
 | .tuple xs=>iD xs
 | _=>false
def iD:List WData->Bool
 | []=>true
 | x::r=>gH x&&iD r
end
theorem Va {α:Type}{f:α->WData} (h:∀ a,gH (f a)=true):∀ l:List α,iD (l.map f)=true
 | []=>rfl
 | x::r=>by
  show(gH (f x)&&iD (r.map f))=true
  rw[h x,Va h r] <;> rfl
theorem oT:∀ (c:Codec) (a:c.denote),gH (c.enc a)=true
 | .unit,_=>rfl
 | .bool,_=>rfl
 | .int _ _,_=>rfl
 | .nat _ _,_=>rfl
 | .u8,_=>rfl
 | .bytes _ _,_=>rfl
 | .text _ _ _ _,_=>rfl
 | .list _ _ c,a=>Va (fun x=>oT c x) a
 | .pair c d,a=>by
  show(gH (c.enc a.1)&&(gH (d.enc a.2)&&true))=true
  rw[oT c a.1,oT d a.2] <;> rfl
 | .triple c d e,a=>by
  show(gH (c.enc a.1)&&(gH (d.enc a.2.1)&&(gH (e.enc a.2.2)&&true)))=true
  rw[oT c a.1,oT d a.2.1,oT e a.2.2] <;> rfl
 | .option c,none=>rfl
 | .option c,some x=>oT c x
theorem Ut:∀ (cs:List Codec) (a:Codec.denoteAll cs),iD (Codec.encAll cs a)=true
 | [],_=>rfl
 | c::cs,a=>by
  show(gH (c.enc a.1)&&iD (Codec.encAll cs a.2))=true
  rw[oT c a.1,Ut cs a.2] <;> rfl
theorem Dh:∀ {xs:List WData}{d:WData},d∈xs->d.weight<=WData.weightAll xs
 | [],d,h=>absurd h (by simp)
 | x::r,d,h=>by
  show d.weight<=x.weight+1+WData.weightAll r
  rcases List.mem_cons.mp h with e | m
  ·rw[e]
   omega
  have z:=Dh m
  omega
def toV:Value->V
 | .none=>.aH
 | .bool b=>.bl b
 | .int i _=>.int i
 | .str x _=>.str x
 | .bytes b _=>.fy b
 | .ref a=>.ref a
 | _=>.aH
def gZ (A:List Addr):Value->Prop
 | .none=>True
 | .bool _=>True
 | .int _ _=>True
 | .str _ _=>True
 | .bytes _ _=>True
 | .ref a=>a∈A
 | _=>False
theorem gZ.mono {A B:List Addr} (h:∀ a∈A,a∈B):∀ {u:Value},gZ A u->gZ B u:=fun {u} x=>by
 cases u with
 | ref a=>exact h a x
 | none=>trivial
 | bool b=>trivial
 | int i t=>trivial
 | str s t=>trivial
 | bytes b t=>trivial
 | _=>exact False.elim x
theorem amm {A:List Addr}{u:Value} (x:gZ A u):RelV (toV u) u:=by
 cases u with
 | ref a=>rfl
 | none=>rfl
 | bool b=>rfl
 | int i t=>exact⟨t,rfl⟩
 | str s t=>exact⟨t,rfl⟩
 | bytes b t=>exact⟨t,rfl⟩
 | _=>exact False.elim x
theorem rO {A:List Addr}:∀ {vs:List Value},(∀ u∈vs,gZ A u)->Vals (vs.map toV) vs
 | [],_=>.nil
 | u::r,h=>.cons (amm (h u (List.mem_cons_self ..))) (rO fun x hx=>h x (List.mem_cons_of_mem _ hx))
def iB (h:Heap) (A:List Addr) (a:Addr):Prop:=∃ vs:List Value,vs.length<=sizeLine/\(∀ u∈vs,gZ A u) /\
 (h.get? a=some {cls:=.type "list",data:=.seq vs.toArray}\/h.get? a=some {cls:=.type "tuple",data:=.seq vs.toArray})
theorem iB.mono {h:Heap}{A B:List Addr}{a:Addr} (k:∀ a∈A,a∈B) (x:iB h A a):iB h B a:=by
 obtain⟨vs,h1,h2,h3⟩:=x
 exact⟨vs,h1,fun u hu=>(h2 u hu).mono k,h3⟩
theorem xY {P:Params}{h:Heap}:∀ {vs:List Value}{ds:List WData},WellAll P h vs ds->vs.length=ds.length
 | _,_,.nil=>rfl
 | _,_,.cons _ b=>by
  show _+1=_+1
  rw[xY b]
theorem Uu {P:Params}{h:Heap}{v:Value}{ds:List WData} (x:Well P h v (.list ds)):∃ (a:Addr) (vs:List Value),v=.ref a/\h.get? a=some {cls:=.type "list",data:=.seq vs.toArray}/\WellAll P h vs ds:=by
 cases x with
 | list ho eI=>exact⟨_,_,rfl,ho,eI⟩
theorem Ti {P:Params}{h:Heap}{v:Value}{ds:List WData} (x:Well P h v (.tuple ds)):∃ (a:Addr) (vs:List Value),v=.ref a/\h.get? a=some {cls:=.type "tuple",data:=.seq vs.toArray}/\WellAll P h vs ds:=by
 cases x with
 | tuple ho eI=>exact⟨_,_,rfl,ho,eI⟩
theorem Uv {P:Params}{h:Heap}{us:List Value}{d:WData}{ds:List WData} (x:WellAll P h us (d::ds)):∃ (v:Value) (vs:List Value),us=v::vs/\Well P h v d/\WellAll P h vs ds:=by
 cases x with
 | cons a b=>exact⟨_,_,rfl,a,b⟩
theorem VW {n:Nat} (h:n<=1048576):n<=sizeLine:=Nat.le_trans h (by decide)
section
variable {P:Params}{h:Heap}
mutual
theorem amn:∀ (d:WData) (v:Value),Well P h v d->gH d=true->d.weight<=1048576->∃ A:List Addr,gZ A v/\∀ a∈A,iB h A a
 | .none,_,x,_,_=>by
  cases x
  exact⟨[],trivial,fun a m=>absurd m (by simp)⟩
 | .bool b,_,x,_,_=>by
  cases x
  exact⟨[],trivial,fun a m=>absurd m (by simp)⟩
 | .int i,_,x,_,_=>by
  cases x
  exact⟨[],trivial,fun a m=>absurd m (by simp)⟩
 | .str s,_,x,_,_=>by
  cases x
  exact⟨[],trivial,fun a m=>absurd m (by simp)⟩
 | .bytes b,_,x,_,_=>by
  cases x
  exact⟨[],trivial,fun a m=>absurd m (by simp)⟩
 | .list ds,_,x,p,z=>by
  obtain⟨a,vs,rfl,ho,eI⟩:=Uu x
  have z2:WData.weightAll ds<=1048576:=z
  obtain⟨A,h1,h2⟩:=yH ds _ eI p fun d hd=>Nat.le_trans (Dh hd) z2
  have k:∀ b∈A,b∈a::A:=fun b hb=>List.mem_cons_of_mem _ hb
  refine⟨a::A,List.mem_cons_self ..,fun b hb=>?_⟩
  rcases List.mem_cons.mp hb with e | m
  ·rw[e]
   exact⟨vs,VW (by rw[xY eI];exact Nat.le_trans (W.length_le_weightAllW ds) z2),fun u hu=>(h1 u hu).mono k,.inl ho⟩
  exact(h2 b m).mono k
 | .tuple ds,_,x,p,z=>by
  obtain⟨a,vs,rfl,ho,eI⟩:=Ti x
  have z2:WData.weightAll ds<=1048576:=z
  obtain⟨A,h1,h2⟩:=yH ds _ eI p fun d hd=>Nat.le_trans (Dh hd) z2
  have k:∀ b∈A,b∈a::A:=fun b hb=>List.mem_cons_of_mem _ hb
  refine⟨a::A,List.mem_cons_self ..,fun b hb=>?_⟩
  rcases List.mem_cons.mp hb with e | m
  ·rw[e]
   exact⟨vs,VW (by rw[xY eI];exact Nat.le_trans (W.length_le_weightAllW ds) z2),fun u hu=>(h1 u hu).mono k,.inr ho⟩
  exact(h2 b m).mono k
 | .float _,_,_,p,_=>Bool.noConfusion (show false=true from p)
 | .dict _,_,_,p,_=>Bool.noConfusion (show false=true from p)
 | .bytearray _,_,_,p,_=>Bool.noConfusion (show false=true from p)
 | .set _,_,_,p,_=>Bool.noConfusion (show false=true from p)
 | .frozenset _,_,_,p,_=>Bool.noConfusion (show false=true from p)
 | .obj _ _,_,_,p,_=>Bool.noConfusion (show false=true from p)
theorem yH:∀ (ds:List WData) (vs:List Value),WellAll P h vs ds->iD ds=true->(∀ d∈ds,d.weight<=1048576)->∃ A:List Addr,(∀ u∈vs,gZ A u)/\∀ a∈A,iB h A a
 | [],_,x,_,_=>by
  cases x
  exact⟨[],fun u m=>absurd m (by simp),fun a m=>absurd m (by simp)⟩
 | d::ds,_,x,p,z=>by
  obtain⟨v,vs,rfl,x1,x2⟩:=Uv x
  have q:gH d=true/\iD ds=true:=Bool.and_eq_true_iff.mp p
  obtain⟨A,a1,a2⟩:=amn d v x1 q.1 (z d (List.mem_cons_self ..))
  obtain⟨B,b1,b2⟩:=yH ds vs x2 q.2 fun e he=>z e (List.mem_cons_of_mem _ he)
  have kA:∀ b∈A,b∈A++B:=fun b hb=>List.mem_append.mpr (.inl hb)
  have kB:∀ b∈B,b∈A++B:=fun b hb=>List.mem_append.mpr (.inr hb)
  refine⟨A++B,fun u hu=>?_,fun b hb=>?_⟩
  ·rcases List.mem_cons.mp hu with e | m
   ·rw[e]
    exact a1.mono kA
   exact(b1 u m).mono kB
  rcases List.mem_append.mp hb with m | m
  ·exact(a2 b m).mono kA
  exact(b2 b m).mono kB
end
end
def zy (o:Obj):Option HO:=match o.data with
 | .seq vs _=>if (o.cls==Value.type "list")=true then some (.bK o (.lst (vs.toList.map toV))) else some (.bK o (.tup (vs.toList.map toV)))
 | _=>none
def eW (K:W.Frag) (h:Heap) (A:List Addr):Hp:=fun b=>if b∈A then (if (K.lookup b).isNone=true then (h.get? b).bind zy else none) else none
def uI (H:Hp):Prop:=∀ b,H b=none\/∃ o u,H b=some (.bK o u)
theorem Vb (vs:List Value):zy {cls:=.type "list",data:=.seq vs.toArray}=some (.bK {cls:=.type "list",data:=.seq vs.toArray} (.lst (vs.map toV))):=by
 show(if (Value.type "list"==Value.type "list")=true then some (HO.bK {cls:=.type "list",data:=.seq vs.toArray} (.lst (vs.toArray.toList.map toV))) else some (HO.bK {cls:=.type "list",data:=.seq vs.toArray} (.tup (vs.toArray.toList.map toV))))=_
 rw[if_pos (beq_self_eq_true _)]
theorem Vc (vs:List Value):zy {cls:=.type "tuple",data:=.seq vs.toArray}=some (.bK {cls:=.type "tuple",data:=.seq vs.toArray} (.tup (vs.map toV))):=by
 show(if (Value.type "tuple"==Value.type "list")=true then some (HO.bK {cls:=.type "tuple",data:=.seq vs.toArray} (.lst (vs.toArray.toList.map toV))) else some (HO.bK {cls:=.type "tuple",data:=.seq vs.toArray} (.tup (vs.toArray.toList.map toV))))=_
 rw[if_neg (by decide)]
section
variable {P:Program}{w:World}{K:W.Frag}{h:Heap}{A:List Addr}
theorem yR {b:Addr}{o:Obj} (hb:b∈A) (hk:K.lookup b=none) (e:h.get? b=some o):eW K h A b=zy o:=by
 unfold eW
 rw[if_pos hb,hk,if_pos (show(none:Option Obj).isNone=true from rfl),e] <;> rfl
theorem anP {b:Addr}{u:HO} (q:eW K h A b=some u):b∈A/\K.lookup b=none:=by
 unfold eW at q
 by_cases hb:b∈A
 ·rw[if_pos hb] at q
  cases hk:K.lookup b with
  | none=>exact⟨hb,rfl⟩
  | some o =>
   rw[hk,if_neg (by simp)] at q
   cases q
 rw[if_neg hb] at q
 cases q
theorem yS (ar:∀ a∈A,iB h A a) {b:Addr}{u:HO} (q:eW K h A b=some u):K.lookup b=none/\∃ vs:List Value,vs.length<=sizeLine/\(∀ u∈vs,gZ A u) /\
  ((h.get? b=some {cls:=.type "list",data:=.seq vs.toArray}/\u=.bK {cls:=.type "list",data:=.seq vs.toArray} (.lst (vs.map toV)))\/(h.get? b=some {cls:=.type "tuple",data:=.seq vs.toArray}/\u=.bK {cls:=.type "tuple",data:=.seq vs.toArray} (.tup (vs.map toV)))):=by
 obtain⟨hb,hk⟩:=anP q
 obtain⟨vs,h1,h2,h3⟩:=ar b hb
 refine⟨hk,vs,h1,h2,?_⟩
 rcases h3 with e | e
 ·rw[yR hb hk e,Vb] at q
  exact .inl ⟨e,(Option.some.inj q).symm⟩
 rw[yR hb hk e,Vc] at q
 exact .inr ⟨e,(Option.some.inj q).symm⟩
theorem akO (ar:∀ a∈A,iB h A a):uI (eW K h A):=fun b=>by
 cases q:eW K h A b with
 | none=>exact .inl rfl
 | some u =>
  obtain⟨_,vs,_,_,⟨_,e⟩ | ⟨_,e⟩⟩:=yS ar q
  ·exact .inr ⟨_,_,by rw[e]⟩
  exact .inr ⟨_,_,by rw[e]⟩
theorem anQ (ar:∀ a∈A,iB h A a):bO P w (eW K h A) h:=fun b u q=>by
 obtain⟨_,vs,h1,h2,⟨e,rfl⟩ | ⟨e,rfl⟩⟩:=yS ar q
 ·exact⟨e,by rw[List.length_map];exact h1,vs,_,rO h2,e⟩
 exact⟨e,by rw[List.length_map];exact h1,vs,rO h2,_,e,rfl,_,rfl⟩
theorem yT {c c':Value}{vs us:List Value} (e:(some {cls:=c,data:=.seq vs.toArray}:Option Obj)=some {cls:=c',data:=.seq us.toArray}):c=c'/\vs=us:=by
 have e1:=Option.some.inj e
 have e2:c=c':=congrArg Obj.cls e1
 have e3:Data.seq vs.toArray=Data.seq us.toArray:=congrArg Obj.data e1
 injection e3 with e4
 refine⟨e2,?_⟩
 have e5:=congrArg Array.toList e4
 simpa using e5
theorem arN (KX:K.In h) (ar:∀ a∈A,iB h A a) {a:Addr}{vs:List Value} (ha:a∈A) (e:h.get? a=some {cls:=.type "list",data:=.seq vs.toArray}):(∀ u∈vs,gZ A u)/\aq K (eW K h A) a (vs.map toV):=by
 obtain⟨us,h1,h2,h3⟩:=ar a ha
 have hu:us=vs:=by
  rcases h3 with q | q
  ·rw[e] at q
   exact(yT q).2.symm
  rw[e] at q
  exact absurd (Value.type.inj (yT q).1) (by decide)
 subst hu
 refine⟨h2,?_⟩
 cases hk:K.lookup a with
 | none=>exact .inl (.inr ⟨_,by rw[yR ha hk e,Vb]⟩)
 | some o =>
  have e2:=KX a o hk
  rw[e] at e2
  obtain rfl:=Option.some.inj e2
  exact .inr ⟨_,us.toArray,_,hk,rfl,rfl,rfl,by rw[List.size_toArray];exact h1,by simpa using rO h2⟩
theorem arO (KX:K.In h) (ar:∀ a∈A,iB h A a) {a:Addr}{vs:List Value} (ha:a∈A) (e:h.get? a=some {cls:=.type "tuple",data:=.seq vs.toArray}):(∀ u∈vs,gZ A u)/\cp K (eW K h A) a (vs.map toV):=by
 obtain⟨us,h1,h2,h3⟩:=ar a ha
 have hu:us=vs:=by
  rcases h3 with q | q
  ·rw[e] at q
   exact absurd (Value.type.inj (yT q).1) (by decide)
  rw[e] at q
  exact(yT q).2.symm
 subst hu
 refine⟨h2,?_⟩
 cases hk:K.lookup a with
 | none=>exact .inl (.inr ⟨_,by rw[yR ha hk e,Vc]⟩)
 | some o =>
  have e2:=KX a o hk
  rw[e] at e2
  obtain rfl:=Option.some.inj e2
  exact .inr ⟨_,us.toArray,_,hk,rfl,rfl,by rw[List.size_toArray];exact h1,by simpa using rO h2⟩
mutual
theorem apG {Pm:Params} (KX:K.In h) (ar:∀ a∈A,iB h A a):∀ (d:WData) (v:Value),Well Pm h v d->gH d=true->gZ A v->Dw K (eW K h A) (toV v) d
 | .none,_,x,_,_=>by
  cases x
  exact .aH
 | .bool b,_,x,_,_=>by
  cases x
  exact .bl b
 | .int i,_,x,_,_=>by
  cases x
  exact .int i
 | .str s,_,x,_,_=>by
  cases x
  exact .str s
 | .bytes b,_,x,_,_=>by
  cases x
  have z:=Dw.fy (K:=K) (H:=eW K h A) b.toArray
  exact z
 | .list ds,_,x,p,hu=>by
  obtain⟨a,vs,rfl,ho,eI⟩:=Uu x
  obtain⟨h2,hs⟩:=arN KX ar hu ho
  exact .lst hs (zf KX ar ds _ eI p h2)
 | .tuple ds,_,x,p,hu=>by
  obtain⟨a,vs,rfl,ho,eI⟩:=Ti x
  obtain⟨h2,hs⟩:=arO KX ar hu ho
  exact .tup hs (zf KX ar ds _ eI p h2)
 | .float _,_,_,p,_=>Bool.noConfusion (show false=true from p)
 | .dict _,_,_,p,_=>Bool.noConfusion (show false=true from p)
 | .bytearray _,_,_,p,_=>Bool.noConfusion (show false=true from p)
 | .set _,_,_,p,_=>Bool.noConfusion (show false=true from p)
 | .frozenset _,_,_,p,_=>Bool.noConfusion (show false=true from p)
 | .obj _ _,_,_,p,_=>Bool.noConfusion (show false=true from p)
theorem zf {Pm:Params} (KX:K.In h) (ar:∀ a∈A,iB h A a):∀ (ds:List WData) (vs:List Value),WellAll Pm h vs ds->iD ds=true->(∀ u∈vs,gZ A u)->iA K (eW K h A) (vs.map toV) ds
 | [],_,x,_,_=>by
  cases x
  exact .nil
 | d::ds,_,x,p,hu=>by
  obtain⟨v,vs,rfl,x1,x2⟩:=Uv x
  have q:gH d=true/\iD ds=true:=Bool.and_eq_true_iff.mp p
  exact .cons (apG KX ar d v x1 q.1 (hu _ (List.mem_cons_self ..))) (zf KX ar ds vs x2 q.2 fun u m=>hu u (List.mem_cons_of_mem _ m))
end
end
theorem akP {P:Program}{w:World}{K:W.Frag}{mg mb:Str->Option Value}{CX:gW}{k:Nat}{fa:Addr}{fd:FuncData}{ps:List Str}{sp:Sp}{s₁:Shared}{vals:List Value}{ds:List WData}{R:W.WRecords}{cl:Str->Option Addr}{d0:WData}
  (KX:K.In s₁.heap) (gj:s₁.heap.Ns mainGlobals mg) (hb:s₁.heap.Ns builtinsNs mb) (zP:∀ x:Str,x≠"__name__"->mb x=bootBuiltins x) (arP:s₁.heap.NoLimit) (hg:s₁.gens = #[])
  (vk:WellAll w.params s₁.heap vals ds) (eK:iD ds=true) (hwt:∀ d∈ds,d.weight<=1048576) (hr:cK k callerA)
  (F:∀ base:Heap,K.In base->base.Ns mainGlobals mg->aN P w K mg base CX true k fa fd ps sp) (aqD:∀ (s:Shared) (us:List Value),us.length=ps.length->BindsTo s fd ⟨us,[]⟩ (ps.zip us)) (hlen:ds.length=ps.length)
  (eB:∀ (H:Hp) (xs:List V),uI H->iA K H xs ds->sp xs H (fun v H'=>Dw K H' v d0) fun _ _ _=>False)
  (vm:∀ H e s',CX [] H s₁ (fun _ _ _=>False) e s'->False) :
  codeAny (model P w) callerA (.call (.ref fa) ⟨vals,[]⟩) (fun r s'=>∃ u as,r=.ok (.ret u)/\ReadsW R cl s'.heap u d0 as/\OldK s₁.heap s'.heap/\s'.os=s₁.os/\AllBare s'.gens) s₁:=by
 obtain⟨A,ho,ar⟩:=yH ds vals vk eK hwt
 have hO:uI (eW K s₁.heap A):=akO ar
 have az:bO P w (eW K s₁.heap A) s₁.heap:=anQ ar
 have hS:=zf KX ar ds vals vk eK ho
 have hV:=rO ho
 have hK:∀ b u,eW K s₁.heap A b=some u->K.lookup b=none:=fun b u q=>(yS ar q).1
 have sJ:∀ {b:Addr}{o:Obj}{es:Array DictEntry}{ep:Nat},s₁.heap.get? b=some o->o.data=.dict es ep->eW K s₁.heap A b=none:=fun {b o es ep} e d=>by
  cases q:eW K s₁.heap A b with
  | none=>rfl
  | some u =>
   obtain⟨_,vs,_,_,⟨e2,_⟩ | ⟨e2,_⟩⟩:=yS ar q
   ·rw[e2] at e
    cases e
    have d':Data.seq vs.toArray _=Data.dict es ep:=d
    cases d'
   rw[e2] at e
   cases e
   have d':Data.seq vs.toArray _=Data.dict es ep:=d
   cases d'
 generalize eW K s₁.heap A=H at hO az hS hK sJ
 have VX:∀ {b:Addr}{o:Obj},s₁.heap.get? b=some o->H b=none->(og s₁.heap H).get? b=some o:=fun e n=>am3 e n
 have zQ:∀ {b:Addr}{m:Str->Option Value},s₁.heap.Ns b m->(og s₁.heap H).Ns b m:=fun {b m} ⟨o,es,ep,e,d,r⟩=>⟨o,es,ep,VX e (sJ e d),d,r⟩
 have nK:∀ b o,K.lookup b=some o->H b=none:=fun b o e=>by
  cases q:H b with
  | none=>rfl
  | some u =>
   rw[hK b u q] at e
   cases e
 have X6:K.In (og s₁.heap H):=fun b o e=>VX (KX b o e) (nK b o e)
 have hM:Mod K mg (og s₁.heap H):=⟨X6,zQ gj,⟨mb,zQ hb,zP⟩,let ⟨mc,h1,h2⟩:=arP;⟨mc,zQ h1,h2⟩⟩
 have e0:qu P w K mg (og s₁.heap H) callerA [] s₁ H:=⟨rfl,hM,fun b o e=>anC e,Nat.le_of_eq (akE _ _),trivial,fun b hb=>absurd (show b∈([]:List Addr) from hb) (by simp),az,.of_eq hg⟩
 have hl:vals.length=ps.length:=by rw[xY vk];exact hlen
 refine codeAny_mono ((F _ X6 (zQ gj)).run callerA [] s₁ H ⟨vals,[]⟩ vals (vals.map toV) _ _ hr (fun _=>rfl) e0 (aqD s₁ vals hl) hV (eB H _ hO hS)) fun r s' x=>?_
 cases r with
 | error e=>exact(vm H e s' x).elim
 | ok fl =>
  cases fl with
  | next=>exact False.elim x
  | brk=>exact False.elim x
  | cont=>exact False.elim x
  | ret u =>
   obtain⟨v,H',os,bare,un,Xg,r',q⟩:=x
   have kept:∀ b o,s₁.heap.get? b=some o->s'.heap.get? b=some o:=fun b o e=>by
    cases q2:H b with
    | none=>exact un.keep b o e q2 (by intro z;exact absurd (show b∈([]:List Addr) from z) (by simp)) (by simp)
    | some u2 =>
     rcases hO b with z | ⟨ob,u3,z⟩
     ·rw[q2] at z
      cases z
     have z2:=un.fe b ob _ z
     obtain⟨e1,_⟩:=az b _ z
     obtain⟨e2,_⟩:=Xg b _ z2
     rw[e] at e1
     cases e1
     exact e2
   have KX':K.In s'.heap:=fun b o e=>kept b o (KX b o e)
   obtain⟨as,X7⟩:=Dw.reads (R:=R) (cl:=cl) Xg KX' d0 v u q r'
   exact⟨u,as,rfl,X7,OldK.of_keep kept,os,bare⟩
theorem adf {ds:List WData} (h:WData.layableAll ds=true):∀ d∈ds,d.weight<=1048576:=fun d hd =>
 (W.layableW_iff.mp (List.all_eq_true.mp h d hd)).2.2
theorem Tj:∀ (cs:List Codec) (a:Codec.denoteAll cs),(Codec.encAll cs a).length=cs.length
 | [],_=>rfl
 | c::cs,a=>by
  show(Codec.encAll cs a.2).length+1=cs.length+1
  rw[Tj cs a.2]
theorem akQ {r:OpenSpec}{k:Nat}{q:Program}{loose:List Str}{XP:(Str->Option Value)->Heap->Prop}{YP:World->Heap->Prop}{d:DefRec}{K:Params->W.Frag}{CX:World->gW}{ps:List Str}{sp:World->Sp}
  (Ei:r.wellSaid=true) (vn:d.params.defaults=[]) (hlen:r.args.length=ps.length) (hr:cK k callerA)
  (hY:∀ (w:World) (h:Heap),YP w h->(K w.params).In h)
  (F:∀ (w:World) (mg:Str->Option Value) (fa:Addr) (h:Heap),YP w h->(K w.params).In h->h.Ns mainGlobals mg->mg d.name=some (.ref fa) ->
   ∃ fd:FuncData,(∀ (s:Shared) (us:List Value),us.length=ps.length->BindsTo s fd ⟨us,[]⟩ (ps.zip us)) /\
    ∀ base:Heap,(K w.params).In base->base.Ns mainGlobals mg->aN r.prog w (K w.params) mg base (CX w) true k fa fd ps (sp w))
  (eB:∀ (w:World) (H:Hp) (xs:List V) (a:Codec.denoteAll r.args),uI H->Codec.withinAll r.args a=true->Codec.app r.args r.asked a=true->iA (K w.params) H xs (Codec.encAll r.args a) ->
   sp w xs H (fun v H'=>Dw (K w.params) H' v (r.ret.enc (Codec.app r.args r.f a))) fun _ _ _=>False)
  (vm:∀ (w:World) (H:Hp) (s:Shared) (e:Value) (s':Shared),CX w [] H s (fun _ _ _=>False) e s'->False) :
  W.WalkOS q loose XP YP r d [] (fun f vs=>PySem.call f vs):=by
 intro w di s₁ mg mb G Y fa o pm cd doc dV kV ho hd dY hD Fl hg args vals as arQ arR X7 vk hlo
 obtain⟨a,e1,e2⟩:=W.os_pre_some arQ
 obtain⟨e3,px⟩:=Codec.encAll_of_decAll r.args args a e1
 subst e3
 have KX:=hY w _ Y
 obtain⟨fd,hb,hF⟩:=F w mg fa _ Y KX G.T.g Fl
 refine W.enter_call (codeAny_mono (akP (R:=[]) (cl:=classAt di.heap) (d0:=r.ret.enc (Codec.app r.args r.f a)) KX G.T.g G.T.b G.T.builtins G.T.nolimit hg vk (Ut _ _) (adf arR) hr hF hb (by rw[Tj];exact hlen)
  (fun H xs hO hS=>eB w H xs a hO px e2 hS) fun H e s'=>vm w H s₁ e s') fun r' s' hq=>?_)
 obtain⟨u,as',rfl,h1,h2,h3,h4⟩:=hq
 exact⟨.inl ⟨u,_,as',rfl,fun _=>rfl,h1,(OpenSpec.post_iff Ei px _ _).mpr rfl,fun z=>Bool.noConfusion (show false=true from z)⟩,h2,h3,h4⟩
theorem aj1 {r:OpenSpec}{k:Nat}{q:Program}{loose:List Str}{XP:(Str->Option Value)->Heap->Prop}{YP:World->Heap->Prop}{d:DefRec}{K:Params->W.Frag}{CX:gW}{ps:List Str}{sp:W.Frag->Sp}
  (Ei:r.wellSaid=true) (vn:d.params.defaults=[]) (hlen:r.args.length=ps.length) (hr:cK k callerA)
  (hY:∀ (w:World) (h:Heap),YP w h->(K w.params).In h)
  (F:∀ (w:World) (mg:Str->Option Value) (fa:Addr) (h:Heap),YP w h->(K w.params).In h->h.Ns mainGlobals mg->mg d.name=some (.ref fa) ->
   ∃ fd:FuncData,(∀ (s:Shared) (us:List Value),us.length=ps.length->BindsTo s fd ⟨us,[]⟩ (ps.zip us)) /\
    ∀ base:Heap,(K w.params).In base->base.Ns mainGlobals mg->aN r.prog w (K w.params) mg base CX true k fa fd ps (sp (K w.params)))
  (eB:∀ (K:W.Frag) (H:Hp) (xs:List V) (a:Codec.denoteAll r.args),uI H->Codec.withinAll r.args a=true->Codec.app r.args r.asked a=true->iA K H xs (Codec.encAll r.args a) ->
   sp K xs H (fun v H'=>Dw K H' v (r.ret.enc (Codec.app r.args r.f a))) fun _ _ _=>False)
  (vm:∀ (H:Hp) (s:Shared) (e:Value) (s':Shared),CX [] H s (fun _ _ _=>False) e s'->False) :
  W.WalkOS q loose XP YP r d [] (fun f vs=>PySem.call f vs) :=
 akQ (K:=K) (CX:=fun _=>CX) (sp:=fun w=>sp (K w.params)) Ei vn hlen hr hY F (fun w H xs a h1 h2 h3 h4=>eB (K w.params) H xs a h1 h2 h3 h4) fun _ H s e s'=>vm H s e s'
end L2
end
end
section
namespace LX
open PySem
open Sem (wp)
def DK (h h':Heap):Prop:=∀ b o,h.get? b=some o->∃ o',h'.get? b=some o'/\o'.dict=o.dict
theorem DK.rfl' (h:Heap):DK h h:=fun _ o e=>⟨o,e,rfl⟩
theorem DK.trans {h1 h2 h3:Heap} (x:DK h1 h2) (y:DK h2 h3):DK h1 h3:=fun b o e=>by
 obtain⟨o2,e2,d2⟩:=x b o e
 obtain⟨o3,e3,d3⟩:=y b o2 e2
 exact⟨o3,e3,d3.trans d2⟩
theorem DK.push (h:Heap) (u:Obj):DK h (h.push u):=fun _ o e=>⟨o,Heap.get?_push_of_some _ e,rfl⟩
theorem akR (o:Obj) (f:Array Value->Array Value):(Obj.mapFields f o).dict=o.dict:=by
 obtain⟨c,d,dt,sl⟩:=o
 cases dt <;> rfl
theorem DK.fields {h:Heap}{a:Addr}{o:Obj}{vs:Array Value} (f:Array Value->Array Value) (ho:h.get? a=some o) (hd:o.data=.fields vs):DK h (h.update a (Obj.mapFields f)):=fun b u e=>by
 by_cases q:b=a
 ·subst q
  rw[ho] at e
  cases e
  exact⟨_,Heap.get?_update_self _ ho (Obj.isFreed_of_fields (Obj.data_mapFields hd _)),akR _ _⟩
 exact⟨u,by rw[Heap.get?_update_other _ _ (Ne.symm q)];exact e,rfl⟩
structure KD {α:Type} (t:Sem α):Prop where
 out:∀ (M:Model) (Γ:Ctx) (P:α->Pos->Shared->Prop) (Ee:Value->Pos->Shared->Prop) (p:Pos) (s:Shared),wp M Γ t P Ee p s->wp M Γ t (fun a p' s'=>P a p' s'/\DK s.heap s'.heap) Ee p s
namespace KD
variable {α β:Type}
theorem fA (a:α):KD (Pure.pure a:Sem α):=⟨fun M Γ P Ee p s h=>by
 rw[Sem.wp_pure'] at h ⊢
 exact⟨h,DK.rfl' _⟩⟩
theorem Fm (w:String):KD (PySem.unsupported w:Sem α):=⟨fun _ _ _ _ _ _ h=>h⟩
theorem eM {m:Sem α}{f:α->Sem β} (hm:KD m) (hf:∀ a,KD (f a)):KD (m >>= f):=⟨fun M Γ P Ee p s h=>by
 rw[Sem.wp_bind'] at h ⊢
 refine Sem.wp_mono M Γ m (fun a p' s' q=>?_) (fun _ _ _ z=>z) p s (hm.out M Γ _ Ee p s h)
 exact Sem.wp_mono M Γ (f a) (fun b p'' eL r=>⟨r.1,q.2.trans r.2⟩) (fun _ _ _ z=>z) p' s' ((hf a).out M Γ P Ee p' s' q.1)⟩
theorem cond {c:Prop} [Decidable c] {t u:Sem α} (ht:KD t) (hu:KD u):KD (if c then t else u):=by
 split
 ·exact ht
 exact hu
theorem lod (a:Addr):KD (PySem.load a):=⟨fun M Γ P Ee p s h=>by
 unfold PySem.load at h ⊢
 rw[Sem.wp_load] at h ⊢
 obtain⟨o,e,q⟩:=h
 rw[Sem.wp_pure] at q
 exact⟨o,e,by rw[Sem.wp_pure];exact⟨q,DK.rfl' _⟩⟩⟩
theorem jB:KD PySem.stack:=⟨fun M Γ P Ee p s h=>by
 unfold PySem.stack at h ⊢
 rw[Sem.wp_stack,Sem.wp_pure] at h ⊢
 exact⟨h,DK.rfl' _⟩⟩
theorem fld (v:Value) (i:Nat):KD (PySem.field v i):=⟨fun M Γ P Ee p s h=>by
 obtain⟨a,o,vs,x,e1,e2,e3,e4,q⟩:=(wp_field_iff Γ v i P Ee p s).mp h
 exact(wp_field_iff Γ v i _ Ee p s).mpr ⟨a,o,vs,x,e1,e2,e3,e4,q,DK.rfl' _⟩⟩
theorem EC (v:Value) (i:Nat) (x:Value):KD (PySem.setField v i x):=⟨fun M Γ P Ee p s h=>by
 obtain⟨a,o,vs,e1,e2,e3,e4,q⟩:=(wp_setField_iff Γ v i x P Ee p s).mp h
 exact(wp_setField_iff Γ v i x _ Ee p s).mpr ⟨a,o,vs,e1,e2,e3,e4,q,DK.fields _ e2 e3⟩⟩
theorem slo (a:Addr) (f:Obj->Array (Option Value)):KD (PySem.update a fun o=>{o with slots:=f o}):=⟨fun M Γ P Ee p s h=>by
 rw[Sem.wp_cmd_update] at h ⊢
 obtain⟨e,q⟩:=h
 obtain⟨o,ho⟩:=Option.isSome_iff_exists.mp e
 refine⟨e,q,fun b u hb=>?_⟩
 obtain⟨sl,hs⟩:=(Heap.SlotsOnly.update ho f).2.2 b u hb
 exact⟨_,hs,rfl⟩⟩
theorem nfl (c:String) (l:List Value):KD (newFields c l):=⟨fun M Γ P Ee p s h=>by
 unfold newFields newObj newObjAsIs at h ⊢
 simp only [Sem.wp_bind',alloc,Sem.wp_alloc,Sem.wp_pure,Sem.wp_pure'] at h ⊢
 by_cases hz:l.toArray.size>sizeLine+2
 ·simp only [hz,if_true] at h
  exact h.elim
 simp only [hz,if_false] at h ⊢
 simp only [Sem.wp_bind',Sem.wp_alloc,Sem.wp_pure,Sem.wp_pure'] at h ⊢
 exact⟨h,DK.push _ _⟩⟩
end KD
theorem akS (env:Env) (outer:List Env):KD (behindIsImport env outer):=by
 unfold behindIsImport
 refine KD.cond (KD.fA _) ?_
 refine KD.cond (KD.fA _) ?_
 exact KD.eM (KD.fld _ _) fun _=>KD.fA _
theorem akT:KD underTheClaimsCaller:=by
 unfold underTheClaimsCaller
 exact KD.eM KD.jB fun _=>KD.fA _
theorem anR (env:Env) (i:Bool) (l:List Env):KD (keptBack env i l):=by
 cases l with
 | nil =>
  unfold keptBack
  exact KD.cond (KD.fA _) (KD.eM akT fun _=>KD.fA _)
 | cons c r =>
  unfold keptBack
  exact KD.fA _
theorem Vd:∀ l:List Env,KD (readyFrames l)
 | []=>KD.fA _
 | env::outer=>by
  have ih:=Vd outer
  unfold readyFrames
  cases env.frame with
  | none=>exact KD.Fm _
  | some f =>
   refine KD.eM (KD.lod f) fun o=>KD.cond (KD.fA _) ?_
   refine KD.eM (akS env outer) fun b=>KD.eM (anR env b outer) fun v=>?_
   exact KD.eM (KD.slo f _) fun _=>ih
theorem aj2 (env:Env):KD (frameOf env):=by
 unfold frameOf
 have h1:KD frameEnvs:=by
  unfold frameEnvs
  exact KD.eM KD.jB fun _=>KD.fA _
 refine KD.eM h1 fun l=>KD.eM (?_:KD (frameObject _)) fun r=>?_
 ·cases h:(l.dropWhile (·.frame != env.frame)) with
  | nil=>exact KD.fA _
  | cons e r =>
   unfold frameObject
   exact KD.eM (Vd _) fun _=>KD.fA _
 cases r with
 | none=>exact KD.Fm _
 | some v=>exact KD.fA _
theorem amo (f:Addr) (b:Bool):KD (entryPlaceOf f b):=by
 unfold entryPlaceOf
 refine KD.eM KD.jB fun av1=>?_
 split
 ·exact KD.fA _
 exact KD.fA _
theorem VY (e:Value) (env:Env):KD (noteFrame e env):=by
 unfold noteFrame
 cases env.frame with
 | none=>exact KD.Fm _
 | some f =>
  have tail:∀ head:Value,KD (do setField e 1 (<- EntryCells.newEntry head (<- frameOf env) .none (rawInt f) .none (<- entryPlaceOf f (head != .none)))):=fun head =>
   KD.eM (aj2 env) fun fr=>KD.eM (amo f _) fun pl=>KD.eM (KD.nfl _ _) fun b=>KD.EC _ _ _
  refine KD.eM (KD.fld e 1) fun head=>?_
  refine KD.cond (KD.eM (KD.fld head 3) fun m=>KD.cond (KD.fA _) (KD.eM (KD.EC _ _ _) fun _=>tail head)) (tail head)
theorem Dz (e:Value) (o:Option Addr):KD (setFlight e o):=by
 unfold setFlight
 refine KD.eM (KD.fld e 1) fun tb=>KD.cond (KD.EC _ _ _) (KD.fA _)
theorem KD.any {α:Type}{t:Sem α} (k:KD t) {M:Model}{A:Around}{Q:α->Shared->Prop}{E:Value->Shared->Prop}{s:Shared} (h:wpAny M A t Q E s) :
  wpAny M A t (fun a s'=>Q a s'/\DK s.heap s'.heap) E s:=fun Γ p hΓ=>k.out M Γ _ _ p s (h Γ p hΓ)
theorem Tn (env:Env) (e:Value):KD (leaving env e):=by
 unfold leaving
 exact KD.eM (VY e env) fun _=>Dz e none
end LX
end
section
namespace LX
open PySem PySem.W PySem.Calls PyProof.Rows Builtin Builtin.ObjectAttr
abbrev eE:List Value:=[.type "Exception",.type "BaseException",.type "object"]
def cD (K:Frag) (C:Addr):Bool:=match K.lookup C with
 | some ⟨.type "type",_,.cls cd,sl⟩=>(cd.mro==.ref C::eE)&&!cd.hasDel&&cd.hasDict&&(match sl.toList with | [_,_,_,_,some (.builtin n),_]=>n=="Exception.__new__" | _=>false)
 | _=>false
theorem nT {K:Frag}{h:Heap}{C:Addr} (X:K.In h) (e:cD K C=true):∃ (nm q:Str) (N:Addr) (bs:List Value) (sn:List Str) (sub:List Value) (ab:Bool) (col:Option Bool) (dd:Option Addr) (k0 k1 k2 k3 k5:Option Value),
  h.get? C=some (excClassObj nm q C N bs eE true sn sub ab col dd k0 k1 k2 k3 k5 "Exception.__new__")/\∃ cd,clsIn K C=some cd/\cd.hasDict=true/\cd.mro=.ref C::eE:=by
 unfold cD at e
 split at e
 ·rename_i dd cd sl ho
  simp only [Bool.and_eq_true,Bool.not_eq_true',beq_iff_eq] at e
  obtain⟨⟨⟨e1,e2⟩,e3⟩,e4⟩:=e
  have hc:clsIn K C=some cd:=by unfold clsIn;rw[ho]
  split at e4
  ·rename_i k0 k1 k2 k3 n k5 hs
   have hn:n="Exception.__new__":=beq_iff_eq.mp e4
   subst hn
   have h0:=X _ _ ho
   obtain⟨nm,bs,mro,ns,qn,hd,sn,sub,ab,col,del⟩:=cd
   dsimp only at e1 e2 e3
   subst e1 e2 e3
   have gk:sl = #[k0,k1,k2,k3,some (.builtin "Exception.__new__"),k5]:=by
    obtain⟨l⟩:=sl
    simp only at hs
    rw[hs]
   subst gk
   exact⟨nm,qn,ns,bs,sn,sub,ab,col,dd,k0,k1,k2,k3,k5,h0,_,hc,rfl,rfl⟩
  cases e4
 cases e
abbrev cY (C t:Addr) (d:Option Addr):Obj:={cls:=.ref C,dict:=d,data:=.fields #[.ref t,.none,.none,.none,.bool false,.none]}
section
variable {prog:Program}{w:World}{A:Around}{K:Frag}{C f:Addr}{R:Result->Shared->Prop}{h:Heap}{g:Array GenState}{d:Drawn}{t:Nat}{os:OsState}
theorem aeM {rest:List Value} (X:K.In h) (hb:cD K C=true) (hi:findIn K (.ref C) "__init__"=some (some (.ref f))) (hf:typeIn K (.ref f)=some (.type "function")) (hl:rest.length<=sizeLine)
  (go:codeAny (model prog w) A (.call (.ref f) ⟨.ref (h.objs.size+1)::rest,[]⟩) (InitBack (h.objs.size+1) R)
   ⟨(h.push {cls:=.type "tuple",data:=.seq rest.toArray}).push (cY C h.objs.size none),g,d,t,os⟩) :
  wpAny (model prog w) A (Builtin.«type.__call__» ⟨.ref C::rest,[]⟩) (fun fin s'=>match fin with | .done f=>R (.ok f) s' | .again _=>False) (fun e s'=>R (.error e) s') ⟨h,g,d,t,os⟩:=by
 obtain⟨nm,q,N,bs,sn,sub,ab,col,dd,k0,k1,k2,k3,k5,hC,_⟩:=nT X hb
 have FB:=PySem.F.excBase_Exception
 repeat (first | with_reducible refine wpAny_madeBy_exc hC ?_ | with_reducible refine wpAny_loadPart_at hC ?_ | wp_step)
 refine codeAny_call_builtin_code (Code.quiet_builtin _ FB.quiet) (wpAny_check_new_sub FB hC ?_)
 refine codeAny_exc_new_sub FB hC ?_ hl
 show wpAny _ _ _ _ _ _
 have kp:∀ b o,h.get? b=some o->((h.push {cls:=.type "tuple",data:=.seq rest.toArray}).push (cY C h.objs.size none)).get? b=some o:=fun b o e=>Heap.get?_push_of_some _ (Heap.get?_push_of_some _ e)
 have zR:=kp _ _ hC
 have X1:K.In ((h.push {cls:=.type "tuple",data:=.seq rest.toArray}).push (cY C h.objs.size none)):=X.keeps kp
 have hg:((h.push {cls:=.type "tuple",data:=.seq rest.toArray}).push (cY C h.objs.size none)).get? (h.objs.size+1)=some {cls:=.ref C,data:=.fields #[.ref h.objs.size,.none,.none,.none,.bool false,.none]}:=by heap_get
 have Fn:(Value.ref C::eE).contains (.ref C)=true:=by simp
 unfold isInstance
 repeat (first | with_reducible refine wpAny_loadPart_at hg ?_ | (with_reducible refine wpAny_isSubtype_exc zR ?_;rw[Fn]) | wp_step)
 show wpAny _ _ (typeLookup (.ref C) _) _ _ _
 refine(looks_findIn X1 hi).here ?_
 refine wpAny_holding (wpAny_bind ((bind_fn X1 _ hf).here ?_))
 refine wpAny_bind (wpAny_call (codeAny_mono go fun r s' z=>?_))
 rcases r with e | (v | _ | _ | _) <;> first | exact z | exact z.elim | skip
 obtain⟨rfl,z⟩:=z
 wp_walk
 exact z
theorem amq {rest:List Value} (X:K.In h) (hb:cD K C=true) (hi:findIn K (.ref C) "__init__"=some (some (.ref f))) (hf:typeIn K (.ref f)=some (.type "function")) (hl:rest.length<=sizeLine)
  (go:codeAny (model prog w) (A.under (.builtin "type.__call__" ⟨.ref C::rest,[]⟩)) (.call (.ref f) ⟨.ref (h.objs.size+1)::rest,[]⟩) (InitBack (h.objs.size+1) R)
   ⟨(h.push {cls:=.type "tuple",data:=.seq rest.toArray}).push (cY C h.objs.size none),g,d,t,os⟩) :
  codeAny (model prog w) A (.call (.ref C) ⟨rest,[]⟩) R ⟨h,g,d,t,os⟩:=by
 obtain⟨nm,q,N,bs,sn,sub,ab,col,dd,k0,k1,k2,k3,k5,hC,_⟩:=nT X hb
 have f1:=tc_lookup
 have f2:=tc_bind (.ref C)
 have hT:(⟨h,g,d,t,os⟩:Shared).TypeIs (.ref C) "type":=⟨_,hC,rfl⟩
 refine codeAny_of_tree ?_
 show wpAny _ _ (callAny (.ref C) _) _ _ _
 repeat (any_goals (first | with_reducible refine wpAny_loadPart_at hC ?_ | assumption | wp_step))
 refine⟨rfl,?_⟩
 refine codeAny_call_builtin_at (Code.quiet_builtin _ (by decide +kernel)) entry_typeCall (wpAny_check_type_call_sub hC (wpAny_mono (aeM X hb hi hf hl go) (fun fin s' z=>?_) fun _ _ z=>z))
 cases fin with
 | done f=>exact z
 | again c=>exact z.elim
end
end LX
end
section
namespace LX
open PySem PySem.W PySem.Calls PyProof.Rows Builtin Builtin.ObjectAttr
section
variable {prog:Program}{w:World}{A:Around}{E:Value->Shared->Prop}{K:Frag}{C e t:Addr}{s:Shared}{name:Str}{v:Value}
theorem akU {tk:Tok}{b:Bool}{Q:Fin->Shared->Prop} (X:K.In s.heap) (hb:cD K C=true) (he:s.heap.get? e=some (cY C t none))
  (k:∀ h':Heap,h'.get? e=some (cY C t (some s.heap.objs.size))->h'.Ns1 s.heap.objs.size (fun y=>if y=name then some v else none)->(∀ b o,b≠e->s.heap.get? b=some o->h'.get? b=some o)->Q (.done (.ret .none)) {s with heap:=h',toks:=s.toks+1}) :
  wpAny (model prog w) A (storeInOwnDict (.ref e) (.ref C) (.str name tk) name v b) Q E s:=by
 obtain⟨_,_,_,_,_,_,_,_,_,_,_,_,_,_,_,cd,hc,hd,_⟩:=nT X hb
 have X8:(s.heap.push {cls:=.type "dict",data:=.dict #[]}).get? e=some (cY C t none):=Heap.get?_push_of_some _ he
 have X9:e≠s.heap.objs.size:=Nat.ne_of_lt (Heap.lt_size he)
 refine wpAny_bind (wpAny_pure (wpAny_bind (wpAny_bind (wpAny_loadPart he (wpAny_bind ((looks_clsIn X hc).here ?_))))))
 rw[hd]
 refine wpAny_bind (wpAny_alloc (wpAny_bind (wpAny_update X8 (wpAny_pure ?_))))
 have aqE:((s.heap.push {cls:=.type "dict",data:=.dict #[]}).update e fun o=>{o with dict:=some s.heap.objs.size}).get? e=some (cY C t (some s.heap.objs.size)):=Heap.get?_update_self _ X8 rfl
 have zO:((s.heap.push {cls:=.type "dict",data:=.dict #[]}).update e fun o=>{o with dict:=some s.heap.objs.size}).get? s.heap.objs.size=some {cls:=.type "dict",data:=.dict #[]} :=
  (Heap.get?_update_ne _ _ _ _ X9.symm).trans (Heap.get?_push_at rfl rfl)
 have qI:((s.heap.push {cls:=.type "dict",data:=.dict #[]}).update e fun o=>{o with dict:=some s.heap.objs.size}).Ns s.heap.objs.size (fun _=>none):=⟨_,#[],_,zO,rfl,fun y hy=>absurd hy (by simp),fun _=>rfl⟩
 refine wpAny_bind (wpAny_pure (wpAny_bind (wpAny_nsSet1 (Heap.Ns1.of_empty qI) fun h2 u0 iE=>?_)))
 obtain⟨oD,esD,epD,E3,E4,E5⟩:=u0.count (PySem.Within.cons name v PySem.Within.nil)
 refine wpAny_bind (wpAny_lookBehind E3 (by rw[E4];exact pastItsLine_dict (Nat.le_trans E5 (by rw[sizeLine_eq];simp))) ?_)
 refine wpAny_pure (k h2 ((iE.2 e X9).trans aqE) u0 fun c o Ff ho=>?_)
 exact(iE.2 c (Nat.ne_of_lt (Heap.lt_size ho))).trans ((Heap.get?_update_ne _ _ _ _ Ff).trans (Heap.get?_push_of_some _ ho))
theorem anS {Q:Unit->Shared->Prop} (X:K.In s.heap) (hb:cD K C=true) (hs:findIn K (.ref C) "__setattr__"=some (some (.builtin "object.__setattr__"))) (ht:findIn K (.ref C) name=some none)
  (he:s.heap.get? e=some (cY C t none))
  (k:∀ h':Heap,h'.get? e=some (cY C t (some s.heap.objs.size))->h'.Ns1 s.heap.objs.size (fun y=>if y=name then some v else none)->(∀ b o,b≠e->s.heap.get? b=some o->h'.get? b=some o)->Q () {s with heap:=h',toks:=s.toks+2}) :
  wpAny (model prog w) A (setAttr (.ref e) name v) Q E s:=by
 have I:InstAt s.heap e (cY C t none) C none:=⟨he,rfl,rfl,trivial⟩
 obtain⟨_,_,_,_,_,_,_,_,_,_,_,_,_,_,_,cd,hc,hd,hm⟩:=nT X hb
 have SF:=PySem.F.store_object
 have so:Looks (model prog w) s.heap (isInstance (.ref e) (.type "object")) true:=I.type.andThen (looks_mroIn X (by unfold mroIn;rw[hc,Option.bind_some,hm];rfl))
 refine set_plain X I hs (codeAny_call_builtin SF.slot.plain SF.entry (@check_slot (model prog w) _ _ {s with toks:=s.toks+1} "object.__setattr__" "object" "__setattr__" (.ref e) [.str name s.toks,v] [] _ SF.kind SF.split so (SF.args (.ref e) (.str name s.toks) v) ?_))
 have Ya:Looks (model prog w) s.heap (mroOf (.ref C)) (.ref C::eE):=by rw[<- hm];exact(looks_clsIn X hc).andThen .now
 rw[osa_eq,refuse_eq]
 refine wpAny_bind (wpAny_bind (Looks.here (s:={s with toks:=s.toks+1}) I.type (wpAny_bind (Looks.here (s:={s with toks:=s.toks+1}) Ya ?_))))
 rw[refuseLoop_ref,PySem.F.store_Exception.passes]
 refine wpAny_pure (wpAny_bind (Looks.here (s:={s with toks:=s.toks+1}) I.type (wpAny_bind (Looks.here (s:={s with toks:=s.toks+1}) (looks_findIn X ht) (wpAny_bind (wpAny_pure ?_))))))
 exact akU (s:={s with toks:=s.toks+1}) X hb he fun h' a b c=>k h' a b c
theorem anT {oe od:Obj}{expr:Bool}{Q:Value->Shared->Prop} (X:K.In s.heap) (hb:cD K C=true) (Fo:findIn K (.ref C) "__getattribute__"=some (some (.builtin "BaseException.__getattribute__")))
  (Fp:findIn K (.ref C) "__getattr__"=some none) (I:InstAt s.heap e oe C (some od)) (hf:findObj K C (some od) name=some (.value v)) (hv:handedIn v=true) (k:Q v {s with toks:=s.toks+1}) :
  wpAny (model prog w) A (getAttr (.ref e) name expr) Q E s:=by
 obtain⟨_,_,_,_,_,_,_,_,_,_,_,_,_,_,_,cd,hc,hd,hm⟩:=nT X hb
 have FA:=PySem.F.attr_Exception
 have L0:=I.type (M:=model prog w)
 have L1:=looks_findIn (M:=model prog w) X Fo
 have L2:=looks_findIn (M:=model prog w) X Fp
 have L3:=looks_find (M:=model prog w) X I hf
 have so:Looks (model prog w) s.heap (isInstance (.ref e) (.type "BaseException")) true:=L0.andThen (looks_mroIn X (by unfold mroIn;rw[hc,Option.bind_some,hm];rfl))
 have hx2:(onTheHeap (Value.ref C)&&Value.builtin "BaseException.__getattribute__"==Value.builtin "object.__getattribute__")=false:=by
  rw[show(Value.builtin "BaseException.__getattribute__"==Value.builtin "object.__getattribute__")=false by decide +kernel,Bool.and_false]
 have hx3:(expr&&onTheHeap (Value.builtin "BaseException.__getattribute__"))=false:=by rw[show onTheHeap (Value.builtin "BaseException.__getattribute__")=false from rfl,Bool.and_false]
 unfold getAttr getAttrBy
 refine wpAny_bind (wpAny_mkText (wpAny_holding (wpAny_bind (Looks.here (s:={s with toks:=s.toks+1}) L0 (wpAny_bind (Looks.here (s:={s with toks:=s.toks+1}) L1 ?_))))))
 dsimp only
 rw[hx2,if_neg Bool.false_ne_true]
 unfold getAttrByItsOwn hookBefore
 rw[if_pos (show onTheHeap (Value.ref C)=true from rfl)]
 refine wpAny_bind (Looks.here (s:={s with toks:=s.toks+1}) L2 (wpAny_bind (wpAny_attempt (wpAny_holding ?_))))
 unfold callGetattribute boundAndCalled
 rw[hx3,if_neg Bool.false_ne_true,FA.ga.bind]
 refine wpAny_bind (wpAny_pure (wpAny_call (codeAny_call_builtin FA.ga.plain PySem.F.entry_bexc_ga (@check_slot (model prog w) _ _ {s with toks:=s.toks+1} "BaseException.__getattribute__" "BaseException" "__getattribute__" (.ref e) [.str name s.toks] [] _ (by decide +kernel) (by decide +kernel) so (PySem.F.args_bexc_ga _ _) ?_))))
 unfold Builtin.«object.__getattribute__»
 refine wpAny_bind (wpAny_pure (wpAny_bind (wpAny_pure (wpAny_bind (Looks.here (s:={s with toks:=s.toks+1}) L0 (wpAny_bind (Looks.here (s:={s with toks:=s.toks+1}) L3 ?_)))))))
 refine wpAny_pure ?_
 show wpAny _ _ (handedOut v) _ _ _
 rw[handedOut_of hv]
 exact wpAny_pure k
theorem Uw {M:Model}{env:Env}{x:Sem Value}{Q:Flow->Shared->Prop} (hh:A.handled=none) (hb:cD K C=true)
  (h:wpAny M A x (fun u s1=>∃ e oe vs,u=.ref e/\K.In s1.heap/\s1.heap.get? e=some oe/\oe.cls=.ref C/\oe.data=.fields vs/\vs[1]?=some .none/\E (.ref e) s1) E s):wpAny M A (raiseStmt env (some x) none) Q E s:=by
 unfold raiseStmt
 refine wpAny_bind (wpAny_mono h (fun u s1 q=>?_) fun _ _ z=>z)
 obtain⟨e,oe,vs,rfl,X,he,jE,jF,h1,hE⟩:=q
 obtain⟨nm,qq,N,bs,sn,sub,ab,col,dd,k0,k1,k2,k3,k5,hC,_⟩:=nT X hb
 obtain⟨hp,g,d,tk,os⟩:=s1
 have hcB:(Value.ref C::eE).contains (.type "BaseException")=true:=by rw[List.contains_cons];rfl
 repeat (first | (with_reducible refine wpAny_isSubtype_exc hC ?_;rw[hcB]) | with_reducible refine wpAny_loadPart_at hC ?_ | (with_reducible refine wpAny_loadPart_at he ?_;rw[jE]) | with_reducible refine wpAny_field he jF h1 ?_ | wp_step)
 exact wpAny_raiseNew_none hh hE
end
end LX
end
section
namespace LX
open PySem PySem.W PySem.Calls PyProof.Rows Builtin Builtin.ObjectAttr
section
variable {prog:Program}{w:World}{A:Around}{K:Frag}{C f:Addr}{R:Result->Shared->Prop}{h:Heap}{g:Array GenState}{d:Drawn}{t:Nat}{os:OsState}
theorem adg (X:K.In h) (hb:cD K C=true) (hi:findIn K (.ref C) "__init__"=some (some (.builtin "Exception.__init__")))
  (go:∀ (h':Heap) (u:Addr),(∀ b o,h.get? b=some o->h'.get? b=some o)->h'.get? (h.objs.size+1)=some (cY C u none)->R (.ok (.ret (.ref (h.objs.size+1)))) ⟨h',g,d,t,os⟩) :
  wpAny (model prog w) A (Builtin.«type.__call__» ⟨[.ref C],[]⟩) (fun fin s'=>match fin with | .done f=>R (.ok f) s' | .again _=>False) (fun e s'=>R (.error e) s') ⟨h,g,d,t,os⟩:=by
 obtain⟨nm,q,N,bs,sn,sub,ab,col,dd,k0,k1,k2,k3,k5,hC,_⟩:=nT X hb
 have FB:=PySem.F.excBase_Exception
 repeat (first | with_reducible refine wpAny_madeBy_exc hC ?_ | with_reducible refine wpAny_loadPart_at hC ?_ | wp_step)
 refine codeAny_call_builtin_code (Code.quiet_builtin _ FB.quiet) (wpAny_check_new_sub FB hC ?_)
 refine codeAny_exc_new_sub (rest:=[]) FB hC ?_ (Nat.zero_le _)
 show wpAny _ _ _ _ _ _
 have kp:∀ b o,h.get? b=some o->((h.push {cls:=.type "tuple",data:=.seq ([]:List Value).toArray}).push {cls:=.ref C,data:=.fields #[.ref h.objs.size,.none,.none,.none,.bool false,.none]}).get? b=some o:=fun b o e=>Heap.get?_push_of_some _ (Heap.get?_push_of_some _ e)
 have zR:=kp _ _ hC
 have X1:=X.keeps kp
 have hg:((h.push {cls:=.type "tuple",data:=.seq ([]:List Value).toArray}).push {cls:=.ref C,data:=.fields #[.ref h.objs.size,.none,.none,.none,.bool false,.none]}).get? (h.objs.size+1)=some {cls:=.ref C,data:=.fields #[.ref h.objs.size,.none,.none,.none,.bool false,.none]}:=by heap_get
 have Fn:(Value.ref C::eE).contains (.ref C)=true:=by simp
 unfold isInstance
 repeat (first | with_reducible refine wpAny_loadPart_at hg ?_ | (with_reducible refine wpAny_isSubtype_exc zR ?_;rw[Fn]) | wp_step)
 show wpAny _ _ (typeLookup (.ref C) _) _ _ _
 refine(looks_findIn X1 hi).here ?_
 refine wpAny_holding (wpAny_bind (wpAny_of_eq (FB.init.bind _) ?_))
 refine wpAny_bind (wpAny_call (codeAny_call_builtin FB.init.plain FB.initEntry (wpAny_check_init_sub FB zR hg rfl ?_)))
 wp_walk
 refine go _ (h.objs.size+2) (fun b o e=>?_) ?_
 ·rw[Heap.get?_update_other _ _ (Nat.ne_of_gt (Nat.lt_succ_of_lt (Heap.lt_size e)))]
  exact Heap.get?_push_of_some _ (kp b o e)
 refine(Heap.get?_update_self _ (Heap.get?_push_of_some _ hg) rfl).trans ?_
 simp only [Heap.size_push]
 rfl
theorem akV (X:K.In h) (hb:cD K C=true) (hi:findIn K (.ref C) "__init__"=some (some (.builtin "Exception.__init__")))
  (go:∀ (h':Heap) (u:Addr),(∀ b o,h.get? b=some o->h'.get? b=some o)->h'.get? (h.objs.size+1)=some (cY C u none)->R (.ok (.ret (.ref (h.objs.size+1)))) ⟨h',g,d,t,os⟩) :
  codeAny (model prog w) A (.call (.ref C) ⟨[],[]⟩) R ⟨h,g,d,t,os⟩:=by
 obtain⟨nm,q,N,bs,sn,sub,ab,col,dd,k0,k1,k2,k3,k5,hC,_⟩:=nT X hb
 have f1:=tc_lookup
 have f2:=tc_bind (.ref C)
 have hT:(⟨h,g,d,t,os⟩:Shared).TypeIs (.ref C) "type":=⟨_,hC,rfl⟩
 refine codeAny_of_tree ?_
 show wpAny _ _ (callAny (.ref C) _) _ _ _
 repeat (any_goals (first | with_reducible refine wpAny_loadPart_at hC ?_ | assumption | wp_step))
 refine⟨rfl,?_⟩
 refine codeAny_call_builtin_at (Code.quiet_builtin _ (by decide +kernel)) entry_typeCall (wpAny_check_type_call_sub hC (wpAny_mono (adg X hb hi go) (fun fin s' z=>?_) fun _ _ z=>z))
 cases fin with
 | done f=>exact z
 | again c=>exact z.elim
end
end LX
end
section
namespace LX
open PySem PySem.W PySem.Calls PyProof.Rows
theorem aQ {K:Frag}{nm q:Str}{C N:Addr}{bs:List Value}{sn:List Str}{sub:List Value}{ab:Bool}{col:Option Bool}{dd:Option Addr}{k0 k1 k2 k3 k5:Option Value}
  (l:K.lookup C=some (excClassObj nm q C N bs eE true sn sub ab col dd k0 k1 k2 k3 k5 "Exception.__new__")):cD K C=true:=by
 unfold cD
 rw[l]
 simp
theorem Ws {K:Frag}{C:Addr} (e:cD K C=true):∃ cd,clsIn K C=some cd/\cd.mro=.ref C::eE/\typeIn K (.ref C)=some (.type "type"):=by
 unfold cD at e
 split at e
 ·rename_i dd cd sl ho
  simp only [Bool.and_eq_true,Bool.not_eq_true',beq_iff_eq] at e
  exact⟨cd,by unfold clsIn;rw[ho],e.1.1.1,by unfold typeIn;dsimp only;rw[ho];rfl⟩
 cases e
theorem VZ {K:Frag}{C:Addr} (e:cD K C=true) (b:Value):subIn K (.ref C) b=some ((Value.ref C::eE).contains b):=by
 obtain⟨cd,hc,hm,_⟩:=Ws e
 show mroIn K C b=_
 unfold mroIn
 rw[hc,Option.bind_some,hm]
 rfl
theorem Wt {K:Frag}{C D:Addr} (h1:cD K C=true) (h2:cD K D=true):exmOne K (.ref C) (.ref D)=some (decide (C=D)):=by
 obtain⟨cd,hc,hm,ht⟩:=Ws h2
 unfold exmOne kitCls
 have e2:(subIn K (Value.ref D) (Value.type "BaseException")==some true)=true:=by
  rw[VZ h2,List.contains_cons];rfl
 have e3:((clsIn K D).isSome&&typeIn K (Value.ref D)==some (Value.type "type"))=true:=by rw[hc,ht];rfl
 rw[if_pos e2]
 show(if ((clsIn K D).isSome&&typeIn K (Value.ref D)==some (Value.type "type"))=true then subIn K (Value.ref C) (Value.ref D) else none)=_
 rw[if_pos e3,VZ h1]
 congr 1
 rw[List.contains_cons]
 by_cases z:C=D
 ·subst z;simp
 rw[decide_eq_false z,beq_eq_false_iff_ne.mpr (show Value.ref D≠Value.ref C from fun q=>z (Value.ref.inj q).symm)]
 rfl
theorem dc {K:Frag}{nm q:Str}{C N:Addr}{bs:List Value}{sn:List Str}{sub:List Value}{ab:Bool}{col:Option Bool}{dd:Option Addr}{k0 k1 k2 k3 k5:Option Value}
  {Yb q':Str}{C' N':Addr}{bs':List Value}{sn':List Str}{arS:List Value}{ab':Bool}{arT:Option Bool}{sQ:Option Addr}{k0' k1' k2' Fq k5':Option Value}
  (l:K.lookup C=some (excClassObj nm q C N bs eE true sn sub ab col dd k0 k1 k2 k3 k5 "Exception.__new__")) (l':K.lookup C'=some (excClassObj Yb q' C' N' bs' eE true sn' arS ab' arT sQ k0' k1' k2' Fq k5' "Exception.__new__"))
  (h:nm≠Yb):C≠C':=fun z=>by
 subst z
 rw[l] at l'
 have e:=Option.some.inj l'
 have e2:Data.cls _=Data.cls _:=congrArg Obj.data e
 injection e2 with e3
 exact h (congrArg ClassData.name e3)
theorem oN {K:Frag}{C:Addr} (h:cD K C=true):exmOne K (.ref C) (.ref C)=some true:=(Wt h h).trans (by rw[decide_eq_true rfl])
theorem de {K:Frag}{C D:Addr} (h1:cD K C=true) (h2:cD K D=true) (n:C≠D):exmOne K (.ref C) (.ref D)=some false:=(Wt h1 h2).trans (by rw[decide_eq_false n])
end LX
end
section
namespace L2
open PySem PySem.Spec PyProof.Rows LX
structure Lies (P:Program) (w:World) (outer:List Env) (H0:Hp) (s0:Shared) (H:Hp) (e:Addr) (cls:Value) (d:Option Addr) (s:Shared):Prop where
 sT:∃ (a0:Value) (B:Heap),Heap.FlyingW B outer e cls a0 s.heap/\bO P w H B/\∀ b o,s0.heap.get? b=some o->H0 b=none->b∉dj outer->B.get? b=some o
 new:s0.heap.get? e=none
 qJ:∃ oe,s.heap.get? e=some oe/\oe.dict=d
 na:H e=none
 slot:∀ b o,s0.heap.get? b=some o->H0 b=none->b∈dj outer->∃ sl,s.heap.get? b=some {o with slots:=sl}
 free:∀ b o,s0.heap.get? b=some o->H0 b=none->H b=none
 there:∀ b o,s0.heap.get? b=some o->∃ o',s.heap.get? b=some o'
 fP:∀ b xs,H0 b=some (.tup xs)->H b=some (.tup xs)
 fe:∀ b o u,H0 b=some (.bK o u)->H b=some (.bK o u)
 fQ:∀ b ps,H0 b=some (.oh ps)->∃ more,H b=some (.oh (ps++more))
 os:s.os=s0.os
 bare:AllBare s.gens
def cu (P:Program) (w:World):gW:=fun outer H s E e s'=>∃ a cls d H',e=.ref a/\Lies P w outer H s H' a cls d s'/\E cls d H'
section
variable {P:Program}{w:World}{outer:List Env}{H0 H:Hp}{s0 s:Shared}{e:Addr}{cls:Value}{d:Option Addr}
theorem Lies.un (L:Lies P w outer H0 s0 H e cls d s):Un (dj outer) [] H0 H s0.heap s.heap:=by
 obtain⟨a0,B,f,hk,kB⟩:=L.sT
 exact⟨fun b o q n hb _=>f.1 b o (kB b o q n hb),fun b o q n hb _=>L.slot b o q n hb,fun b o q n _=>L.free b o q n,fun b o q _=>L.there b o q,L.fP,L.fe,L.fQ⟩
theorem Lies.az (L:Lies P w outer H0 s0 H e cls d s):bO P w H s.heap:=by
 obtain⟨a0,B,f,hk,kB⟩:=L.sT
 exact hk.kept f.1
theorem Lies.go {a0:Value}{B h':Heap} (L:Lies P w outer H0 s0 H e cls d s) (f:Heap.FlyingW B outer e cls a0 s.heap) (hk:bO P w H B) (kB:∀ b o,s0.heap.get? b=some o->H0 b=none->b∉dj outer->B.get? b=some o)
  (f':Heap.FlyingW B outer e cls a0 h') (um:s.heap.UpToSlots h') (dk:DK s.heap h'):Lies P w outer H0 s0 H e cls d {s with heap:=h'}:=by
 refine⟨⟨a0,B,f',hk,kB⟩,L.new,?_,L.na,fun b o q n hb=>?_,L.free,fun b o q=>?_,L.fP,L.fe,L.fQ,L.os,L.bare⟩
 ·obtain⟨oe,e1,e2⟩:=L.qJ
  obtain⟨o',e3,e4⟩:=dk _ _ e1
  exact⟨o',e3,e4.trans e2⟩
 ·obtain⟨sl,e1⟩:=L.slot b o q n hb
  obtain⟨_,o2,e2,nf⟩:=f.2.2.1.mem hb
  rw[e1] at e2
  cases e2
  obtain⟨sL,e3⟩:=um _ _ e1 nf
  exact⟨sL,e3⟩
 obtain⟨o',e1⟩:=L.there b o q
 obtain⟨o2,e2,_⟩:=dk _ _ e1
 exact⟨o2,e2⟩
theorem Lies.look {M:Model}{A:Around}{E:Value->Shared->Prop}{env:Env}{F:Addr}{K:Shared->Prop} (sP:A.frames=some (env::outer)) (hf:env.frame=some F) (L:Lies P w (env::outer) H0 s0 H e cls d s)
  (k:∀ s',Lies P w (env::outer) H0 s0 H e cls d s'->K s'):wpAny M A (noteFrame (.ref e) env) (fun _ s2=>wpAny M A (setFlight (.ref e) none) (fun _ s3=>K s3) E s2) E s:=by
 obtain⟨a0,B,f,hk,kB⟩:=L.sT
 have h1:=(VY (.ref e) env).any (wpAny_looks_onW (M:=M) (A:=A) (E:=E) (s:=s) (Q:=fun _ s'=>∃ h',s'={s with heap:=h'}/\Heap.HeldW B (env::outer) e cls a0 F h'/\s.heap.UpToSlots h') sP hf f fun h' x y=>⟨h',rfl,x,y⟩)
 refine wpAny_mono h1 (fun _ s2 q=>?_) fun _ _ z=>z
 obtain⟨⟨h2,rfl,he,um⟩,dk⟩:=q
 have h3:=(Dz (.ref e) none).any (wpAny_landsW (M:=M) (A:=A) (E:=E) (s:={s with heap:=h2}) (Q:=fun _ s'=>∃ h',s'={s with heap:=h'}/\Heap.FlyingW B (env::outer) e cls a0 h'/\h2.UpToSlots h') he fun h' x y=>⟨h',rfl,x,y⟩)
 refine wpAny_mono h3 (fun _ s3 q=>?_) fun _ _ z=>z
 obtain⟨⟨h4,rfl,fl,Fs⟩,Ft⟩:=q
 exact k _ (L.go f hk kB fl (um.trans Fs) (dk.trans Ft))
theorem Lies.land {M:Model}{A:Around}{E:Value->Shared->Prop}{K:Shared->Prop} (L:Lies P w outer H0 s0 H e cls d s) (k:∀ s',Lies P w outer H0 s0 H e cls d s'->K s'):wpAny M A (setFlight (.ref e) none) (fun _ s3=>K s3) E s:=by
 obtain⟨a0,B,f,hk,kB⟩:=L.sT
 have h3:=(Dz (.ref e) none).any (lands_againW (M:=M) (A:=A) (E:=E) (s:=s) (Q:=fun _ s'=>∃ h',s'={s with heap:=h'}/\Heap.FlyingW B outer e cls a0 h'/\s.heap.UpToSlots h') f fun h' x y=>⟨h',rfl,x,y⟩)
 refine wpAny_mono h3 (fun _ s3 q=>?_) fun _ _ z=>z
 obtain⟨⟨h4,rfl,fl,Fs⟩,Ft⟩:=q
 exact k _ (L.go f hk kB fl Fs Ft)
end
section
variable {X:Cx}{pins:List (Addr×Obj)}{σ:St}{H H':Hp}{s s':Shared}{e:Addr}{cls:Value}{d:Option Addr}
theorem Lies.inv (I:Inv X pins σ H s) (L:Lies X.prog X.w X.stack H s H' e cls d s'):Inv X pins σ H' s':=I.WG L.os L.un L.az L.bare fun b z=>absurd z (by simp)
theorem Inv.frame (I:Inv X pins σ H s) (cG:X.stack=X.env::X.outer):X.env.frame=some X.env.locals:=by
 rcases I.ok.jB with q | q
 ·exact absurd (congrArg List.length (q.symm.trans cG)) (by simp)
 exact q.2
theorem Inv.WN (I:Inv X pins σ H s) (cG:X.stack=X.env::X.outer) {b:Addr}{o:Obj} (q:X.di.heap.get? b=some o) (hb:b∉dj X.outer):b∉dj X.stack:=fun z=>by
 rw[cG] at z
 have z':b∈(X.env::X.outer).filterMap (·.frame):=z
 rw[List.filterMap_cons,I.frame cG] at z'
 rcases List.mem_cons.mp z' with z | z
 ·exact absurd z (Nat.ne_of_lt (Nat.lt_of_lt_of_le (Heap.lt_size q) I.ok.above))
 exact hb z
theorem DZ {b:Addr} (cG:X.stack=X.env::X.outer) (h:b∈dj X.outer):b∈dj X.stack:=by
 rw[cG]
 show b∈(X.env::X.outer).filterMap (·.frame)
 cases q:X.env.frame with
 | none=>rw[List.filterMap_cons,q];exact h
 | some F=>rw[List.filterMap_cons,q];exact List.mem_cons_of_mem _ h
theorem Lies.leave {M:Model}{E:Value->Shared->Prop}{K:Shared->Prop} (I:Inv X pins σ H s) (cG:X.stack=X.env::X.outer) (hex:X.ex=[]) (L:Lies X.prog X.w X.stack H s H' e cls d s')
  (k:∀ eL,Lies X.prog X.w X.outer X.om X.di H' e cls d eL->K eL):wpAny M X.A (leaving X.env (.ref e)) (fun _ eL=>K eL) E s':=by
 obtain⟨a0,B,f,hk,kB⟩:=L.sT
 have hf:=I.frame cG
 have f0:Heap.FlyingW B (X.env::X.outer) e cls a0 s'.heap:=by rw[<- cG];exact f
 have nx:∀ b:Addr,b∉X.ex:=fun b=>by rw[hex];simp
 have h1:=(Tn X.env (.ref e)).any (wpAny_leaves_onW (M:=M) (A:=X.A) (E:=E) (s:=s') (Q:=fun _ z=>∃ h',z={s' with heap:=h'}/\Heap.FlyingW B X.outer e cls a0 h'/\s'.heap.UpToSlots h') (by rw[I.ok.frames,cG]) hf f0 fun h' x y=>⟨h',rfl,x,y⟩)
 refine wpAny_mono h1 (fun _ s2 q=>?_) fun _ _ z=>z
 obtain⟨⟨h2,rfl,fl,um⟩,dk⟩:=q
 refine k _ ⟨⟨a0,B,fl,hk,fun b o q n hb=>kB b o (I.base.keep b o q n hb (nx b)) (I.base.free b o q n (nx b)) (I.WN cG q hb)⟩,?_,?_,L.na,fun b o q n hb=>?_,fun b o q n=>?_,fun b o q=>?_,fun b xs q=>L.fP b xs (I.base.fP b xs q),fun b o u q=>L.fe b o u (I.base.fe b o u q),fun b ps q=>?_,L.os.trans I.os,L.bare⟩
 ·cases q:X.di.heap.get? e with
  | none=>rfl
  | some o =>
   obtain⟨o',e1⟩:=I.base.there e o q (nx e)
   rw[L.new] at e1
   cases e1
 ·obtain⟨oe,e1,e2⟩:=L.qJ
  obtain⟨o',e3,e4⟩:=dk _ _ e1
  exact⟨o',e3,e4.trans e2⟩
 ·obtain⟨sl,e1⟩:=I.base.slot b o q n hb (nx b)
  obtain⟨sL,e2⟩:=L.slot b _ e1 (I.base.free b o q n (nx b)) (DZ cG hb)
  obtain⟨_,o3,e3,nf⟩:=f.2.2.1.mem (DZ cG hb)
  rw[e2] at e3
  cases e3
  obtain⟨Fu,e4⟩:=um _ _ e2 nf
  exact⟨Fu,e4⟩
 ·obtain⟨o',e1⟩:=I.base.there b o q (nx b)
  exact L.free b o' e1 (I.base.free b o q n (nx b))
 ·obtain⟨o',e1⟩:=I.base.there b o q (nx b)
  obtain⟨o2,e2⟩:=L.there b o' e1
  obtain⟨o3,e3,_⟩:=dk _ _ e2
  exact⟨o3,e3⟩
 obtain⟨m1,e1⟩:=I.base.fQ b ps q
 obtain⟨m2,e2⟩:=L.fQ b _ e1
 exact⟨m1++m2,by rw[e2,Array.append_assoc]⟩
theorem bO.hide {P:Program}{w:World}{h:Heap}{as:List Addr} (k:bO P w H h) (n:∀ b∈as,H b=none):bO P w H (W.hideAll h as):=fun a o q =>
 (k a o q).gR (fun b u hb hu=>W.hideAll_get as hu fun z=>by
  have z':=n b z
  rcases hb with rfl | hb
  ·rw[z'] at q;cases q
  rw[z'] at hb;cases hb) (fun _ z=>z) fun _ _ z=>z
theorem To {base h:Heap}{as:List Addr}:∀ {l:List Env},h.FunFrames base l->(∀ b∈dj l,b∈as)->h.FunFrames (W.hideAll h as) l
 | [],_,_=>trivial
 | env::l,⟨hk,⟨F,o,hf,_,ho,hd⟩,hr⟩,mJ=>by
  have e:dj (env::l)=F::dj l:=by
   show(env::l).filterMap (·.frame)=_
   rw[List.filterMap_cons,hf]
   rfl
  rw[e] at mJ
  exact⟨hk,⟨F,o,hf,W.hideAll_none as (mJ F List.mem_cons_self),ho,hd⟩,To hr fun b hb=>mJ b (List.mem_cons_of_mem _ hb)⟩
theorem Lies.made {M:Model}{E:Value->Shared->Prop}{K:Shared->Prop}{oe:Obj}{vs:Array Value}{a0:Value} (I:Inv X pins σ H s) (cG:X.stack=X.env::X.outer) (hex:X.ex=[])
  (he:s.heap.get? e=some oe) (hc:oe.cls=cls) (jF:oe.data=.fields vs) (h0:vs[0]?=some a0) (h1:vs[1]?=some .none) (vo:oe.dict=d) (hn:H e=none) (o9:X.di.heap.get? e=none)
  (k:∀ eL,Lies X.prog X.w X.outer X.om X.di H e cls d eL->K eL):wpAny M X.A (leaving X.env (.ref e)) (fun _ eL=>K eL) E s:=by
 subst hc
 have hf:=I.frame cG
 have nx:∀ b:Addr,b∉X.ex:=fun b=>by rw[hex];simp
 have fr:s.heap.FunFrames (W.hideAll s.heap (e::dj X.stack)) (X.env::X.outer):=by
  have q:=To (as:=e::dj X.stack) I.stack fun b hb=>List.mem_cons_of_mem _ hb
  rw[cG] at q ⊢
  exact q
 have Fv:(W.hideAll s.heap (e::dj X.stack)).get? e=none:=W.hideAll_none _ List.mem_cons_self
 have az:bO X.prog X.w H (W.hideAll s.heap (e::dj X.stack)):=I.az.hide fun b hb=>by
  rcases List.mem_cons.mp hb with rfl | hb
  ·exact hn
  exact I.DT b hb
 have h2:=(Tn X.env (.ref e)).any (wpAny_leaving_firstW (M:=M) (A:=X.A) (E:=E) (s:=s) (Q:=fun _ z=>∃ h',z={s with heap:=h'}/\Heap.LeftW (W.hideAll s.heap (e::dj X.stack)) (X.env::X.outer) e oe.cls a0 s.heap h')
  (by rw[I.ok.frames,cG]) fr hf he (fun b o q=>W.of_hideAll _ q) Fv jF h1 h0 fun h' x=>⟨h',rfl,x⟩)
 refine wpAny_mono h2 (fun _ s2 q=>?_) fun _ _ z=>z
 obtain⟨⟨h3,rfl,⟨l1,⟨_,_,l2⟩,l3,l4⟩⟩,dk⟩:=q
 refine k _ ⟨⟨a0,_,⟨l1,Fv,l2,l3⟩,az,fun b o q n hb=>W.hideAll_get _ (I.base.keep b o q n hb (nx b)) fun z=>?_⟩,o9,?_,hn,fun b o q n hb=>?_,fun b o q n=>I.base.free b o q n (nx b),fun b o q=>?_,I.base.fP,I.base.fe,I.base.fQ,I.os,I.bare⟩
 ·rcases List.mem_cons.mp z with rfl | z
  ·rw[o9] at q;cases q
  exact I.WN cG q hb z
 ·obtain⟨o',e3,e4⟩:=dk _ _ he
  exact⟨o',e3,e4.trans vo⟩
 ·obtain⟨sl,e1⟩:=I.base.slot b o q n hb (nx b)
  obtain⟨_,o3,e3,nf⟩:=fr.mem (show b∈(X.env::X.outer).filterMap (·.frame) by have:=DZ cG hb;rw[cG] at this;exact this)
  rw[e1] at e3
  cases e3
  obtain⟨Fu,e4⟩:=l4 _ _ e1 nf
  exact⟨Fu,e4⟩
 obtain⟨o',e1⟩:=I.base.there b o q (nx b)
 obtain⟨o3,e3,_⟩:=dk _ _ e1
 exact⟨o3,e3⟩
end
theorem aqF {cm:Bool}{P:Program}{w:World}{K:W.Frag}{mg:Str->Option Value}{base:Heap}{N:List Str}{qual:Str}{scope:Scope}{f:Addr}{cd:Value}{A:Around}{outer:List Env}{s:Shared}{H:Hp}{E E':XK}
  (h:∀ cls d H',E' cls d H'->E cls d H'):Passes (cu P w) (gS cm (cu P w) P w K mg base N qual scope f cd A outer s H E) E':=fun pins σ H1 s1 e s' I hx=>by
 obtain⟨a,cls,d,H',rfl,L,q⟩:=hx
 exact L.leave I rfl rfl fun eL L'=>⟨a,cls,d,H',rfl,L',h _ _ _ q⟩
theorem jx {cm:Bool}{P:Program}{w:World}{K:W.Frag}{mg:Str->Option Value}{base:Heap}{N:List Str}{qual:Str}{scope:Scope}{f:Addr}{cd:Value}{A:Around}{outer:List Env}{s:Shared}{H:Hp}{E:XK} :
  PassesOwn (model P w) (gS cm (cu P w) P w K mg base N qual scope f cd A outer s H E).A (gS cm (cu P w) P w K mg base N qual scope f cd A outer s H E).env (gS cm (cu P w) P w K mg base N qual scope f cd A outer s H E).xe :=
 PassesOwn.leaving (Q₁:=fun e eL=>cu P w outer H s E e eL) (E₁:=fun e' eL=>cu P w outer H s E e' eL)
end L2
end
section
namespace L2
open PySem PySem.Spec PyProof.Rows LX
def XO (e:Addr) (o:Obj):HO:=.ext fun h=>h.get? e=some o
def vp (H:Hp) (x:Addr):Hp:=fun b=>if b=x then none else H b
theorem DO {H:Hp}{x:Addr}:vp H x x=none:=if_pos rfl
theorem nU {H:Hp}{x b:Addr} (h:b≠x):vp H x b=H b:=if_neg h
section
variable {X:Cx}{pins:List (Addr×Obj)}{σ:St}{H H':Hp}{s s':Shared}{e:Addr}{cls:Value}{d:Option Addr}
theorem Ej {P:Program}{w:World}{h:Heap}{o:Obj} (q:h.get? e=some o):cN P w H h e (XO e o):=⟨q,⟨o,q⟩,fun h1 h2 a b=>b o a⟩
theorem zu {P:Program}{w:World}{h:Heap}{o:Obj} (k:bO P w H h) (q:H e=some (XO e o)):h.get? e=some o:=(k e _ q).1
theorem Inv.drop {o:Obj} (I:Inv X pins σ H s) (q:H e=some (XO e o)):Inv X pins σ (vp H e) s:=by
 have ne:∀ {b u},H b=some u->(∀ φ,u≠.ext φ)->b≠e:=fun {b u} hb hu z=>by
  subst z
  rw[q] at hb
  exact hu _ (Option.some.inj hb).symm
 refine I.un (h':=s.heap) (t':=s.toks) ⟨fun b o q _ _ _=>q,fun b o q _ _ _=>⟨o.slots,q⟩,fun b o q n _=>?_,fun b o q _=>⟨o,q⟩,fun b xs h=>?_,fun b o u h=>?_,fun b ps h=>⟨#[],?_⟩⟩ fun b u hb=>?_
 ·by_cases z:b=e
  ·rw[z];exact DO
  rw[nU z];exact n
 ·rw[nU (ne h fun φ z=>(nomatch z))];exact h
 ·rw[nU (ne h fun φ z=>(nomatch z))];exact h
 ·rw[nU (ne h fun φ z=>(nomatch z)),h];simp
 by_cases z:b=e
 ·rw[z,DO] at hb;cases hb
 rw[nU z] at hb
 exact(I.az b u hb).gR (fun _ _ _ q=>q) (fun c h=>by rw[nU (ne h fun φ z=>(nomatch z))];exact h) fun c xs h=>by rw[nU (ne h fun φ z=>(nomatch z))];exact h
def Raises (X:Cx) (E:XK):Prop:=∀ (pins:List (Addr×Obj)) (σ:St) (H:Hp) (s:Shared) (e t C:Addr) (d:Option Addr),Inv X pins σ H s->s.heap.get? e=some (cY C t d)->H e=none->X.di.heap.get? e=none->E (.ref C) d H->X.xe (.ref e) s
theorem ft {cm:Bool}{P:Program}{w:World}{K:W.Frag}{mg:Str->Option Value}{base:Heap}{N:List Str}{qual:Str}{scope:Scope}{f:Addr}{cd:Value}{A:Around}{outer:List Env}{s:Shared}{H:Hp}{E:XK} :
  Raises (gS cm (cu P w) P w K mg base N qual scope f cd A outer s H E) E:=fun pins σ H1 s1 e t C d I he hn o9 q =>
 Lies.made I rfl rfl he rfl rfl rfl rfl rfl hn o9 fun eL L=>⟨e,_,d,H1,rfl,L,q⟩
variable {E:XK}{x:Str}{np cQ pos:Pos}{C f:Addr}
theorem iZ (hr:Raises X E) (hc:X.calm=true) (hg:Gl X x) (hm:X.mg x=some (.ref C)) (hk:W.keepIn X.K (.ref C)=true) (hb:cD X.K C=true) (hi:W.findIn X.K (.ref C) "__init__"=some (some (.builtin "Exception.__init__")))
  (hd:(x==("__debug__":Str))=false:=by decide):PS X (.Raise (some (.Call (.Name x np) [] [] cQ)) none pos) (fun _ _ H=>E (.ref C) none H):=by
 intro pins s σ H D I h
 rw[arm_exec_Raise]
 refine wpAny_bind (wpAny_standAt (Uw (K:=X.K) (C:=C) (I.ok.hd hc) hb (wpAny_bind ?_)))
 refine wpAny_Call_Name_kw (mn I hg hm (W.callWith_K0 I.cZ hk (wpAny_call ?_)) hd)
 obtain⟨hh,g,dr,t,os⟩:=s
 refine akV I.cZ hb hi fun h' u kp he=>?_
 have I2:=I.kept (h':=h') (t':=t) kp
 refine wpAny_bind (wpAny_standAt (wpAny_pure ⟨hh.objs.size+1,_,_,rfl,I2.cZ,he,rfl,rfl,rfl,?_⟩))
 exact hr pins σ H _ _ u C none I2 he (I.az.fresh (Nat.le_succ _)) (Heap.get?_none_of_le (Nat.le_trans I.sz (Nat.le_succ _))) h
def apH (C:Addr) (sp:Sp) (E:XK) (t:TA):TS:=fun _ σ H=>t σ H fun vs H1=>vs.length<=sizeLine/\∀ x u,H1 x=none->sp (.ref x::vs) (upd H1 x (XO x (cY C u none))) (fun v H2=>v=.aH/\∃ d,H2 x=some (XO x (cY C u d))/\E (.ref C) d (vp H2 x)) E0
theorem rL {cm:Bool}{k:Nat}{fd:FuncData}{ps:List Str}{sp:Sp}{a:Expr}{es:List Expr}{t:TA} (hr:Raises X E) (hc:X.calm=true) (hg:Gl X x) (hm:X.mg x=some (.ref C)) (hk:W.keepIn X.K (.ref C)=true) (hb:cD X.K C=true)
  (hi:W.findIn X.K (.ref C) "__init__"=some (some (.ref f))) (hf:W.isFn X.K (.ref f)=true) (F:aN X.prog X.w X.K X.mg X.base bC cm k f fd ps sp) (hro:cK (k+1) X.A) (hbi:Binds X.K fd ps []) (ha:PA X (a::es) t)
  (hd:(x==("__debug__":Str))=false:=by decide) (he:starEach (a::es) X.env=(false,eval a X.env)::starEach es X.env:=by rfl) (eK:(backTo cQ (starEach es X.env)).any (·.1)=false:=by rfl) :
  PS X (.Raise (some (.Call (.Name x np) (a::es) [] cQ)) none pos) (apH C sp E t):=by
 intro pins s σ H D I h
 rw[arm_exec_Raise]
 refine wpAny_bind (wpAny_standAt (Uw (K:=X.K) (C:=C) (I.ok.hd hc) hb (wpAny_bind ?_)))
 refine wpAny_Call_Name_kw (mn I hg hm ?_ hd)
 refine W.callWith_K (h₀:=X.base) I.ok.mod.sD hk (aD (ha cQ pins s σ H _ I h) fun us s1 q=>?_) he eK
 obtain⟨vs,H1,I1,r,hl,q⟩:=q
 refine⟨I1.cZ,wpAny_call ?_⟩
 have Fd:us.length<=sizeLine:=by rw[<- r.length];exact hl
 obtain⟨hh,g,dr,tk,os⟩:=s1
 have Ia:Inv X pins σ H1 ⟨hh.push {cls:=.type "tuple",data:=.seq us.toArray},g,dr,tk,os⟩:=I1.kept (t':=tk) fun b o e=>Heap.get?_push_of_some _ e
 have hsz:hh.objs.size+1=(hh.push {cls:=.type "tuple",data:=.seq us.toArray}).objs.size:=(Heap.size_push _ _).symm
 have hex:((hh.push {cls:=.type "tuple",data:=.seq us.toArray}).push (cY C hh.objs.size none)).get? (hh.objs.size+1)=some (cY C hh.objs.size none):=by
  rw[hsz]
  exact Heap.get?_push_size _ rfl
 have hn:H1 (hh.objs.size+1)=none:=I1.az.fresh (Nat.le_succ _)
 have I2:Inv X pins σ (upd H1 (hh.objs.size+1) (XO (hh.objs.size+1) (cY C hh.objs.size none))) ⟨(hh.push {cls:=.type "tuple",data:=.seq us.toArray}).push (cY C hh.objs.size none),g,dr,tk,os⟩ :=
  Ia.laid (t':=tk) (fun b o e=>Heap.get?_push_of_some _ e) (Nat.le_of_eq hsz.symm) (Ej hex)
 have hq:=q (hh.objs.size+1) hh.objs.size hn
 have r2:Vals (V.ref (hh.objs.size+1)::vs) (Value.ref (hh.objs.size+1)::us):=.cons rfl r
 have hlen:((Value.ref (hh.objs.size+1)::us)++[]).length=ps.length:=by
  rw[List.append_nil,<- r2.length]
  exact F.len _ _ _ _ hq
 have zP:=hbi _ (Value.ref (hh.objs.size+1)::us) I2.cZ hlen
 rw[List.append_nil] at zP
 refine amq I1.cZ hb hi (beq_iff_eq.mp hf) Fd (codeAny_mono (F.run _ X.stack _ _ ⟨Value.ref (hh.objs.size+1)::us,[]⟩ (Value.ref (hh.objs.size+1)::us) _ _ E0 (hro.make C us []) (fun _=>I.ok.hd hc) (I2.Et.make C us []) zP r2 hq) fun res s' z=>?_)
 cases res with
 | error y=>exact False.elim z
 | ok fl =>
  cases fl with
  | next=>exact False.elim z
  | brk=>exact False.elim z
  | cont=>exact False.elim z
  | ret u =>
   obtain⟨v,H2,I3,rv,rfl,d,hx,hE⟩:=I2.after z
   refine⟨rv,wpAny_bind (wpAny_standAt (wpAny_pure ⟨hh.objs.size+1,cY C hh.objs.size d,_,rfl,I3.cZ,zu I3.az hx,rfl,rfl,rfl,?_⟩))⟩
   exact hr pins σ _ s' _ hh.objs.size C d (I3.drop hx) (zu I3.az hx) DO (Heap.get?_none_of_le (Nat.le_trans I1.sz (Nat.le_succ _))) hE
def aqG (K:W.Frag) (ta tv:TE) (f:Str):TS:=fun D σ H=>tv σ H fun y H1=>ta σ H1 fun x H2=>∃ a C u,x=.ref a/\H2 a=some (XO a (cY C u none))/\cD K C=true/\W.findIn K (.ref C) "__setattr__"=some (some (.builtin "object.__setattr__")) /\
 bN K C f/\∀ d,H2 d=none->D.nx σ (upd (upd H2 d (.xd [(f,y)])) a (XO a (cY C u (some d))))
theorem anU {o value:Expr}{ta tv:TE}{f:Str}{pos':Pos} (ha:PE X o ta) (hv:PE X value tv) (hs:swapsWith value (some (.Attribute o f pos')) pos.line X.env=pure false):PS X (.Assign [.Attribute o f pos'] value pos) (aqG X.K ta tv f):=by
 intro pins s σ H D I h
 refine plainObj_wpAny_Assign_Attribute (aD (hv pins s σ H _ I h) fun u s1 ⟨y,H1,I1,ry,q⟩=>aD (ha pins s1 σ H1 _ I1 q) fun ov s2 ⟨x,H2,I2,rx,a,C,t,ex,ea,hb,hsa,na,q2⟩=>?_) hs
 subst ex
 obtain rfl:ov=Value.ref a:=rx
 have Yc:=zu I2.az ea
 refine anS I2.cZ hb hsa na Yc fun h' e1 e2 kp=>?_
 have hn:H2 s2.heap.objs.size=none:=I2.az.fresh (Nat.le_refl _)
 have cB:a≠s2.heap.objs.size:=Nat.ne_of_lt (Heap.lt_size Yc)
 have ne:∀ {b u},H2 b=some u->(∀ φ,u≠.ext φ)->b≠a:=fun {b u} hb hu z=>by
  subst z
  rw[ea] at hb
  exact hu _ (Option.some.inj hb).symm
 have up:∀ {b u},H2 b=some u->(∀ φ,u≠.ext φ)->upd (upd H2 s2.heap.objs.size (.xd [(f,y)])) a (XO a (cY C t (some s2.heap.objs.size))) b=some u:=fun {b u} hb hu=>by
  rw[ai (ne hb hu),ai (aJ hb hn)]
  exact hb
 refine⟨σ,_,I2.un (h':=h') (t':=s2.toks+2) ⟨fun b ob qb n _ _=>kp b ob (fun z=>by rw[z,ea] at n;cases n) qb,fun b ob qb n _ _=>⟨ob.slots,kp b ob (fun z=>by rw[z,ea] at n;cases n) qb⟩,fun b ob qb n _=>?_,fun b ob qb _=>?_,fun b xs qb=>up qb fun φ z=>(nomatch z),fun b ob u qb=>up qb fun φ z=>(nomatch z),fun b ps qb=>⟨#[],by rw[up qb fun φ z=>(nomatch z)];simp⟩⟩ fun b ob gi=>?_,q2 _ hn⟩
 ·rw[ai (fun z=>by rw[z,ea] at n;cases n),ai (Nat.ne_of_lt (Heap.lt_size qb))]
  exact n
 ·by_cases z:b=a
  ·rw[z];exact⟨_,e1⟩
  exact⟨ob,kp b ob z qb⟩
 by_cases z:b=a
 ·rw[z,ak] at gi
  cases gi
  rw[z]
  exact Ej e1
 rw[ai z] at gi
 by_cases z2:b=s2.heap.objs.size
 ·rw[z2,ak] at gi
  cases gi
  rw[z2]
  refine⟨_,e2,fun g=>?_⟩
  by_cases hg:g=f
  ·rw[if_pos hg,hg]
   show dP (List.lookup f [(f,y)]) (some u)
   have:List.lookup f [(f,y)]=some y:=by simp[List.lookup]
   rw[this]
   exact ry
  rw[if_neg hg]
  have:List.lookup g [(f,y)]=none:=by simp[List.lookup,beq_eq_false_iff_ne.mpr hg]
  rw[this]
  exact True.intro
 rw[ai z2] at gi
 exact(I2.az b ob gi).gR (fun c v hc qc=>kp c v (fun zc=>by
  rcases hc with rfl | hc
  ·exact z zc
  rw[zc,ea] at hc;cases hc) qc) (fun c hc=>up hc fun φ z=>(nomatch z)) fun c xs hc=>up hc fun φ z=>(nomatch z)
end
end L2
end
section
namespace L2
open PySem PySem.Spec PyProof.Rows LX
def Cx.fV (X:Cx) (e:Addr) (oe:Obj):Cx:={X with A:=X.A.mark (some (.ref e)),calm:=false,pn:=(e,oe)::X.pn,xe:=fun _ _=>False}
def Cx.pinned (X:Cx) (pins:List (Addr×Obj)):Cx:={X with pn:=X.pn++pins}
section
variable {X:Cx}{pins:List (Addr×Obj)}{σ:St}{H H0:Hp}{s s0:Shared}{e:Addr}{oe:Obj}{cls:Value}{d:Option Addr}
theorem Cx.Ok.fV (ok:X.Ok) (e:Addr) (oe:Obj):(X.fV e oe).Ok :=
 ⟨ok.mod,ok.kind,ok.glob,ok.blt,ok.above,ok.inj,ok.has,ok.qE,fun z=>(nomatch z),ok.frames,ok.jB,ok.sF,ok.bs,ok.jC,ok.qo,ok.o7,ok.gf,ok.oo⟩
theorem Inv.fV (I:Inv X pins σ H s) (he:s.heap.get? e=some oe) (hn:H e=none) (hl:e≠X.env.locals) (hf:e∉X.fs) (hd:∀ v,oe.data≠.cell v):Inv (X.fV e oe) pins σ H s :=
 ⟨I.ok.fV e oe,I.os,I.bare,I.base,I.loc,I.cell,I.free,I.e8,fun p hp=>by
  have ou:p∈((e,oe)::X.pn)++pins:=hp
  rcases List.mem_cons.mp (show p∈(e,oe)::(X.pn++pins) from ou) with rfl | ou
  ·exact⟨he,hn,hl,hf,hd⟩
  exact I.pin p ou,I.az,I.len⟩
theorem Inv.qy (ok:X.Ok) (I:Inv (X.fV e oe) pins σ H s):Inv X pins σ H s :=
 ⟨ok,I.os,I.bare,I.base,I.loc,I.cell,I.free,I.e8,fun p hp=>I.pin p (show p∈((e,oe)::X.pn)++pins from List.mem_cons_of_mem _ hp),I.az,I.len⟩
theorem SP.qy (ok:X.Ok) {D:Ends}{f:Flow} (h:SP (X.fV e oe) pins D f s):SP X pins D f s:=by
 cases f with
 | next=>obtain⟨σ',H',I,q⟩:=h;exact⟨σ',H',I.qy ok,q⟩
 | brk=>obtain⟨σ',H',I,q⟩:=h;exact⟨σ',H',I.qy ok,q⟩
 | cont=>obtain⟨σ',H',I,q⟩:=h;exact⟨σ',H',I.qy ok,q⟩
 | ret u=>obtain⟨v,σ',H',I,r,q⟩:=h;exact⟨v,σ',H',I.qy ok,r,q⟩
theorem Lies.obj {P:Program}{w:World}{outer:List Env} (L:Lies P w outer H0 s0 H e cls d s):∃ oe,s.heap.get? e=some oe/\oe.cls=cls/\oe.dict=d/\∃ vs,oe.data=.fields vs:=by
 obtain⟨a0,B,⟨_,_,_,oe,vs,_,_,_,he,hc,hd,_⟩,_⟩:=L.sT
 obtain⟨o2,e2,d2⟩:=L.qJ
 rw[he] at e2
 cases e2
 exact⟨oe,he,hc.1,d2,vs,hd⟩
theorem Lies.apart (I:Inv X pins σ H0 s0) (L:Lies X.prog X.w X.stack H0 s0 H e cls d s):e≠X.env.locals/\e∉X.fs:=by
 refine⟨fun z=>?_,fun z=>?_⟩
 ·obtain⟨m,⟨o,es,ep,ho,_⟩,_⟩:=I.loc
  rw[<- z,L.new] at ho
  cases ho
 obtain⟨_,o,ho,_⟩:=I.ok.gf.mem z
 have hx:e∉X.ex:=fun q=>I.ok.o7 e q z
 obtain⟨o',br⟩:=I.base.there e o ho hx
 rw[L.new] at br
 cases br
theorem Lies.ty {P:Program}{w:World}{outer:List Env}{M:Model} (L:Lies P w outer H0 s0 H e cls d s):W.Looks M s.heap (typeOf (.ref e)) cls:=by
 obtain⟨oe,he,hc,_⟩:=L.obj
 subst hc
 exact(W.Looks.ld he).andThen .now
abbrev TH:=Value->Option Addr->Ends->St->Hp->Prop
def PH (X:Cx) (hs:List ExceptHandler) (th:TH):Prop:=∀ (D:Ends) (pins:List (Addr×Obj)) (σ:St) (H0:Hp) (s0:Shared) (e:Addr) (cls:Value) (d:Option Addr) (H:Hp) (s:Shared),
 Inv X pins σ H0 s0->Lies X.prog X.w X.stack H0 s0 H e cls d s->th cls d D σ H->wpAny (model X.prog X.w) X.A (handleBy (.ref e) X.env hs) (SP X pins D) X.xe s
def apI:TH:=fun _ _ _ _ _=>False
theorem apJ:PH X [] apI:=fun _ _ _ _ _ _ _ _ _ _ _ _ h=>h.elim
def th0 (K:W.Frag) (C:Addr) (ts:TS) (th:TH):TH:=fun cls d D σ H=>∃ b,W.exmOne K cls (.ref C)=some b/\if b=true then ts D σ H else th cls d D σ H
theorem p9 {x:Str}{C:Addr}{np pos:Pos}{b0:Stmt}{uJ:List Stmt}{rest:List ExceptHandler}{ts:TS}{th:TH} (hg:Gl X x) (hm:X.mg x=some (.ref C)) (hs:∀ e oe,fz (X.fV e oe) (b0::uJ) ts) (hr:PH X rest th)
  (hd:(x==("__debug__":Str))=false:=by decide):PH X (.ExceptHandler (some (.Name x np)) none (b0::uJ) pos::rest) (th0 X.K C ts th):=by
 intro D pins σ H0 s0 e cls d H s I0 L h
 obtain⟨b,hx,h⟩:=h
 have I:=Lies.inv I0 L
 obtain⟨oe,he,hc,vo,vs,jF⟩:=L.obj
 obtain⟨n1,n2⟩:=L.apart I0
 have IH:=I.fV he L.na n1 n2 fun v z=>by rw[jF] at z;cases z
 refine wpAny_handleBy_cons (codeAny_handlers_test (mn (X:=X.fV e oe) IH hg hm ?_ hd)) (by intro q;cases q)
 refine(W.exm_one I.cZ L.ty hx).here ?_
 cases b with
 | false=>exact hr D pins σ H0 s0 e cls d H s I0 L h
 | true =>
  refine codeAny_handlers_suite (L.land fun s' L'=>?_)
  have I':=Lies.inv I0 L'
  obtain⟨vq,ot,_,_,Yd,zz⟩:=L'.obj
  have Fw:=I'.fV ot L'.na n1 n2 fun v z=>by rw[zz] at z;cases z
  exact wpAny_mono (hs e vq pins s' σ H D Fw h) (fun f s2 q=>q.qy I0.ok) fun _ _ z=>z.elim
theorem Inv.anV {h':Heap}{m':Str->Option Value}{tk:Nat} (I:Inv X pins σ H s) (hn:h'.Ns X.env.locals m') (sb:Heap.SameBut X.env.locals s.heap h'):Inv X pins (List.replicate σ.length none) H {s with heap:=h',toks:=tk}:=by
 have kp:∀ b o,b≠X.env.locals->s.heap.get? b=some o->h'.get? b=some o:=fun b o hb q=>(sb.2 b hb).trans q
 have nl:∀ b o,X.di.heap.get? b=some o->b≠X.env.locals:=fun b o q=>Nat.ne_of_lt (Nat.lt_of_lt_of_le (Heap.lt_size q) I.ok.above)
 refine⟨I.ok,I.os,I.bare,⟨fun b o q n hb hx=>kp b o (nl b o q) (I.base.keep b o q n hb hx),fun b o q n hb hx=>?_,I.base.free,fun b o q hx=>?_,I.base.fP,I.base.fe,I.base.fQ⟩,⟨m',hn,fun i y v h1 h2=>?_⟩,fun y c q=>?_,I.free,I.e8,fun p hp=>?_,fun a o q=>?_,by rw[List.length_replicate];exact I.len⟩
 ·obtain⟨sl,e1⟩:=I.base.slot b o q n hb hx
  exact⟨sl,kp b _ (nl b o q) e1⟩
 ·obtain⟨o',e1⟩:=I.base.there b o q hx
  exact⟨o',kp b _ (nl b o q) e1⟩
 ·rw[List.getElem?_replicate] at h2
  split at h2 <;> cases h2
 ·obtain⟨v,z⟩:=I.cell y c q
  exact⟨v,z.sameBut sb (I.pf y c q)⟩
 ·obtain⟨q,n,ne,nf,dd⟩:=I.pin p hp
  exact⟨kp _ _ ne q,n,ne,nf,dd⟩
 refine(I.az a o q).gR (fun b u hb hu=>kp b u (fun z=>?_) hu) (fun _ z=>z) fun _ _ z=>z
 have:=I.free
 rw[<- z] at this
 rcases hb with rfl | hb
 ·rw[this] at q;cases q
 rw[this] at hb;cases hb
def thN (K:W.Frag) (C:Addr) (i:Nat) (ts:Addr->Obj->TS) (th:TH):TH:=fun cls d D σ H=>∃ b,W.exmOne K cls (.ref C)=some b /\
 if b=true then ∀ e oe,oe.cls=cls->oe.dict=d->(∃ vs,oe.data=.fields vs)->H e=none->ts e oe {nx:=fun _ _=>False,rt:=D.rt} (σ.set i (some (.ref e))) H else th cls d D σ H
theorem amr {x n:Str}{i:Nat}{C:Addr}{np pos:Pos}{b0:Stmt}{uJ:List Stmt}{rest:List ExceptHandler}{ts:Addr->Obj->TS}{th:TH} (hg:Gl X x) (hm:X.mg x=some (.ref C)) (hN:X.N.Nodup) (hi:X.N[i]?=some n)
  (hl:X.env.scope.names.lookup n=some .local) (hs:∀ e oe,fz (X.fV e oe) (b0::uJ) (ts e oe)) (hr:PH X rest th) (hk:X.env.scope.kind=.function) (hd:(x==("__debug__":Str))=false:=by decide) :
  PH X (.ExceptHandler (some (.Name x np)) (some n) (b0::uJ) pos::rest) (thN X.K C i ts th):=by
 intro D pins σ H0 s0 e cls d H s I0 L h
 obtain⟨b,hx,h⟩:=h
 have I:=Lies.inv I0 L
 obtain⟨oe,he,hc,vo,vs,jF⟩:=L.obj
 obtain⟨n1,n2⟩:=L.apart I0
 have IH:=I.fV he L.na n1 n2 fun v z=>by rw[jF] at z;cases z
 refine wpAny_handleBy_cons (codeAny_handlers_test (mn (X:=X.fV e oe) IH hg hm ?_ hd)) (by intro q;cases q)
 refine(W.exm_one I.cZ L.ty hx).here ?_
 cases b with
 | false=>exact hr D pins σ H0 s0 e cls d H s I0 L h
 | true =>
  refine codeAny_handlers_suite_as (L.land fun s' L'=>?_)
  have I':=Lies.inv I0 L'
  obtain⟨vq,ot,eg,arU,Yd,zz⟩:=L'.obj
  have Fw:=I'.fV ot L'.na n1 n2 fun v z=>by rw[zz] at z;cases z
  refine yD (X:=X.fV e vq) (v:=V.ref e) Fw hN hi (Or.inl hl) rfl (fun s2 I2=>?_) (Or.inr hl)
  refine wpAny_mono (hs e vq pins s2 _ H _ I2 (h e vq eg arU ⟨Yd,zz⟩ L'.na)) (fun f s3 q=>?_) fun _ _ z=>z.elim
  cases f with
  | next=>obtain⟨_,_,_,q⟩:=q;exact q.elim
  | brk=>obtain⟨_,_,_,q⟩:=q;exact q.elim
  | cont=>obtain⟨_,_,_,q⟩:=q;exact q.elim
  | ret u =>
   obtain⟨v,σ',H',I3,rv,q⟩:=q
   have I4:=I3.qy I0.ok
   obtain⟨m,hn,_⟩:=I4.loc
   refine wpAny_nameGoes hl hn (by rw[hk];rfl) fun h' m' EW sb=>⟨v,_,H',I4.anV EW sb,rv,q⟩
def arV (X:Cx) (E:XK):Value->Shared->Prop:=fun e s'=>∃ pins σ H s,Inv X pins σ H s/\cu X.prog X.w X.stack H s E e s'
abbrev Cx.WO (X:Cx) (pins:List (Addr×Obj)) (E:XK):Cx:=(X.pinned pins).iC (arV (X.pinned pins) E)
theorem aqH {E:XK}:Passes (cu X.prog X.w) (X.WO pins E) E:=fun qh σ H s e s' I hx=>⟨qh,σ,H,s,I.mv,hx⟩
theorem Inv.aqI (I:Inv X pins σ H s):Inv (X.pinned pins) [] σ H s :=
 ⟨⟨I.ok.mod,I.ok.kind,I.ok.glob,I.ok.blt,I.ok.above,I.ok.inj,I.ok.has,I.ok.qE,I.ok.hd,I.ok.frames,I.ok.jB,I.ok.sF,I.ok.bs,I.ok.jC,I.ok.qo,I.ok.o7,I.ok.gf,I.ok.oo⟩,I.os,I.bare,I.base,I.loc,I.cell,I.free,I.e8,fun p hp=>by
  have ou:p∈(X.pn++pins)++[]:=hp
  rw[List.append_nil] at ou
  exact I.pin p ou,I.az,I.len⟩
theorem Inv.uk {qh:List (Addr×Obj)} (ok:X.Ok) (I:Inv (X.pinned pins) qh σ H s):Inv X pins σ H s :=
 ⟨ok,I.os,I.bare,I.base,I.loc,I.cell,I.free,I.e8,fun p hp=>I.pin p (List.mem_append_left _ hp),I.az,I.len⟩
theorem apK {body:List Stmt}{h0:ExceptHandler}{hs:List ExceptHandler}{pos:Pos}{tb:Ends->TS}{th:TH} (cG:X.stack=X.env::X.outer)
  (hb:∀ (D:Ends) (pins:List (Addr×Obj)),fz (X.WO pins fun cls d H=>∀ σ,σ.length=X.N.length->th cls d D σ H) body (tb D)) (hh:PH X (h0::hs) th):PS X (.Try body (h0::hs) [] [] pos) (fun D σ H=>tb D D σ H):=by
 intro pins s σ H D I h
 refine wpAny_Try_except (wpAny_mono (hb D pins [] s σ H D (I.aqI.iC _) h) (fun f s1 q=>?_) fun x s1 q=>?_)
 ·have q':=q.mv
  cases f with
  | next=>obtain⟨σ',H',I',q⟩:=q';exact wpAny_execs_nil ⟨σ',H',I'.uk I.ok,q⟩
  | brk=>obtain⟨σ',H',I',q⟩:=q';exact⟨σ',H',I'.uk I.ok,q⟩
  | cont=>obtain⟨σ',H',I',q⟩:=q';exact⟨σ',H',I'.uk I.ok,q⟩
  | ret u=>obtain⟨v,σ',H',I',r,q⟩:=q';exact⟨v,σ',H',I'.uk I.ok,r,q⟩
 obtain⟨qh,σ',H',s',I2,a,cls,d,H2,rfl,L,hE⟩:=q
 have I3:=I2.uk I.ok
 have L':Lies X.prog X.w (X.env::X.outer) H' s' H2 a cls d s1:=by rw[<- cG];exact L
 refine L'.look (by rw[<- cG];exact I.ok.frames) (I.frame cG) fun s3 L3=>hh D pins σ' H' s' a cls d H2 s3 I3 (by rw[cG];exact L3) (hE σ' I3.len)
def aqJ (K:W.Frag) (e:Addr) (oe:Obj) (ta:TE) (f:Str):TE:=fun σ H Q=>ta σ H fun x H1=>x=.ref e/\∃ C dx fs v,oe.cls=.ref C/\oe.dict=some dx/\H1 dx=some (.xd fs)/\cD K C=true/\W.findIn K (.ref C) "__getattribute__"=some (some (.builtin "BaseException.__getattribute__")) /\
 W.findIn K (.ref C) "__getattr__"=some none/\bN K C f/\(∃ vs,oe.data=.fields vs)/\fs.lookup f=some v/\Q v H1
theorem anW {a:Expr}{ta:TE}{f:Str}{pos:Pos} (hp:(e,oe)∈X.pn) (ha:PE X a ta) (hb:attributeBase a f X.env (eval a X.env)=eval a X.env):PE X (.Attribute a f pos) (aqJ X.K e oe ta f):=by
 intro pins s σ H Q I h
 refine VH hb (aD (ha pins s σ H _ I h) fun u s1 q=>?_)
 obtain⟨x,H1,I1,rx,ex,C,dx,fs,v,hc,hd,gm,Ye,Fo,Fp,na,⟨vs,jF⟩,hl,q⟩:=q
 subst ex
 obtain rfl:u=Value.ref e:=rx
 have arW:=(I1.pin (e,oe) (List.mem_append_left _ hp)).1
 obtain⟨mA,hn,hr⟩:=(show cN X.prog X.w H1 s1.heap dx (.xd fs) from I1.az dx _ gm)
 obtain⟨od,ho,vt⟩:=Uj hn
 have J:W.InstAt s1.heap e oe C (some od):=⟨arW,hc,by unfold W.notCls;rw[jF],by rw[hd];exact ho⟩
 obtain⟨uv,hu,ru⟩:=dP.some_of (v:=v) (o:=mA f) (by rw[<- hl];exact hr f)
 obtain⟨_,_,_,_,_,_,_,_,_,_,_,_,_,_,_,cd,dY,E6,_⟩:=nT I1.cZ Ye
 have hf:W.findObj X.K C (some od) f=some (.value uv):=W.findObj_own (by unfold W.hasDictIn;rw[dY];exact E6) na rfl (by rw[vt,hu])
 exact anT I1.cZ Ye Fo Fp J hf (Uk ru) ⟨v,H1,I1.tok _,ru,q⟩
end
end L2
end
section
namespace L2
open PySem PySem.Spec PyProof.Rows LX
abbrev Yf {K:W.Frag}{h:Heap} (_:K.In h):W.Frag:=K
theorem aR.eh {P:Program}{w:World}{K:W.Frag}{mg:Str->Option Value}{base:Heap}{x qual:Str}{st:Stmt}{f:Addr}{fd:FuncData}{N ps:List Str}{k:Nat}{sp:Sp} (F:aR K x qual st f fd) (S:aS N ps (ah st)) (len:∀ vs H Q E,sp vs H Q E->vs.length=ps.length)
  (uE:∀ (aF:Value) (A:Around) (outer:List Env) (s:Shared) (H:Hp) (vs:List V) (Q:VK) (E:XK),cK k (A.deeper (envOfC qual (ah st) s.heap.objs.size f aF))->sp vs H Q E ->
   ∃ t,fz (gS true (cu P w) P w K mg base N qual (ah st) f aF A outer s H E) (ax st) t/\t {nx:=fun _ H'=>Q .aH H',rt:=Q} (start N vs) H):aN P w K mg base (cu P w) true (k+1) f fd ps sp:=by
 obtain⟨oc,od,kV,doc,pm,an,aF,ct,oq,rfl,lk,dY⟩:=F.ex
 exact WL lk dY S len fun A outer s H vs Q E hr eB=>uE aF A outer s H vs Q E hr eB
theorem bW {cm:Bool}{P:Program}{w:World}{K:W.Frag}{mg:Str->Option Value}{base:Heap}{N:List Str}{qual:Str}{scope:Scope}{f:Addr}{cd:Value}{A:Around}{outer:List Env}{s:Shared}{H:Hp}{E:XK} :
  Passes (cu P w) (gS cm (cu P w) P w K mg base N qual scope f cd A outer s H E) E:=aqF fun _ _ _ z=>z
theorem e7:bootBuiltins "len"=some (.builtin "len"):=by decide +kernel
theorem Wu:bootBuiltins "max"=some (.builtin "max"):=by decide +kernel
theorem rV:bootBuiltins "min"=some (.builtin "min"):=by decide +kernel
theorem apL:bootBuiltins "ord"=some (.builtin "ord"):=by decide +kernel
theorem apM:bootBuiltins "abs"=some (.builtin "abs"):=by decide +kernel
theorem apN:bootBuiltins "sum"=some (.builtin "sum"):=by decide +kernel
section
variable {X:Cx}
theorem cC {x:Str}{v:V}{pos:Pos} (hg:Gl X x) (h:∃ u,X.mg x=some u/\RelV v u) (hd:(x==("__debug__":Str))=false:=by decide):PE X (.Name x pos) (tC v):=by
 obtain⟨u,e,r⟩:=h
 exact VC hg e r hd
end
def cE (K:W.Frag) (a:Addr) (xs:List V):Prop:=∃ (o:Obj) (aj:Array Value) (n:Nat),K.lookup a=some o/\o.cls=.type "tuple"/\o.data=.seq aj n/\aj.size<=sizeLine/\Vals xs aj.toList
theorem cE.sq {K:W.Frag}{a:Addr}{xs:List V} (h:cE K a xs) (H:Hp):cp K H a xs:=.inr h
inductive rR (w:World):List DictEntry->List (Str×V)->Prop
 | nil:rR w [] []
 | cons {x:Str}{t:Tok}{u:Value}{v:V}{es:List DictEntry}{D:List (Str×V)}:RelV v u->rR w es D->rR w (⟨hashStr w x,.str x t,u⟩::es) ((x,v)::D)
def uK (w:World) (K:W.Frag) (a:Addr) (D:List (Str×V)):Prop:=(a==sysModules)=false/\∃ (es:Array DictEntry) (ep:Nat),K.lookup a=some ⟨.type "dict",none,.dict es ep,#[]⟩/\rR w es.toList D
theorem Ve {P:Program}{w:World} (x:Str):∀ {l:List DictEntry}{D:List (Str×V)},rR w l D->dP (D.lookup x) ((l.find? fun e=>(cJ P w).is (.inr x) e.key).map (·.val))
 | _,_,.nil=>True.intro
 | _,_,.cons (x:=y) (t:=t) (u:=u) (v:=v) (es:=es) (D:=D) r q=>by
  have ih:=Ve (P:=P) x q
  rw[List.find?_cons]
  by_cases h:x=y
  ·subst h
   rw[show(cJ P w).is (Sum.inr x) (Value.str x t)=true from xW P w x t]
   have e:List.lookup x ((x,v)::D)=some v:=by simp[List.lookup]
   rw[e]
   exact r
  have hn:(cJ P w).is (Sum.inr x) (Value.str y t)=false:=by
   cases q:(cJ P w).is (Sum.inr x) (Value.str y t) with
   | false=>rfl
   | true=>exact absurd (Sum.inr.inj ((cJ P w).inj _ _ _ q (xW P w y t))) h
  rw[hn]
  have e:List.lookup x ((y,v)::D)=D.lookup x:=by simp[List.lookup,beq_eq_false_iff_ne.mpr h]
  rw[e]
  exact ih
theorem Vf {P:Program}{w:World}:∀ {l:List DictEntry}{D:List (Str×V)},rR w l D->∀ e∈l,∃ k,(cJ P w).is k e.key=true/\e.hash=(cJ P w).hash k
 | _,_,.nil,e,h=>absurd h (by simp)
 | _,_,.cons (x:=y) (t:=t) r q,e,h=>by
  rcases List.mem_cons.mp h with rfl | h
  ·exact⟨.inr y,xW P w y t,rfl⟩
  exact Vf q e h
theorem uK.map {P:Program}{w:World}{K:W.Frag}{a:Addr}{D:List (Str×V)}{h:Heap} (t:uK w K a D) (X:K.In h):∃ f,h.MapOf (cJ P w) a f/\∀ x,dP (D.lookup x) (f (.inr x)):=by
 obtain⟨_,es,ep,hk,rows⟩:=t
 refine⟨findBy (cJ P w).is es,⟨_,es,ep,X _ _ hk,⟨rfl,rfl,rfl⟩,rfl,fun e he=>Vf rows e (Array.mem_toList_iff.mpr he),fun k=>rfl⟩,fun x=>?_⟩
 have:=Ve (P:=P) x rows
 unfold findBy
 rw[<- Array.find?_toList]
 exact this
section
variable {X:Cx}{i:Expr}{ty:TE}{x:Str}{np pos:Pos}{a:Addr}{D:List (Str×V)}
def akW (D:List (Str×V)) (ty:TE):TE:=fun σ H Q=>ty σ H fun y H1=>∃ z,y=.str z/\Q (.bl (!(D.lookup z).isSome)) H1
theorem dP.aj3 {o:Option V}{u:Option Value} (r:dP o u):u.isSome=o.isSome:=by
 cases o with
 | none=>rw[r.none_of];rfl
 | some v=>obtain⟨w,rfl,_⟩:=r.some_of;rfl
theorem akX (t:uK X.w X.K a D) (hg:Gl X x) (hm:X.mg x=some (.ref a)) (hi:PE X i ty) (hd:(x==("__debug__":Str))=false:=by decide):PC X .NotIn i (.Name x np) (akW D ty):=by
 intro pins s σ H Q I h
 refine aD (hi pins s σ H _ I h) fun iv s1 ⟨y,H1,I1,ry,z,ey,q1⟩=>mn I1 hg hm ?_ hd
 subst ey
 obtain⟨f,hf,hr⟩:=t.map (P:=X.prog) I1.cZ
 refine wpAny_notIn_of (qi (k:=Sum.inr z) ry) t.1 hf ⟨.bl (!(f (Sum.inr z)).isSome),H1,I1.tok _,rfl,?_⟩
 rw[(hr z).aj3]
 exact q1
def anY (D:List (Str×V)) (ty:TE):TE:=fun σ H Q=>ty σ H fun y H1=>∃ z v,y=.str z/\D.lookup z=some v/\Q v H1
theorem anZ (t:uK X.w X.K a D) (hg:Gl X x) (hm:X.mg x=some (.ref a)) (hi:PE X i ty) (hs:Ez i) (hd:(x==("__debug__":Str))=false:=by decide):PE X (.Subscript (.Name x np) i pos) (anY D ty):=by
 intro pins s σ H Q I h
 refine VP PySem.F.slot_dict_getitem.lookup hs (mn I hg hm (aD (hi pins s σ H _ I h) fun iv s2 ⟨y,H2,I2,ry,z,v,ey,l,q2⟩=>?_) hd)
 subst ey
 obtain⟨f,hf,hr⟩:=t.map (P:=X.prog) I2.cZ
 have hz:=hr z
 rw[l] at hz
 obtain⟨u,hu,ru⟩:=hz.some_of
 exact⟨hf.typeIs,wpAny_getItem_of (qi (k:=Sum.inr z) ry) hf hu ⟨v,H2,I2.tok _,ru,q2⟩⟩
end
end L2
end
section
namespace LX
open PySem Sem AutoSeq1
section
variable {prog:Program}{w:World}{A:Around}{E:Value->Shared->Prop}{s:Shared}
theorem ao0 {it t:Addr}{i:Nat}{items:Array Value}{x:Value}{Q:Value->Shared->Prop} (hit:s.heap.IsTupleIter it t i) (ht:s.heap.IsTuple t items) (hx:items[i]?=some x)
  (hQ:∀ h',h'.IsTupleIter it t (i+1)->Heap.SameBut it s.heap h'->Q x {s with heap:=h'}):wpAny (model prog w) A (Builtin.SmallTypes.nextOf (.ref it)) Q E s:=by
 obtain⟨o,ho,hc,hd⟩:=id hit;obtain⟨ol,vv,_,nl,ow⟩:=ht
 unfold Builtin.SmallTypes.nextOf;refine wpAny_bind (wpAny_callSpecial?_slot (name:=Str.ofString "__next__") hit.typeIs F.slot_tuple_iterator_next (wpAny_call_entry F.slot_tuple_iterator_next hit.typeIs F.entry_tuple_iterator_next ?_ (F.args_tuple_iterator_next_1 _)))
 show wpAny _ _ (field (.ref it) 0 >>= _) _ _ s;refine wpAny_bind (wpAny_field ho hd (x:=.ref t) rfl ?_)
 show wpAny _ _ (if (Value.ref t==Value.none)=true then _ else _) _ _ s;rw[if_neg (show ¬ ((Value.ref t==Value.none)=true) from Bool.false_ne_true)]
 show wpAny _ _ (field (.ref it) 1 >>= _) _ _ s;refine wpAny_bind (wpAny_field ho hd (x:=.int i 0) rfl ?_)
 show wpAny _ _ (seqItems? (.ref t) >>= _) _ _ s;refine wpAny_bind (wpAny_seqItems vv ow ?_)
 simp only [Int.toNat_natCast,hx];refine wpAny_bind (wpAny_setField ho hd (by simp) (wpAny_pure ⟨x,rfl,wpAny_pure (hQ _ ?_ (Heap.SameBut.update ..))⟩))
 refine⟨_,Heap.get?_update_self _ ho (Obj.isFreed_of_fields (Obj.data_mapFields hd _)),(Obj.cls_mapFields ..).trans hc,?_⟩;rw[Obj.data_mapFields hd];simp[rawInt]
theorem apO {it t:Addr}{i:Nat}{items:Array Value}{Q:Value->Shared->Prop} (hh:A.handled=none) (hit:s.heap.IsTupleIter it t i) (ht:s.heap.IsTuple t items) (hx:items[i]?=none)
  (hE:∀ h' e,Heap.ExtBut it s.heap h'->(∃ o,h'.get? e=some o/\o.cls=.type "StopIteration")->E (.ref e) {s with heap:=h'}):wpAny (model prog w) A (Builtin.SmallTypes.nextOf (.ref it)) Q E s:=by
 obtain⟨o,ho,hc,hd⟩:=id hit;obtain⟨ol,vv,_,nl,ow⟩:=ht
 unfold Builtin.SmallTypes.nextOf;refine wpAny_bind (wpAny_callSpecial?_slot (name:=Str.ofString "__next__") hit.typeIs F.slot_tuple_iterator_next (wpAny_call_entry F.slot_tuple_iterator_next hit.typeIs F.entry_tuple_iterator_next ?_ (F.args_tuple_iterator_next_1 _)))
 show wpAny _ _ (field (.ref it) 0 >>= _) _ _ s;refine wpAny_bind (wpAny_field ho hd (x:=.ref t) rfl ?_)
 show wpAny _ _ (if (Value.ref t==Value.none)=true then _ else _) _ _ s;rw[if_neg (show ¬ ((Value.ref t==Value.none)=true) from Bool.false_ne_true)]
 show wpAny _ _ (field (.ref it) 1 >>= _) _ _ s;refine wpAny_bind (wpAny_field ho hd (x:=.int i 0) rfl ?_)
 show wpAny _ _ (seqItems? (.ref t) >>= _) _ _ s;refine wpAny_bind (wpAny_seqItems vv ow ?_)
 simp only [Int.toNat_natCast,hx];refine wpAny_bind (wpAny_rule (wpAny_bind (wpAny_setField ho hd (by simp) ?_)))
 show wpAny _ _ (newExc (.type "StopIteration") [] >>= _) _ _ _;refine wpAny_bind ?_;simp only [newExc,newTuple];refine wpAny_bind (wpAny_newObj_type ?_ (by size_fits))
 refine wpAny_bind (m:=firstArgMember _ _) (wpAny_of_eq (a:=Value.none) (by first | rfl | (simp only [firstArgMember];rfl)) ?_);refine wpAny_newObj_type ?_ (by size_fits)
 simp only [raiseNew];refine wpAny_bind (wpAny_handled ?_);first | rw[show A.in1.handled=none from hh] | rw[hh]
 exact wpAny_bind (wpAny_pure (wpAny_throw (hE _ _ (((Heap.SameBut.update ..).extBut.push _).push _) ⟨_,Heap.get?_push_size _ rfl,rfl⟩)))
end
theorem Wv {prog:Program}{w:World}{A:Around} (hh:A.handled=none) (it l:Addr) (cq:l≠it) (items:Array Value):Draws prog w A it [it,l] items.size (fun i v=>items[i]?=some v) (fun i h=>h.IsTupleIter it l i/\h.IsTuple l items) where
 live:=fun _ _ st=>let ⟨o,ho,_⟩:=st.1;⟨o,ho⟩
 frame:=fun _ _ _ st hk=>⟨let ⟨o,ho,r⟩:=st.1;⟨o,hk it (by simp) o ho,r⟩,let ⟨o,ho,r⟩:=st.2;⟨o,hk l (by simp) o ho,r⟩⟩
 item:=fun i s Q E hi st hQ=>ao0 st.1 st.2 (x:=items[i]) (by simp[hi]) fun h' EB zS=>hQ _ h' s.toks (by simp[hi]) ⟨EB,st.2.extBut zS.extBut cq⟩ zS
 done:=fun s Q E st hE=>apO hh st.1 st.2 (by simp) hE
theorem ahx (l:Addr) (items:Array Value) (n:Nat) (qJ:Option Addr) (sl:Array (Option Value)) :
  Meets (Builtin.«enumerate.__new__» ⟨[.type "enumerate",.ref l],[]⟩) (fun _ R s=>s.heap.get? l=some {cls:=.type "tuple",dict:=qJ,data:=.seq items n,slots:=sl}/\R (.ok (.ret (.ref (s.heap.push {cls:=.type "tuple_iterator",data:=.fields #[.ref l,.int 0 0]}).objs.size)))
    {s with heap:=(s.heap.push {cls:=.type "tuple_iterator",data:=.fields #[.ref l,.int 0 0]}).push {cls:=.type "enumerate",data:=.fields #[.none,.bool false,.ref s.heap.objs.size,rawInt 0,.none,.none]}}) :=
 .of_wp fun prog w A R s h=>by
  obtain⟨hp,g,d,tk,os⟩:=s;obtain⟨hl,h⟩:=h;have av2:=sub_enumerate
  have hL:Heap.IsTuple (Shared.heap ⟨hp,g,d,tk,os⟩) l items:=⟨_,hl,rfl,n,rfl⟩
  wp_walk using wpAny_loadPart' hl
  refine wpAny_stack_any fun st=>wpAny_pure ?_;split
  ·rename_i c _ _ _ _ _
   cases (c==Value.type "enumerate") <;> (wp_walk using wpAny_loadPart' hl,wpAny_pyIter_tuple hL;exact⟨_,rfl,h⟩)
  wp_walk using wpAny_loadPart' hl,wpAny_pyIter_tuple hL;exact⟨_,rfl,h⟩
theorem aj4 {prog:Program}{w:World}{A:Around}{E:Value->Shared->Prop}{s:Shared}{l:Addr}{items:Array Value}{Q:Value->Shared->Prop} (hL:s.heap.IsTuple l items)
  (h:∀ h',IsEnum h' (s.heap.objs.size+1) s.heap.objs.size 0 .none->h'.IsTupleIter s.heap.objs.size l 0->(∀ b o,s.heap.get? b=some o->h'.get? b=some o)->Q (.ref (s.heap.objs.size+1)) {s with heap:=h'}) :
  wpAny (model prog w) A (call (.type "enumerate") [.ref l]) Q E s:=by
 obtain⟨⟨c,qJ,dt,sl⟩,hl,hc,n,hd⟩:=hL;replace hc:c=.type "tuple":=hc;replace hd:dt=.seq items n:=hd;subst hc hd
 refine callType_new F.called_enumerate (by decide) (F.typeCall_enumerate_1 _) (F.newCall_enumerate_1 _) (fun obj=>F.args_object_init_2 obj _) F.entry_enumerate_new (ahx l items n qJ sl) ⟨hl,?_⟩
 have hz:(s.heap.push {cls:=.type "tuple_iterator",data:=.fields #[.ref l,.int 0 0]}).objs.size=s.heap.objs.size+1:=Heap.size_push ..
 show _/\_;rw[hz]
 have he:IsEnum ((s.heap.push {cls:=.type "tuple_iterator",data:=.fields #[.ref l,.int 0 0]}).push {cls:=.type "enumerate",data:=.fields #[.none,.bool false,.ref s.heap.objs.size,rawInt 0,.none,.none]}) (s.heap.objs.size+1) s.heap.objs.size 0 .none:=by
  have:=Heap.get?_push_size (s.heap.push {cls:=.type "tuple_iterator",data:=.fields #[.ref l,.int 0 0]}) (o:={cls:=.type "enumerate",data:=.fields #[.none,.bool false,.ref s.heap.objs.size,rawInt 0,.none,.none]}) rfl
  rw[hz] at this;exact this
 exact⟨⟨_,he,rfl⟩,h _ he ⟨_,Heap.get?_push_of_some _ (Heap.get?_push_size _ rfl),rfl,rfl⟩ fun b o x=>Heap.get?_push_of_some _ (Heap.get?_push_of_some _ x)⟩
end LX
namespace L2
open PySem PySem.Spec PyProof.Rows LX
def uP (K:W.Frag) (a:Addr):It :=
 ⟨fun i H=>∃ (xs:List V) (x:V),cp K H a xs/\xs[i]?=some x,fun i H v H'=>∃ T x,v=.ref T/\H T=none/\H'=upd H T (.tup [.int (i:Nat),x])/\∀ xs,cp K H a xs->xs[i]?=some x,fun i H=>∃ xs:List V,cp K H a xs/\xs.length=i⟩
theorem aj5 {P:Program}{w:World}{K:W.Frag}{elts:List Expr}{kk:Nat}{gg:Pos} (a e it:Addr) (Yg:a≠it) (hae:a≠e) :
  Turn P w K (.Tuple elts kk gg) (uP K a) [e,it] e (fun i h=>(∃ old,IsEnum h e it ((i:Nat):Int) old)/\h.IsTupleIter it a i/\e≠it) where
 mem:=by simp
 obj:=fun i h st b hb=>by
  obtain⟨⟨old,he⟩,⟨o,ho,hc,hd⟩,_⟩:=st
  rcases (show b=e\/b=it by simpa using hb) with z | z
  ·rw[z];exact⟨_,he,fun v q=>nomatch q⟩
  rw[z];exact⟨o,ho,fun v q=>by rw[hd] at q;cases q⟩
 keep:=fun i h h' st k=>let ⟨⟨old,he⟩,⟨o,ho,r⟩,cq⟩:=st;⟨⟨old,k e (by simp) _ he⟩,⟨o,k it (by simp) o ho,r⟩,cq⟩
 item:=by
  intro X hP hw hK hc i pins s σ H E I hf st hg
  subst hP hw hK
  obtain⟨⟨old,he⟩,hit,cq⟩:=st
  obtain⟨xs,x,hq,hx⟩:=hg
  obtain⟨aj,rv,p,hz⟩:=I.tuple hq
  obtain⟨u,hu,ru⟩:=rv.get hx
  have vh:e<s.heap.objs.size:=Heap.lt_size he
  have Fi:it<s.heap.objs.size:=by obtain⟨_,q,_⟩:=hit;exact Heap.lt_size q
  have hi:i<aj.toArray.size:=by have:=(List.getElem?_eq_some_iff.mp hu).1;simpa using this
  have D:=Wv (prog:=X.prog) (w:=X.w) (A:=X.A.in1) (show X.A.in1.handled=none from I.ok.hd hc) it a Yg aj.toArray
  refine wpAny_pyNext_enum_itemD D he ⟨hit,p⟩ hi cq (by simp[Ne.symm hae,cq]) fun x' h' tk hP ho zS hT hsz hk=>?_
  have mK:x'=u:=by
   have e1:aj[i]?=some x':=by simpa using hP
   rw[hu] at e1
   exact(Option.some.inj e1).symm
  subst mK
  refine⟨_,rfl,wpAny_letOwnedTupleGo_enum (s:={s with heap:=h',toks:=tk+1}) ho fun iH ot sb=>?_⟩
  have qH:iH.get? s.heap.objs.size=some {cls:=.type "tuple",data:=.seq #[.int i tk,x']}:=(sb.2 _ (Nat.ne_of_gt vh)).trans hT
  have new:cN X.prog X.w (upd H s.heap.objs.size (.tup [.int (i:Nat),x])) iH s.heap.objs.size (.tup [.int (i:Nat),x]) :=
   ⟨by show 2<=sizeLine;decide,[.int i tk,x'],.cons ⟨_,rfl⟩ (.cons ru .nil),⟨_,qH,rfl,_,rfl⟩⟩
  have I1:Inv X pins σ (upd H s.heap.objs.size (.tup [.int (i:Nat),x])) {s with heap:=iH,toks:=tk+1} :=
   I.Dy (ch:=[e,it]) (fun b ob hb q=>(sb.2 b (fun z=>hb (by simp[z]))).trans (hk b ob (fun z=>hb (by simp[z])) (fun z=>hb (by simp[z])) q)) hf (Nat.le_refl _) new
  obtain⟨oi,hoi,roi⟩:=zS.1
  refine⟨.ref s.heap.objs.size,_,I1,rfl,⟨_,x,rfl,I.az.fresh (Nat.le_refl _),rfl,fun ys hy=>by rw[I.Uh hy hq];exact hx⟩,⟨⟨x',?_⟩,⟨oi,(sb.2 it (Ne.symm cq)).trans hoi,roi⟩,cq⟩,fun b hb=>?_⟩
  ·rw[show((i+1:Nat):Int)=(i:Int)+1 by omega];exact ot
  have gi:b<s.heap.objs.size:=by
   rcases (show b=e\/b=it by simpa using hb) with z | z
   ·rw[z];exact vh
   rw[z];exact Fi
  rw[ai (Nat.ne_of_lt gi)];exact(hf b hb).1
 done:=by
  intro X hP hw hK hc i pins s σ H E I hf st hg
  subst hP hw hK
  obtain⟨⟨old,he⟩,hit,cq⟩:=st
  obtain⟨xs,hq,hx⟩:=hg
  obtain⟨aj,rv,p,hz⟩:=I.tuple hq
  obtain⟨f0,f1,f2,f3,f4,f5⟩:=hf it (by simp)
  have hl:=rv.length
  have D:=Wv (prog:=X.prog) (w:=X.w) (A:=X.A.in1) (show X.A.in1.handled=none from I.ok.hd hc) it a Yg aj.toArray
  have hi:i=aj.toArray.size:=by rw[List.size_toArray];omega
  exact wpAny_pyNext_enum_endD D he (by rw[<- hi];exact⟨hit,p⟩) fun h' eb=>⟨rfl,I.turned (t':=s.toks) (fun b o hb q=>eb b o hb q) f0 f1 f3 f4 f5⟩
 self:=fun A i s Q E st h=>let ⟨⟨_,he⟩,_⟩:=st;wpAny_pyIter_enum he h
def apP (K:W.Frag) (ta:TA):TI:=fun σ H R=>ta σ H fun vs H1=>∃ a xs,vs=[.ref a]/\cp K H1 a xs/\R (uP K a) H1
theorem ams {X:Cx}{e:Expr}{ta:TA}{p pos gg:Pos}{elts:List Expr}{kk:Nat} (hg:Gl X "enumerate") (hm:X.mg "enumerate"=none) (ha:PA X [e] ta) (hs:starEach [e] X.env=[(false,eval e X.env)]:=by rfl) :
  PI X (.Tuple elts kk gg) (.Call (.Name "enumerate" p) [e] [] pos) (apP X.K ta):=by
 intro pins s σ H R I h
 refine Call_ (oQ I hg hm boot_enumerate (PyProof.Rows.callWith_type1 (aD (ha pos pins s σ H _ I h) fun us s1 ⟨vs,H1,I1,r1,a,xs,ex,hq,q⟩=>?_) hs rfl))
 subst ex
 cases r1 with
 | cons r rr =>
  cases rr
  cases r
  obtain⟨aj,rv,p',hz⟩:=I1.tuple hq
  have Yh:a<s1.heap.objs.size:=by obtain⟨_,z,_⟩:=p';exact Heap.lt_size z
  refine aj4 p' fun h' he hit hk=>wpAny_pyIter_enum he ?_
  have I2:Inv X pins σ H1 {s1 with heap:=h'}:=I1.kept (t':=s1.toks) hk
  refine⟨s1.heap.objs.size+1,[s1.heap.objs.size+1,s1.heap.objs.size],_,_,H1,rfl,I2,aj5 a (s1.heap.objs.size+1) s1.heap.objs.size (Nat.ne_of_lt Yh) (Nat.ne_of_lt (Nat.lt_succ_of_lt Yh)),⟨⟨.none,he⟩,hit,Nat.succ_ne_self _⟩,fun b hb=>?_,q⟩
  have hle:s1.heap.objs.size<=b:=by
   rcases (show b=s1.heap.objs.size+1\/b=s1.heap.objs.size by simpa using hb) with z | z <;> rw[z]
   ·exact Nat.le_add_right _ _
   exact Nat.le_refl _
  exact I1.qp hle (I1.az.fresh hle)
theorem akY {K:W.Frag}{a:Addr}{xs:List V}{g:TG}{tb:TS}{D:Ends}{σ:St}{H:Hp} (Pv:Nat->St->Hp->Prop) (h0:Pv 0 σ H) (hl:∀ i σ H,i<=xs.length->Pv i σ H->cp K H a xs)
  (hs:∀ i x σ H,xs[i]?=some x->Pv i σ H->∀ T,H T=none->g (.ref T) σ (upd H T (.tup [.int (i:Nat),x])) fun σ2 H2=>tb {D with nx:=Pv (i+1),ct:=Pv (i+1),bk:=D.nx} σ2 H2) (hd:∀ σ H,Pv xs.length σ H->D.nx σ H) :
  ∃ W:Nat->Nat->St->Hp->Prop,(∃ m,W 0 m σ H)/\∀ i m σ H,W i m σ H ->
   ((uP K a).stop i H/\D.nx σ H)\/((uP K a).go i H/\∃ N:St->Hp->Prop,(∀ σ' H',N σ' H'->∃ m',m'<m/\W (i+1) m' σ' H')/\∀ x H',(uP K a).fT i H x H'->g x σ H' fun σ2 H2=>tb {D with nx:=N,ct:=N,bk:=D.nx} σ2 H2):=by
 refine⟨fun i m σ H=>m=xs.length-i/\i<=xs.length/\Pv i σ H,⟨xs.length,by simp,Nat.zero_le _,h0⟩,?_⟩
 rintro i m σ H ⟨rfl,hi,p⟩
 have q:=hl i σ H hi p
 by_cases aO:i<xs.length
 ·refine .inr ⟨⟨xs,xs[i],q,by simp[aO]⟩,Pv (i+1),fun σ' H' p'=>⟨xs.length-(i+1),by omega,rfl,aO,p'⟩,fun x H' y=>?_⟩
  obtain⟨T,x0,rfl,hT,rfl,iI⟩:=y
  exact hs i x0 σ H (iI xs q) p T hT
 have e:i=xs.length:=by omega
 subst e
 exact .inl ⟨⟨xs,q,rfl⟩,hd σ H p⟩
end L2
end
section
namespace LX
open PySem Sem
theorem aj6 {prog:Program}{w:World} (d:Addr) (hd:(d==sysModules)=false) :
  MeetsIn prog w (Builtin.«dict.__len__» ⟨[.ref d],[]⟩) (fun _ R s=>∃ (o:Obj) (es:Array DictEntry) (ep:Nat),s.heap.get? d=some o/\o.data=.dict es ep/\R (.ok (.ret (.int es.size s.toks))) {s with toks:=s.toks+1}) :=
 .of_wp fun A R s ⟨o,es,ep,ho,ED,h⟩=>by
  show wpAny _ _ (dictSize d >>= _) _ _ s;unfold dictSize
  refine wpAny_bind (wpAny_bind (wpAny_dictEntries ho ED (wpAny_pure ?_)));show wpAny _ _ (Builtin.Dict.pendingCount d >>= _) _ _ s
  refine wpAny_bind (wpAny_pendingCount_other hd (wpAny_ret_mkInt ?_));rw[Nat.add_zero];exact h
theorem akZ {prog:Program}{w:World}{A:Around}{E:Value->Shared->Prop}{s:Shared}{d:Addr}{o:Obj}{es:Array DictEntry}{ep:Nat}{Q:Value->Shared->Prop} (hd:(d==sysModules)=false) (ho:s.heap.get? d=some o) (hc:o.cls=.type "dict") (ED:o.data=.dict es ep) (Xc:(es.size:Int)<2 ^ 63)
  (h:Q (.int es.size (s.toks+1)) {s with toks:=s.toks+1+1}):wpAny (model prog w) A (call (.builtin "len") [.ref d]) Q E s:=by
 have hT:s.TypeIs (.ref d) "dict":=⟨o,ho,hc⟩
 refine Calls.call_function_entry kind_len plain_len entry_len (args_len1 _) ?_
 unfold Builtin.«len»;refine wpAny_bind (m:=oneArg "len" _) (wpAny_pure ?_)
 refine wpAny_bind (m:=callSpecial? (.ref d) (Str.ofString "__len__")) (wpAny_callSpecial?_slot (name:=Str.ofString "__len__") hT F.slot_dict_len (call_meetsIn F.slot_dict_len hT F.entry_dict_len (F.args_dict_len_1 _) (aj6 d hd) ⟨o,es,ep,ho,ED,?_⟩))
 show wpAny _ _ _ _ _ {s with toks:=s.toks+1};refine wpAny_bind (wpAny_holding (wpAny_pure (wpAny_bind (wpAny_letGo ?_))))
 show wpAny _ _ (if ((es.size:Nat):Int)<0 then _ else _) _ _ _;rw[if_neg (by omega)]
 show wpAny _ _ (if ((es.size:Nat):Int)≥2 ^ 63 then _ else _) _ _ _;rw[if_neg (by omega)];exact wpAny_bind (wpAny_mkInt (wpAny_pure ⟨_,rfl,h⟩))
end LX
namespace L2
open PySem PySem.Spec PyProof.Rows LX
theorem al0 {X:Cx}:nZ X (.builtin "len") (fun xs H Q=>∃ a ae,xs=[V.ref a]/\H a=some (.dT ae)/\Q (.int ae.length) H):=by
 intro pins s σ H xs us Q I r h
 obtain⟨a,ae,rfl,ha,q⟩:=h
 obtain⟨u,rfl,ru⟩:=vals1 r
 cases ru
 obtain⟨z,y,ys,rel,o,es,ep,h1,h2,h3,h4,h5⟩:=(show cN X.prog X.w H s.heap a (.dT ae) from I.az a _ ha)
 have hn:es.size=ae.length:=by
  have:=congrArg List.length h4
  rw[List.length_map,<- Paired.length rel] at this
  simpa using this
 refine akZ y h1 h2.1 h3 (by rw[hn];rw[sizeLine_eq] at z;omega) ?_
 rw[hn]
 exact⟨.int ae.length,H,I.tok _,⟨_,rfl⟩,q⟩
end L2
namespace L2
open PySem PySem.Spec PyProof.Rows LX
theorem yU {X:Cx}{s:Shared}{H:Hp}{scope:Scope}{env:Env}{fp:List Addr}{e:Expr}{ta:TE}{f:Str}{pos:Pos} (he:PE (X.cS s H scope env fp) e ta) (hb:attributeBase e f (X.cS s H scope env fp).env (eval e (X.cS s H scope env fp).env)=eval e (X.cS s H scope env fp).env):PE (X.cS s H scope env fp) (.Attribute e f pos) (W6 X.K ta f):=aI he hb
end L2
end
section
namespace LX
open PySem
theorem amt (l d:Value):argsOk "min" ⟨[l],[(Str.ofString "default",d)]⟩:=by unfold argsOk;kernel_rfl
section
variable {prog:Program}{w:World}{A:Around}{R:Result->Shared->Prop}{it bx:Addr}{B:Heap}{n:Nat}{fp:List Addr}{Pv:Nat->Value->Prop}{St:Nat->Heap->Prop}
def fR (B h:Heap):Prop:=∀ a o,B.get? a=some o->h.get? a=some o
theorem fR.step {h h':Heap} (g:fR B h) (hi:B.get? it=none) (k:∀ a o,a∉[it]->h.get? a=some o->h'.get? a=some o):fR B h':=fun a o e=>k a o (fun z=>by
 rw[List.mem_singleton.mp z,hi] at e
 cases e) (g a o e)
theorem fR.upd {h:Heap}{f:Obj->Obj} (g:fR B h) (hb:B.get? bx=none):fR B (h.update bx f):=fun a o e=>(Heap.get?_update_other _ _ (fun z:bx=a=>by
 rw[z,e] at hb
 cases hb)).trans (g a o e)
theorem ao1 (W:Walks prog w A.in1 it fp [it] n Pv St) (bt:Nat->Nat->Bool) (zT:List (Str×Value)) (hi:B.get? it=none) (hb:B.get? bx=none) (hf:bx∉fp)
  (cmp:∀ i j vi vj (s:Shared) (Q E:Value->Shared->Prop),fR B s.heap->Pv i vi->Pv j vj->Q (.bool (bt i j)) s->wpAny (model prog w) A.in1 (richCompare .Lt vi vj) Q E s) :
  ∀ (k j:Nat) (s:Shared) (u:Value) (c:Nat),n-(j+1)=k->j+1<=n->St (j+1) s.heap->fR B s.heap->Pv (argBest bt j) u ->
   s.heap.get? bx=some {cls:=.type "list",dict:=none,data:=.seq #[u,u] c,slots:=#[]} ->
   (∀ v h' tk,Pv (argBest bt (n-1)) v->fR B h'->R (.ok (.ret v)) {s with heap:=h',toks:=tk}) ->
   codeAny (model prog w) A (.builtin "min.loop" ⟨[.ref it,.none,.ref bx],zT⟩) R s:=by
 have hw:bx∉[it]:=fun z=>hf (W.sub _ z)
 have nm:(toString "min"++toString ".loop":String)="min.loop":=by decide
 intro k
 induction k with
 | zero =>
  intro j s u c e1 e2 st g pu hx fin
  have en:j+1=n:=by omega
  refine codeAny_builtin F.entry_min_loop ?_
  rw[Around.under_plainId F.plain_min_loop _]
  show wpAny _ A.in1 (seqItems? (.ref bx) >>= _) _ _ s
  refine wpAny_bind (wpAny_seqItems hx rfl ?_)
  show wpAny _ A.in1 (tryCatch (pyNext (.ref it)) _ >>= _) _ _ s
  refine wpAny_bind (wpAny_tryCatch (W.done s _ _ (en ▸ st) fun h' tk kk=>?_))
  have mK:=kk bx _ hw hx
  show wpAny _ A.in1 (updateSeq bx (fun _ => #[]) >>= _) _ _ _
  refine wpAny_bind ?_
  refine wpAny_updateSeq mK rfl (wpAny_bind (wpAny_letGo (wpAny_pure ?_)))
  exact fin u _ tk (by rw[<- en];exact pu) ((g.step hi kk).upd hb)
 | succ k ih =>
  intro j s u c e1 e2 st g pu hx fin
  have lt:j+1<n:=by omega
  refine codeAny_builtin F.entry_min_loop ?_
  rw[Around.under_plainId F.plain_min_loop _]
  show wpAny _ A.in1 (seqItems? (.ref bx) >>= _) _ _ s
  refine wpAny_bind (wpAny_seqItems hx rfl ?_)
  show wpAny _ A.in1 (tryCatch (pyNext (.ref it)) _ >>= _) _ _ s
  refine wpAny_bind (wpAny_tryCatch (W.item (j+1) s _ _ lt st fun v h' tk pv dq kk=>?_))
  have mK:=kk bx _ hw hx
  have g':=g.step hi kk
  show wpAny _ A.in1 (tryCatch (holding [v,v] (richCompare .Lt v u >>= _)) _ >>= _) _ _ _
  refine wpAny_bind (wpAny_tryCatch (wpAny_holding (wpAny_bind (cmp (j+1) (argBest bt j) v u _ _ _ g' pv pu ?_))))
  refine wpAny_bind (wpAny_holding (wpAny_truthy_bool ?_))
  refine wpAny_bind (wpAny_letGo (wpAny_pure ?_))
  cases q:bt (j+1) (argBest bt j) with
  | true =>
   simp only [if_true]
   refine wpAny_bind ?_
   refine wpAny_updateSeq mK rfl (wpAny_bind (wpAny_letGo ?_))
   rw[nm]
   refine wpAny_pure ⟨plainId_quiet F.plain_min_loop _,ih (j+1) _ v _ (by omega) lt (W.frame _ _ _ dq fun a af o e=>?_) (g'.upd hb) (by simp only [argBest,q,if_true];exact pv) (Heap.get?_update_self _ mK rfl)
    fun v' h2 vw p2 g2=>?_⟩
   ·exact(Heap.get?_update_other _ _ (fun z:bx=a=>hf (by rw[z];exact af))).trans e
   exact fin v' h2 vw p2 g2
  | false =>
   simp only [Bool.false_eq_true,if_false]
   refine wpAny_bind (wpAny_letGo ?_)
   rw[nm]
   exact wpAny_pure ⟨plainId_quiet F.plain_min_loop _,ih (j+1) _ u c (by omega) lt dq g' (by simp only [argBest,q,Bool.false_eq_true,if_false];exact pu) mK fun v' h2 vw p2 g2=>fin v' h2 vw p2 g2⟩
theorem amu (W:Walks prog w A.in1 it fp [it] n Pv St) (bt:Nat->Nat->Bool) (zT:List (Str×Value)) (hi:B.get? it=none) (hb:B.get? bx=none) (hf:bx∉fp)
  (cmp:∀ i j vi vj (s:Shared) (Q E:Value->Shared->Prop),fR B s.heap->Pv i vi->Pv j vj->Q (.bool (bt i j)) s->wpAny (model prog w) A.in1 (richCompare .Lt vi vj) Q E s)
  (hn:0<n) {s:Shared}{c:Nat} (st:St 0 s.heap) (g:fR B s.heap) (hx:s.heap.get? bx=some {cls:=.type "list",dict:=none,data:=.seq #[] c,slots:=#[]})
  (fin:∀ v h' tk,Pv (argBest bt (n-1)) v->fR B h'->R (.ok (.ret v)) {s with heap:=h',toks:=tk}) :
  codeAny (model prog w) A (.builtin "min.loop" ⟨[.ref it,.none,.ref bx],zT⟩) R s:=by
 have hw:bx∉[it]:=fun z=>hf (W.sub _ z)
 have nm:(toString "min"++toString ".loop":String)="min.loop":=by decide
 refine codeAny_builtin F.entry_min_loop ?_
 rw[Around.under_plainId F.plain_min_loop _]
 show wpAny _ A.in1 (seqItems? (.ref bx) >>= _) _ _ s
 refine wpAny_bind (wpAny_seqItems hx rfl ?_)
 show wpAny _ A.in1 (tryCatch (pyNext (.ref it)) _ >>= _) _ _ s
 refine wpAny_bind (wpAny_tryCatch (W.item 0 s _ _ hn st fun v h' tk pv dq kk=>?_))
 have mK:=kk bx _ hw hx
 show wpAny _ A.in1 (updateSeq bx (fun _ => #[v,v]) >>= _) _ _ _
 refine wpAny_bind ?_
 refine wpAny_updateSeq mK rfl ?_
 rw[nm]
 refine wpAny_pure ⟨plainId_quiet F.plain_min_loop _,ao1 W bt zT hi hb hf cmp _ 0 _ v _ rfl hn (W.frame _ _ _ dq fun a af o e=>?_) ((g.step hi kk).upd hb) pv (Heap.get?_update_self _ mK rfl) fun v' h2 vw p2 g2=>?_⟩
 ·exact(Heap.get?_update_other _ _ (fun z:bx=a=>hf (by rw[z];exact af))).trans e
 exact fin v' h2 vw p2 g2
theorem ao2 (W:Walks prog w A.in1 it fp [it] 0 Pv St) (d:Value) (hi:B.get? it=none) (hf:bx∉fp) {s:Shared}{c:Nat} (st:St 0 s.heap) (g:fR B s.heap) (hx:s.heap.get? bx=some {cls:=.type "list",dict:=none,data:=.seq #[] c,slots:=#[]})
  (fin:∀ h' tk,fR B h'->R (.ok (.ret d)) {s with heap:=h',toks:=tk}) :
  codeAny (model prog w) A (.builtin "min.loop" ⟨[.ref it,.none,.ref bx],[(Str.ofString "default",d)]⟩) R s:=by
 refine codeAny_builtin F.entry_min_loop ?_
 rw[Around.under_plainId F.plain_min_loop _]
 show wpAny _ A.in1 (seqItems? (.ref bx) >>= _) _ _ s
 refine wpAny_bind (wpAny_seqItems hx rfl ?_)
 show wpAny _ A.in1 (tryCatch (pyNext (.ref it)) _ >>= _) _ _ s
 refine wpAny_bind (wpAny_tryCatch (W.done s _ _ st fun h' tk kk=>?_))
 have g':=g.step hi kk
 show wpAny _ A.in1 (rule _ >>= _) _ _ _
 exact wpAny_bind (wpAny_rule (wpAny_pure (fin h' tk g')))
end
end LX
end
section
namespace L2
open PySem PySem.Spec PyProof.Rows LX
theorem Ww {J:It}{n:Nat}{g:TG}{tb:TS}{D:Ends}{σ:St}{H:Hp} (Pv:Nat->St->Hp->Prop) (h0:Pv 0 σ H) (hg:∀ i σ H,i<n->Pv i σ H->J.go i H) (ht:∀ σ H,Pv n σ H->J.stop n H)
  (hs:∀ i x σ H H',i<n->Pv i σ H->J.fT i H x H'->g x σ H' fun σ2 H2=>tb {D with nx:=Pv (i+1),ct:=Pv (i+1),bk:=D.nx} σ2 H2) (hd:∀ σ H,Pv n σ H->D.nx σ H) :
  ∃ W:Nat->Nat->St->Hp->Prop,(∃ m,W 0 m σ H)/\∀ i m σ H,W i m σ H ->
   (J.stop i H/\D.nx σ H)\/(J.go i H/\∃ N:St->Hp->Prop,(∀ σ' H',N σ' H'->∃ m',m'<m/\W (i+1) m' σ' H')/\∀ x H',J.fT i H x H'->g x σ H' fun σ2 H2=>tb {D with nx:=N,ct:=N,bk:=D.nx} σ2 H2):=by
 refine⟨fun i m σ H=>m=n-i/\i<=n/\Pv i σ H,⟨n,by simp,Nat.zero_le _,h0⟩,?_⟩
 rintro i m σ H ⟨rfl,hi,p⟩
 by_cases q:i<n
 ·exact .inr ⟨hg i σ H q p,Pv (i+1),fun σ' H' p'=>⟨n-(i+1),by omega,rfl,q,p'⟩,fun x H' y=>hs i x σ H H' q p y⟩
 obtain rfl:i=n:=by omega
 exact .inl ⟨ht σ H p,hd σ H p⟩
theorem aqK {J:It}{n:Nat}{g:TG}{tt:TT}{te:TE}{vs:List Nat}{σ:St}{H1:Hp}{D:Addr}{Qd:Hp->Prop} (Pv:Nat->Hp->Prop) (h0:Pv 0 (upd H1 D (.lst []))) (hg:∀ i H,i<n->Pv i H->J.go i H) (cG:∀ H,Pv n H->J.stop n H)
  (hs:∀ i x H H',i<n->Pv i H->J.fT i H x H'->g x (wipe σ vs) H' fun σ2 H2=>wipe σ2 vs=wipe σ vs/\tt σ2 H2 fun b H3 =>
   if b=true then te σ2 H3 fun y H4=>∃ acc,H4 D=some (.lst acc)/\acc.length<sizeLine/\Pv (i+1) (upd H4 D (.lst (acc++[y]))) else Pv (i+1) H3) (hd:∀ H,Pv n H->Qd H) :
  ∃ W:Nat->Nat->Hp->Prop,(∃ m,W 0 m (upd H1 D (.lst [])))/\∀ i m H,W i m H ->
   (J.stop i H/\Qd H)\/(J.go i H/\∃ Nx:Hp->Prop,(∀ H',Nx H'->∃ m',m'<m/\W (i+1) m' H')/\∀ x H',J.fT i H x H'->g x (wipe σ vs) H' fun σ2 H2=>wipe σ2 vs=wipe σ vs/\tt σ2 H2 fun b H3 =>
    if b=true then te σ2 H3 fun y H4=>∃ acc,H4 D=some (.lst acc)/\acc.length<sizeLine/\Nx (upd H4 D (.lst (acc++[y]))) else Nx H3):=by
 refine⟨fun i m H=>m=n-i/\i<=n/\Pv i H,⟨n,by simp,Nat.zero_le _,h0⟩,?_⟩
 rintro i m H ⟨rfl,hi,p⟩
 by_cases q:i<n
 ·exact .inr ⟨hg i H q p,Pv (i+1),fun H' p'=>⟨n-(i+1),by omega,rfl,q,p'⟩,fun x H' y=>hs i x H H' q p y⟩
 obtain rfl:i=n:=by omega
 exact .inl ⟨cG H p,hd H p⟩
def zg (d:Addr):Obj:={cls:=.type "dict_values",data:=.fields #[.ref d]}
def aqL (td:TE):TE:=fun σ H Q=>td σ H fun x H1=>∃ (d:Addr) (ae:List (Key×V)),x=.ref d/\H1 d=some (.dK ae)/\∀ a,H1 a=none->Q (.ref a) (upd H1 a (XO a (zg d)))
section
variable {X:Cx}
theorem ao3 {e:Expr}{td:TE}{apos cQ:Pos} (he:PE X e td) (js:attributeBase e "values" X.env (eval e X.env)=eval e X.env:=by rfl) (jt:(apos.endLine==cQ.line)=true:=by rfl):PE X (.Call (.Attribute e "values" apos) [] [] cQ) (aqL td):=by
 intro pins s σ H Q I h
 refine wpAny_Call_method (T:="dict") (id:="dict.values") js rfl jt F.plainAttrs_dict F.slot_dict_values F.type_dict_values (aD (he pins s σ H _ I h) fun u s1 ⟨x,H1,I1,rx,d,ae,ex,hd,q⟩=>?_)
 subst ex
 obtain rfl:u=Value.ref d:=rx
 obtain⟨z,hs,vs,kv,o,es,ep,ho,hx,gG,rr⟩:=I1.az d _ hd
 have hm:s1.heap.DictAt (cJ X.prog X.w) d vs ep:=⟨o,es,ho,hx,gG,rr⟩
 refine⟨hm.dictOf.typeIs,hm.dictOf.mapOf.noDict,?_⟩
 have fin:EP X pins σ Q (.ref s1.heap.objs.size) {s1 with heap:=s1.heap.push {cls:=.type "dict_values",data:=.fields #[.ref d]}} :=
  ⟨.ref s1.heap.objs.size,_,I1.laid (t':=s1.toks) (fun b o e=>Heap.get?_push_of_some _ e) (Nat.le_refl _) (Ej (Heap.get?_push_size _ rfl)),rfl,q _ (I1.az.fresh (Nat.le_refl _))⟩
 show wpAny _ _ (callWith cQ (.builtin "dict.values") [.ref d] [] []) _ X.xe s1
 exact method_meetsIn F.slot_dict_values F.entry_dict_values rfl (PySem.evalArgs_none ⟨rfl,hm.dictOf.typeIs,F.args_dict_values_1 _,_,meets_dict_values (cJ X.prog X.w) d hs,⟨vs,hm.dictOf⟩,fin⟩)
def aqM:List V->Hp->VK->Prop:=fun xs H Q=>∃ (a d:Addr) (ae:List (Key×V)) (ns:List Int),xs=[.ref a]/\H a=some (XO a (zg d))/\H d=some (.dK ae)/\ae.map (fun p=>p.2)=ns.map V.int/\0<ns.length/\∀ m,m∈ns->(∀ y∈ns,m<=y)->Q (.int m) H
theorem al1 (hc:X.calm=true):nZ X (.builtin "min") aqM:=by
 intro pins s σ H xs us Q I r h
 obtain⟨a,d,ae,ns,rfl,ha,hd,hn,Xh,q⟩:=h
 rw[Vals.Ex r]
 have hv:=zu I.az ha
 obtain⟨z,hs,vs,kv,o,es,ep,ho,hx,gG,rr⟩:=I.az d _ hd
 have hm:s.heap.DictAt (cJ X.prog X.w) d vs ep:=⟨o,es,ho,hx,gG,rr⟩
 have hl:ae.length=vs.length:=Paired.length kv
 have vx:ae.length=ns.length:=by have:=congrArg List.length hn;simpa using this
 have ow:d<s.heap.objs.size:=Heap.lt_size ho
 have num:∀ (i:Nat) (v:Value),(∃ k,vs[i]?=some (k,v))->∃ t,v=Value.int (ns.getD i 0) t:=fun i v ⟨k,e⟩=>by
  have hi:i<vs.length:=(List.getElem?_eq_some_iff.mp e).1
  obtain⟨⟨k2,v2⟩,e2⟩:∃ p,ae[i]?=some p:=⟨_,List.getElem?_eq_getElem (by omega)⟩
  obtain⟨u,e3,ru⟩:=Wr kv e2
  rw[e] at e3
  cases e3
  have e4:(ae.map (fun p=>p.2))[i]?=some v2:=by rw[List.getElem?_map,e2];rfl
  rw[hn,List.getElem?_map] at e4
  obtain⟨m,e5⟩:∃ m,ns[i]?=some m:=⟨_,List.getElem?_eq_getElem (by omega)⟩
  rw[e5] at e4
  cases e4
  obtain⟨t,rfl⟩:=ru
  exact⟨t,by rw[List.getD_eq_getElem?_getD,e5];rfl⟩
 refine call_min_walk (wpAny_pyIter_values (d:=d) (knd:=cJ X.prog X.w) ⟨_,hv,rfl,rfl⟩ hm ?_)
 have cq:d≠s.heap.objs.size:=Nat.ne_of_lt ow
 refine⟨_,_,_,_,_,_,_,rfl,Walks.dictValues (knd:=cJ X.prog X.w) (show X.A.in1.handled=none from I.ok.hd hc) s.heap.objs.size d cq vs ep,⟨⟨_,Heap.get?_push_size _ rfl,rfl,rfl⟩,hm.push _⟩,fun b hb=>?_,by omega,CmpOf.ints_lt (fun i=>ns.getD i 0) num,fun v h' tk hp hk=>?_⟩
 ·rw[Heap.size_push]
  rcases List.mem_cons.mp hb with rfl | hb
  ·exact Nat.lt_succ_self _
  rw[List.mem_singleton.mp hb]
  exact Nat.lt_succ_of_lt ow
 obtain⟨h1,h2⟩:=argBest_lt (fun i=>ns.getD i 0) (vs.length-1)
 obtain⟨t,rfl⟩:=num _ _ hp
 refine⟨.int _,H,I.kept (t':=tk) (fun b u e=>hk b u (fun z=>?_) (Heap.get?_push_of_some _ e)),⟨t,rfl⟩,q _ ?_ fun y hy=>?_⟩
 ·rw[List.mem_singleton.mp z] at e
  exact absurd (Heap.lt_size e) (Nat.lt_irrefl _)
 ·rw[List.getD_eq_getElem?_getD,List.getElem?_eq_getElem (by omega)]
  exact List.getElem_mem _
 obtain⟨j,hj,rfl⟩:=List.getElem_of_mem hy
 have:=h2 j (by omega)
 rw[List.getD_eq_getElem?_getD (i:=j),List.getElem?_eq_getElem hj] at this
 exact this
theorem CZ:∀ l:List Int,HT.lexLt l l=false
 | []=>rfl
 | x::l=>by
  rw[HT.t5,if_pos rfl]
  exact CZ l
theorem Tp:∀ {a b c:List Int},HT.lexLt a b=true->HT.lexLt b c=true->HT.lexLt a c=true
 | [],[],_,h,_=>by cases h
 | [],_::_,[],_,h=>by cases h
 | [],_::_,_::_,_,_=>rfl
 | _::_,[],_,h,_=>by cases h
 | _::_,_::_,[],_,h=>by cases h
 | x::a,y::b,z::c,h,k=>by
  rw[HT.t5] at h k ⊢
  by_cases q1:x=y
  ·rw[if_pos q1] at h
   by_cases q2:y=z
   ·rw[if_pos q2] at k
    rw[if_pos (q1.trans q2)]
    exact Tp h k
   rw[if_neg q2,decide_eq_true_eq] at k
   rw[if_neg (by omega),decide_eq_true_eq]
   omega
  rw[if_neg q1,decide_eq_true_eq] at h
  by_cases q2:y=z
  ·rw[if_neg (by omega),decide_eq_true_eq]
   omega
  rw[if_neg q2,decide_eq_true_eq] at k
  rw[if_neg (by omega),decide_eq_true_eq]
  omega
theorem Vg (f:Nat->List Int):∀ k,argBest (fun i j=>HT.lexLt (f i) (f j)) k<=k/\∀ j,j<=k->HT.lexLt (f j) (f (argBest (fun i j=>HT.lexLt (f i) (f j)) k))=false
 | 0=>⟨Nat.le_refl _,fun j hj =>
  by obtain rfl:=Nat.le_zero.mp hj;exact CZ _⟩
 | k+1=>by
  obtain⟨h1,h2⟩:=Vg f k
  show(if HT.lexLt (f (k+1)) (f (argBest (fun i j=>HT.lexLt (f i) (f j)) k))=true then k+1 else argBest (fun i j=>HT.lexLt (f i) (f j)) k)<=k+1/\_
  show _/\∀ j,j<=k+1->HT.lexLt (f j) (f (if HT.lexLt (f (k+1)) (f (argBest (fun i j=>HT.lexLt (f i) (f j)) k))=true then k+1 else argBest (fun i j=>HT.lexLt (f i) (f j)) k))=false
  cases q:HT.lexLt (f (k+1)) (f (argBest (fun i j=>HT.lexLt (f i) (f j)) k)) with
  | true =>
   rw[if_pos rfl]
   refine⟨Nat.le_refl _,fun j hj=>?_⟩
   by_cases e:j=k+1
   ·rw[e];exact CZ _
   cases q2:HT.lexLt (f j) (f (k+1)) with
   | false=>rfl
   | true =>
    have:=Tp q2 q
    rw[h2 j (by omega)] at this
    cases this
  | false =>
   rw[if_neg (by simp)]
   refine⟨by omega,fun j hj=>?_⟩
   by_cases e:j=k+1
   ·rw[e];exact q
   exact h2 j (by omega)
def aqN (K:W.Frag):List V->List V->Hp->VK->Prop:=fun vs zs H Q=>∃ (l:Addr) (ts:List Addr) (ns:List (List Int)) (y:V),vs=[.ref l]/\zs=[y]/\aq K H l (ts.map V.ref)/\ts.length=ns.length/\(∀ (i:Nat) (t:Addr) (m:List Int),ts[i]?=some t->ns[i]?=some m->cp K H t (m.map V.int)) /\
 (ts=[]->Q y H)/\∀ (i:Nat) (t:Addr) (m:List Int),ts[i]?=some t->ns[i]?=some m->(∀ c∈ns,HT.lexLt c m=false)->Q (.ref t) H
def aqO (K:W.Frag) (te td:TE):TE:=fun σ H Q=>zt te sg σ H fun vs H1=>zt td sg σ H1 fun zs H2=>aqN K vs zs H2 Q
theorem ao4 {e dv:Expr}{te td:TE}{p pos Eu:Pos} (hu:X.A.units+1<cLine) (hc:X.calm=true) (hg:Gl X "min") (hm:X.mg "min"=none) (he:PE X e te) (hd:PE X dv td) (hs:starEach [e] X.env=[(false,eval e X.env)]:=by rfl)
  (mF:backTo pos (starEach [e] X.env)=(false,eval e X.env)::backTo pos (starEach [] X.env):=by rfl) (eK:(backTo pos (starEach [e] X.env)).any (·.1)=false:=by rfl) :
  PE X (.Call (.Name "min" p) [e] [⟨some "default",dv,Eu⟩] pos) (aqO X.K te td):=by
 intro pins s σ H Q I h
 refine wpAny_Call_Name_kw (oQ I hg hm rV ?_)
 refine PyProof.Rows.callWith_kw (aD ((aa he ag hs) pos pins s σ H _ I h) fun us s1 ⟨vs,H1,I1,r1,q1⟩=>aD ((anF hd apj) pos pins s1 σ H1 _ I1 q1) fun ws s2 ⟨zs,H2,I2,r2,q2⟩=>?_) mF eK
 obtain⟨l,ts,ns,y,rfl,rfl,hl,hlen,uQ,q0,q⟩:=q2
 rw[Vals.Ex r1]
 obtain⟨u,rfl,ru⟩:=vals1 r2
 obtain⟨aj,rv,pl,_⟩:=I2.list hl
 have vy:=rv.length
 rw[List.length_map] at vy
 obtain⟨ol,vv,_⟩:=id pl.isList
 have aO:l<s2.heap.objs.size:=Heap.lt_size vv
 have nm:(toString "min"++toString ".loop":String)="min.loop":=by decide
 show wpAny _ _ (call (.builtin "min") [.ref l] [(Str.ofString "default",u)]) _ _ s2
 refine kmk_tree F.kind_min F.plain_min F.entry_min (amt _ _) ?_
 show wpAny _ X.A.in1 (Builtin.Builtins.bindParams "min" ["key","default"] 0 ⟨[],[(Str.ofString "default",u)]⟩ >>= _) _ _ s2
 refine wpAny_bind (wpAny_of_eq (show Builtin.Builtins.bindParams "min" ["key","default"] 0 ⟨[],[(Str.ofString "default",u)]⟩=pure [none,some u] from rfl) ?_)
 refine wpAny_bind (wpAny_pure ?_)
 refine wpAny_bind (wpAny_pyIter_list pl.isList ?_)
 refine wpAny_bind (wpAny_newList ?_ (Nat.zero_le _))
 rw[nm]
 refine wpAny_pure ⟨plainId_quiet F.plain_min_loop _,?_⟩
 have hh:X.A.in1.handled=none:=I2.ok.hd hc
 have cq:l≠s2.heap.objs.size:=Nat.ne_of_lt aO
 have W:=Walks.list (prog:=X.prog) (w:=X.w) (A:=X.A.in1) hh s2.heap.objs.size l cq aj.toArray
 have hsz:(s2.heap.push {cls:=.type "list_iterator",data:=.fields #[.ref l,.int 0 0]}).objs.size=s2.heap.objs.size+1:=Heap.size_push ..
 have g0:fR s2.heap ((s2.heap.push {cls:=.type "list_iterator",data:=.fields #[.ref l,.int 0 0]}).push {cls:=.type "list",data:=.seq ([]:List Value).toArray}):=fun a o e=>Heap.get?_push_of_some _ (Heap.get?_push_of_some _ e)
 have hi:s2.heap.get? s2.heap.objs.size=none:=Heap.get?_none_of_le (Nat.le_refl _)
 have hb:s2.heap.get? (s2.heap.push {cls:=.type "list_iterator",data:=.fields #[.ref l,.int 0 0]}).objs.size=none:=Heap.get?_none_of_le (by rw[hsz];exact Nat.le_succ _)
 have hf:(s2.heap.push {cls:=.type "list_iterator",data:=.fields #[.ref l,.int 0 0]}).objs.size∉[s2.heap.objs.size,l]:=fun z=>by
  rw[hsz] at z
  rcases List.mem_cons.mp z with z | z
  ·omega
  exact absurd (List.mem_singleton.mp z) (Nat.ne_of_gt (Nat.lt_succ_of_lt aO))
 have zU:((s2.heap.push {cls:=.type "list_iterator",data:=.fields #[.ref l,.int 0 0]}).push {cls:=.type "list",data:=.seq ([]:List Value).toArray}).IsListIter s2.heap.objs.size l 0/\((s2.heap.push {cls:=.type "list_iterator",data:=.fields #[.ref l,.int 0 0]}).push {cls:=.type "list",data:=.seq ([]:List Value).toArray}).IsList l aj.toArray :=
  ⟨⟨_,Heap.get?_push_of_some _ (Heap.get?_push_size _ rfl),rfl,rfl⟩,pl.isList.at fun o e=>Heap.get?_push_of_some _ (Heap.get?_push_of_some _ e)⟩
 have gx:((s2.heap.push {cls:=.type "list_iterator",data:=.fields #[.ref l,.int 0 0]}).push {cls:=.type "list",data:=.seq ([]:List Value).toArray}).get? (s2.heap.push {cls:=.type "list_iterator",data:=.fields #[.ref l,.int 0 0]}).objs.size=some {cls:=.type "list",dict:=none,data:=.seq #[] 0,slots:=#[]}:=Heap.get?_push_size _ rfl
 have ends:∀ (x:V) (v:Value),RelV x v->Q x H2->∀ h' tk,fR s2.heap h'->EP X pins σ Q v {s2 with heap:=h',toks:=tk}:=fun x v rx qx h' tk g=>⟨x,H2,I2.kept g,rx,qx⟩
 by_cases hn:ts=[]
 ·have hits:aj=[]:=List.length_eq_zero_iff.mp (by rw[<- vy,hn];rfl)
  subst hits
  exact ao2 (B:=s2.heap) W u hi hf zU g0 gx fun h' tk g=>ends y u ru (q0 hn) h' tk g
 have Xh:0<aj.toArray.size:=by
  rw[List.size_toArray,<- vy]
  exact List.length_pos_iff.mpr hn
 have item:∀ (i:Nat) (v:Value),aj.toArray[i]?=some v->∃ t m,v=.ref t/\ts[i]?=some t/\ns[i]?=some m:=fun i v e=>by
  have e':aj[i]?=some v:=by simpa using e
  have av3:i<aj.length:=(List.getElem?_eq_some_iff.mp e').1
  obtain⟨t,ht⟩:∃ t,ts[i]?=some t:=⟨_,List.getElem?_eq_getElem (by omega)⟩
  obtain⟨m,qK⟩:∃ m,ns[i]?=some m:=⟨_,List.getElem?_eq_getElem (by omega)⟩
  obtain⟨w',fW,gY⟩:=rv.get (show(ts.map V.ref)[i]?=some (.ref t) by rw[List.getElem?_map,ht];rfl)
  rw[e'] at fW
  cases fW
  exact⟨t,m,gY,ht,qK⟩
 refine amu (B:=s2.heap) W (fun i j=>HT.lexLt (ns.getD i []) (ns.getD j [])) _ hi hb hf (fun i j vi vj s' Q' E' g pi pj hq=>?_) Xh zU g0 gx fun v h' tk pv g=>?_
 ·obtain⟨t,m,rfl,ht,qK⟩:=item i vi pi
  obtain⟨t2,m2,rfl,vz,sU⟩:=item j vj pj
  obtain⟨ia,ra,pa,_⟩:=I2.tuple (uQ i t m ht qK)
  obtain⟨ib,rb,pb,_⟩:=I2.tuple (uQ j t2 m2 vz sU)
  obtain⟨oa,h1,h2⟩:=pa
  obtain⟨ob,h3,h4⟩:=pb
  refine HT.aiV (A:=X.A.in1) ⟨oa,g _ _ h1,h2⟩ ⟨ob,g _ _ h3,h4⟩ (intsAre_of ra) (intsAre_of rb) hu ?_
  simpa [List.getD_eq_getElem?_getD,qK,sU] using hq
 obtain⟨t,m,rfl,ht,qK⟩:=item _ v pv
 refine ends (.ref t) _ rfl (q _ t m ht qK fun c eg=>?_) h' tk g
 obtain⟨j,hj,rfl⟩:=List.getElem_of_mem eg
 have:=(Vg (fun i=>ns.getD i []) (aj.toArray.size-1)).2 j (by rw[List.size_toArray,<- vy];omega)
 rw[List.getD_eq_getElem?_getD (i:=j),List.getElem?_eq_getElem hj,List.getD_eq_getElem?_getD (l:=ns) (i:=argBest _ _),qK] at this
 exact this
end
theorem ao5 {X:Cx}{s:Shared}{H:Hp}{scope:Scope}{env:Env}{fp:List Addr}:vb (X.cS s H scope env fp) (W9 X.K):=qg
theorem V0 {X:Cx}{s:Shared}{H:Hp}{scope:Scope}{env:Env}{fp:List Addr}{es:List Expr}{k:Nat}{t:pq}{pos:Pos} (hc:(X.cS s H scope env fp).calm=true) (h:uY (X.cS s H scope env fp) es t)
  (hn:(assignEach es (X.cS s H scope env fp).env).length=es.length:=by rfl) (cG:(assignEach es (X.cS s H scope env fp).env).findIdx? (·.1)=none:=by rfl):PG (X.cS s H scope env fp) (.Tuple es k pos) (W5 X.K es.length t):=uu hc h hn cG
end L2
end
section
namespace LM
open Rol
def vA (hi v:Int) (c:Int):Int:=if v<=hi then v*10+c-48 else v
theorem ahy (d:Bytes) (c:UInt8):number (d++[c])=10*number d+(c.toNat-48):=by
 unfold number
 rw[List.foldl_append]
 rfl
theorem amv {c:UInt8} (h:isDigit c=true):48<=c.toNat/\c.toNat<=57:=by
 unfold isDigit at h
 rw[Bool.and_eq_true,decide_eq_true_eq,decide_eq_true_eq] at h
 exact h
def fX (hi v:Int) (d:Bytes):Prop:=v=(number d:Int)\/(hi<v/\hi<(number d:Int))
theorem fX.nil (hi:Int):fX hi 0 []:=.inl rfl
theorem fX.snoc {hi v:Int}{d:Bytes}{c:UInt8} (h:fX hi v d) (hc:isDigit c=true):fX hi (vA hi v (c.toNat:Int)) (d++[c]):=by
 obtain⟨h1,h2⟩:=amv hc
 unfold fX vA
 rw[ahy]
 rcases h with h | ⟨a,b⟩
 ·subst h
  by_cases q:(number d:Int)<=hi
  ·left
   rw[if_pos q]
   omega
  right
  rw[if_neg q]
  omega
 right
 rw[if_neg (by omega)]
 omega
theorem fX.range {hi v lo:Int}{d:Bytes} (h:fX hi v d):(lo<=v/\v<=hi)↔(lo<=(number d:Int)/\(number d:Int)<=hi):=by
 rcases h with h | ⟨a,b⟩
 ·rw[h]
 constructor <;> rintro ⟨_,_⟩ <;> omega
theorem fX.eq {hi v:Int}{d:Bytes} (h:fX hi v d) (q:v<=hi):v=(number d:Int):=by
 rcases h with h | ⟨a,b⟩
 ·exact h
 omega
theorem yV {p:UInt8->Bool}:∀ {b:Bytes}{k:Nat},(∀ i,i<k->∃ c,b[i]?=some c/\p c=true)->(∀ c,b[k]?=some c->p c=false)->b.takeWhile p=b.take k
 | [],k,_,_=>by simp
 | x::r,0,_,h=>by
  rw[List.takeWhile_cons,h x rfl]
  rfl
 | x::r,k+1,h1,h2=>by
  obtain⟨c,e,q⟩:=h1 0 (Nat.succ_pos _)
  have e':x=c:=Option.some.inj e
  subst e'
  rw[List.takeWhile_cons,q]
  show x::r.takeWhile p=x::r.take k
  rw[yV (b:=r) (k:=k) (fun i hi=>by obtain⟨c,e,q⟩:=h1 (i+1) (Nat.succ_lt_succ hi);exact⟨c,e,q⟩) fun c e=>h2 c e]
theorem Eb {b:Bytes}{k:Nat} (h:∀ i,i<k->∃ c,b[i]?=some c):(b.take k).length=k:=by
 rw[List.length_take]
 cases k with
 | zero=>omega
 | succ k =>
  obtain⟨c,e⟩:=h k (Nat.lt_succ_self _)
  obtain⟨h1,_⟩:=List.getElem?_eq_some_iff.mp e
  omega
theorem head_take {b:Bytes}{k:Nat} (hk:0<k):(b.take k).head?=b[0]?:=by
 cases b with
 | nil=>simp
 | cons x r =>
  cases k with
  | zero=>omega
  | succ k=>rfl
theorem Ux {lo hi:Nat}{p k:Nat}{b:Bytes}{v:Int} (h1:∀ i,i<k->∃ c,b[i]?=some c/\isDigit c=true) (h2:∀ c,b[k]?=some c->isDigit c=false) (hv:fX (hi:Int) v (b.take k))
  (n0:¬ k=0) (hr:(lo:Int)<=v/\v<=(hi:Int)) (hz:¬ (1<k/\b[0]?=some 48)):numberIn lo hi p b=.ok (v.toNat,p+k,b.drop k):=by
 have e:=yV h1 h2
 have l:=Eb fun i hi=>let ⟨c,e,_⟩:=h1 i hi;⟨c,e⟩
 have hn:=hv.range.mp hr
 have hq:=hv.eq hr.2
 unfold numberIn
 simp only
 rw[e,l,if_neg]
 ·rw[show v.toNat=number (b.take k) by omega]
 rintro (q | ⟨q1,q2⟩ | q | q)
 ·rw[q] at l
  exact n0 l.symm
 ·rw[head_take (by omega)] at q1
  exact hz ⟨by omega,q1⟩
 ·omega
 omega
theorem aj7 {lo hi:Nat}{p k:Nat}{b:Bytes}{v:Int} (h1:∀ i,i<k->∃ c,b[i]?=some c/\isDigit c=true) (h2:∀ c,b[k]?=some c->isDigit c=false) (hv:fX (hi:Int) v (b.take k))
  (hr:k=0\/¬ ((lo:Int)<=v/\v<=(hi:Int))\/(1<k/\b[0]?=some 48)):numberIn lo hi p b=.error p:=by
 have e:=yV h1 h2
 have l:=Eb fun i hi=>let ⟨c,e,_⟩:=h1 i hi;⟨c,e⟩
 unfold numberIn
 simp only
 rw[e,l,if_pos]
 rcases hr with q | q | ⟨q1,q2⟩
 ·left
  rw[q]
  simp
 ·right;right
  rw[hv.range] at q
  omega
 right;left
 rw[head_take (by omega)]
 exact⟨q2,by omega⟩
theorem hZ {lo hi p:Nat}{B:Bytes}{n q:Nat}{r:Bytes} (h:numberIn lo hi p (B.drop p)=.ok (n,q,r)):r=B.drop q/\p<q/\q<=B.length/\lo<=n/\n<=hi:=by
 unfold numberIn at h
 simp only at h
 split at h
 ·cases h
 rename_i hc
 cases h
 have hl:((B.drop p).takeWhile isDigit).length<=(B.drop p).length:=(List.takeWhile_sublist _).length_le
 have h0:((B.drop p).takeWhile isDigit)≠[]:=fun z=>hc (.inl z)
 have h1:0<((B.drop p).takeWhile isDigit).length:=List.length_pos_iff.mpr h0
 rw[List.length_drop] at hl
 refine⟨by rw[List.drop_drop],by omega,by omega,?_,?_⟩
 ·exact Nat.le_of_not_lt fun z=>hc (.inr (.inr (.inl z)))
 exact Nat.le_of_not_lt fun z=>hc (.inr (.inr (.inr z)))
theorem afZ {lo hi p:Nat}{b:Bytes}{k:Nat} (h:numberIn lo hi p b=.error k):k=p:=by
 unfold numberIn at h
 simp only at h
 split at h
 ·cases h;rfl
 cases h
theorem pZ (p:Nat) (b:Bytes):exactly [] p b=.ok ((),p,b):=by
 unfold exactly
 simp
theorem p4 (c:UInt8) (w:Bytes) (p:Nat) (r:Bytes):exactly (c::w) p (c::r)=exactly w (p+1) r:=by
 unfold exactly mustBe
 simp only [List.isPrefixOf,beq_self_eq_true,Bool.true_and,List.zip_cons_cons,List.takeWhile_cons,if_true,List.length_cons,List.drop_succ_cons]
 split
 ·rw[show p+(w.length+1)=p+1+w.length by omega]
 rw[show ∀ k,p+(k+1)=p+1+k from fun k=>by omega]
theorem rp {c x:UInt8} (w:Bytes) (p:Nat) (r:Bytes) (h:¬ x=c):exactly (c::w) p (x::r)=.error p:=by
 have e:(c==x)=false:=beq_eq_false_iff_ne.mpr fun z=>h z.symm
 unfold exactly mustBe
 simp[List.isPrefixOf,e]
theorem rF (c:UInt8) (w:Bytes) (p:Nat):exactly (c::w) p []=.error p:=by
 unfold exactly mustBe
 simp[List.isPrefixOf]
theorem RW (u:Bytes):∀ (w:Bytes) (p:Nat) (b:Bytes),exactly (w++u) p b=andThen (exactly w) (fun _=>exactly u) p b
 | [],p,b=>by
  unfold andThen
  rw[pZ,List.nil_append]
 | c::w,p,[]=>by
  unfold andThen
  rw[List.cons_append,rF,rF]
 | c::w,p,x::r=>by
  by_cases h:x=c
  ·subst h
   have ih:=RW u w (p+1) r
   unfold andThen at ih ⊢
   rw[List.cons_append,p4,p4,ih]
  unfold andThen
  rw[List.cons_append,rp _ _ _ h,rp _ _ _ h]
theorem ip {B:Bytes}{p:Nat}{x:UInt8} (h:B[p]?=some x):B.drop p=x::B.drop (p+1):=by
 obtain⟨h1,h2⟩:=List.getElem?_eq_some_iff.mp h
 rw[List.drop_eq_getElem_cons h1,h2]
theorem ug {B:Bytes}{p:Nat} (h:B[p]?=none):B.drop p=[]:=List.drop_eq_nil_of_le (List.getElem?_eq_none_iff.mp h)
theorem lF:∀ {w:Bytes}{p q:Nat}{B r:Bytes}{u:Unit},exactly w p (B.drop p)=.ok (u,q,r)->p<=B.length->r=B.drop q/\q=p+w.length/\q<=B.length
 | [],p,q,B,r,u,h,hp=>by
  rw[pZ] at h
  cases h
  exact⟨rfl,rfl,hp⟩
 | c::w,p,q,B,r,u,h,hp=>by
  cases e:B[p]? with
  | none =>
   rw[ug e,rF] at h
   cases h
  | some x =>
   rw[ip e] at h
   by_cases hx:x=c
   ·subst hx
    rw[p4] at h
    obtain⟨h1,h2,h3⟩:=lF h (List.getElem?_eq_some_iff.mp e).1
    exact⟨h1,by rw[h2,List.length_cons];omega,h3⟩
   rw[rp _ _ _ hx] at h
   cases h
end LM
end
section
namespace LM
open Rol
theorem N4 {lo hi p:Nat}{b:Bytes} (h:hi<lo):numberIn lo hi p b=.error p:=by
 unfold numberIn
 simp only
 rw[if_pos]
 omega
def Wx (a:Nat) (r:Read (Row×Nat)):Read (Row×Nat):=match r with
 | .error k=>.error k
 | .ok y=>.ok ((a+y.1.1,y.1.2),y.2.1,y.2.2)
def gz (w p0:Nat) (B:Bytes) (p b9 least:Nat):Prop :=
 ∃ f,w+1<=f+least/\least<=w/\b9<2 ^ least/\p<=B.length/\tracksIn w (w+1) 0 p0 (B.drop p0)=Wx b9 (tracksIn w f least p (B.drop p))
theorem ahz (r:Read (Row×Nat)):Wx 0 r=r:=by
 cases r with
 | error k=>rfl
 | ok y =>
  obtain⟨⟨a,b⟩,c,d⟩:=y
  show Except.ok ((0+a,b),c,d)=_
  rw[Nat.zero_add]
theorem gz.start {w p:Nat}{B:Bytes} (hp:p<=B.length):gz w p B p 0 0 :=
 ⟨w+1,by omega,by omega,by simp,hp,(ahz _).symm⟩
theorem gz.bad {w p0 p b9 least k:Nat}{B:Bytes} (h:gz w p0 B p b9 least) (hb:B[p]?=some 32) (hn:numberIn least (w-1) (p+1) (B.drop (p+1))=.error k) :
  tracksIn w (w+1) 0 p0 (B.drop p0)=.error k:=by
 obtain⟨f,h1,h2,h3,h4,h5⟩:=h
 obtain⟨f,rfl⟩:∃ g,f=g+1:=⟨f-1,by omega⟩
 have hk:=afZ hn
 subst hk
 rw[h5,ip hb]
 unfold tracksIn
 by_cases q:w<=least
 ·simp only [if_pos q]
  rfl
 simp only [if_neg q,hn]
 rfl
theorem gz.turn {w p0 p b9 least x q:Nat}{B r:Bytes} (hw:1<=w) (h:gz w p0 B p b9 least) (hb:B[p]?=some 32) (hn:numberIn least (w-1) (p+1) (B.drop (p+1))=.ok (x,q,r)) :
  gz w p0 B q (b9+2 ^ x) (x+1):=by
 obtain⟨f,h1,h2,h3,h4,h5⟩:=h
 obtain⟨f,rfl⟩:∃ g,f=g+1:=⟨f-1,by omega⟩
 obtain⟨rfl,g1,g2,g3,g4⟩:=hZ hn
 have q1:¬ w<=least:=by omega
 have q2:2 ^ least<=2 ^ x:=Nat.pow_le_pow_right (by omega) g3
 refine⟨f,by omega,by omega,by rw[Nat.pow_succ];omega,g2,?_⟩
 rw[h5,ip hb]
 conv=>lhs;unfold tracksIn
 simp only [if_neg q1,hn]
 cases e:tracksIn w f (x+1) q (B.drop q) with
 | error k=>rfl
 | ok y =>
  show Except.ok ((b9+(2 ^ x+y.1.1),y.1.2),y.2.1,y.2.2)=Except.ok ((b9+2 ^ x+y.1.1,y.1.2),y.2.1,y.2.2)
  rw[Nat.add_assoc]
theorem gz.apQ {w p0 p b9 least:Nat}{B:Bytes} (h:gz w p0 B p b9 least) (hb:B[p]?=some 10):tracksIn w (w+1) 0 p0 (B.drop p0)=.ok ((b9,p),p+1,B.drop (p+1)):=by
 obtain⟨f,h1,h2,h3,h4,h5⟩:=h
 obtain⟨f,rfl⟩:∃ g,f=g+1:=⟨f-1,by omega⟩
 rw[h5,ip hb]
 unfold tracksIn
 rfl
theorem gz.ao6 {w p0 p b9 least:Nat}{B:Bytes} (h:gz w p0 B p b9 least) (h1:¬ B[p]?=some 10) (h2:¬ B[p]?=some 32):tracksIn w (w+1) 0 p0 (B.drop p0)=.error p:=by
 obtain⟨f,g1,g2,g3,g4,g5⟩:=h
 obtain⟨f,rfl⟩:∃ g,f=g+1:=⟨f-1,by omega⟩
 rw[g5]
 cases e:B[p]? with
 | none =>
  rw[ug e]
  rfl
 | some x =>
  rw[ip e]
  unfold tracksIn
  rw[e] at h1 h2
  split
  ·rename_i q
   cases q
   exact absurd rfl h1
  ·rename_i q
   cases q
   exact absurd rfl h2
  rfl
theorem Wy {a x:Nat} (h:a<2 ^ x):a|||2 ^ x=a+2 ^ x:=by
 have e:=Nat.two_pow_add_eq_or_of_lt (i:=x) (b:=a) h 1
 rw[Nat.mul_one] at e
 rw[Nat.or_comm,<- e,Nat.add_comm]
def D0 (done:List (Nat×Row)) (r:Except Nat (List (Nat×Row))):Except Nat (List (Nat×Row)):=match r with
 | .error k=>.error k
 | .ok l=>.ok (done++l)
def rowsOf (l:List (Nat×Row)):List Row:=l.flatMap fun (x:Nat×Row)=>List.replicate x.1 x.2
def e6 (w f0 p0:Nat) (B:Bytes) (p:Nat) (done:List (Nat×Row)) (last:Option Row):Prop :=
 ∃ f,B.length<f+p/\p<=B.length/\(rowsOf done).length<=ROWS/\linesIn w f0 0 none p0 (B.drop p0)=D0 done (linesIn w f (rowsOf done).length last p (B.drop p))
theorem ahA (r:Except Nat (List (Nat×Row))):D0 [] r=r:=by
 cases r <;> rfl
theorem e6.start {w p:Nat}{B:Bytes} (hp:p<=B.length):e6 w ((B.drop p).length+1) p B p [] none :=
 ⟨(B.drop p).length+1,by rw[List.length_drop];omega,hp,by show 0<=256;decide,(ahA _).symm⟩
theorem e6.done {w f0 p0 p:Nat}{B:Bytes}{l:List (Nat×Row)}{last:Option Row} (h:e6 w f0 p0 B p l last) (hp:p=B.length):linesIn w f0 0 none p0 (B.drop p0)=.ok l:=by
 obtain⟨f,h1,h2,h3,h4⟩:=h
 obtain⟨f,rfl⟩:∃ g,f=g+1:=⟨f-1,by omega⟩
 rw[h4,hp,List.drop_length]
 unfold linesIn
 rw[if_pos rfl]
 show Except.ok (l++[])=_
 rw[List.append_nil]
theorem V1 {B:Bytes}{p:Nat} (h:p<B.length):B.drop p≠[]:=by
 intro e
 have:=congrArg List.length e
 rw[List.length_drop,List.length_nil] at this
 omega
theorem e6.qj {w f0 p0 p:Nat}{B:Bytes}{l:List (Nat×Row)}{last:Option Row} (h:e6 w f0 p0 B p l last) (hp:p<B.length):∃ f,B.length<f+1+p/\(rowsOf l).length<=ROWS /\
  linesIn w f0 0 none p0 (B.drop p0)=D0 l (match numberIn 1 (ROWS-(rowsOf l).length) p (B.drop p) with
   | .error k=>.error k
   | .ok n=>match tracksIn w (w+1) 0 n.2.1 n.2.2 with
    | .error k=>.error k
    | .ok x=>if last=some x.1.1 then .error x.1.2 else match linesIn w f ((rowsOf l).length+n.1) (some x.1.1) x.2.1 x.2.2 with
     | .error k=>.error k
     | .ok l=>.ok ((n.1,x.1.1)::l)):=by
 obtain⟨f,h1,h2,h3,h4⟩:=h
 obtain⟨f,rfl⟩:∃ g,f=g+1:=⟨f-1,by omega⟩
 refine⟨f,h1,h3,?_⟩
 rw[h4]
 congr 1
 conv=>lhs;unfold linesIn
 rw[if_neg (V1 hp)]
 by_cases q:ROWS<=(rowsOf l).length
 ·rw[if_pos q,N4 (by omega)]
 rw[if_neg q]
 rfl
theorem e6.arX {w f0 p0 p k:Nat}{B:Bytes}{l:List (Nat×Row)}{last:Option Row} (h:e6 w f0 p0 B p l last) (hp:p<B.length) (hn:numberIn 1 (ROWS-(rowsOf l).length) p (B.drop p)=.error k) :
  linesIn w f0 0 none p0 (B.drop p0)=.error k:=by
 obtain⟨f,_,_,e⟩:=h.qj hp
 rw[e,hn]
 rfl
theorem e6.uR {w f0 p0 p k n q:Nat}{B r:Bytes}{l:List (Nat×Row)}{last:Option Row} (h:e6 w f0 p0 B p l last) (hp:p<B.length) (hn:numberIn 1 (ROWS-(rowsOf l).length) p (B.drop p)=.ok (n,q,r))
  (ht:tracksIn w (w+1) 0 q (B.drop q)=.error k):linesIn w f0 0 none p0 (B.drop p0)=.error k:=by
 obtain⟨rfl,_⟩:=hZ hn
 obtain⟨f,_,_,e⟩:=h.qj hp
 rw[e,hn]
 simp only [ht]
 rfl
theorem e6.arY {w f0 p0 p n q hs k q2:Nat}{B r r2:Bytes}{l:List (Nat×Row)}{last:Option Row} (h:e6 w f0 p0 B p l last) (hp:p<B.length) (hn:numberIn 1 (ROWS-(rowsOf l).length) p (B.drop p)=.ok (n,q,r))
  (ht:tracksIn w (w+1) 0 q (B.drop q)=.ok ((hs,k),q2,r2)) (hl:last=some hs):linesIn w f0 0 none p0 (B.drop p0)=.error k:=by
 obtain⟨rfl,_⟩:=hZ hn
 obtain⟨f,_,_,e⟩:=h.qj hp
 rw[e,hn]
 simp only [ht,if_pos hl]
 rfl
theorem RX (l:List (Nat×Row)) (n:Nat) (x:Row):rowsOf (l++[(n,x)])=rowsOf l++List.replicate n x:=by
 unfold rowsOf
 rw[List.flatMap_append]
 simp
theorem e6.turn {w f0 p0 p n q hs k:Nat}{B r:Bytes}{l:List (Nat×Row)}{last:Option Row} (h:e6 w f0 p0 B p l last) (hp:p<B.length) (hn:numberIn 1 (ROWS-(rowsOf l).length) p (B.drop p)=.ok (n,q,r))
  (ht:tracksIn w (w+1) 0 q (B.drop q)=.ok ((hs,k),k+1,B.drop (k+1))) (hk:q<=k) (hk2:k<B.length) (hl:¬ last=some hs):e6 w f0 p0 B (k+1) (l++[(n,hs)]) (some hs):=by
 obtain⟨rfl,g1,g2,g3,g4⟩:=hZ hn
 obtain⟨f,h1,h2,e⟩:=h.qj hp
 have el:(rowsOf (l++[(n,hs)])).length=(rowsOf l).length+n:=by rw[RX,List.length_append,List.length_replicate]
 refine⟨f,by omega,by omega,by rw[el];omega,?_⟩
 rw[e,hn,el]
 simp only [ht,if_neg hl]
 cases linesIn w f ((rowsOf l).length+n) (some hs) (k+1) (B.drop (k+1)) with
 | error k=>rfl
 | ok z =>
  show Except.ok (l++((n,hs)::z))=Except.ok (l++[(n,hs)]++z)
  rw[List.append_assoc]
  rfl
theorem RY (B:Bytes):readText B=match exactly HEAD 0 B with
  | .error k=>.error k
  | .ok x=>match numberIn 1 TRACKS x.2.1 x.2.2 with
   | .error k=>.error k
   | .ok w=>match exactly [10] w.2.1 w.2.2 with
    | .error k=>.error k
    | .ok y=>match linesIn w.1 (y.2.2.length+1) 0 none y.2.1 y.2.2 with
     | .error k=>.error k
     | .ok l=>.ok (⟨w.1,rowsOf l⟩,l.length):=by
 unfold readText
 conv=>rhs;unfold exactly
 cases h:HEAD.isPrefixOf B with
 | false =>
  simp
 | true =>
  simp only [if_true,Bool.true_eq_false,if_false,Nat.zero_add]
  cases numberIn 1 TRACKS HEAD.length (B.drop HEAD.length) with
  | error k=>rfl
  | ok w =>
   obtain⟨w,q,r⟩:=w
   simp only
   cases r with
   | nil =>
    simp[List.isPrefixOf,mustBe]
   | cons c r =>
    by_cases hc:c=10
    ·subst hc
     simp[List.isPrefixOf]
     cases linesIn w (r.length+1) 0 none (q+1) r <;> rfl
    have e:((10:UInt8)==c)=false:=beq_eq_false_iff_ne.mpr fun z=>hc z.symm
    simp only [List.isPrefixOf,e,Bool.false_and,Bool.false_eq_true,if_false,mustBe]
    split
    ·rename_i z
     cases z
     exact absurd rfl hc
    simp[e]
end LM
end
section
namespace LM
open Rol
theorem gv {α β γ:Type} (r:Rd α) (f:α->Rd β) (g:β->Rd γ):andThen (andThen r f) g=andThen r fun x=>andThen (f x) g:=by
 funext p b
 unfold andThen
 cases r p b <;> rfl
theorem i5 {α β:Type} (x:α) (f:α->Rd β):andThen (gives x) f=f x:=rfl
theorem ag0 (u w:Bytes):exactly (w++u)=andThen (exactly w) fun _=>exactly u:=by
 funext p b
 exact RW u w p b
def Goes {α:Type} (r:Rd α):Prop:=∀ (B:Bytes) (p q:Nat) (x:α) (rest:Bytes),p<=B.length->r p (B.drop p)=.ok (x,q,rest)->rest=B.drop q/\p<=q/\q<=B.length
theorem Goes.num (lo hi:Nat):Goes (Rol.num lo hi):=fun B p q x rest _ h=>by
 obtain⟨h1,h2,h3,_⟩:=hZ (show numberIn lo hi p (B.drop p)=.ok (x,q,rest) from h)
 exact⟨h1,by omega,h3⟩
theorem Goes.exactly (w:Bytes):Goes (Rol.exactly w):=fun B p q x rest hp h=>by
 obtain⟨h1,h2,h3⟩:=lF h hp
 exact⟨h1,by omega,h3⟩
theorem Goes.gives {α:Type} (x:α):Goes (Rol.gives x):=fun B p q y rest hp h=>by
 cases h
 exact⟨rfl,Nat.le_refl _,hp⟩
theorem Goes.fails {α:Type} (k:Nat):Goes (Rol.fails (α:=α) k):=fun B p q y rest hp h=>by cases h
theorem Goes.andThen {α β:Type}{r:Rd α}{f:α->Rd β} (hr:Goes r) (hf:∀ x,Goes (f x)):Goes (Rol.andThen r f):=fun B p q y rest hp h=>by
 unfold Rol.andThen at h
 cases e:r p (B.drop p) with
 | error k =>
  rw[e] at h
  cases h
 | ok x =>
  obtain⟨x,q1,r1⟩:=x
  rw[e] at h
  obtain⟨rfl,h2,h3⟩:=hr B p q1 x r1 hp e
  obtain⟨h4,h5,h6⟩:=hf x B q1 q y rest h3 h
  exact⟨h4,by omega,h6⟩
theorem dX {α β:Type}{r:Rd α}{f:α->Rd β}{p q:Nat}{b rest:Bytes}{x:α} (h:r p b=.ok (x,q,rest)):andThen r f p b=f x q rest:=by
 unfold andThen
 rw[h]
theorem fv {α β:Type}{r:Rd α}{f:α->Rd β}{p k:Nat}{b:Bytes} (h:r p b=.error k):andThen r f p b=.error k:=by
 unfold andThen
 rw[h]
def et:List (Nat×Nat)->Rd (List Nat)
 | []=>gives []
 | x::r=>andThen (blankNum x.1 x.2) fun n=>andThen (et r) fun ns=>gives (n::ns)
def jn (w:Bytes) (bs:List (Nat×Nat)):Rd (List Nat):=andThen (exactly w) fun _=>andThen (et bs) fun ns=>andThen (exactly [10]) fun _=>gives ns
def f7:List (Bytes×List (Nat×Nat))->Rd (List Nat)
 | []=>gives []
 | x::r=>andThen (jn x.1 x.2) fun a=>andThen (f7 r) fun ns=>gives (a++ns)
def ez:List (Bytes×List (Nat×Nat)):=[([98,97,114],[(1,128),(0,128)]),([116,97,105,108],[(0,15)]),([102,111,114,99,101],[(0,127),(0,127),(0,127)]),([115,119,101,108,108],[(0,1023),(0,1023),(0,1023)])]
def qk (ns:List Nat) (tr:List (Nat×Means)):Bar:=⟨ns.getD 0 0,ns.getD 1 0,ns.getD 2 0,ns.getD 3 0,ns.getD 4 0,ns.getD 5 0,ns.getD 6 0,ns.getD 7 0,ns.getD 8 0,tr⟩
theorem Goes.nums:∀ l:List (Nat×Nat),Goes (et l)
 | []=>Goes.gives _
 | x::r=>Goes.andThen (Goes.andThen (Goes.exactly _) fun _=>Goes.num _ _) fun _=>Goes.andThen (Goes.nums r) fun _=>Goes.gives _
theorem Goes.line (w:Bytes) (l:List (Nat×Nat)):Goes (jn w l):=Goes.andThen (Goes.exactly _) fun _=>Goes.andThen (Goes.nums l) fun _=>Goes.andThen (Goes.exactly _) fun _=>Goes.gives _
theorem apR:ascii "bar "=[98,97,114]++[32]:=by decide +kernel
theorem ao7:(10::ascii "tail ")=[10]++([116,97,105,108]++[32]):=by decide +kernel
theorem amw:(10::ascii "force ")=[10]++([102,111,114,99,101]++[32]):=by decide +kernel
theorem amx:(10::ascii "swell ")=[10]++([115,119,101,108,108]++[32]):=by decide +kernel
theorem amy:HEAD=[115,116,114,105,112,32]:=by decide +kernel
theorem ag1:headLines=andThen (f7 ez) fun ns=>gives (qk ns []):=by
 unfold headLines ez
 rw[apR,ao7,amw,amx]
 simp only [f7,jn,et,blankNum,ag0,gv,i5]
 rfl
def gN (B:Bytes) (p:Nat) (done:List Nat) (rest:List (Bytes×List (Nat×Nat))):Prop:=p<=B.length/\f7 ez 0 B=andThen (f7 rest) (fun ns=>gives (done++ns)) p (B.drop p)
theorem gN.start (B:Bytes):gN B 0 [] ez:=⟨Nat.zero_le _,by
 unfold andThen gives
 rw[List.drop_zero]
 cases f7 ez 0 B <;> rfl⟩
theorem gN.bad {B:Bytes}{p k:Nat}{done:List Nat}{w:Bytes}{bs:List (Nat×Nat)}{rest:List (Bytes×List (Nat×Nat))} (h:gN B p done ((w,bs)::rest)) (e:jn w bs p (B.drop p)=.error k):f7 ez 0 B=.error k:=by
 rw[h.2]
 unfold f7
 rw[gv,fv e]
theorem gN.turn {B r:Bytes}{p q:Nat}{done a:List Nat}{w:Bytes}{bs:List (Nat×Nat)}{rest:List (Bytes×List (Nat×Nat))} (h:gN B p done ((w,bs)::rest)) (e:jn w bs p (B.drop p)=.ok (a,q,r)):gN B q (done++a) rest:=by
 obtain⟨rfl,h2,h3⟩:=Goes.line w bs B p q a r h.1 e
 refine⟨h3,?_⟩
 rw[h.2]
 conv=>lhs;unfold f7
 rw[gv,dX e]
 simp only [gv,i5,List.append_assoc]
theorem gN.done {B:Bytes}{p:Nat}{done:List Nat} (h:gN B p done []):f7 ez 0 B=.ok (done,p,B.drop p):=by
 rw[h.2]
 show andThen (gives []) _ p (B.drop p)=_
 rw[i5]
 show Except.ok (done++[],p,B.drop p)=_
 rw[List.append_nil]
def gO (bs:List (Nat×Nat)) (B:Bytes) (p0 p:Nat) (done:List Nat) (rest:List (Nat×Nat)):Prop:=p<=B.length/\et bs p0 (B.drop p0)=andThen (et rest) (fun ns=>gives (done++ns)) p (B.drop p)
theorem gO.start {bs:List (Nat×Nat)}{B:Bytes}{p:Nat} (hp:p<=B.length):gO bs B p p [] bs:=⟨hp,by
 unfold andThen gives
 cases et bs p (B.drop p) <;> rfl⟩
theorem gO.bad {bs rest:List (Nat×Nat)}{B:Bytes}{p0 p k lo hi:Nat}{done:List Nat} (h:gO bs B p0 p done ((lo,hi)::rest)) (e:blankNum lo hi p (B.drop p)=.error k):et bs p0 (B.drop p0)=.error k:=by
 rw[h.2]
 unfold et
 rw[gv,fv e]
theorem gO.turn {bs rest:List (Nat×Nat)}{B r:Bytes}{p0 p q n lo hi:Nat}{done:List Nat} (h:gO bs B p0 p done ((lo,hi)::rest)) (e:blankNum lo hi p (B.drop p)=.ok (n,q,r)):gO bs B p0 q (done++[n]) rest:=by
 obtain⟨rfl,h2,h3⟩:=Goes.andThen (Goes.exactly [32]) (fun _=>Goes.num lo hi) B p q n r h.1 e
 refine⟨h3,?_⟩
 rw[h.2]
 conv=>lhs;unfold et
 rw[gv,dX e]
 simp only [gv,i5,List.append_assoc]
 rfl
theorem gO.done {bs:List (Nat×Nat)}{B:Bytes}{p0 p:Nat}{done:List Nat} (h:gO bs B p0 p done []):et bs p0 (B.drop p0)=.ok (done,p,B.drop p):=by
 rw[h.2]
 show andThen (gives []) _ p (B.drop p)=_
 rw[i5]
 show Except.ok (done++[],p,B.drop p)=_
 rw[List.append_nil]
def fo (kind:Nat):List (Nat×Nat):=match kind with
 | 1=>[(0,127)]
 | 2=>[]
 | 3=>[]
 | 4=>[(0,2),(0,1)]
 | 5=>[(0,1)]
 | 6=>[(0,1)]
 | 7=>[(0,1)]
 | 8=>[(0,1)]
 | _=>[]
def gA (kind:Nat) (ns:List Nat):Means:=match kind with
 | 1=>.key (ns.getD 0 0)
 | 2=>.loud
 | 3=>.soft
 | 4=>.lock (ns.getD 0 0) (ns.getD 1 0)
 | 5=>.cancel (ns.getD 0 0)
 | 6=>.up (ns.getD 0 0)
 | 7=>.down (ns.getD 0 0)
 | 8=>.accent (ns.getD 0 0)
 | _=>.end_
theorem Di (kind:Nat):meaning kind=andThen (et (fo kind)) fun ns=>gives (gA kind ns):=by
 match kind with
 | 0=>rfl
 | 1=>simp only [meaning,fo,gA,et,gv,i5];rfl
 | 2=>rfl
 | 3=>rfl
 | 4=>simp only [meaning,fo,gA,et,gv,i5];rfl
 | 5=>simp only [meaning,fo,gA,et,gv,i5];rfl
 | 6=>simp only [meaning,fo,gA,et,gv,i5];rfl
 | 7=>simp only [meaning,fo,gA,et,gv,i5];rfl
 | 8=>simp only [meaning,fo,gA,et,gv,i5];rfl
 | n+9=>rfl
def gD (cB:List Means):Rd Means:=fun p b=>andThen word (fun kind=>andThen (meaning kind) fun m=>if cB.contains m=true then fails p else gives m) p b
theorem rq (w least:Nat) (cB:List Means):trackLine w least cB=andThen (num least (w-1)) fun t=>andThen (exactly [32]) fun _=>andThen (gD cB) fun m=>andThen (exactly [10]) fun _=>gives (t,m):=by
 unfold trackLine gD
 congr 1
 funext t
 congr 1
 funext _ p b
 unfold andThen
 dsimp only
 cases word p b with
 | error k=>rfl
 | ok x =>
  dsimp only
  cases meaning x.1 x.2.1 x.2.2 with
  | error k=>rfl
  | ok y =>
   dsimp only
   by_cases h:cB.contains y.1=true
   ·rw[if_pos h,if_pos h]
    rfl
   rw[if_neg h,if_neg h]
   rfl
theorem al2:Goes word:=fun B p q x rest hp h=>by
 unfold word at h
 split at h
 ·cases h
  have hl:((B.drop p).takeWhile isSmall).length<=(B.drop p).length:=(List.takeWhile_sublist _).length_le
  rw[List.length_drop] at hl
  exact⟨by rw[List.drop_drop],by omega,by omega⟩
 cases h
theorem DA (cB:List Means):Goes (gD cB):=fun B p q x rest hp h =>
 Goes.andThen al2 (fun kind=>Goes.andThen (by rw[Di];exact Goes.andThen (Goes.nums _) fun _=>Goes.gives _) fun m=>by
  by_cases h:cB.contains m=true
  ·rw[if_pos h];exact Goes.fails _
  rw[if_neg h];exact Goes.gives _) B p q x rest hp h
def EE (done:List (Nat×Means)) (r:Except Nat (List (Nat×Means))):Except Nat (List (Nat×Means)):=match r with
 | .error k=>.error k
 | .ok l=>.ok (done++l)
def cF (done:List (Nat×Means)):List Means:=(done.map fun x=>x.2).reverse
def gw (w f0 p0:Nat) (B:Bytes) (p least:Nat) (done:List (Nat×Means)):Prop :=
 ∃ f,B.length<f+p/\p<=B.length/\least<=w/\done.length<=least/\trackLines w f0 0 [] p0 (B.drop p0)=EE done (trackLines w f least (cF done) p (B.drop p))
theorem gw.start {w p:Nat}{B:Bytes} (hp:p<=B.length):gw w ((B.drop p).length+1) p B p 0 [] :=
 ⟨(B.drop p).length+1,by rw[List.length_drop];omega,hp,Nat.zero_le _,Nat.le_refl _,by
  show _=EE [] (trackLines w _ 0 [] p (B.drop p))
  cases trackLines w ((B.drop p).length+1) 0 [] p (B.drop p) <;> rfl⟩
theorem gw.done {w f0 p0 p least:Nat}{B:Bytes}{l:List (Nat×Means)} (h:gw w f0 p0 B p least l) (hp:p=B.length):trackLines w f0 0 [] p0 (B.drop p0)=.ok l:=by
 obtain⟨f,h1,h2,_,_,h4⟩:=h
 obtain⟨f,rfl⟩:∃ g,f=g+1:=⟨f-1,by omega⟩
 rw[h4,hp,List.drop_length]
 unfold trackLines
 rw[if_pos rfl]
 show Except.ok (l++[])=_
 rw[List.append_nil]
theorem gw.qj {w f0 p0 p least:Nat}{B:Bytes}{l:List (Nat×Means)} (hw:1<=w) (h:gw w f0 p0 B p least l) (hp:p<B.length):∃ f,B.length<f+1+p/\least<=w/\l.length<=least /\
  trackLines w f0 0 [] p0 (B.drop p0)=EE l (match trackLine w least (cF l) p (B.drop p) with
   | .error k=>.error k
   | .ok x=>match trackLines w f (x.1.1+1) (x.1.2::cF l) x.2.1 x.2.2 with
    | .error k=>.error k
    | .ok l=>.ok (x.1::l)):=by
 obtain⟨f,h1,h2,h3,h5,h4⟩:=h
 obtain⟨f,rfl⟩:∃ g,f=g+1:=⟨f-1,by omega⟩
 refine⟨f,h1,h3,h5,?_⟩
 rw[h4]
 congr 1
 conv=>lhs;unfold trackLines
 rw[if_neg (V1 hp)]
 by_cases q:w<=least
 ·rw[if_pos q,rq,fv (show num least (w-1) p (B.drop p)=.error p from N4 (by omega))]
 rw[if_neg q]
 rfl
theorem gw.bad {w f0 p0 p least k:Nat}{B:Bytes}{l:List (Nat×Means)} (hw:1<=w) (h:gw w f0 p0 B p least l) (hp:p<B.length) (e:trackLine w least (cF l) p (B.drop p)=.error k):trackLines w f0 0 [] p0 (B.drop p0)=.error k:=by
 obtain⟨f,_,_,_,q⟩:=h.qj hw hp
 rw[q,e]
 rfl
theorem adh (w least:Nat) (cB:List Means):Goes (trackLine w least cB):=by
 rw[rq]
 exact Goes.andThen (Goes.num _ _) fun _=>Goes.andThen (Goes.exactly _) fun _=>Goes.andThen (DA cB) fun _=>Goes.andThen (Goes.exactly _) fun _=>Goes.gives _
theorem MK {w least p q:Nat}{cB:List Means}{b r:Bytes}{x:Nat×Means} (h:trackLine w least cB p b=.ok (x,q,r)):least<=x.1/\x.1<=w-1:=by
 rw[rq] at h
 unfold andThen at h
 cases e:num least (w-1) p b with
 | error k=>rw[e] at h;cases h
 | ok t =>
  rw[e] at h
  dsimp only at h
  have hn:numberIn least (w-1) p b=.ok t:=e
  unfold numberIn at hn
  simp only at hn
  split at hn
  ·cases hn
  rename_i hc
  cases hn
  split at h
  ·cases h
  split at h
  ·cases h
  split at h
  ·cases h
  cases h
  exact⟨Nat.le_of_not_lt fun z=>hc (.inr (.inr (.inl z))),Nat.le_of_not_lt fun z=>hc (.inr (.inr (.inr z)))⟩
theorem QG {w least p q:Nat}{cB:List Means}{B r:Bytes}{x:Nat×Means} (hp:p<=B.length) (h:trackLine w least cB p (B.drop p)=.ok (x,q,r)):p<q:=by
 rw[rq] at h
 cases e:num least (w-1) p (B.drop p) with
 | error k=>rw[fv e] at h;cases h
 | ok t =>
  obtain⟨t,q1,r1⟩:=t
  rw[dX e] at h
  obtain⟨rfl,g1,g2,_⟩:=hZ (show numberIn least (w-1) p (B.drop p)=.ok (t,q1,r1) from e)
  have:=Goes.andThen (Goes.exactly [32]) (fun _=>Goes.andThen (DA cB) fun m=>Goes.andThen (Goes.exactly [10]) fun _=>Goes.gives (t,m)) B q1 q x r g2 h
  omega
theorem gw.turn {w f0 p0 p least q:Nat}{B r:Bytes}{l:List (Nat×Means)}{x:Nat×Means} (hw:1<=w) (h:gw w f0 p0 B p least l) (hp:p<B.length) (e:trackLine w least (cF l) p (B.drop p)=.ok (x,q,r)) :
  gw w f0 p0 B q (x.1+1) (l++[x]):=by
 obtain⟨f,h1,h3,h5,h2⟩:=h.qj hw hp
 obtain⟨rfl,g1,g2⟩:=adh w least (cF l) B p q x r (by omega) e
 have g3:=QG (by omega) e
 have g4:=MK e
 refine⟨f,by omega,g2,by omega,by rw[List.length_append,List.length_singleton];omega,?_⟩
 have hh:cF (l++[x])=x.2::cF l:=by
  unfold cF
  rw[List.map_append,List.reverse_append]
  rfl
 rw[h2,e,hh]
 dsimp only
 cases trackLines w f (x.1+1) (x.2::cF l) q (B.drop q) with
 | error k=>rfl
 | ok z =>
  show Except.ok (l++(x::z))=Except.ok (l++[x]++z)
  rw[List.append_assoc]
  rfl
theorem aj8 (B:Bytes):readBar B=match f7 ez 0 B with
  | .error k=>.error k
  | .ok x=>match trackLines (x.1.getD 0 0) (x.2.2.length+1) 0 [] x.2.1 x.2.2 with
   | .error k=>.error k
   | .ok l=>.ok (qk x.1 l):=by
 unfold readBar
 rw[ag1]
 unfold andThen gives
 cases f7 ez 0 B with
 | error k=>rfl
 | ok x =>
  dsimp only [qk]
  cases trackLines (x.1.getD 0 0) (x.2.2.length+1) 0 [] x.2.1 x.2.2 <;> rfl
end LM
end
section
namespace LM
open Rol
theorem QH {l r:List Int}{p:Nat}{x:Int} (h:l.drop p=x::r):l[p]?=some x/\r=l.drop (p+1):=by
 have hp:p<l.length:=by
  refine Nat.lt_of_not_le fun q=>?_
  rw[List.drop_eq_nil_of_le q] at h
  cases h
 rw[List.drop_eq_getElem_cons hp] at h
 cases h
 exact⟨List.getElem?_eq_getElem hp,rfl⟩
structure r9 (ns:List Int) (p:Nat) (n:Nat) (t:List Int):Prop where
 len:ns[p]?=some (n:Int)
 row:t=(ns.drop (p+1)).take n
 fits:p+1+n<=ns.length
theorem apS {ns x s:List Int}{p:Nat} (h:PyFlat.row (ns.drop p)=some (x,s)):∃ n,r9 ns p n x/\s=ns.drop (p+1+n)/\x.length=n:=by
 unfold PyFlat.row at h
 split at h
 ·cases h
 rename_i n r e
 obtain⟨e1,e2⟩:=QH e
 subst e2
 split at h
 ·rename_i hc
  cases h
  have hp:p<ns.length:=(List.getElem?_eq_some_iff.mp e1).1
  have hl:=hc.2
  rw[List.length_drop] at hl
  refine⟨n.toNat,⟨by rw[e1,Int.toNat_of_nonneg hc.1],rfl,by omega⟩,by rw[List.drop_drop],?_⟩
  rw[List.length_take,List.length_drop]
  omega
 cases h
inductive jo (ns:List Int) (p:Nat):List (List Int)->Nat->Prop
 | bar {n:Nat}{t:List Int}:ns[p]?=some 1->r9 ns (p+1) n t->jo ns p [[1],t] (p+2+n)
 | read {n:Nat}{t:List Int}:ns[p]?=some 2->r9 ns (p+1) n t->jo ns p [[2],t] (p+2+n)
 | state {s i:Int}:ns[p]?=some 3->ns[p+1]?=some s->ns[p+2]?=some i->jo ns p [[3,s,i]] (p+3)
 | force {s i k:Int}:ns[p]?=some 4->ns[p+1]?=some s->ns[p+2]?=some i->ns[p+3]?=some k->jo ns p [[4,s,i,k]] (p+4)
 | strikes {s:Int}:ns[p]?=some 5->ns[p+1]?=some s->jo ns p [[5,s]] (p+2)
 | plan {n:Nat}{t:List Int}:ns[p]?=some 6->r9 ns (p+1) n t->jo ns p [[6],t] (p+2+n)
theorem take_one {l:List Int}{p:Nat} (h:¬ (l.drop p).length<1):∃ a,l[p]?=some a/\(l.drop p).take 1=[a]:=by
 rw[List.length_drop] at h
 have hp:p<l.length:=by omega
 exact⟨l[p],List.getElem?_eq_getElem hp,by rw[List.drop_eq_getElem_cons hp];rfl⟩
theorem amz {l:List Int}{p:Nat} (h:¬ (l.drop p).length<2):∃ a b,l[p]?=some a/\l[p+1]?=some b/\(l.drop p).take 2=[a,b]:=by
 rw[List.length_drop] at h
 have hp:p<l.length:=by omega
 have hq:p+1<l.length:=by omega
 exact⟨l[p],l[p+1],List.getElem?_eq_getElem hp,List.getElem?_eq_getElem hq,by rw[List.drop_eq_getElem_cons hp,List.drop_eq_getElem_cons hq];rfl⟩
theorem aj9 {l:List Int}{p:Nat} (h:¬ (l.drop p).length<3):∃ a b c,l[p]?=some a/\l[p+1]?=some b/\l[p+2]?=some c/\(l.drop p).take 3=[a,b,c]:=by
 rw[List.length_drop] at h
 have hp:p<l.length:=by omega
 have hq:p+1<l.length:=by omega
 have hr:p+2<l.length:=by omega
 exact⟨l[p],l[p+1],l[p+2],List.getElem?_eq_getElem hp,List.getElem?_eq_getElem hq,List.getElem?_eq_getElem hr,by
  rw[List.drop_eq_getElem_cons hp,List.drop_eq_getElem_cons hq,List.drop_eq_getElem_cons hr];rfl⟩
theorem DB {ns:List Int}{p:Nat}{x:Int}{c t:List Int}{xs:List (List Int)} (h:(if (ns.drop (p+1)).length<0 then none else match PyFlat.rows 1 ((ns.drop (p+1)).drop 0) with
   | none=>none
   | some (xs,t)=>some ((x::(ns.drop (p+1)).take 0)::xs,t))=some (c::xs,t)):∃ n u,c=[x]/\xs=[u]/\r9 ns (p+1) n u/\t=ns.drop (p+2+n):=by
 rw[if_neg (by omega),List.drop_zero,List.take_zero] at h
 unfold PyFlat.rows at h
 cases e:PyFlat.row (ns.drop (p+1)) with
 | none=>rw[e] at h;cases h
 | some y =>
  obtain⟨y,s⟩:=y
  rw[e] at h
  obtain⟨n,h1,h2,h3⟩:=apS e
  unfold PyFlat.rows at h
  cases h
  exact⟨n,y,rfl,rfl,h1,by rw[h2,show p+1+1+n=p+2+n by omega]⟩
theorem ao8 {ns t:List Int}{p:Nat}{c:List (List Int)} (h:PyFlat.call PyWqazbu.shape (ns.drop p)=some (c,t)):∃ q,jo ns p c q/\t=ns.drop q/\p<q/\q<=ns.length:=by
 unfold PyFlat.call at h
 split at h
 ·cases h
 rename_i x r e
 obtain⟨e1,rfl⟩:=QH e
 have hp:p<ns.length:=(List.getElem?_eq_some_iff.mp e1).1
 unfold PyWqazbu.shape at h
 by_cases h1:x=1
 ·subst h1
  obtain⟨c0,xs,rfl⟩:∃ c0 xs,c=c0::xs:=by
   cases c with
   | nil=>simp only [if_pos] at h;revert h;split <;> (intro h;first | cases h | (split at h <;> cases h))
   | cons a b=>exact⟨a,b,rfl⟩
  obtain⟨n,u,rfl,rfl,hr,rfl⟩:=DB h
  exact⟨p+2+n,.bar e1 hr,rfl,by omega,by have:=hr.fits;omega⟩
 by_cases h2:x=2
 ·subst h2
  obtain⟨c0,xs,rfl⟩:∃ c0 xs,c=c0::xs:=by
   cases c with
   | nil=>simp only [if_neg (show ¬ (2:Int)=1 by decide),if_pos] at h;revert h;split <;> (intro h;first | cases h | (split at h <;> cases h))
   | cons a b=>exact⟨a,b,rfl⟩
  obtain⟨n,u,rfl,rfl,hr,rfl⟩:=DB h
  exact⟨p+2+n,.read e1 hr,rfl,by omega,by have:=hr.fits;omega⟩
 by_cases h3:x=3
 ·subst h3
  simp only [if_neg (show ¬ (3:Int)=1 by decide),if_neg (show ¬ (3:Int)=2 by decide),if_pos] at h
  split at h
  ·cases h
  rename_i hl
  obtain⟨a,b,ha,hb,ht⟩:=amz hl
  unfold PyFlat.rows at h
  rw[ht,List.drop_drop] at h
  cases h
  have:=(List.getElem?_eq_some_iff.mp hb).1
  exact⟨p+3,.state e1 ha hb,by congr 1,by omega,by omega⟩
 by_cases h4:x=4
 ·subst h4
  simp only [if_neg (show ¬ (4:Int)=1 by decide),if_neg (show ¬ (4:Int)=2 by decide),if_neg (show ¬ (4:Int)=3 by decide),if_pos] at h
  split at h
  ·cases h
  rename_i hl
  obtain⟨a,b,d,ha,hb,hd,ht⟩:=aj9 hl
  unfold PyFlat.rows at h
  rw[ht,List.drop_drop] at h
  cases h
  have:=(List.getElem?_eq_some_iff.mp hd).1
  exact⟨p+4,.force e1 ha hb hd,by congr 1,by omega,by omega⟩
 by_cases h5:x=5
 ·subst h5
  simp only [if_neg (show ¬ (5:Int)=1 by decide),if_neg (show ¬ (5:Int)=2 by decide),if_neg (show ¬ (5:Int)=3 by decide),if_neg (show ¬ (5:Int)=4 by decide),if_pos] at h
  split at h
  ·cases h
  rename_i hl
  obtain⟨a,ha,ht⟩:=take_one hl
  unfold PyFlat.rows at h
  rw[ht,List.drop_drop] at h
  cases h
  have:=(List.getElem?_eq_some_iff.mp ha).1
  exact⟨p+2,.strikes e1 ha,by congr 1,by omega,by omega⟩
 by_cases h6:x=6
 ·subst h6
  obtain⟨c0,xs,rfl⟩:∃ c0 xs,c=c0::xs:=by
   cases c with
   | nil=>simp only [if_neg (show ¬ (6:Int)=1 by decide),if_neg (show ¬ (6:Int)=2 by decide),if_neg (show ¬ (6:Int)=3 by decide),if_neg (show ¬ (6:Int)=4 by decide),if_neg (show ¬ (6:Int)=5 by decide),if_pos] at h;revert h;split <;> (intro h;first | cases h | (split at h <;> cases h))
   | cons a b=>exact⟨a,b,rfl⟩
  obtain⟨n,u,rfl,rfl,hr,rfl⟩:=DB h
  exact⟨p+2+n,.plan e1 hr,rfl,by omega,by have:=hr.fits;omega⟩
 simp only [if_neg h1,if_neg h2,if_neg h3,if_neg h4,if_neg h5,if_neg h6] at h
 cases h
theorem amA {ns:List Int}{p q:Nat}{c:List (List Int)} (h:jo ns p c q):PyWqazbu.whole c=c:=by
 cases h <;> rfl
structure Left (ns:List Int) (p:Nat) (d:RolE.Bench) (given:List Int):Prop where
 ex:∃ f cs,PyFlat.calls PyWqazbu.shape f (ns.drop p)=some cs/\(∀ c,c∈cs->RolENeutral.asked1 (PyWqazbu.whole c)=true) /\
  PyWqazbu.answers ns=given++PyFlat.told (PyFlat.played RolENeutral.step d (cs.map PyWqazbu.whole))
 le:p<=ns.length
theorem Left.start {ns:List Int} (h:PyWqazbu.answers_asked ns=true):Left ns 0 RolE.start []:=by
 unfold PyWqazbu.answers_asked PyWqazbu.calls at h
 cases e:PyFlat.calls PyWqazbu.shape ns.length ns with
 | none=>rw[e] at h;cases h
 | some cs =>
  rw[e] at h
  simp only [Bool.and_eq_true] at h
  have ha:=h.2
  unfold RolENeutral.asked at ha
  simp only [Bool.and_eq_true] at ha
  refine⟨⟨ns.length,cs,by rw[List.drop_zero];exact e,fun c hc=>?_,?_⟩,Nat.zero_le _⟩
  ·exact List.all_eq_true.mp ha.1.1.1 _ (List.mem_map.mpr ⟨c,hc,rfl⟩)
  unfold PyWqazbu.answers PyWqazbu.calls
  rw[e]
  rfl
theorem Left.done {ns:List Int}{p:Nat}{d:RolE.Bench}{given:List Int} (h:Left ns p d given) (hp:p=ns.length):PyWqazbu.answers ns=given:=by
 obtain⟨f,cs,h1,_,h3⟩:=h.ex
 rw[hp,List.drop_length] at h1
 cases f <;> (cases h1;rw[h3];exact List.append_nil _)
theorem Left.turn {ns:List Int}{p:Nat}{d:RolE.Bench}{given:List Int} (h:Left ns p d given) (hp:p<ns.length):∃ c q,jo ns p c q/\q<=ns.length/\p<q/\RolENeutral.asked1 c=true /\
  Left ns q (RolENeutral.step d c).1 (given++(((RolENeutral.step d c).2.length:Int)::(RolENeutral.step d c).2)):=by
 obtain⟨f,cs,h1,h2,h3⟩:=h.ex
 cases e:ns.drop p with
 | nil =>
  have:=congrArg List.length e
  rw[List.length_drop,List.length_nil] at this
  omega
 | cons x r =>
  rw[e] at h1
  cases f with
  | zero=>cases h1
  | succ f =>
   unfold PyFlat.calls at h1
   rw[<- e] at h1
   cases e2:PyFlat.call PyWqazbu.shape (ns.drop p) with
   | none=>rw[e2] at h1;cases h1
   | some y =>
    obtain⟨c,t⟩:=y
    rw[e2] at h1
    dsimp only at h1
    obtain⟨q,hq,rfl,aO,hle⟩:=ao8 e2
    cases e3:PyFlat.calls PyWqazbu.shape f (ns.drop q) with
    | none=>rw[e3] at h1;cases h1
    | some Yi =>
     rw[e3] at h1
     cases h1
     have hw:=amA hq
     refine⟨c,q,hq,hle,aO,?_,⟨f,Yi,e3,fun c' eg=>h2 c' (List.mem_cons_of_mem _ eg),?_⟩,hle⟩
     ·rw[<- hw];exact h2 c (List.mem_cons_self)
     rw[h3,List.map_cons,hw]
     show given++PyFlat.told ((RolENeutral.step d c).2::PyFlat.played RolENeutral.step (RolENeutral.step d c).1 (Yi.map PyWqazbu.whole))=_
     unfold PyFlat.told
     rw[List.flatMap_cons,List.append_assoc]
theorem Left.part {ns:List Int}{p:Nat}{d:RolE.Bench}{given:List Int} (h:Left ns p d given):given.length<=(PyWqazbu.answers ns).length:=by
 obtain⟨f,cs,_,_,h3⟩:=h.ex
 rw[h3,List.length_append]
 omega
theorem Uy:∀ (l:List (List Int)) (n:Nat),l.foldl (fun (n:Nat) (a:List Int)=>n+RolENeutral.sizeOf a) n+3*l.length≥n+(PyFlat.told l).length
 | [],n=>by show n+0≥n+0;omega
 | a::l,n=>by
  have ih:=Uy l (n+RolENeutral.sizeOf a)
  have e:(PyFlat.told (a::l)).length=1+a.length+(PyFlat.told l).length:=by
   unfold PyFlat.told
   rw[List.flatMap_cons,List.length_append,List.length_cons]
   omega
  have z:RolENeutral.sizeOf a+2≥a.length:=by
   unfold RolENeutral.sizeOf
   split <;> omega
  rw[List.foldl_cons,List.length_cons,e]
  omega
theorem V2:∀ (l:List (List (List Int))) (d:RolE.Bench),RolENeutral.play d l=PyFlat.played RolENeutral.step d l
 | [],_=>rfl
 | c::r,d=>by
  show(RolENeutral.step d c).2::RolENeutral.play (RolENeutral.step d c).1 r=_
  rw[V2 r]
  rfl
theorem Tq:∀ (l:List (List (List Int))) (d:RolE.Bench),(PyFlat.played RolENeutral.step d l).length=l.length
 | [],_=>rfl
 | c::r,d=>by
  show(PyFlat.played RolENeutral.step (RolENeutral.step d c).1 r).length+1=_
  rw[Tq r]
  rfl
theorem ahB {ns:List Int} (h:PyWqazbu.answers_asked ns=true):(PyWqazbu.answers ns).length<=1001200:=by
 unfold PyWqazbu.answers_asked at h
 unfold PyWqazbu.answers
 cases e:PyWqazbu.calls ns with
 | none=>rw[e] at h;cases h
 | some cs =>
  rw[e] at h
  simp only [Bool.and_eq_true] at h
  have ha:=h.2
  unfold RolENeutral.asked at ha
  simp only [Bool.and_eq_true,decide_eq_true_eq] at ha
  have h1:=ha.2
  have h2:=ha.1.2
  have h3:=Uy (PyFlat.played RolENeutral.step RolENeutral.start cs) 0
  rw[V2] at h1
  rw[Tq] at h3
  show(PyFlat.told (PyFlat.played RolENeutral.step RolENeutral.start cs)).length<=1001200
  omega
end LM
end
section
namespace LM
open Rol
inductive jG:List Nat->List (Nat×Nat)->Prop
 | nil:jG [] []
 | cons {n:Nat}{b:Nat×Nat}{ns:List Nat}{bs:List (Nat×Nat)}:b.1<=n->n<=b.2->jG ns bs->jG (n::ns) (b::bs)
theorem jG.append {ns ms:List Nat}{bs cs:List (Nat×Nat)} (h:jG ns bs) (k:jG ms cs):jG (ns++ms) (bs++cs):=by
 induction h with
 | nil=>exact k
 | cons h1 h2 _ ih=>exact .cons h1 h2 ih
theorem xG {lo hi p:Nat}{b:Bytes}{n q:Nat}{r:Bytes} (h:numberIn lo hi p b=.ok (n,q,r)):lo<=n/\n<=hi:=by
 unfold numberIn at h
 simp only at h
 split at h
 ·cases h
 rename_i hc
 cases h
 exact⟨Nat.le_of_not_lt fun z=>hc (.inr (.inr (.inl z))),Nat.le_of_not_lt fun z=>hc (.inr (.inr (.inr z)))⟩
theorem oU {α β:Type}{r:Rd α}{f:α->Rd β}{p q:Nat}{b rest:Bytes}{y:β} (h:andThen r f p b=.ok (y,q,rest)):∃ x p1 b1,r p b=.ok (x,p1,b1)/\f x p1 b1=.ok (y,q,rest):=by
 unfold andThen at h
 cases e:r p b with
 | error k=>rw[e] at h;cases h
 | ok x =>
  obtain⟨x,p1,b1⟩:=x
  rw[e] at h
  exact⟨x,p1,b1,rfl,h⟩
theorem V3:∀ {bs:List (Nat×Nat)}{p q:Nat}{b r:Bytes}{ns:List Nat},et bs p b=.ok (ns,q,r)->jG ns bs
 | [],p,q,b,r,ns,h=>by
  cases h
  exact .nil
 | x::bs,p,q,b,r,ns,h=>by
  unfold et at h
  obtain⟨n,p1,b1,h1,h⟩:=oU h
  obtain⟨ms,p2,b2,h2,h⟩:=oU h
  cases h
  obtain⟨_,p3,b3,_,h3⟩:=oU h1
  obtain⟨g1,g2⟩:=xG (show numberIn x.1 x.2 p3 b3=.ok (n,p1,b1) from h3)
  exact .cons g1 g2 (V3 h2)
theorem ao9 {w:Bytes}{bs:List (Nat×Nat)}{p q:Nat}{b r:Bytes}{ns:List Nat} (h:jn w bs p b=.ok (ns,q,r)):jG ns bs:=by
 unfold jn at h
 obtain⟨_,p1,b1,_,h⟩:=oU h
 obtain⟨ms,p2,b2,h2,h⟩:=oU h
 obtain⟨_,p3,b3,_,h⟩:=oU h
 cases h
 exact V3 h2
theorem Vh:∀ {l:List (Bytes×List (Nat×Nat))}{p q:Nat}{b r:Bytes}{ns:List Nat},f7 l p b=.ok (ns,q,r)->jG ns (l.flatMap fun x=>x.2)
 | [],p,q,b,r,ns,h=>by
  cases h
  exact .nil
 | x::l,p,q,b,r,ns,h=>by
  unfold f7 at h
  obtain⟨a,p1,b1,h1,h⟩:=oU h
  obtain⟨ms,p2,b2,h2,h⟩:=oU h
  cases h
  rw[List.flatMap_cons]
  exact(ao9 h1).append (Vh h2)
structure Xi (ns:List Nat):Prop where
 ex:∃ W S G B P A M U D,ns=[W,S,G,B,P,A,M,U,D]/\1<=W/\W<=128/\S<=128/\G<=15/\B<=127/\P<=127/\A<=127/\M<=1023/\U<=1023/\D<=1023
theorem aoa {ns:List Nat} (h:jG ns (ez.flatMap fun x=>x.2)):Xi ns:=by
 have e:ez.flatMap (fun x=>x.2)=[(1,128),(0,128),(0,15),(0,127),(0,127),(0,127),(0,1023),(0,1023),(0,1023)]:=rfl
 rw[e] at h
 cases h with | cons a0 b0 h =>
 cases h with | cons a1 b1 h =>
 cases h with | cons a2 b2 h =>
 cases h with | cons a3 b3 h =>
 cases h with | cons a4 b4 h =>
 cases h with | cons a5 b5 h =>
 cases h with | cons a6 b6 h =>
 cases h with | cons a7 b7 h =>
 cases h with | cons a8 b8 h =>
 cases h
 exact⟨_,_,_,_,_,_,_,_,_,rfl,a0,b0,b1,b2,b3,b4,b5,b6,b7,b8⟩
end LM
end
section
namespace LM
open Rol
theorem Uz {w:Nat} (hw:1<=w):∀ {f least p:Nat}{cB:List Means}{b:Bytes}{l:List (Nat×Means)},trackLines w f least cB p b=.ok l->∀ x∈l,x.1<w
 | 0,least,p,cB,b,l,h=>by cases h
 | f+1,least,p,cB,b,l,h=>by
  unfold trackLines at h
  by_cases h0:b=[]
  ·rw[if_pos h0] at h
   cases h
   intro x hx
   cases hx
  rw[if_neg h0] at h
  by_cases h1:w<=least
  ·rw[if_pos h1] at h
   cases h
  rw[if_neg h1] at h
  cases e:trackLine w least cB p b with
  | error k=>rw[e] at h;cases h
  | ok y =>
   obtain⟨y,q,r⟩:=y
   rw[e] at h
   dsimp only at h
   cases e2:trackLines w f (y.1+1) (y.2::cB) q r with
   | error k=>rw[e2] at h;cases h
   | ok l2 =>
    rw[e2] at h
    cases h
    intro x hx
    rcases List.mem_cons.mp hx with rfl | hx
    ·have:=MK e
     omega
    exact Uz hw e2 x hx
structure gd (b:Bar):Prop where
 w1:1<=b.wide
 w2:b.wide<=128
 sp:b.split<=128
 tl:b.tail<=15
 bs:b.base<=127
 st:b.step<=127
 ac:b.accent<=127
 mo:b.most<=1023
 up:b.up<=1023
 dn:b.down<=1023
 tr:∀ x∈b.tracks,x.1<b.wide
theorem gd.of {ns:List Nat}{l:List (Nat×Means)} (h:Xi ns) (k:∀ x∈l,x.1<ns.getD 0 0):gd (qk ns l):=by
 obtain⟨W,S,G,B,P,A,M,U,D,rfl,h1,h2,h3,h4,h5,h6,h7,h8,h9,h10⟩:=h.ex
 exact⟨h1,h2,h3,h4,h5,h6,h7,h8,h9,h10,k⟩
structure iq (s:Strip):Prop where
 w1:1<=s.wide
 w2:s.wide<=128
 ln:s.rows.length<=256
 rw:∀ x∈s.rows,x<2 ^ s.wide
theorem RZ {w:Nat}:∀ {f least p:Nat}{b:Bytes}{x k q:Nat}{r:Bytes},tracksIn w f least p b=.ok ((x,k),q,r)->∃ y,x=y*2 ^ least/\x<2 ^ w
 | 0,least,p,b,x,k,q,r,h=>by cases h
 | f+1,least,p,b,x,k,q,r,h=>by
  unfold tracksIn at h
  split at h
  ·cases h
   exact⟨0,by omega,Nat.two_pow_pos _⟩
  ·rename_i r0
   by_cases h1:w<=least
   ·rw[if_pos h1] at h;cases h
   rw[if_neg h1] at h
   cases e:numberIn least (w-1) (p+1) r0 with
   | error k=>rw[e] at h;cases h
   | ok y =>
    obtain⟨t,q1,r1⟩:=y
    rw[e] at h
    dsimp only at h
    obtain⟨g1,g2⟩:=xG e
    cases e2:tracksIn w f (t+1) q1 r1 with
    | error k=>rw[e2] at h;cases h
    | ok z =>
     obtain⟨⟨z,k2⟩,q2,r2⟩:=z
     rw[e2] at h
     cases h
     obtain⟨y,hy1,Yj⟩:=RZ e2
     subst hy1
     obtain⟨d,rfl⟩:∃ d,t=least+d:=⟨t-least,by omega⟩
     have htw:least+d+1<=w:=by omega
     obtain⟨c,rfl⟩:∃ c,w=least+d+1+c:=⟨w-(least+d+1),by omega⟩
     refine⟨2 ^ d+y*2 ^ (d+1),?_,?_⟩
     ·rw[Nat.add_mul,<- Nat.pow_add,Nat.mul_assoc,<- Nat.pow_add,Nat.add_comm d least,show d+1+least=least+d+1 by omega]
     have hy3:y<2 ^ c:=by
      rw[Nat.pow_add _ _ c,Nat.mul_comm] at Yj
      exact Nat.lt_of_mul_lt_mul_left Yj
     have hle:(y+1)*2 ^ (least+d+1)<=2 ^ c*2 ^ (least+d+1):=Nat.mul_le_mul_right _ hy3
     rw[Nat.add_mul,<- Nat.pow_add,Nat.one_mul,Nat.add_comm c] at hle
     have hp:2 ^ (least+d)<2 ^ (least+d+1):=Nat.pow_lt_pow_right (by omega) (by omega)
     show 2 ^ (least+d)+y*2 ^ (least+d+1)<2 ^ (least+d+1+c)
     omega
  cases h
theorem Tr {w:Nat}:∀ {f cB p:Nat}{last:Option Row}{b:Bytes}{l:List (Nat×Row)},linesIn w f cB last p b=.ok l->cB<=256->cB+(rowsOf l).length<=256/\∀ x∈rowsOf l,x<2 ^ w
 | 0,cB,p,last,b,l,h,_=>by cases h
 | f+1,cB,p,last,b,l,h,hh=>by
  unfold linesIn at h
  by_cases h0:b=[]
  ·rw[if_pos h0] at h
   cases h
   exact⟨hh,fun x hx=>by cases hx⟩
  rw[if_neg h0] at h
  by_cases h1:ROWS<=cB
  ·rw[if_pos h1] at h;cases h
  rw[if_neg h1] at h
  have h1:cB<256:=Nat.lt_of_not_le h1
  cases e:numberIn 1 (ROWS-cB) p b with
  | error k=>rw[e] at h;cases h
  | ok y =>
   obtain⟨n,q1,r1⟩:=y
   rw[e] at h
   dsimp only at h
   obtain⟨g1,g2⟩:=xG e
   have g2:n<=256-cB:=g2
   cases e2:tracksIn w (w+1) 0 q1 r1 with
   | error k=>rw[e2] at h;cases h
   | ok z =>
    obtain⟨⟨z,k2⟩,q2,r2⟩:=z
    rw[e2] at h
    dsimp only at h
    by_cases h3:last=some z
    ·rw[if_pos h3] at h;cases h
    rw[if_neg h3] at h
    cases e3:linesIn w f (cB+n) (some z) q2 r2 with
    | error k=>rw[e3] at h;cases h
    | ok l2 =>
     rw[e3] at h
     cases h
     obtain⟨j1,j2⟩:=Tr e3 (by omega)
     obtain⟨_,_,hz⟩:=RZ e2
     have er:rowsOf ((n,z)::l2)=List.replicate n z++rowsOf l2:=by
      unfold rowsOf
      rw[List.flatMap_cons]
     rw[er]
     refine⟨by rw[List.length_append,List.length_replicate];omega,fun x hx=>?_⟩
     rcases List.mem_append.mp hx with hx | hx
     ·rw[(List.mem_replicate.mp hx).2];exact hz
     exact j2 x hx
theorem iq.of {B:Bytes}{s:Strip}{n:Nat} (h:readText B=.ok (s,n)):iq s:=by
 rw[RY] at h
 split at h
 ·cases h
 split at h
 ·cases h
 rename_i y1 e1 w e2
 obtain⟨w,q,r⟩:=w
 split at h
 ·cases h
 rename_i y3 e3
 split at h
 ·cases h
 rename_i l e4
 cases h
 obtain⟨g1,g2⟩:=xG e2
 obtain⟨j1,j2⟩:=Tr e4 (by omega)
 exact⟨g1,g2,(by show(rowsOf l).length<=256;omega),j2⟩
end LM
end
section
namespace LM
open Rol
theorem lex_irrefl:∀ l:List Nat,lexLess l l=false
 | []=>rfl
 | x::r=>by
  unfold lexLess
  rw[lex_irrefl r]
  simp
theorem lex_trans:∀ {a b c:List Nat},lexLess a b=true->lexLess b c=true->lexLess a c=true
 | [],[],_,h,_=>by cases h
 | [],_::_,[],_,h=>by cases h
 | [],_::_,_::_,_,_=>rfl
 | _::_,[],_,h,_=>by cases h
 | _::_,_::_,[],_,h=>by cases h
 | x::a,y::b,z::c,h,k=>by
  unfold lexLess at h k ⊢
  simp only [Bool.or_eq_true,decide_eq_true_eq,Bool.and_eq_true,beq_iff_eq] at h k ⊢
  rcases h with h | ⟨rfl,h⟩
  ·rcases k with k | ⟨rfl,k⟩
   ·exact .inl (Nat.lt_trans h k)
   exact .inl h
  rcases k with k | ⟨rfl,k⟩
  ·exact .inl k
  exact .inr ⟨rfl,lex_trans h k⟩
theorem UA:∀ {a b:List Nat},lexLess a b=false->lexLess b a=false->a=b
 | [],[],_,_=>rfl
 | [],_::_,h,_=>by cases h
 | _::_,[],_,h=>by cases h
 | x::a,y::b,h,k=>by
  unfold lexLess at h k
  simp only [Bool.or_eq_false_iff,decide_eq_false_iff_not,Bool.and_eq_false_iff,beq_eq_false_iff_ne] at h k
  have e:x=y:=by omega
  subst e
  have h2:lexLess a b=false:=by rcases h.2 with q | q;exact absurd rfl q;exact q
  have k2:lexLess b a=false:=by rcases k.2 with q | q;exact absurd rfl q;exact q
  rw[UA h2 k2]
theorem uh (a b:Worth):a.less b=true↔a.cost<b.cost\/(a.cost=b.cost/\(a.changes<b.changes\/(a.changes=b.changes/\lexLess a.vals b.vals=true))):=by
 unfold Worth.less
 simp only [Bool.or_eq_true,decide_eq_true_eq,Bool.and_eq_true,beq_iff_eq]
theorem R0 (a:Worth):a.less a=false:=by
 cases h:a.less a with
 | false=>rfl
 | true =>
  rw[uh,lex_irrefl] at h
  rcases h with h | ⟨_,h | ⟨_,h⟩⟩
  ·omega
  ·omega
  cases h
theorem Ts {a b c:Worth} (h:a.less b=true) (k:b.less c=true):a.less c=true:=by
 rw[uh] at h k ⊢
 rcases h with h | ⟨h1,h | ⟨h2,h⟩⟩ <;> rcases k with k | ⟨k1,k | ⟨k2,k⟩⟩
 ·left;omega
 ·left;omega
 ·left;omega
 ·left;omega
 ·right;exact⟨by omega,.inl (by omega)⟩
 ·right;exact⟨by omega,.inl (by omega)⟩
 ·left;omega
 ·right;exact⟨by omega,.inl (by omega)⟩
 right;exact⟨by omega,.inr ⟨by omega,lex_trans h k⟩⟩
theorem Tt {a b:Worth} (h:¬ a.less b=true) (k:¬ b.less a=true):a=b:=by
 rw[uh] at h k
 have e1:a.cost=b.cost:=by
  refine Nat.le_antisymm (Nat.le_of_not_lt fun z=>k (.inl z)) (Nat.le_of_not_lt fun z=>h (.inl z))
 have e2:a.changes=b.changes:=by
  refine Nat.le_antisymm (Nat.le_of_not_lt fun z=>k (.inr ⟨e1.symm,.inl z⟩)) (Nat.le_of_not_lt fun z=>h (.inr ⟨e1,.inl z⟩))
 have e3:a.vals=b.vals:=by
  refine UA ?_ ?_
  ·cases q:lexLess a.vals b.vals with
   | false=>rfl
   | true=>exact absurd (.inr ⟨e1,.inr ⟨e2,q⟩⟩) h
  cases q:lexLess b.vals a.vals with
  | false=>rfl
  | true=>exact absurd (.inr ⟨e1.symm,.inr ⟨e2.symm,q⟩⟩) k
 obtain⟨a1,a2,a3⟩:=a
 obtain⟨b1,b2,b3⟩:=b
 simp only at e1 e2 e3
 rw[e1,e2,e3]
def Le (a b:Worth):Prop:=¬ b.less a=true
theorem Le.refl (a:Worth):Le a a:=by unfold Le;rw[R0];simp
theorem Le.trans {a b c:Worth} (h:Le a b) (k:Le b c):Le a c:=fun z=>by
 by_cases q:a.less b=true
 ·exact k (Ts z q)
 have e:=Tt q h
 subst e
 exact k z
theorem Le.antisymm {a b:Worth} (h:Le a b) (k:Le b a):a=b:=Tt k h
theorem Le.of_less {a b:Worth} (h:a.less b=true):Le a b:=fun z=>by
 have:=Ts h z
 rw[R0] at this
 cases this
theorem UB:∀ {l:List Worth}{w:Worth},leastOf l=some w->w∈l/\∀ a∈l,Le w a
 | [],w,h=>by cases h
 | a::r,w,h=>by
  unfold leastOf at h
  cases e:leastOf r with
  | none =>
   rw[e] at h
   cases h
   have hr:r=[]:=by
    cases r with
    | nil=>rfl
    | cons x y =>
     unfold leastOf at e
     cases e2:leastOf y with
     | none=>rw[e2] at e;cases e
     | some c=>rw[e2] at e;dsimp only at e;split at e <;> cases e
   subst hr
   exact⟨List.mem_cons_self,fun z hz=>by rcases List.mem_cons.mp hz with rfl | hz;exact Le.refl _;cases hz⟩
  | some c =>
   rw[e] at h
   obtain⟨h1,h2⟩:=UB e
   dsimp only at h
   by_cases q:c.less a=true
   ·rw[if_pos q] at h
    cases h
    refine⟨List.mem_cons_of_mem _ h1,fun z hz=>?_⟩
    rcases List.mem_cons.mp hz with rfl | hz
    ·exact Le.of_less q
    exact h2 z hz
   rw[if_neg q] at h
   cases h
   refine⟨List.mem_cons_self,fun z hz=>?_⟩
   rcases List.mem_cons.mp hz with rfl | hz
   ·exact Le.refl _
   exact Le.trans q (h2 z hz)
theorem aja {l:List Worth} (h:l≠[]):∃ w,leastOf l=some w:=by
 cases l with
 | nil=>exact absurd rfl h
 | cons a r =>
  unfold leastOf
  cases leastOf r with
  | none=>exact⟨_,rfl⟩
  | some c =>
   dsimp only
   split <;> exact⟨_,rfl⟩
inductive Choice (g:Nat) (vs:List Nat):Option Nat->Nat->List (Nat×List Nat)->List Nat->Prop
 | nil {r:Option Nat}{x:Nat}:Choice g vs r x [] []
 | cons {r:Option Nat}{x y:Nat}{m:Nat×List Nat}{l:List (Nat×List Nat)}{ys:List Nat}:y∈vs->mayBe g r x y m.1=true->Choice g vs (some m.1) y l ys->Choice g vs r x (m::l) (y::ys)
def d9 (b:Bar):Nat->List (Nat×List Nat)->List Nat->Worth
 | x,m::l,y::ys=>⟨costAt b y m.2+(d9 b y l ys).cost,(if x=y then 0 else 1)+(d9 b y l ys).changes,y::(d9 b y l ys).vals⟩
 | _,_,_=>⟨0,0,[]⟩
def sk (b:Bar) (vs:List Nat) (r:Option Nat) (x:Nat) (ms:List (Nat×List Nat)) (w:Worth):Prop :=
 (∃ ys,Choice b.tail vs r x ms ys/\w=d9 b x ms ys)/\∀ ys,Choice b.tail vs r x ms ys->Le w (d9 b x ms ys)
theorem sk.one {b:Bar}{vs:List Nat}{r:Option Nat}{x:Nat}{ms:List (Nat×List Nat)}{w u:Worth} (h:sk b vs r x ms w) (k:sk b vs r x ms u):w=u:=by
 obtain⟨⟨ys,c1,e1⟩,h2⟩:=h
 obtain⟨⟨zs,d1,f1⟩,k2⟩:=k
 refine Le.antisymm ?_ ?_
 ·rw[f1];exact h2 zs d1
 rw[e1];exact k2 ys c1
theorem ajb {x y c:Nat}{a b:Worth} (h:Le a b):Le ⟨c+a.cost,x+a.changes,y::a.vals⟩ ⟨c+b.cost,x+b.changes,y::b.vals⟩:=fun z=>by
 refine h ?_
 rw[uh] at z ⊢
 unfold lexLess at z
 simp only [Bool.or_eq_true,decide_eq_true_eq,Bool.and_eq_true,beq_iff_eq,Nat.lt_irrefl,true_and,false_or] at z
 rcases z with z | ⟨z1,z | ⟨z2,z⟩⟩
 ·left;omega
 ·right;exact⟨by omega,.inl (by omega)⟩
 right;exact⟨by omega,.inr ⟨by omega,z⟩⟩
theorem UC {b:Bar}{vs:List Nat}:∀ {ms:List (Nat×List Nat)}{r:Option Nat},(∀ p∈ends b vs r ms,p.1∈vs/\sk b vs r p.1 ms p.2)/\∀ x∈vs,∃ w,(x,w)∈ends b vs r ms
 | [],r=>by
  unfold ends
  refine⟨fun p hp=>?_,fun x hx=>⟨_,List.mem_map.mpr ⟨x,hx,rfl⟩⟩⟩
  obtain⟨x,hx,rfl⟩:=List.mem_map.mp hp
  refine⟨hx,⟨[],.nil,rfl⟩,fun ys c=>?_⟩
  cases c
  exact Le.refl _
 | m::l,r=>by
  obtain⟨qL,qM⟩:=UC (b:=b) (vs:=vs) (ms:=l) (r:=some m.1)
  unfold ends
  refine⟨fun p hp=>?_,fun x hx=>?_⟩
  ·obtain⟨x,hx,hp⟩:=List.mem_filterMap.mp hp
   cases e:leastOf (((ends b vs (some m.1) l).filter fun y=>mayBe b.tail r x y.1 m.1).map fun y=>(⟨costAt b y.1 m.2+y.2.cost,(if x=y.1 then 0 else 1)+y.2.changes,y.1::y.2.vals⟩:Worth)) with
   | none=>rw[e] at hp;cases hp
   | some w =>
    rw[e] at hp
    cases hp
    obtain⟨h1,h2⟩:=UB e
    obtain⟨q,hq,rfl⟩:=List.mem_map.mp h1
    obtain⟨bF,eN⟩:=List.mem_filter.mp hq
    obtain⟨g1,⟨ys,c,e1⟩,g3⟩:=qL q bF
    refine⟨hx,⟨q.1::ys,.cons g1 eN c,?_⟩,fun zs cz=>?_⟩
    ·show _=d9 b x (m::l) (q.1::ys)
     unfold d9
     rw[<- e1]
    cases cz with
    | @cons _ _ y _ _ Yk hy hm c2 =>
     obtain⟨u,hu⟩:=qM y hy
     obtain⟨_,_,g4⟩:=qL (y,u) hu
     have k1:=h2 _ (List.mem_map.mpr ⟨(y,u),List.mem_filter.mpr ⟨hu,hm⟩,rfl⟩)
     refine Le.trans k1 ?_
     show Le _ (d9 b x (m::l) (y::Yk))
     unfold d9
     exact ajb (g4 Yk c2)
  obtain⟨u,hu⟩:=qM x hx
  have cq:(((ends b vs (some m.1) l).filter fun y=>mayBe b.tail r x y.1 m.1).map fun y=>(⟨costAt b y.1 m.2+y.2.cost,(if x=y.1 then 0 else 1)+y.2.changes,y.1::y.2.vals⟩:Worth))≠[]:=fun z=>by
   have hf:(x,u)∈(ends b vs (some m.1) l).filter fun y=>mayBe b.tail r x y.1 m.1:=List.mem_filter.mpr ⟨hu,by unfold mayBe;simp⟩
   rw[List.map_eq_nil_iff.mp z] at hf
   cases hf
  obtain⟨w,hw⟩:=aja cq
  exact⟨w,List.mem_filterMap.mpr ⟨x,hx,by rw[hw];rfl⟩⟩
theorem Tu (b:Bar) (k:Nat):0∈values b k:=by
 unfold values
 exact List.mem_filter.mpr ⟨by decide,rfl⟩
theorem al3 (b:Bar) (k:Nat) (l:List Wish):sk b (values b k) none 0 (moments k l) (best b k l):=by
 obtain⟨h1,h2⟩:=UC (b:=b) (vs:=values b k) (ms:=moments k l) (r:=none)
 unfold best
 obtain⟨w,hw⟩:=h2 0 (Tu b k)
 cases e:(ends b (values b k) none (moments k l)).find? (fun y=>y.1==0) with
 | none =>
  have:=List.find?_eq_none.mp e (0,w) hw
  exact absurd rfl this
 | some p =>
  have hp:=List.mem_of_find?_eq_some e
  have h0:p.1=0:=by have:=List.find?_some e;simpa using this
  obtain⟨_,g⟩:=h1 p hp
  rw[h0] at g
  exact g
theorem aob {b:Bar}{k:Nat}{l:List Wish}{w:Worth} (h:sk b (values b k) none 0 (moments k l) w):best b k l=w:=(al3 b k l).one h
end LM
end
section
namespace LM
open Rol
theorem Tv (n:Nat) (p:Nat->Bool):rowOf (n+1) p=rowOf n p+(if p n=true then 2 ^ n else 0):=by
 unfold rowOf
 rw[List.range_succ,List.map_append,List.foldl_append]
 rfl
theorem apT (y z:Nat) (b:Bool) (h:y<z):y+(if b=true then z else 0)<z*2:=by
 split <;> omega
theorem Vi:∀ (n:Nat) (p:Nat->Bool),@LT.lt Nat instLTNat (rowOf n p) (2 ^ n)
 | 0,_=>(by decide:(0:Nat)<1)
 | n+1,p=>by
  rw[Tv,Nat.pow_succ]
  exact apT _ _ _ (Vi n p)
theorem DC:∀ (n:Nat) (p:Nat->Bool) (k:Nat),k<n->Nat.testBit (rowOf n p) k=p k
 | 0,_,k,h=>by omega
 | n+1,p,k,h=>by
  have hl:=Vi n p
  rw[Tv]
  cases hp:p n with
  | false =>
   rw[if_neg Bool.false_ne_true,Nat.add_zero]
   by_cases hk:k=n
   ·subst hk
    rw[hp]
    exact Nat.testBit_lt_two_pow hl
   exact DC n p k (by omega)
  | true =>
   rw[if_pos rfl,<- Wy hl,Nat.testBit_or,Nat.testBit_two_pow]
   by_cases hk:k=n
   ·subst hk
    rw[hp,decide_eq_true rfl,Bool.or_true]
   rw[decide_eq_false (Ne.symm hk),Bool.or_false]
   exact DC n p k (by omega)
theorem al4 (b:Bar) (x:Row) {k:Nat} (h:k<128):Row.hole (b.heard x) k=b.has x (.key k):=by
 unfold Row.hole Bar.heard Bar.has
 rw[DC 128 _ k h]
theorem QI (b:Bar) (s:Strip) (i:Nat) (st:State):strikesAt b s i st=((List.range 128).filter fun k=>b.has (s.newRow b.tail i) (.key k)).map fun k=>⟨i,k,force b (s.soundRow b.tail i) (b.side k) (st.side (b.side k))⟩:=by
 unfold strikesAt
 dsimp only
 congr 1
 refine List.filter_congr fun k hk=>?_
 exact al4 b _ (List.mem_range.mp hk)
theorem ML (b:Bar) (s:Strip):∀ (n m i:Nat) (st:State),strikesFrom b s (n+m) i st=strikesFrom b s n i st++strikesFrom b s m (i+n) ((List.range n).foldl (fun (u:State) (j:Nat)=>u.at_ b (s.soundRow b.tail (i+j))) st)
 | 0,m,i,st=>by
  rw[Nat.zero_add]
  rfl
 | n+1,m,i,st=>by
  rw[show n+1+m=(n+m)+1 by omega]
  show strikesAt b s i (st.at_ b (s.soundRow b.tail i))++strikesFrom b s (n+m) (i+1) (st.at_ b (s.soundRow b.tail i))=strikesAt b s i (st.at_ b (s.soundRow b.tail i))++strikesFrom b s n (i+1) (st.at_ b (s.soundRow b.tail i))++_
  rw[ML b s n m (i+1),List.append_assoc,List.range_succ_eq_map,List.foldl_cons,List.foldl_map]
  congr 2
  rw[show i+1+n=i+(n+1) by omega]
  congr 1
  show(List.range n).foldl (fun (u:State) (j:Nat)=>u.at_ b (s.soundRow b.tail (i+1+j))) _=(List.range n).foldl (fun (u:State) (j:Nat)=>u.at_ b (s.soundRow b.tail (i+(j+1)))) _
  congr 1
  funext u j
  rw[show i+1+j=i+(j+1) by omega]
theorem Tw (b:Bar) (s:Strip):∀ n,(List.range n).foldl (fun (u:State) (j:Nat)=>u.at_ b (s.soundRow b.tail (0+j))) State.start=stateAfter b s n
 | 0=>rfl
 | n+1=>by
  rw[List.range_succ,List.foldl_append,Tw b s n]
  show(stateAfter b s n).at_ b (s.soundRow b.tail (0+n))=_
  rw[Nat.zero_add]
  rfl
theorem QJ (b:Bar) (s:Strip) (n:Nat):strikesFrom b s (n+1) 0 State.start=strikesFrom b s n 0 State.start++strikesAt b s n (stateAfter b s (n+1)):=by
 rw[ML b s n 1 0 State.start,Tw,Nat.zero_add]
 congr 1
 show strikesAt b s n ((stateAfter b s n).at_ b (s.soundRow b.tail n))++[]=_
 rw[List.append_nil]
 rfl
theorem V4 (b:Bar) (s:Strip) (n:Nat):(stateAfter b s n).bass.lock<8/\(stateAfter b s n).treble.lock<8:=by
 have hl:∀ x k,locksIn b x k<8:=fun x k=>by
  unfold locksIn
  have h1:∀ (i:Nat),i<3->(if b.has x (.lock i k)=true then 2 ^ i else 0)<2 ^ 3:=fun i hi=>by
   split
   ·exact Nat.pow_lt_pow_right (by omega) hi
   decide
  show(List.range 3).foldl _ 0<2 ^ 3
  rw[show List.range 3=[0,1,2] from rfl]
  simp only [List.foldl_cons,List.foldl_nil]
  exact Nat.or_lt_two_pow (Nat.or_lt_two_pow (Nat.or_lt_two_pow (by decide) (h1 0 (by decide))) (h1 1 (by decide))) (h1 2 (by decide))
 induction n with
 | zero=>exact⟨(by show 0<8;omega),(by show 0<8;omega)⟩
 | succ n ih =>
  have one:∀ x k (t:Side),t.lock<8->(t.at_ b x k).lock<8:=fun x k t h=>by
   show(if b.has x (.cancel k)=true then 0 else t.lock)|||locksIn b x k<2 ^ 3
   refine Nat.or_lt_two_pow ?_ (hl x k)
   split
   ·decide
   exact h
  exact⟨one _ _ _ ih.1,one _ _ _ ih.2⟩
end LM
end
section
namespace LM
open Rol
end LM
end
section
namespace LM
open Rol
def bq (k:Nat) (l:List Wish):List Wish:=l.filter fun (w:Wish)=>w.side==k
def zh (k:Nat) (l:List Wish):List Nat:=(bq k l).map fun (w:Wish)=>w.row
theorem yk (k:Nat) (l:List Wish):moments k l=(zh k l).eraseDups.map fun (r:Nat)=>(r,((bq k l).filter fun (w:Wish)=>w.row==r).map fun (w:Wish)=>w.force):=rfl
theorem ajc {k:Nat}{l:List Wish}{w:Wish} (h:w.side≠k):bq k (l++[w])=bq k l:=by
 unfold bq
 rw[List.filter_append,List.filter_cons_of_neg (by simpa using h),List.filter_nil,List.append_nil]
theorem amB {k:Nat}{l:List Wish}{w:Wish} (h:w.side=k):bq k (l++[w])=bq k l++[w]:=by
 unfold bq
 rw[List.filter_append,List.filter_cons_of_pos (by simpa using h),List.filter_nil]
theorem Dj:∀ {l:List Wish},RolE.inOrder l=true->l.Pairwise fun (a b:Wish)=>a.row<=b.row
 | [],_=>.nil
 | [_],_=>List.pairwise_singleton _ _
 | a::b::r,h=>by
  unfold RolE.inOrder at h
  rw[Bool.and_eq_true,decide_eq_true_eq] at h
  have ih:=Dj h.2
  refine List.Pairwise.cons (fun c hc=>?_) ih
  rcases List.mem_cons.mp hc with rfl | hc
  ·exact h.1
  exact Nat.le_trans h.1 ((List.pairwise_cons.mp ih).1 c hc)
end LM
end
section
namespace LM
open Rol
def fh:List Wish->List (Nat×List Nat)
 | []=>[]
 | w::l=>match fh l with
  | []=>[(w.row,[w.force])]
  | m::t=>if w.row=m.1 then (m.1,w.force::m.2)::t else (w.row,[w.force])::m::t
def aZ (gap:Nat):List Wish->List (List Wish)
 | []=>[]
 | w::l=>match aZ gap l with
  | []=>[[w]]
  | s::t=>match s with
   | []=>[w]::t
   | v::s=>if w.row+gap<=v.row then [w]::(v::s)::t else (w::v::s)::t
def pC (l:List Wish):Prop:=l.Pairwise fun (a b:Wish)=>a.row<=b.row
theorem rP (w v:Wish) (l:List Wish):∃ fs t,fh (v::l)=(v.row,fs)::t/\fh (w::v::l)=if w.row=v.row then (v.row,w.force::fs)::t else (w.row,[w.force])::(v.row,fs)::t:=by
 have hh:∃ fs t,fh (v::l)=(v.row,fs)::t:=by
  show ∃ fs t,(match fh l with | []=>[(v.row,[v.force])] | m::t=>if v.row=m.1 then (m.1,v.force::m.2)::t else (v.row,[v.force])::m::t)=_
  cases fh l with
  | nil=>exact⟨_,_,rfl⟩
  | cons m t =>
   dsimp only
   by_cases h:v.row=m.1
   ·rw[if_pos h,h];exact⟨_,_,rfl⟩
   rw[if_neg h];exact⟨_,_,rfl⟩
 obtain⟨fs,t,e⟩:=hh
 refine⟨fs,t,e,?_⟩
 show(match fh (v::l) with | []=>[(w.row,[w.force])] | m::t=>if w.row=m.1 then (m.1,w.force::m.2)::t else (w.row,[w.force])::m::t)=_
 rw[e]
theorem nL (gap:Nat) (w v:Wish) (l:List Wish):∃ s t,aZ gap (v::l)=(v::s)::t/\aZ gap (w::v::l)=if w.row+gap<=v.row then [w]::(v::s)::t else (w::v::s)::t:=by
 have hh:∃ s t,aZ gap (v::l)=(v::s)::t:=by
  show ∃ s t,(match aZ gap l with | []=>[[v]] | s::t=>match s with | []=>[v]::t | u::s=>if v.row+gap<=u.row then [v]::(u::s)::t else (v::u::s)::t)=_
  cases aZ gap l with
  | nil=>exact⟨_,_,rfl⟩
  | cons s t =>
   cases s with
   | nil=>exact⟨_,_,rfl⟩
   | cons u s =>
    dsimp only
    split <;> exact⟨_,_,rfl⟩
 obtain⟨s,t,e⟩:=hh
 refine⟨s,t,e,?_⟩
 show(match aZ gap (v::l) with | []=>[[w]] | s::t=>match s with | []=>[w]::t | v::s=>if w.row+gap<=v.row then [w]::(v::s)::t else (w::v::s)::t)=_
 rw[e]
theorem aoc (w:Wish):fh [w]=[(w.row,[w.force])]:=rfl
theorem yW (gap:Nat) (w:Wish):aZ gap [w]=[[w]]:=rfl
theorem DP {k:Nat}{l:List Wish} (h:∀ w∈l,w.side=k):bq k l=l:=by
 unfold bq
 exact List.filter_eq_self.mpr fun w hw=>by simpa using h w hw
theorem QK (k:Nat) (l:List Wish):moments k l=moments k (bq k l):=by
 rw[yk,yk]
 unfold zh
 rw[show bq k (bq k l)=bq k l from by unfold bq;rw[List.filter_filter];congr 1;funext w;simp]
theorem aeN {x:Nat}{l:List Nat} (h:∀ y∈l,x<y):(x::l).eraseDups=x::l.eraseDups:=by
 rw[List.eraseDups_cons]
 congr 2
 exact List.filter_eq_self.mpr fun y hy=>by have:=h y hy;simp;omega
theorem abM (x:Nat) (l:List Nat):(x::x::l).eraseDups=(x::l).eraseDups:=by
 rw[List.eraseDups_cons,List.eraseDups_cons (a:=x) (as:=l)]
 rw[List.filter_cons_of_neg (by simp)]
theorem C0 {k:Nat}:∀ {l:List Wish},(∀ w∈l,w.side=k)->pC l->moments k l=fh l
 | [],_,_=>rfl
 | [w],h,_=>by
  rw[yk]
  unfold zh
  rw[DP h]
  show([w.row].eraseDups).map _=_
  rw[show[w.row].eraseDups=[w.row] from rfl]
  show[(w.row,(([w].filter fun (u:Wish)=>u.row==w.row).map fun (u:Wish)=>u.force))]=_
  rw[List.filter_cons_of_pos (by simp)]
  rfl
 | w::v::l,h,ha=>by
  have h':∀ u∈v::l,u.side=k:=fun u hu=>h u (List.mem_cons_of_mem _ hu)
  have jH:pC (v::l):=(List.pairwise_cons.mp ha).2
  have ih:=C0 h' jH
  obtain⟨fs,t,e1,e2⟩:=rP w v l
  rw[e2]
  have Yl:w.row<=v.row:=(List.pairwise_cons.mp ha).1 v List.mem_cons_self
  rw[yk] at ih ⊢
  unfold zh at ih ⊢
  rw[DP h'] at ih
  rw[DP h]
  by_cases q:w.row=v.row
  ·rw[if_pos q]
   show((w.row::v.row::l.map fun (u:Wish)=>u.row).eraseDups).map _=_
   rw[q,abM]
   rw[e1] at ih
   rw[List.map_cons,List.eraseDups_cons,List.map_cons] at ih
   rw[List.eraseDups_cons,List.map_cons]
   injection ih with i1 i2
   injection i1 with _ i3
   congr 1
   ·rw[List.filter_cons_of_pos (by simpa using q),List.map_cons,i3]
   rw[<- i2]
   refine List.map_congr_left fun r hr=>?_
   have mL:r≠v.row:=by
    have:=List.mem_eraseDups.mp hr
    have:=(List.mem_filter.mp this).2
    simpa using this
   rw[List.filter_cons_of_neg (by rw[q];simpa using fun z=>mL z.symm)]
  rw[if_neg q]
  show((w.row::(v::l).map fun (u:Wish)=>u.row).eraseDups).map _=_
  have aO:∀ y∈(v::l).map (fun (u:Wish)=>u.row),w.row<y:=fun y hy=>by
   obtain⟨u,hu,rfl⟩:=List.mem_map.mp hy
   have h1:w.row<v.row:=by omega
   rcases List.mem_cons.mp hu with rfl | hu
   ·exact h1
   exact Nat.lt_of_lt_of_le h1 ((List.pairwise_cons.mp jH).1 u hu)
  rw[aeN aO,List.map_cons,<- e1,<- ih]
  congr 1
  ·rw[List.filter_cons_of_pos (by simp)]
   rw[show(v::l).filter (fun (u:Wish)=>u.row==w.row)=[] from List.filter_eq_nil_iff.mpr fun u hu z=>by
    have:=aO u.row (List.mem_map.mpr ⟨u,hu,rfl⟩)
    have z':u.row=w.row:=by simpa using z
    omega]
   rfl
  refine List.map_congr_left fun r hr=>?_
  have mL:w.row≠r:=by
   have:=aO r (List.mem_eraseDups.mp hr)
   omega
  rw[List.filter_cons_of_neg (by simpa using mL)]
def fL (gap:Nat) (spans:List (List Wish)) (w:Wish):List (List Wish) :=
 match spans with
 | []=>[[w]]
 | [s]=>match s.getLast? with
  | none=>[[w]]
  | some v=>if v.row+gap<=w.row then [s,[w]] else [s++[w]]
 | s::t::r=>s::fL gap (t::r) w
theorem Ec (gap:Nat):∀ (l:List Wish),[]∉aZ gap l
 | []=>by simp[aZ]
 | [w]=>by simp[yW]
 | w::v::l=>by
  obtain⟨s,t,e1,e2⟩:=nL gap w v l
  have ih:=Ec gap (v::l)
  rw[e1] at ih
  rw[e2]
  split
  ·intro z
   rcases List.mem_cons.mp z with z | z
   ·cases z
   exact ih z
  intro z
  rcases List.mem_cons.mp z with z | z
  ·cases z
  exact ih (List.mem_cons_of_mem _ z)
theorem Vj (gap:Nat) (u:Wish):∀ (l:List Wish),aZ gap (l++[u])=fL gap (aZ gap l) u
 | []=>rfl
 | [w]=>by
  show aZ gap [w,u]=fL gap [[w]] u
  obtain⟨s,t,e1,e2⟩:=nL gap w u []
  rw[yW] at e1
  injection e1 with a1 a2
  injection a1 with _ a3
  subst a2 a3
  rw[e2]
  show _=match [w].getLast? with | none=>[[u]] | some v=>if v.row+gap<=u.row then [[w],[u]] else [[w]++[u]]
  rfl
 | w::v::l=>by
  have ih:=Vj gap u (v::l)
  obtain⟨s,t,e1,e2⟩:=nL gap w v l
  obtain⟨s',t',e1',e2'⟩:=nL gap w v (l++[u])
  have arZ:aZ gap (v::l++[u])=(v::s')::t':=e1'
  have as0:aZ gap (w::v::l++[u])=_:=e2'
  rw[as0,e2]
  rw[e1,arZ] at ih
  cases t with
  | nil =>
   have hi:fL gap [v::s] u=match (v::s).getLast? with | none=>[[u]] | some x=>if x.row+gap<=u.row then [v::s,[u]] else [(v::s)++[u]]:=rfl
   rw[hi] at ih
   cases hg:(v::s).getLast? with
   | none=>rw[List.getLast?_eq_none_iff] at hg;cases hg
   | some x =>
    rw[hg] at ih
    dsimp only at ih
    have Ym:(w::v::s).getLast?=some x:=by rw[List.getLast?_cons_cons];exact hg
    by_cases q:x.row+gap<=u.row
    ·rw[if_pos q] at ih
     injection ih with i1 i2
     injection i1 with _ i3
     subst i2 i3
     split
     ·show _=[w]::fL gap [v::s'] u
      rw[show fL gap [v::s'] u=match (v::s').getLast? with | none=>[[u]] | some x=>if x.row+gap<=u.row then [v::s',[u]] else [(v::s')++[u]] from rfl,hg]
      dsimp only
      rw[if_pos q]
     show _=match (w::v::s').getLast? with | none=>[[u]] | some x=>if x.row+gap<=u.row then [w::v::s',[u]] else [(w::v::s')++[u]]
     rw[Ym]
     dsimp only
     rw[if_pos q]
    rw[if_neg q] at ih
    injection ih with i1 i2
    injection i1 with _ i3
    subst i2 i3
    split
    ·show _=[w]::fL gap [v::s] u
     rw[hi,hg]
     dsimp only
     rw[if_neg q]
     rfl
    show _=match (w::v::s).getLast? with | none=>[[u]] | some x=>if x.row+gap<=u.row then [w::v::s,[u]] else [(w::v::s)++[u]]
    rw[Ym]
    dsimp only
    rw[if_neg q]
    rfl
  | cons t0 t =>
   have hi:fL gap ((v::s)::t0::t) u=(v::s)::fL gap (t0::t) u:=rfl
   rw[hi] at ih
   injection ih with i1 i2
   injection i1 with _ i3
   subst i3
   split
   ·show _=[w]::(v::s')::fL gap (t0::t) u
    rw[i2]
   show _=(w::v::s')::fL gap (t0::t) u
   rw[i2]
end LM
end
section
namespace LM
open Rol
theorem QL {gap:Nat}{s:List Wish}{v w:Wish} (h:s.getLast?=some v):∀ (init:List (List Wish)),fL gap (init++[s]) w=if v.row+gap<=w.row then init++[s,[w]] else init++[s++[w]]
 | []=>by
  show(match s.getLast? with | none=>[[w]] | some v=>if v.row+gap<=w.row then [s,[w]] else [s++[w]])=_
  rw[h]
  rfl
 | a::init=>by
  have hc:∃ b r,init++[s]=b::r:=by
   cases init with
   | nil=>exact⟨_,_,rfl⟩
   | cons b r=>exact⟨_,_,rfl⟩
  obtain⟨b,r,e⟩:=hc
  have ih:=QL (gap:=gap) (w:=w) h init
  rw[e] at ih
  show fL gap (a::(init++[s])) w=_
  rw[e]
  show a::fL gap (b::r) w=_
  rw[ih]
  split <;> rfl
def cb (ss:List (List Wish)):List Nat:=ss.map fun s=>(fh s).length
def expand:List Nat->List Nat->List Nat
 | n::ns,z::zs=>List.replicate n z++expand ns zs
 | _,_=>[]
def chg:Nat->List Nat->Nat
 | _,[]=>0
 | x,z::zs=>(if x=z then 0 else 1)+chg z zs
def bX (b:Bar) (z:Nat) (s:List Wish):Nat:=costAt b z (s.map fun (w:Wish)=>w.force)
def dG (b:Bar):List (List Wish)->List Nat->Nat
 | s::ss,z::zs=>bX b z s+dG b ss zs
 | _,_=>0
theorem tR (b:Bar) (z f:Nat) (fs:List Nat):costAt b z (f::fs)=apartBy (min 127 (b.base+b.step*z)) f+costAt b z fs:=by
 unfold costAt
 rw[List.map_cons,List.foldl_cons,Nat.zero_add]
 generalize fs.map (apartBy (min 127 (b.base+b.step*z)))=l
 generalize apartBy (min 127 (b.base+b.step*z)) f=a
 have:∀ (l:List Nat) (a c:Nat),l.foldl (fun (x y:Nat)=>x+y) (a+c)=a+l.foldl (fun (x y:Nat)=>x+y) c:=by
  intro l
  induction l with
  | nil=>intro a c;rfl
  | cons y l ih=>intro a c;rw[List.foldl_cons,List.foldl_cons,Nat.add_assoc,ih]
 have h:=this l a 0
 rw[Nat.add_zero] at h
 exact h
theorem xH {g:Nat}{vs:List Nat}{b:Bar}:∀ {l:List Wish},pC l->∀ {r:Option Nat}{x:Nat},
  (∀ ys,Choice g vs r x (fh l) ys->(∀ w,l.head?=some w->∀ y,ys.head?=some y->mayBe g r x y w.row=true) /\
   ∃ zs,zs.length=(aZ (g+2) l).length/\(∀ z∈zs,z∈vs)/\ys=expand (cb (aZ (g+2) l)) zs/\ys.head?=zs.head?) /\
  (∀ zs,zs.length=(aZ (g+2) l).length->(∀ z∈zs,z∈vs)->(∀ w,l.head?=some w->∀ z,zs.head?=some z->mayBe g r x z w.row=true) ->
   Choice g vs r x (fh l) (expand (cb (aZ (g+2) l)) zs)/\(expand (cb (aZ (g+2) l)) zs).head?=zs.head? /\
   d9 b x (fh l) (expand (cb (aZ (g+2) l)) zs)=⟨dG b (aZ (g+2) l) zs,chg x zs,expand (cb (aZ (g+2) l)) zs⟩)
 | [],_,r,x=>by
  refine⟨fun ys c=>⟨fun w hw=>(nomatch hw),[],rfl,fun z hz=>(nomatch hz),?_,?_⟩,fun zs hl _ _=>?_⟩
  ·cases c;rfl
  ·cases c;rfl
  have:zs=[]:=List.length_eq_zero_iff.mp hl
  subst this
  exact⟨.nil,rfl,rfl⟩
 | [w],_,r,x=>by
  refine⟨fun ys c=>?_,fun zs hl hv hm=>?_⟩
  ·rw[aoc] at c
   cases c with
   | @cons _ _ y _ _ ys hy hm c =>
    cases c
    refine⟨fun w' fW y' vB=>?_,[y],rfl,fun z hz=>?_,rfl,rfl⟩
    ·cases fW;cases vB;exact hm
    rw[List.mem_singleton.mp hz];exact hy
  have:∃ z,zs=[z]:=by
   match zs,hl with
   | [z],_=>exact⟨z,rfl⟩
  obtain⟨z,rfl⟩:=this
  refine⟨?_,rfl,?_⟩
  ·exact .cons (hv z List.mem_cons_self) (hm w rfl z rfl) .nil
  show(⟨costAt b z [w.force]+0,(if x=z then 0 else 1)+0,[z]⟩:Worth)=⟨bX b z [w]+0,(if x=z then 0 else 1)+0,[z]⟩
  rfl
 | w::v::l,ha,r,x=>by
  have jH:pC (v::l):=(List.pairwise_cons.mp ha).2
  have Yl:w.row<=v.row:=(List.pairwise_cons.mp ha).1 v List.mem_cons_self
  obtain⟨fs,t,m1,m2⟩:=rP w v l
  obtain⟨s,u,g1,g2⟩:=nL (g+2) w v l
  obtain⟨pd,t',n1,n2⟩:=rP w v s
  by_cases q:w.row=v.row
  ·
   have hj:¬ w.row+(g+2)<=v.row:=by omega
   rw[if_pos q] at m2 n2
   rw[if_neg hj] at g2
   obtain⟨qL,qM⟩:=xH (g:=g) (vs:=vs) (b:=b) jH (r:=r) (x:=x)
   rw[m1,g1] at qL qM
   rw[m2,g2]
   have n8:cb ((w::v::s)::u)=cb ((v::s)::u):=by
    unfold cb
    rw[List.map_cons,List.map_cons,n1,n2]
    rfl
   rw[n8]
   refine⟨fun ys c=>?_,fun zs hl hv hm=>?_⟩
   ·have c':Choice g vs r x ((v.row,fs)::t) ys:=by
     cases c with
     | cons h1 h2 h3=>exact .cons h1 h2 h3
    obtain⟨k1,zs,k2,k3,k4,k5⟩:=qL ys c'
    refine⟨fun w' fW y hy=>?_,zs,k2,k3,k4,k5⟩
    cases fW
    rw[q]
    exact k1 v rfl y hy
   obtain⟨k1,k2,k3⟩:=qM zs hl hv (fun w' fW z hz=>by cases fW;rw[<- q];exact hm w rfl z hz)
   refine⟨?_,k2,?_⟩
   ·cases hE:expand (cb ((v::s)::u)) zs with
    | nil=>rw[hE] at k1;cases k1
    | cons y ys =>
     rw[hE] at k1
     cases k1 with
     | cons h1 h2 h3=>exact .cons h1 h2 h3
   cases zs with
   | nil=>cases hl
   | cons z zs =>
    cases hE:expand (cb ((v::s)::u)) (z::zs) with
    | nil=>rw[hE] at k1;cases k1
    | cons y ys =>
     rw[hE] at k1 k2 k3
     have Fx:y=z:=by simpa using k2
     subst Fx
     have Fq:(⟨costAt b y fs+(d9 b y t ys).cost,(if x=y then 0 else 1)+(d9 b y t ys).changes,y::(d9 b y t ys).vals⟩:Worth)=⟨bX b y (v::s)+dG b u zs,chg x (y::zs),y::ys⟩:=k3
     injection Fq with e1 e2 e3
     show(⟨costAt b y (w.force::fs)+(d9 b y t ys).cost,(if x=y then 0 else 1)+(d9 b y t ys).changes,y::(d9 b y t ys).vals⟩:Worth)=⟨bX b y (w::v::s)+dG b u zs,chg x (y::zs),y::ys⟩
     rw[e2,e3]
     have ec:bX b y (w::v::s)=apartBy (min 127 (b.base+b.step*y)) w.force+bX b y (v::s):=by
      unfold bX
      rw[List.map_cons,tR]
     rw[ec,tR,Nat.add_assoc,e1,<- Nat.add_assoc]
  rw[if_neg q] at m2 n2
  obtain⟨qL,qM⟩:=xH (g:=g) (vs:=vs) (b:=b) jH (r:=some w.row) (x:=0)
  have ih:∀ y,_:=fun y=>xH (g:=g) (vs:=vs) (b:=b) jH (r:=some w.row) (x:=y)
  clear qL qM
  rw[m1,g1] at ih
  rw[m2,g2]
  by_cases hj:w.row+(g+2)<=v.row
  ·
   rw[if_pos hj]
   have n8:cb ([w]::(v::s)::u)=1::cb ((v::s)::u):=rfl
   rw[n8]
   have sr:∀ x y,mayBe g (some w.row) x y v.row=true:=fun x y=>by
    unfold mayBe
    rw[Bool.or_eq_true]
    right
    rw[decide_eq_true_eq]
    omega
   refine⟨fun ys c=>?_,fun zs hl hv hm=>?_⟩
   ·cases c with
    | @cons _ _ y _ _ ys hy Fy c =>
     obtain⟨k1,zs,k2,k3,k4,k5⟩:=(ih y).1 ys c
     refine⟨fun w' fW y' vB=>?_,y::zs,?_,fun z hz=>?_,?_,rfl⟩
     ·cases fW;cases vB;exact Fy
     ·rw[List.length_cons,k2];rfl
     ·rcases List.mem_cons.mp hz with rfl | hz
      ·exact hy
      exact k3 z hz
     rw[k4];rfl
   cases zs with
   | nil=>cases hl
   | cons z zs =>
    have EV:zs.length=((v::s)::u).length:=by simpa using hl
    obtain⟨k1,k2,k3⟩:=(ih z).2 zs EV (fun y hy=>hv y (List.mem_cons_of_mem _ hy)) (fun w' fW y _=>by cases fW;exact sr _ _)
    refine⟨?_,rfl,?_⟩
    ·exact .cons (hv z List.mem_cons_self) (hm w rfl z rfl) k1
    show(⟨costAt b z [w.force]+(d9 b z ((v.row,fs)::t) (expand (cb ((v::s)::u)) zs)).cost,(if x=z then 0 else 1)+(d9 b z ((v.row,fs)::t) (expand (cb ((v::s)::u)) zs)).changes,z::(d9 b z ((v.row,fs)::t) (expand (cb ((v::s)::u)) zs)).vals⟩:Worth)=_
    rw[k3]
    rfl
  rw[if_neg hj]
  have n8:cb ((w::v::s)::u)=((fh (v::s)).length+1)::cb u:=by
   unfold cb
   rw[List.map_cons,n1,n2]
   rfl
  have auW:cb ((v::s)::u)=(fh (v::s)).length::cb u:=rfl
  rw[n8]
  have Xj:∀ z zs,expand (((fh (v::s)).length+1)::cb u) (z::zs)=z::expand (cb ((v::s)::u)) (z::zs):=fun z zs=>rfl
  have sr:∀ x y,mayBe g (some w.row) x y v.row=true->x=y:=fun x y h=>by
   unfold mayBe at h
   rw[Bool.or_eq_true,decide_eq_true_eq] at h
   rcases h with h | h
   ·simpa using h
   omega
  refine⟨fun ys c=>?_,fun zs hl hv hm=>?_⟩
  ·cases c with
   | @cons _ _ y _ _ ys hy Fy c =>
    obtain⟨k1,zs,k2,k3,k4,k5⟩:=(ih y).1 ys c
    cases zs with
    | nil=>cases k2
    | cons z zs =>
     have Fx:=sr y z (k1 v rfl z (by rw[k5];rfl))
     subst Fx
     refine⟨fun w' fW y' vB=>?_,y::zs,k2,k3,?_,rfl⟩
     ·cases fW;cases vB;exact Fy
     rw[Xj,k4]
  cases zs with
  | nil=>cases hl
  | cons z zs =>
   obtain⟨k1,k2,k3⟩:=(ih z).2 (z::zs) hl hv (fun w' fW y hy=>by cases fW;cases hy;unfold mayBe;simp)
   rw[Xj]
   refine⟨?_,rfl,?_⟩
   ·exact .cons (hv z List.mem_cons_self) (hm w rfl z rfl) k1
   show(⟨costAt b z [w.force]+(d9 b z ((v.row,fs)::t) (expand (cb ((v::s)::u)) (z::zs))).cost,(if x=z then 0 else 1)+(d9 b z ((v.row,fs)::t) (expand (cb ((v::s)::u)) (z::zs))).changes,z::(d9 b z ((v.row,fs)::t) (expand (cb ((v::s)::u)) (z::zs))).vals⟩:Worth)=_
   rw[k3]
   show(⟨costAt b z [w.force]+(bX b z (v::s)+dG b u zs),(if x=z then 0 else 1)+((if z=z then 0 else 1)+chg z zs),_⟩:Worth)=⟨bX b z (w::v::s)+dG b u zs,(if x=z then 0 else 1)+chg z zs,_⟩
   have ec:bX b z (w::v::s)=costAt b z [w.force]+bX b z (v::s):=by
    unfold bX
    rw[List.map_cons,tR,tR b z w.force []]
    rfl
   rw[if_pos rfl,ec,Nat.zero_add,Nat.add_assoc]
theorem yz {gap:Nat} (hg:0<gap):∀ {l:List Wish},pC l->∀ {zs:List Nat},zs.length=(aZ gap l).length->∀ {i:Nat}{s:List Wish}{w:Wish}{z:Nat},(aZ gap l)[i]?=some s->w∈s->zs[i]?=some z ->
  (((fh l).map fun m=>m.1).zip (expand (cb (aZ gap l)) zs)).foldr (fun (p:Nat×Nat) (d:Nat)=>if p.1=w.row then p.2 else d) 0=z
 | [],_,zs,_,i,s,w,z,h,_,_=>by cases h
 | [w0],_,zs,hl,i,s,w,z,h,hw,hz=>by
  rw[yW] at h hl ⊢
  match zs,hl with
  | [z0],_ =>
   match i,h,hz with
   | 0,h,hz =>
    cases h
    cases hz
    rw[List.mem_singleton.mp hw]
    exact if_pos rfl
 | w0::v::l,ha,zs,hl,i,s,w,z,h,hw,hz=>by
  have jH:pC (v::l):=(List.pairwise_cons.mp ha).2
  have Yl:w0.row<=v.row:=(List.pairwise_cons.mp ha).1 v List.mem_cons_self
  obtain⟨fs,t,m1,m2⟩:=rP w0 v l
  obtain⟨s0,u,g1,g2⟩:=nL gap w0 v l
  obtain⟨pd,t',n1,n2⟩:=rP w0 v s0
  have Ek:∀ (l:List Wish) (s:List Wish),s∈aZ gap l->∀ x∈s,x∈l:=by
   intro l
   induction l with
   | nil=>intro s hs;cases hs
   | cons a l ih =>
    intro s hs x hx
    cases l with
    | nil =>
     rw[yW,List.mem_singleton] at hs
     rw[hs] at hx
     exact hx
    | cons c l =>
     obtain⟨s1,t1,q1,q2⟩:=nL gap a c l
     rw[q1] at ih
     rw[q2] at hs
     split at hs
     ·rcases List.mem_cons.mp hs with rfl | hs
      ·rw[List.mem_singleton.mp hx];exact List.mem_cons_self
      exact List.mem_cons_of_mem _ (ih s hs x hx)
     rcases List.mem_cons.mp hs with rfl | hs
     ·rcases List.mem_cons.mp hx with rfl | hx
      ·exact List.mem_cons_self
      exact List.mem_cons_of_mem _ (ih (c::s1) List.mem_cons_self x hx)
     exact List.mem_cons_of_mem _ (ih s (List.mem_cons_of_mem _ hs) x hx)
  by_cases q:w0.row=v.row
  ·have hj:¬ w0.row+gap<=v.row:=by omega
   rw[if_pos q] at m2 n2
   rw[if_neg hj] at g2
   have n8:cb ((w0::v::s0)::u)=cb ((v::s0)::u):=by
    unfold cb
    rw[List.map_cons,List.map_cons,n1,n2]
    rfl
   rw[m2,g2,n8]
   rw[g2] at h hl
   have ih:=@yz gap hg (v::l) jH zs (by rw[g1];exact hl)
   rw[m1,g1] at ih
   cases i with
   | zero =>
    cases h
    rcases List.mem_cons.mp hw with rfl | hw
    ·rw[q]
     exact ih (i:=0) rfl List.mem_cons_self hz
    exact ih (i:=0) rfl hw hz
   | succ i=>exact ih (i:=i+1) h hw hz
  rw[if_neg q] at m2 n2
  have aO:w0.row<v.row:=by omega
  have EF:∀ x∈v::l,w0.row≠x.row:=fun x hx=>by
   rcases List.mem_cons.mp hx with rfl | hx
   ·omega
   have:=(List.pairwise_cons.mp jH).1 x hx
   omega
  rw[m2]
  by_cases hj:w0.row+gap<=v.row
  ·rw[if_pos hj] at g2
   rw[g2] at h hl ⊢
   cases zs with
   | nil=>cases hl
   | cons z0 zs =>
    have ih:=@yz gap hg (v::l) jH zs (by rw[g1];simpa using hl)
    rw[m1,g1] at ih
    show(if w0.row=w.row then z0 else List.foldr _ 0 ((List.map _ ((v.row,fs)::t)).zip (expand (cb ((v::s0)::u)) zs)))=z
    cases i with
    | zero =>
     cases h
     cases hz
     rw[List.mem_singleton.mp hw,if_pos rfl]
    | succ i =>
     have hm:w∈v::l:=Ek (v::l) s (by rw[g1];exact List.mem_of_getElem? h) w hw
     rw[if_neg (EF w hm)]
     exact ih h hw hz
  rw[if_neg hj] at g2
  rw[g2] at h hl ⊢
  have n8:cb ((w0::v::s0)::u)=((fh (v::s0)).length+1)::cb u:=by
   unfold cb
   rw[List.map_cons,n1,n2]
   rfl
  rw[n8]
  cases zs with
  | nil=>cases hl
  | cons z0 zs =>
   have ih:=@yz gap hg (v::l) jH (z0::zs) (by rw[g1];exact hl)
   rw[m1,g1] at ih
   show(if w0.row=w.row then z0 else List.foldr _ 0 ((List.map _ ((v.row,fs)::t)).zip (expand (cb ((v::s0)::u)) (z0::zs))))=z
   cases i with
   | zero =>
    cases h
    cases hz
    rcases List.mem_cons.mp hw with rfl | hw
    ·rw[if_pos rfl]
    have hm:w∈v::l:=Ek (v::l) (v::s0) (by rw[g1];exact List.mem_cons_self) w hw
    rw[if_neg (EF w hm)]
    exact ih (i:=0) rfl hw rfl
   | succ i =>
    have hm:w∈v::l:=Ek (v::l) s (by rw[g1];exact List.mem_cons_of_mem _ (List.mem_of_getElem? h)) w hw
    rw[if_neg (EF w hm)]
    exact ih (i:=i+1) h hw hz
end LM
end
section
namespace LM
open Rol
def fB (a c:Nat×Nat):Prop:=a.1<c.1\/(a.1=c.1/\a.2<c.2)
instance (a c:Nat×Nat):Decidable (fB a c):=by unfold fB;exact inferInstance
def iu:List (Nat×Nat)->Nat×Nat
 | []=>(0,0)
 | [a]=>a
 | a::c::l=>if fB (iu (c::l)) a then iu (c::l) else a
theorem DE:∀ (a:Nat×Nat) (l:List (Nat×Nat)),iu (a::l)∈a::l/\∀ c∈a::l,¬ fB c (iu (a::l))
 | a,[]=>⟨List.mem_cons_self,fun c hc=>by rw[List.mem_singleton.mp hc];unfold fB;show ¬ (a.1<a.1\/(a.1=a.1/\a.2<a.2));omega⟩
 | a,c::l=>by
  obtain⟨h1,h2⟩:=DE c l
  show(if fB (iu (c::l)) a then iu (c::l) else a)∈_/\∀ d∈_,¬ fB d (if fB (iu (c::l)) a then iu (c::l) else a)
  generalize iu (c::l)=m at h1 h2
  by_cases q:fB m a
  ·rw[if_pos q]
   refine⟨List.mem_cons_of_mem _ h1,fun d hd=>?_⟩
   rcases List.mem_cons.mp hd with rfl | hd
   ·unfold fB at q ⊢;omega
   exact h2 d hd
  rw[if_neg q]
  refine⟨List.mem_cons_self,fun d hd=>?_⟩
  rcases List.mem_cons.mp hd with rfl | hd
  ·unfold fB;omega
  have:=h2 d hd
  unfold fB at q this ⊢
  omega
theorem ajd {l:List (Nat×Nat)}{m:Nat×Nat} (h:m∈l) (k:∀ c∈l,¬ fB c m):iu l=m:=by
 cases l with
 | nil=>cases h
 | cons a l =>
  obtain⟨h1,h2⟩:=DE a l
  have q1:=h2 m h
  have q2:=k _ h1
  unfold fB at q1 q2
  refine Prod.ext ?_ ?_ <;> omega
def way (x:Nat) (p:Nat×Nat):Nat×Nat:=(if p.1=x then p.2 else p.2+1,p.1)
def bT (x:Nat) (rest:List (Nat×Nat)):Nat×Nat:=iu (rest.map (way x))
def restOf (c:List Nat) (later:List (Nat×Nat)):List (Nat×Nat):=c.map fun v=>(v,(bT v later).1)
def aT:List (List Nat)->List (List (Nat×Nat))
 | []=>[]
 | c::cs=>restOf c ((aT cs).headD [])::aT cs
def pick:Nat->List (List (Nat×Nat))->List Nat
 | _,[]=>[]
 | x,r::rs=>(bT x r).2::pick (bT x r).2 rs
def In:List Nat->List (List Nat)->Prop
 | [],[]=>True
 | z::zs,c::cs=>z∈c/\In zs cs
 | _,_=>False
theorem In.len:∀ {zs:List Nat}{cs:List (List Nat)},In zs cs->zs.length=cs.length
 | [],[],_=>rfl
 | z::zs,c::cs,h=>by rw[List.length_cons,List.length_cons,In.len h.2]
 | [],_::_,h=>h.elim
 | _::_,[],h=>h.elim
theorem DF:∀ (cs:List (List Nat)),[]∉cs->∀ x,In (pick x (aT cs)) cs/\chg x (pick x (aT cs))=(bT x ((aT cs).headD [])).1 /\
  ∀ zs,In zs cs->chg x (pick x (aT cs))<chg x zs\/(chg x (pick x (aT cs))=chg x zs/\lexLess zs (pick x (aT cs))=false)
 | [],_,x=>by
  refine⟨trivial,rfl,fun zs hz=>?_⟩
  cases zs with
  | nil=>exact .inr ⟨rfl,rfl⟩
  | cons z zs=>exact hz.elim
 | c::cs,cq,x=>by
  have hc:c≠[]:=fun z=>cq (by rw[z];exact List.mem_cons_self)
  have ih:=DF cs (fun z=>cq (List.mem_cons_of_mem _ z))
  have hf:aT (c::cs)=restOf c ((aT cs).headD [])::aT cs:=rfl
  rw[hf]
  show In ((bT x (restOf c ((aT cs).headD []))).2::pick (bT x (restOf c ((aT cs).headD []))).2 (aT cs)) (c::cs) /\
   (if x=(bT x (restOf c ((aT cs).headD []))).2 then 0 else 1)+chg (bT x (restOf c ((aT cs).headD []))).2 (pick (bT x (restOf c ((aT cs).headD []))).2 (aT cs))=(bT x (restOf c ((aT cs).headD []))).1 /\
   ∀ zs,In zs (c::cs)->(if x=(bT x (restOf c ((aT cs).headD []))).2 then 0 else 1)+chg (bT x (restOf c ((aT cs).headD []))).2 (pick (bT x (restOf c ((aT cs).headD []))).2 (aT cs))<chg x zs \/
    ((if x=(bT x (restOf c ((aT cs).headD []))).2 then 0 else 1)+chg (bT x (restOf c ((aT cs).headD []))).2 (pick (bT x (restOf c ((aT cs).headD []))).2 (aT cs))=chg x zs /\
     lexLess zs ((bT x (restOf c ((aT cs).headD []))).2::pick (bT x (restOf c ((aT cs).headD []))).2 (aT cs))=false)
  have hb:bT x (restOf c ((aT cs).headD []))=iu ((restOf c ((aT cs).headD [])).map (way x)):=rfl
  have hm:bT x (restOf c ((aT cs).headD []))∈(restOf c ((aT cs).headD [])).map (way x)/\∀ d∈(restOf c ((aT cs).headD [])).map (way x),¬ fB d (bT x (restOf c ((aT cs).headD []))):=by
   rw[hb]
   unfold restOf
   cases c with
   | nil=>exact absurd rfl hc
   | cons a c=>exact DE _ _
  generalize bT x (restOf c ((aT cs).headD []))=m at hm
  obtain⟨Fz,sU⟩:=hm
  unfold restOf at Fz sU
  rw[List.map_map] at Fz sU
  obtain⟨y,hy,ey⟩:=List.mem_map.mp Fz
  have e1:m.1=if y=x then (bT y ((aT cs).headD [])).1 else (bT y ((aT cs).headD [])).1+1:=by rw[<- ey];rfl
  have e2:m.2=y:=by rw[<- ey];rfl
  obtain⟨i1,i2,i3⟩:=ih y
  rw[e2]
  have e3:(if x=y then 0 else 1)+chg y (pick y (aT cs))=m.1:=by
   rw[i2,e1]
   by_cases q:x=y
   ·rw[if_pos q,if_pos q.symm,Nat.zero_add]
   rw[if_neg q,if_neg (fun z=>q z.symm),Nat.add_comm]
  refine⟨⟨hy,i1⟩,e3,fun zs hz=>?_⟩
  rw[e3]
  cases zs with
  | nil=>exact hz.elim
  | cons z zs =>
   obtain⟨hz1,hz2⟩:=hz
   obtain⟨j1,j2,j3⟩:=ih z
   have k:=sU _ (List.mem_map.mpr ⟨z,hz1,rfl⟩)
   have ks:=j3 zs hz2
   have k1:((way x∘fun v=>(v,(bT v ((aT cs).headD [])).1)) z).1=if z=x then (bT z ((aT cs).headD [])).1 else (bT z ((aT cs).headD [])).1+1:=rfl
   have k2:((way x∘fun v=>(v,(bT v ((aT cs).headD [])).1)) z).2=z:=rfl
   unfold fB at k
   rw[k1,k2,<- j2,e2] at k
   show m.1<(if x=z then 0 else 1)+chg z zs\/(m.1=(if x=z then 0 else 1)+chg z zs/\(decide (z<y)||(z==y&&lexLess zs (pick y (aT cs))))=false)
   have hif:(if z=x then chg z (pick z (aT cs)) else chg z (pick z (aT cs))+1)=(if x=z then 0 else 1)+chg z (pick z (aT cs)):=by
    by_cases q:x=z
    ·rw[if_pos q,if_pos q.symm,Nat.zero_add]
    rw[if_neg q,if_neg (fun z=>q z.symm),Nat.add_comm]
   rw[hif] at k
   by_cases q:m.1<(if x=z then 0 else 1)+chg z zs
   ·exact .inl q
   right
   have hle:chg z (pick z (aT cs))<=chg z zs:=by rcases ks with ks | ks <;> omega
   have heq:m.1=(if x=z then 0 else 1)+chg z zs:=by omega
   refine⟨heq,?_⟩
   have hzy:y<=z:=by omega
   rw[Bool.or_eq_false_iff,decide_eq_false_iff_not,Bool.and_eq_false_iff]
   refine⟨by omega,?_⟩
   by_cases qq:z=y
   ·right
    subst qq
    rcases ks with ks | ks
    ·omega
    exact ks.2
   left
   simpa using qq
def ju (b:Bar) (vs:List Nat) (s:List Wish):List Nat:=vs.filter fun v=>vs.all fun u=>decide (bX b v s<=bX b u s)
theorem ub {b:Bar}{vs:List Nat}{s:List Wish}{v:Nat}:v∈ju b vs s↔v∈vs/\∀ u∈vs,bX b v s<=bX b u s:=by
 unfold ju
 rw[List.mem_filter,List.all_eq_true]
 simp only [decide_eq_true_eq]
theorem amC {b:Bar}{vs:List Nat}{s:List Wish}{M:Nat} (h:M∈vs.map fun v=>bX b v s) (k:∀ a∈vs.map (fun v=>bX b v s),M<=a):vs.filter (fun v=>bX b v s==M)=ju b vs s:=by
 unfold ju
 refine List.filter_congr fun v hv=>?_
 obtain⟨u,hu,rfl⟩:=List.mem_map.mp h
 rw[Bool.eq_iff_iff,List.all_eq_true,beq_iff_eq]
 constructor
 ·intro e x hx
  rw[decide_eq_true_eq,e]
  exact k _ (List.mem_map.mpr ⟨x,hx,rfl⟩)
 intro e
 have:=e u hu
 rw[decide_eq_true_eq] at this
 exact Nat.le_antisymm this (k _ (List.mem_map.mpr ⟨v,hv,rfl⟩))
theorem UD (f:Nat->Nat):∀ (vs:List Nat),vs≠[]->∃ v∈vs,∀ u∈vs,f v<=f u
 | [],h=>absurd rfl h
 | [a],_=>⟨a,List.mem_cons_self,fun u hu=>by rw[List.mem_singleton.mp hu];exact Nat.le_refl _⟩
 | a::c::l,_=>by
  obtain⟨v,hv,k⟩:=UD f (c::l) (by simp)
  by_cases q:f a<=f v
  ·refine⟨a,List.mem_cons_self,fun u hu=>?_⟩
   rcases List.mem_cons.mp hu with rfl | hu
   ·exact Nat.le_refl _
   exact Nat.le_trans q (k u hu)
  refine⟨v,List.mem_cons_of_mem _ hv,fun u hu=>?_⟩
  rcases List.mem_cons.mp hu with rfl | hu
  ·omega
  exact k u hu
theorem Vk {b:Bar}{vs:List Nat}{s:List Wish} (h:vs≠[]):ju b vs s≠[]:=fun z=>by
 obtain⟨v,hv,k⟩:=UD (fun v=>bX b v s) vs h
 have:v∈ju b vs s:=ub.mpr ⟨hv,k⟩
 rw[z] at this
 cases this
def dU (b:Bar) (vs:List Nat) (ss:List (List Wish)):List (List Nat):=ss.map (ju b vs)
theorem In.sub {b:Bar}{vs:List Nat}:∀ {ss:List (List Wish)}{zs:List Nat},In zs (dU b vs ss)->∀ z∈zs,z∈vs
 | [],[],_,z,hz=>by cases hz
 | [],_::_,h,_,_=>h.elim
 | _::_,[],h,_,_=>h.elim
 | s::ss,z::zs,h,y,hy=>by
  rcases List.mem_cons.mp hy with rfl | hy
  ·exact(ub.mp h.1).1
  exact In.sub (ss:=ss) h.2 y hy
theorem R1 {b:Bar}{vs:List Nat}:∀ {ss:List (List Wish)}{ps zs:List Nat},In ps (dU b vs ss)->zs.length=ss.length->(∀ z∈zs,z∈vs)->dG b ss ps<=dG b ss zs/\(dG b ss ps=dG b ss zs->In zs (dU b vs ss))
 | [],[],[],_,_,_=>⟨Nat.le_refl _,fun _=>trivial⟩
 | [],[],_::_,_,h,_=>by cases h
 | [],_::_,_,h,_,_=>h.elim
 | _::_,[],_,h,_,_=>h.elim
 | _::_,_::_,[],_,h,_=>by cases h
 | s::ss,p::ps,z::zs,h,hl,hv=>by
  obtain⟨h1,h2⟩:=h
  obtain⟨i1,i2⟩:=R1 (ss:=ss) (ps:=ps) (zs:=zs) h2 (by simpa using hl) (fun y hy=>hv y (List.mem_cons_of_mem _ hy))
  have hz:=hv z List.mem_cons_self
  have k:=(ub.mp h1).2 z hz
  show bX b p s+dG b ss ps<=bX b z s+dG b ss zs/\(bX b p s+dG b ss ps=bX b z s+dG b ss zs->z∈ju b vs s/\In zs (dU b vs ss))
  refine⟨by omega,fun e=>⟨ub.mpr ⟨hz,fun u hu=>?_⟩,i2 (by omega)⟩⟩
  have:=(ub.mp h1).2 u hu
  omega
theorem V5 (z p:Nat) (A B:List Nat):∀ n,lexLess (List.replicate (n+1) z++A) (List.replicate (n+1) p++B)=(decide (z<p)||(z==p&&lexLess A B))
 | 0=>rfl
 | n+1=>by
  show(decide (z<p)||(z==p&&lexLess (List.replicate (n+1) z++A) (List.replicate (n+1) p++B)))=_
  rw[V5 z p A B n]
  cases h1:decide (z<p)
  ·cases h2:(z==p)
   ·rfl
   rfl
  rfl
theorem Tx:∀ {ns zs ps:List Nat},(∀ n∈ns,0<n)->zs.length=ns.length->ps.length=ns.length->lexLess (expand ns zs) (expand ns ps)=lexLess zs ps
 | [],[],[],_,_,_=>rfl
 | n::ns,z::zs,p::ps,h,h1,h2=>by
  have hn:=h n List.mem_cons_self
  obtain⟨m,rfl⟩:∃ m,n=m+1:=⟨n-1,by omega⟩
  show lexLess (List.replicate (m+1) z++expand ns zs) (List.replicate (m+1) p++expand ns ps)=(decide (z<p)||(z==p&&lexLess zs ps))
  rw[V5,Tx (fun n hn=>h n (List.mem_cons_of_mem _ hn)) (by simpa using h1) (by simpa using h2)]
theorem amD {gap:Nat}{l:List Wish}:∀ n∈cb (aZ gap l),0<n:=fun n hn=>by
 obtain⟨s,hs,rfl⟩:=List.mem_map.mp hn
 cases s with
 | nil=>exact absurd hs (Ec gap l)
 | cons v s =>
  obtain⟨fs,t,e,_⟩:=rP v v s
  rw[e]
  exact Nat.succ_pos _
def dM (b:Bar) (vs:List Nat) (ss:List (List Wish)):List Nat:=pick 0 (aT (dU b vs ss))
theorem tS {b:Bar}{vs:List Nat} (h:vs≠[]) (ss:List (List Wish)):In (dM b vs ss) (dU b vs ss):=(DF _ (fun z=>by
 obtain⟨s,_,hs⟩:=List.mem_map.mp z
 exact Vk h hs) 0).1
theorem uc (b:Bar) (k:Nat):values b k≠[]:=fun z=>by
 have:=Tu b k
 rw[z] at this
 cases this
theorem Dk {b:Bar}{k:Nat}{l:List Wish} (ho:RolE.inOrder l=true) :
  best b k l=⟨dG b (aZ (b.tail+2) (bq k l)) (dM b (values b k) (aZ (b.tail+2) (bq k l))),chg 0 (dM b (values b k) (aZ (b.tail+2) (bq k l))),expand (cb (aZ (b.tail+2) (bq k l))) (dM b (values b k) (aZ (b.tail+2) (bq k l)))⟩:=by
 have ha:pC (bq k l):=(Dj ho).sublist List.filter_sublist
 have hk:∀ w∈bq k l,w.side=k:=fun w hw=>by have:=(List.mem_filter.mp hw).2;simpa using this
 refine aob ?_
 rw[QK,C0 hk ha]
 have hI:=tS (b:=b) (uc b k) (aZ (b.tail+2) (bq k l))
 obtain⟨c1,c2⟩:=xH (g:=b.tail) (vs:=values b k) (b:=b) ha (r:=none) (x:=0)
 have hl:(dM b (values b k) (aZ (b.tail+2) (bq k l))).length=(aZ (b.tail+2) (bq k l)).length:=by rw[hI.len];unfold dU;rw[List.length_map]
 have sr:∀ (x y m:Nat),mayBe b.tail none x y m=true:=fun x y m=>by unfold mayBe;simp
 obtain⟨d1,_,d3⟩:=c2 _ hl hI.sub (fun _ _ _ _=>sr _ _ _)
 refine⟨⟨_,d1,d3.symm⟩,fun ys cy=>?_⟩
 obtain⟨_,zs,z1,z2,z3,_⟩:=c1 ys cy
 obtain⟨_,_,e3⟩:=c2 zs z1 z2 (fun _ _ _ _=>sr _ _ _)
 rw[z3,e3]
 intro less
 rw[uh] at less
 dsimp only at less
 rw[Tx amD (by rw[z1];unfold cb;rw[List.length_map]) (by rw[hl];unfold cb;rw[List.length_map])] at less
 obtain⟨s1,s2⟩:=R1 hI z1 z2
 rcases less with q | ⟨q,q2⟩
 ·omega
 have hz:=s2 q.symm
 have hp:=(DF (dU b (values b k) (aZ (b.tail+2) (bq k l))) (fun z=>by
  obtain⟨s,_,hs⟩:=List.mem_map.mp z
  exact Vk (uc b k) hs) 0).2.2 zs hz
 have Yn:pick 0 (aT (dU b (values b k) (aZ (b.tail+2) (bq k l))))=dM b (values b k) (aZ (b.tail+2) (bq k l)):=rfl
 rw[Yn] at hp
 rcases q2 with q2 | ⟨q2,q3⟩
 ·rcases hp with hp | hp <;> omega
 rcases hp with hp | ⟨_,hp⟩
 ·omega
 rw[hp] at q3;cases q3
def nQ (b:Bar) (l:List Wish) (w:Wish):Nat:=(plannedOf b w.side l).foldr (fun (p:Nat×Nat) (d:Nat)=>if p.1=w.row then p.2 else d) 0
theorem Tz (b:Bar) (l:List Wish):planned b l=l.map (nQ b l):=by
 unfold planned
 dsimp only
 refine List.map_congr_left fun w _=>?_
 unfold nQ
 by_cases h0:w.side=0
 ·rw[if_pos h0,h0]
 rw[if_neg h0]
 by_cases h1:w.side=1
 ·rw[if_pos h1,h1]
 rw[if_neg h1]
theorem al5 {b:Bar}{k:Nat}{l:List Wish} (ho:RolE.inOrder l=true) {i:Nat}{s:List Wish}{w:Wish}{z:Nat} (hs:(aZ (b.tail+2) (bq k l))[i]?=some s) (hw:w∈s) (hk:w.side=k) (hz:(dM b (values b k) (aZ (b.tail+2) (bq k l)))[i]?=some z):nQ b l w=z:=by
 have ha:pC (bq k l):=(Dj ho).sublist List.filter_sublist
 have vc:∀ w∈bq k l,w.side=k:=fun w hw=>by have:=(List.mem_filter.mp hw).2;simpa using this
 unfold nQ plannedOf
 rw[hk,Dk ho,QK,C0 vc ha]
 have hI:=tS (b:=b) (uc b k) (aZ (b.tail+2) (bq k l))
 exact yz (Nat.succ_pos _) ha (by rw[hI.len];unfold dU;rw[List.length_map]) hs hw hz
theorem DQ (gap:Nat):∀ (l:List Wish),(aZ gap l).flatten=l
 | []=>rfl
 | [w]=>rfl
 | w::v::l=>by
  obtain⟨s,t,e1,e2⟩:=nL gap w v l
  have ih:=DQ gap (v::l)
  rw[e1] at ih
  rw[e2]
  split
  ·show[w]++((v::s)::t).flatten=_
   rw[ih]
   rfl
  show w::((v::s)++t.flatten)=_
  have Fj:(v::s)++t.flatten=v::l:=ih
  rw[Fj]
theorem al6 {b:Bar}{l:List Wish} (ho:RolE.inOrder l=true):planCost b l=dG b (aZ (b.tail+2) (bq 0 l)) (dM b (values b 0) (aZ (b.tail+2) (bq 0 l)))+dG b (aZ (b.tail+2) (bq 1 l)) (dM b (values b 1) (aZ (b.tail+2) (bq 1 l))):=by
 unfold planCost
 rw[Dk ho,Dk ho]
def gb (p:Nat->Bool):Nat->List Nat
 | 0=>[0]
 | n+1=>if p n=true then gb p n++(gb p n).map (fun v=>v+2 ^ n) else gb p n
theorem al7 (b:Bar) (k:Nat):values b k=if (b.find (.cancel k)).isSome=true then gb (fun i=>(b.find (.lock i k)).isSome) 3 else [0]:=by
 have e:values b k=(List.range 8).filter fun (l:Nat)=>l==0||((b.find (.cancel k)).isSome&&((!Nat.testBit l 0||(b.find (.lock 0 k)).isSome)&&((!Nat.testBit l 1||(b.find (.lock 1 k)).isSome)&&((!Nat.testBit l 2||(b.find (.lock 2 k)).isSome)&&true)))):=rfl
 rw[e]
 show _=if _ then (if (b.find (.lock 2 k)).isSome=true then (if (b.find (.lock 1 k)).isSome=true then (if (b.find (.lock 0 k)).isSome=true then [0]++[0].map (fun v=>v+2 ^ 0) else [0])++(if (b.find (.lock 0 k)).isSome=true then [0]++[0].map (fun v=>v+2 ^ 0) else [0]).map (fun v=>v+2 ^ 1) else (if (b.find (.lock 0 k)).isSome=true then [0]++[0].map (fun v=>v+2 ^ 0) else [0]))++(if (b.find (.lock 1 k)).isSome=true then (if (b.find (.lock 0 k)).isSome=true then [0]++[0].map (fun v=>v+2 ^ 0) else [0])++(if (b.find (.lock 0 k)).isSome=true then [0]++[0].map (fun v=>v+2 ^ 0) else [0]).map (fun v=>v+2 ^ 1) else (if (b.find (.lock 0 k)).isSome=true then [0]++[0].map (fun v=>v+2 ^ 0) else [0])).map (fun v=>v+2 ^ 2) else (if (b.find (.lock 1 k)).isSome=true then (if (b.find (.lock 0 k)).isSome=true then [0]++[0].map (fun v=>v+2 ^ 0) else [0])++(if (b.find (.lock 0 k)).isSome=true then [0]++[0].map (fun v=>v+2 ^ 0) else [0]).map (fun v=>v+2 ^ 1) else (if (b.find (.lock 0 k)).isSome=true then [0]++[0].map (fun v=>v+2 ^ 0) else [0]))) else _
 generalize (b.find (.cancel k)).isSome=c
 generalize (b.find (.lock 0 k)).isSome=p
 generalize (b.find (.lock 1 k)).isSome=q
 generalize (b.find (.lock 2 k)).isSome=r
 revert c p q r
 decide
theorem al8 (b:Bar) (k:Nat):∀ v∈values b k,v<8:=fun v hv=>by
 unfold values at hv
 have:=(List.mem_filter.mp hv).1
 simpa using this
theorem QM (b:Bar) (k:Nat):(values b k).Nodup:=by
 unfold values
 exact List.Pairwise.filter _ List.nodup_range
end LM
end
section
namespace LM
open Rol
def apU (r:List Int):Wish:=⟨RolENeutral.nat (r.getD 0 0),RolENeutral.nat (r.getD 1 0),RolENeutral.nat (r.getD 2 0)⟩
def bP (t:List Int):List Wish:=(NLines.inPieces 3 t).map apU
theorem TB:∀ (f:Nat) (t:List Int) (i:Nat),3*i+3<=t.length->i<f->(NLines.pieces 3 f t)[i]?=some [t.getD (3*i) 0,t.getD (3*i+1) 0,t.getD (3*i+2) 0]
 | 0,_,i,_,h=>by omega
 | f+1,t,i,h,hf=>by
  show(if t=[] then [] else t.take 3::NLines.pieces 3 f (t.drop 3))[i]?=_
  have cq:t≠[]:=fun z=>by rw[z] at h;simp at h
  rw[if_neg cq]
  cases i with
  | zero =>
   match t,h with
   | a::b::c::r,_=>rfl
  | succ i =>
   rw[List.getElem?_cons_succ,TB f (t.drop 3) i (by rw[List.length_drop];omega) (by omega)]
   simp only [List.getD_eq_getElem?_getD,List.getElem?_drop]
   rw[show 3+3*i=3*(i+1) by omega,show 3+(3*i+1)=3*(i+1)+1 by omega,show 3+(3*i+2)=3*(i+1)+2 by omega]
theorem TC:∀ (f:Nat) (t:List Int),t.length<=f->t.length % 3=0->(NLines.pieces 3 f t).length=t.length / 3
 | 0,t,h,_=>by
  have:t=[]:=List.length_eq_zero_iff.mp (by omega)
  subst this
  rfl
 | f+1,t,h,hm=>by
  show(if t=[] then [] else t.take 3::NLines.pieces 3 f (t.drop 3)).length=_
  by_cases hz:t=[]
  ·rw[if_pos hz,hz];rfl
  rw[if_neg hz]
  have hl:0<t.length:=List.length_pos_iff.mpr hz
  rw[List.length_cons,TC f (t.drop 3) (by rw[List.length_drop];omega) (by rw[List.length_drop];omega),List.length_drop]
  omega
theorem aje {t:List Int} (h:t.length % 3=0):(bP t).length=t.length / 3:=by
 unfold bP NLines.inPieces
 rw[List.length_map,TC _ _ (Nat.le_refl _) h]
theorem ajf {t:List Int}{i:Nat} (h:3*i+3<=t.length):(bP t)[i]?=some ⟨(t.getD (3*i) 0).toNat,(t.getD (3*i+1) 0).toNat,(t.getD (3*i+2) 0).toNat⟩:=by
 unfold bP NLines.inPieces
 rw[List.getElem?_map,TB _ _ _ h (by omega)]
 rfl
def mB:Nat->List Wish->Bool
 | _,[]=>true
 | r,w::l=>decide (r<=w.row)&&mB w.row l
theorem UE:∀ (l:List Wish),RolE.inOrder l=mB 0 l
 | []=>rfl
 | [w]=>by simp[RolE.inOrder,mB]
 | w::v::l=>by
  have ih:=UE (v::l)
  show(decide (w.row<=v.row)&&RolE.inOrder (v::l))=(decide (0<=w.row)&&(decide (w.row<=v.row)&&mB v.row l))
  rw[ih]
  show(decide (w.row<=v.row)&&(decide (0<=v.row)&&mB v.row l))=_
  simp
theorem al9 (x y:Nat):((apartBy x y:Nat):Int)=((x:Int)-(y:Int)).natAbs:=by
 unfold apartBy
 split <;> omega
theorem amE (b:Bar) (z:Nat) (s:List Wish):((s.map fun (w:Wish)=>((apartBy (min 127 (b.base+b.step*z)) w.force:Nat):Int)).sum)=((bX b z s:Nat):Int):=by
 unfold bX
 induction s with
 | nil=>rfl
 | cons w s ih =>
  rw[List.map_cons,List.sum_cons,List.map_cons,tR,ih]
  omega
theorem C1 (b:Bar) (s:Strip):∀ n,(strikesFrom b s n 0 State.start).length<=128*n
 | 0=>Nat.le_refl _
 | n+1=>by
  rw[QJ,List.length_append]
  have h1:=C1 b s n
  have h2:(strikesAt b s n (stateAfter b s (n+1))).length<=128:=by
   rw[QI,List.length_map]
   refine Nat.le_trans (List.length_filter_le _ _) ?_
   rw[List.length_range]
   exact Nat.le_refl _
  omega
end LM
end
section
set_option genInjectivity false
namespace RF
open PySem PySem.Spec PyProof.Rows L2 LX
def top (i:Nat):Stmt:=PySem.Challenge.pw_rollforce_s01_answers.main.body.getD i (.Pass ⟨0,0,0,0⟩)
abbrev l6:Stmt:=top 24
abbrev lp:Stmt:=top 25
abbrev kY:Stmt:=top 26
abbrev lq:Stmt:=top 32
abbrev kZ:Stmt:=top 33
abbrev lr:Stmt:=top 34
abbrev lM:Stmt:=top 35
abbrev kN:Stmt:=top 36
abbrev lu:Stmt:=top 37
abbrev lx:Stmt:=top 38
abbrev jT:Stmt:=top 39
abbrev ly:Stmt:=top 40
abbrev kc:Stmt:=top 41
abbrev l7:Stmt:=top 42
abbrev lG:Stmt:=top 45
abbrev k7:Stmt:=top 46
abbrev l8:Stmt:=top 49
abbrev lB:Stmt:=top 50
abbrev k8:Stmt:=top 51
abbrev lH:Stmt:=top 56
abbrev lI:Stmt:=top 57
abbrev k9:Stmt:=top 69
abbrev my:Stmt:=top 70
abbrev lN:Stmt:=top 71
abbrev mm:Stmt:=top 72
abbrev mj:Stmt:=top 73
abbrev la:Stmt:=inClass (top 18) 0
abbrev ke:Stmt:=inClass (top 18) 1
abbrev jL:Stmt:=inClass (top 18) 2
abbrev lb:Stmt:=inClass (top 18) 3
abbrev kf:Stmt:=inClass (top 18) 4
abbrev jJ:Stmt:=inClass (top 18) 5
abbrev jN:Stmt:=inClass (top 18) 6
abbrev jP:Stmt:=inClass (top 18) 7
abbrev l9:Stmt:=inClass (top 23) 0
abbrev kO:Stmt:=inClass (top 23) 1
abbrev kg:Stmt:=inClass (top 23) 2
abbrev jU:Stmt:=inClass (top 23) 3
abbrev lO:Stmt:=inClass (top 30) 0
abbrev lP:Stmt:=inClass (top 31) 0
abbrev lC:Stmt:=inClass (top 31) 1
abbrev kh:Stmt:=inClass (top 31) 2
abbrev lQ:Stmt:=inClass (top 44) 0
abbrev kP:Stmt:=inClass (top 44) 1
abbrev jV:Stmt:=inClass (top 44) 2
abbrev jW:Stmt:=inClass (top 44) 3
abbrev kQ:Stmt:=inClass (top 44) 4
abbrev lJ:Stmt:=inClass (top 55) 0
abbrev ki:Stmt:=inClass (top 55) 1
abbrev lR:Stmt:=inClass (top 67) 0
abbrev lg:Stmt:=inClass (top 67) 1
abbrev kj:Stmt:=inClass (top 67) 2
abbrev km:Stmt:=inClass (top 67) 3
abbrev jX:Stmt:=inClass (top 67) 4
abbrev kn:Stmt:=inClass (top 67) 5
abbrev jY:Stmt:=inClass (top 67) 6
abbrev jZ:Stmt:=inClass (top 67) 7
abbrev jQ:Stmt:=inClass (top 67) 8
abbrev ko:Stmt:=inClass (top 67) 9
abbrev lS:Stmt:=inClass (top 68) 0
abbrev j0:Stmt:=inClass (top 68) 1
abbrev lT:Stmt:=inClass (top 68) 2
abbrev kr:Stmt:=inClass (top 68) 3
abbrev kR:Stmt:=inClass (top 68) 4
abbrev ku:Stmt:=inClass (top 2) 0
theorem tT:aS ["text","scanner","numbers","line","bounds"] ["text"] (ah l6):=⟨rfl,rfl,rfl,by decide +kernel,rfl,by decide +kernel,by decide +kernel⟩
theorem rf:aS ["scanner","width","tracks","lowest","track","meaning"] ["scanner","width"] (ah lp):=⟨rfl,rfl,rfl,by decide +kernel,rfl,by decide +kernel,by decide +kernel⟩
theorem pT:aS ["scanner","tracks","first","word","numbers","index","highest","meaning"] ["scanner","tracks"] (ah kY):=⟨rfl,rfl,rfl,by decide +kernel,rfl,by decide +kernel,by decide +kernel⟩
theorem B3:aS ["numbers","wishes","place"] ["numbers"] (ah lq):=⟨rfl,rfl,rfl,by decide +kernel,rfl,by decide +kernel,by decide +kernel⟩
theorem MM:aS ["wishes","wish"] ["wishes"] (ah kZ):=⟨rfl,rfl,rfl,by decide +kernel,rfl,by decide +kernel,by decide +kernel⟩
theorem w8:aS ["wishes","before","wish"] ["wishes"] (ah lr):=⟨rfl,rfl,rfl,by decide +kernel,rfl,by decide +kernel,by decide +kernel⟩
theorem nj:aS ["bar","wishes","plan","side","values","spans","wish","span"] ["bar","wishes"] (ah lM):=⟨rfl,rfl,rfl,by decide +kernel,rfl,by decide +kernel,by decide +kernel⟩
theorem Br:aS ["wishes","gap","spans","wish"] ["wishes","gap"] (ah kN):=⟨rfl,rfl,rfl,by decide +kernel,rfl,by decide +kernel,by decide +kernel⟩
theorem rg:aS ["bar","side","values","which","value"] ["bar","side"] (ah lu):=⟨rfl,rfl,rfl,by decide +kernel,rfl,by decide +kernel,by decide +kernel⟩
theorem rh:aS ["bar","values","span","costs","value","force","wish"] ["bar","values","span"] (ah lx):=⟨rfl,rfl,rfl,by decide +kernel,rfl,by decide +kernel,by decide +kernel⟩
theorem tq:aS ["costs","least","value","cost"] ["costs"] (ah jT):=⟨rfl,rfl,rfl,by decide +kernel,rfl,by decide +kernel,by decide +kernel⟩
theorem mV:aS ["plan","spans","costs","rests","span_costs","before","place","span","value"] ["plan","spans","costs"] (ah ly):=⟨rfl,rfl,rfl,by decide +kernel,rfl,by decide +kernel,by decide +kernel⟩
theorem pR:aS ["choices","rests","later","values","rest","value"] ["choices"] (ah kc):=⟨rfl,rfl,rfl,by decide +kernel,rfl,by decide +kernel,by decide +kernel⟩
theorem xZ:aS ["before","rest","ways","value","changes"] ["before","rest"] (ah l7):=⟨rfl,rfl,rfl,by decide +kernel,rfl,by decide +kernel,by decide +kernel⟩
theorem aeO:aS ["bar"] ["bar"] (ah lG):=⟨rfl,rfl,rfl,by decide +kernel,rfl,by decide +kernel,by decide +kernel⟩
theorem tJ:aS ["bar","strip","last","sides","row","sounding","side"] ["bar","strip","last"] (ah k7):=⟨rfl,rfl,rfl,by decide +kernel,rfl,by decide +kernel,by decide +kernel⟩
theorem tU:aS ["bar","bits","key","pair"] ["bar"] (ah l8):=⟨rfl,rfl,rfl,by decide +kernel,rfl,by decide +kernel,by decide +kernel⟩
theorem w9:aS ["keys","begun","key","bit"] ["keys","begun"] (ah lB):=⟨rfl,rfl,rfl,by decide +kernel,rfl,by decide +kernel,by decide +kernel⟩
theorem gK:aS ["bar","strip","keys","sides","listed","before","row","sounding","side","begun","forces","key"] ["bar","strip"] (ah k8):=⟨rfl,rfl,rfl,by decide +kernel,rfl,by decide +kernel,by decide +kernel⟩
theorem oH:aS ["text","scanner","width","rows","before","count","holes"] ["text"] (ah lH):=⟨rfl,rfl,rfl,by decide +kernel,rfl,by decide +kernel,by decide +kernel⟩
theorem rl:aS ["scanner","width","holes","lowest","track"] ["scanner","width"] (ah lI):=⟨rfl,rfl,rfl,by decide +kernel,rfl,by decide +kernel,by decide +kernel⟩
theorem abN:aS ["text"] ["text"] (ah k9):=⟨rfl,rfl,rfl,by decide +kernel,rfl,by decide +kernel,by decide +kernel⟩
theorem aod:aS ["number","listed"] ["number","listed"] (ah my):=⟨rfl,rfl,rfl,by decide +kernel,rfl,by decide +kernel,by decide +kernel⟩
theorem xI:aS ["desk","feed","call","numbers"] ["desk","feed"] (ah lN):=⟨rfl,rfl,rfl,by decide +kernel,rfl,by decide +kernel,by decide +kernel⟩
theorem UG:aS ["desk","feed","fault"] ["desk","feed"] (ah mm):=⟨rfl,rfl,rfl,by decide +kernel,rfl,by decide +kernel,by decide +kernel⟩
theorem t6:aS ["calls","desk","feed","given","numbers"] ["calls"] (ah mj):=⟨rfl,rfl,rfl,by decide +kernel,rfl,by decide +kernel,by decide +kernel⟩
theorem abO:aS ["self","text"] ["self","text"] (ah la):=⟨rfl,rfl,rfl,by decide +kernel,rfl,by decide +kernel,by decide +kernel⟩
theorem Z7:aS ["self"] ["self"] (ah ke):=⟨rfl,rfl,rfl,by decide +kernel,rfl,by decide +kernel,by decide +kernel⟩
theorem Y2:aS ["self","low","high"] ["self","low","high"] (ah jL):=⟨rfl,rfl,rfl,by decide +kernel,rfl,by decide +kernel,by decide +kernel⟩
theorem abP:aS ["self","byte"] ["self","byte"] (ah lb):=⟨rfl,rfl,rfl,by decide +kernel,rfl,by decide +kernel,by decide +kernel⟩
theorem Z8:aS ["self","byte"] ["self","byte"] (ah kf):=⟨rfl,rfl,rfl,by decide +kernel,rfl,by decide +kernel,by decide +kernel⟩
theorem Gv:aS ["self","letters","letter"] ["self","letters"] (ah jJ):=⟨rfl,rfl,rfl,by decide +kernel,rfl,by decide +kernel,by decide +kernel⟩
theorem tm:aS ["self","low","high","first","value","digits"] ["self","low","high"] (ah jN):=⟨rfl,rfl,rfl,by decide +kernel,rfl,by decide +kernel,by decide +kernel⟩
theorem Ho:aS ["self","letters"] ["self"] (ah jP):=⟨rfl,rfl,rfl,by decide +kernel,rfl,by decide +kernel,by decide +kernel⟩
theorem ahC:aS ["self","numbers","tracks"] ["self","numbers","tracks"] (ah l9):=⟨rfl,rfl,rfl,by decide +kernel,rfl,by decide +kernel,by decide +kernel⟩
theorem LC:aS ["self","word","first","second","track"] ["self","word","first","second"] (ah kO):=⟨rfl,rfl,rfl,by decide +kernel,rfl,by decide +kernel,by decide +kernel⟩
theorem Z9:aS ["self","lock_value"] ["self","lock_value"] (ah kg):=⟨rfl,rfl,rfl,by decide +kernel,rfl,by decide +kernel,by decide +kernel⟩
theorem Zp:aS ["self","key"] ["self","key"] (ah jU):=⟨rfl,rfl,rfl,by decide +kernel,rfl,by decide +kernel,by decide +kernel⟩
theorem ag2:aS ["self","row","side","force"] ["self","row","side","force"] (ah lO):=⟨rfl,rfl,rfl,by decide +kernel,rfl,by decide +kernel,by decide +kernel⟩
theorem ag3:aS ["self"] ["self"] (ah lP):=⟨rfl,rfl,rfl,by decide +kernel,rfl,by decide +kernel,by decide +kernel⟩
theorem N5:aS ["self","span","value","cost","wish"] ["self","span","value","cost"] (ah lC):=⟨rfl,rfl,rfl,by decide +kernel,rfl,by decide +kernel,by decide +kernel⟩
theorem aa0:aS ["self","wish"] ["self","wish"] (ah kh):=⟨rfl,rfl,rfl,by decide +kernel,rfl,by decide +kernel,by decide +kernel⟩
theorem CB:aS ["self","bar","number","which"] ["self","bar","number"] (ah lQ):=⟨rfl,rfl,rfl,by decide +kernel,rfl,by decide +kernel,by decide +kernel⟩
theorem abc:aS ["self","sounding"] ["self","sounding"] (ah kP):=⟨rfl,rfl,rfl,by decide +kernel,rfl,by decide +kernel,by decide +kernel⟩
theorem Az:aS ["self","sounding","which","bit"] ["self","sounding"] (ah jV):=⟨rfl,rfl,rfl,by decide +kernel,rfl,by decide +kernel,by decide +kernel⟩
theorem AA:aS ["self","sounding","rising","falling"] ["self","sounding"] (ah jW):=⟨rfl,rfl,rfl,by decide +kernel,rfl,by decide +kernel,by decide +kernel⟩
theorem tF:aS ["self","sounding","force"] ["self","sounding"] (ah kQ):=⟨rfl,rfl,rfl,by decide +kernel,rfl,by decide +kernel,by decide +kernel⟩
theorem aeP:aS ["self","width","rows"] ["self","width","rows"] (ah lJ):=⟨rfl,rfl,rfl,by decide +kernel,rfl,by decide +kernel,by decide +kernel⟩
theorem v9:aS ["self","row","tail","tracks","holed"] ["self","row","tail"] (ah ki):=⟨rfl,rfl,rfl,by decide +kernel,rfl,by decide +kernel,by decide +kernel⟩
theorem ag4:aS ["self"] ["self"] (ah lR):=⟨rfl,rfl,rfl,by decide +kernel,rfl,by decide +kernel,by decide +kernel⟩
theorem abQ:aS ["self","text"] ["self","text"] (ah lg):=⟨rfl,rfl,rfl,by decide +kernel,rfl,by decide +kernel,by decide +kernel⟩
theorem JG:aS ["self","text","strip"] ["self","text"] (ah kj):=⟨rfl,rfl,rfl,by decide +kernel,rfl,by decide +kernel,by decide +kernel⟩
theorem aa1:aS ["self"] ["self"] (ah km):=⟨rfl,rfl,rfl,by decide +kernel,rfl,by decide +kernel,by decide +kernel⟩
theorem Ik:aS ["self","number","strip"] ["self","number"] (ah jX):=⟨rfl,rfl,rfl,by decide +kernel,rfl,by decide +kernel,by decide +kernel⟩
theorem aa2:aS ["self","strip","row"] ["self","strip","row"] (ah kn):=⟨rfl,rfl,rfl,by decide +kernel,rfl,by decide +kernel,by decide +kernel⟩
theorem pQ:aS ["self","number","row","strip","sides","side"] ["self","number","row"] (ah jY):=⟨rfl,rfl,rfl,by decide +kernel,rfl,by decide +kernel,by decide +kernel⟩
theorem AB:aS ["self","number","row","which","strip","side"] ["self","number","row","which"] (ah jZ):=⟨rfl,rfl,rfl,by decide +kernel,rfl,by decide +kernel,by decide +kernel⟩
theorem Au:aS ["self","number","strip","listed"] ["self","number"] (ah jQ):=⟨rfl,rfl,rfl,by decide +kernel,rfl,by decide +kernel,by decide +kernel⟩
theorem tE:aS ["self","numbers","wishes","plan","wish"] ["self","numbers"] (ah ko):=⟨rfl,rfl,rfl,by decide +kernel,rfl,by decide +kernel,by decide +kernel⟩
theorem ag5:aS ["self","calls"] ["self","calls"] (ah lS):=⟨rfl,rfl,rfl,by decide +kernel,rfl,by decide +kernel,by decide +kernel⟩
theorem Zq:aS ["self"] ["self"] (ah j0):=⟨rfl,rfl,rfl,by decide +kernel,rfl,by decide +kernel,by decide +kernel⟩
theorem QN:aS ["self","number"] ["self"] (ah lT):=⟨rfl,rfl,rfl,by decide +kernel,rfl,by decide +kernel,by decide +kernel⟩
theorem JH:aS ["self","count","some"] ["self","count"] (ah kr):=⟨rfl,rfl,rfl,by decide +kernel,rfl,by decide +kernel,by decide +kernel⟩
theorem LD:aS ["self","count"] ["self"] (ah kR):=⟨rfl,rfl,rfl,by decide +kernel,rfl,by decide +kernel,by decide +kernel⟩
theorem aa3:aS ["self","place"] ["self","place"] (ah ku):=⟨rfl,rfl,rfl,by decide +kernel,rfl,by decide +kernel,by decide +kernel⟩
structure aC where
 aG:Addr
 ba:Addr
 dN:Addr
 df:Addr
 bb:Addr
 cx:Addr
 bB:Addr
 aU:Addr
 dE:Addr
 cf:Addr
 dR:Addr
 dm:Addr
 dJ:Addr
 dI:Addr
 cV:Addr
 dD:Addr
 ic:Addr
 nE:Addr
 yl:FuncData
 m7:Addr
 xp:FuncData
 mW:Addr
 xa:FuncData
 m8:Addr
 xq:FuncData
 mX:Addr
 xc:FuncData
 m9:Addr
 xr:FuncData
 nu:Addr
 x3:FuncData
 mT:Addr
 wR:FuncData
 nc:Addr
 xt:FuncData
 ng:Addr
 xu:FuncData
 mP:Addr
 wa:FuncData
 nh:Addr
 xw:FuncData
 mR:Addr
 wy:FuncData
 nF:Addr
 ym:FuncData
 nk:Addr
 xJ:FuncData
 mY:Addr
 xf:FuncData
 nG:Addr
 yn:FuncData
 ni:Addr
 xx:FuncData
 mZ:Addr
 xg:FuncData
 nq:Addr
 xK:FuncData
 nr:Addr
 xM:FuncData
 m4:Addr
 xh:FuncData
 nW:Addr
 zi:FuncData
 nv:Addr
 x4:FuncData
 nM:Addr
 yI:FuncData
 ml:Addr
 p7:FuncData
 lh:Addr
 xi:FuncData
 kx:Addr
 wz:FuncData
 jM:Addr
 vY:FuncData
 lj:Addr
 xj:FuncData
 kz:Addr
 wB:FuncData
 jK:Addr
 vW:FuncData
 jO:Addr
 v3:FuncData
 jR:Addr
 v5:FuncData
 ma:Addr
 yo:FuncData
 kS:Addr
 wU:FuncData
 kC:Addr
 wC:FuncData
 j4:Addr
 wb:FuncData
 lU:Addr
 x5:FuncData
 lV:Addr
 x6:FuncData
 lD:Addr
 xy:FuncData
 kD:Addr
 wD:FuncData
 lW:Addr
 x8:FuncData
 kT:Addr
 wV:FuncData
 j5:Addr
 wc:FuncData
 j6:Addr
 we:FuncData
 kU:Addr
 wW:FuncData
 lK:Addr
 xN:FuncData
 kF:Addr
 wF:FuncData
 lX:Addr
 x9:FuncData
 ll:Addr
 xl:FuncData
 kG:Addr
 wG:FuncData
 kH:Addr
 wH:FuncData
 j7:Addr
 wg:FuncData
 kI:Addr
 wI:FuncData
 j8:Addr
 wj:FuncData
 j9:Addr
 wk:FuncData
 jS:Addr
 v7:FuncData
 kJ:Addr
 wJ:FuncData
 lY:Addr
 ya:FuncData
 ka:Addr
 wm:FuncData
 lZ:Addr
 yb:FuncData
 kK:Addr
 wK:FuncData
 kW:Addr
 wX:FuncData
 iL:Addr
 wL:FuncData
 iw:Addr
 i6:Addr
 md:Addr
 iN:Addr
 iO:Addr
 i7:Addr
 me:Addr
 iP:Addr
 i8:Addr
 mf:Addr
 iQ:Addr
 iR:Addr
 iS:Addr
 i9:Addr
 mh:Addr
 iT:Addr
 iU:Addr
 iV:Addr
 ie:Addr
 ji:Addr
 ja:Addr
 jb:Addr
 jc:Addr
 iX:Addr
 jq:Addr
 jd:Addr
 iY:Addr
 jj:Addr
structure Txt (w:World) (K:W.Frag) (mg:Str->Option Value) (a:aC):Prop where
 C2:aR K "read_bar" "read_bar" l6 a.nE a.yl
 TF:Binds K a.yl ["text"] []
 R3:mg "read_bar"=some (.ref a.nE)
 B4:aR K "read_tracks" "read_tracks" lp a.m7 a.xp
 Pw:Binds K a.xp ["scanner","width"] []
 N6:mg "read_tracks"=some (.ref a.m7)
 BJ:aR K "read_meaning" "read_meaning" kY a.mW a.xa
 N7:Binds K a.xa ["scanner","tracks"] []
 MN:mg "read_meaning"=some (.ref a.mW)
 B5:aR K "read_wishes" "read_wishes" lq a.m8 a.xq
 Px:Binds K a.xq ["numbers"] []
 N8:mg "read_wishes"=some (.ref a.m8)
 BK:aR K "check_ranges" "check_ranges" kZ a.mX a.xc
 N9:Binds K a.xc ["wishes"] []
 MO:mg "check_ranges"=some (.ref a.mX)
 B6:aR K "check_order" "check_order" lr a.m9 a.xr
 Py:Binds K a.xr ["wishes"] []
 Oa:mg "check_order"=some (.ref a.m9)
 CC:aR K "best_plan" "best_plan" lM a.nu a.x3
 R4:Binds K a.x3 ["bar","wishes"] []
 QO:mg "best_plan"=some (.ref a.nu)
 Bs:aR K "part_in_spans" "part_in_spans" kN a.mT a.wR
 MP:Binds K a.wR ["wishes","gap"] []
 LF:mg "part_in_spans"=some (.ref a.mT)
 B7:aR K "side_values" "side_values" lu a.nc a.xt
 Pz:Binds K a.xt ["bar","side"] []
 Ob:mg "side_values"=some (.ref a.nc)
 B8:aR K "value_costs" "value_costs" lx a.ng a.xu
 PB:Binds K a.xu ["bar","values","span"] []
 Oc:mg "value_costs"=some (.ref a.ng)
 AD:aR K "cheapest_values" "cheapest_values" jT a.mP a.wa
 JI:Binds K a.wa ["costs"] []
 Il:mg "cheapest_values"=some (.ref a.mP)
 B9:aR K "choose_best" "choose_best" ly a.nh a.xw
 PD:Binds K a.xw ["plan","spans","costs"] []
 Od:mg "choose_best"=some (.ref a.nh)
 AX:aR K "fewest_changes" "fewest_changes" kc a.mR a.wy
 LG:Binds K a.wy ["choices"] []
 JJ:mg "fewest_changes"=some (.ref a.mR)
 yc:aR K "best_way" "best_way" l7 a.nF a.ym
 Dl:Binds K a.ym ["before","rest"] []
 C3:mg "best_way"=some (.ref a.nF)
 xA:aR K "both_sides" "both_sides" lG a.nk a.xJ
 CD:Binds K a.xJ ["bar"] []
 Cr:mg "both_sides"=some (.ref a.nk)
 wY:aR K "sides_behind" "sides_behind" k7 a.mY a.xf
 Ca:Binds K a.xf ["bar","strip","last"] []
 BL:mg "sides_behind"=some (.ref a.mY)
 C4:aR K "key_bits" "key_bits" l8 a.nG a.yn
 TJ:Binds K a.yn ["bar"] []
 R5:mg "key_bits"=some (.ref a.nG)
 Cb:aR K "struck_keys" "struck_keys" lB a.ni a.xx
 PF:Binds K a.xx ["keys","begun"] []
 Oe:mg "struck_keys"=some (.ref a.ni)
 BM:aR K "list_strikes" "list_strikes" k8 a.mZ a.xg
 Of:Binds K a.xg ["bar","strip"] []
 MQ:mg "list_strikes"=some (.ref a.mZ)
 Cs:aR K "read_strip" "read_strip" lH a.nq a.xK
 QP:Binds K a.xK ["text"] []
 PJ:mg "read_strip"=some (.ref a.nq)
 Ct:aR K "read_holes" "read_holes" lI a.nr a.xM
 QQ:Binds K a.xM ["scanner","width"] []
 PM:mg "read_holes"=some (.ref a.nr)
 wZ:aR K "check_length" "check_length" k9 a.m4 a.xh
 Cc:Binds K a.xh ["text"] []
 BN:mg "check_length"=some (.ref a.m4)
 fM:aR K "told" "told" my a.nW a.zi
 gc:Binds K a.zi ["number","listed"] []
 f9:mg "told"=some (.ref a.nW)
 CF:aR K "carry_out" "carry_out" lN a.nv a.x4
 R6:Binds K a.x4 ["desk","feed"] []
 QR:mg "carry_out"=some (.ref a.nv)
 DG:aR K "answer" "answer" mm a.nM a.yI
 Vl:Binds K a.yI ["desk","feed"] []
 UH:mg "answer"=some (.ref a.nM)
 TK:aR K "answers" "answers" mj a.ml a.p7
 ala:Binds K a.p7 ["calls"] []
 TM:mg "answers"=some (.ref a.ml)
 C5:mg "Scanner"=some (.ref a.aG)
 bz:fg K a.aG
 t7:Mk K a.aG a.lh
 MR:aR K "__init__" "Scanner.__init__" la a.lh a.xi
 Cd:Binds K a.xi ["self","text"] []
 JK:aR K "at_end" "Scanner.at_end" ke a.kx a.wz
 wM:Binds K a.wz ["self"] []
 wo:Meth K a.aG "at_end" a.kx
 GO:aR K "sees_between" "Scanner.sees_between" jL a.jM a.vY
 vZ:Binds K a.vY ["self","low","high"] []
 vX:Meth K a.aG "sees_between" a.jM
 MS:aR K "sees" "Scanner.sees" lb a.lj a.xj
 Ce:Binds K a.xj ["self","byte"] []
 BO:Meth K a.aG "sees" a.lj
 JL:aR K "expect" "Scanner.expect" kf a.kz a.wB
 kL:Binds K a.wB ["self","byte"] []
 kb:Meth K a.aG "expect" a.kz
 Gw:aR K "expect_letters" "Scanner.expect_letters" jJ a.jK a.vW
 An:Binds K a.vW ["self","letters"] []
 Ak:Meth K a.aG "expect_letters" a.jK
 G1:aR K "take_number" "Scanner.take_number" jN a.jO a.v3
 pP:Binds K a.v3 ["self","low","high"] []
 pO:Meth K a.aG "take_number" a.jO
 Hq:aR K "take_word" "Scanner.take_word" jP a.jR a.v5
 HV:Binds K a.v5 ["self"] []
 Hr:Meth K a.aG "take_word" a.jR
 mU:bN K a.aG "text"
 eY:bN K a.aG "place"
 V6:mg "Bar"=some (.ref a.ba)
 bU:fg K a.ba
 zj:Mk K a.ba a.ma
 R7:aR K "__init__" "Bar.__init__" l9 a.ma a.yo
 TN:Binds K a.yo ["self","numbers","tracks"] []
 LH:aR K "track_bit" "Bar.track_bit" kO a.kS a.wU
 kX:Binds K a.wU ["self","word","first","second"] []
 kM:Meth K a.ba "track_bit" a.kS
 JM:aR K "lock_force" "Bar.lock_force" kg a.kC a.wC
 Bt:Binds K a.wC ["self","lock_value"] []
 AY:Meth K a.ba "lock_force" a.kC
 Im:aR K "side_of_key" "Bar.side_of_key" jU a.j4 a.wb
 JN:Binds K a.wb ["self","key"] []
 Io:Meth K a.ba "side_of_key" a.j4
 tK:bN K a.ba "numbers"
 tQ:bN K a.ba "width"
 tG:bN K a.ba "split_key"
 ny:bN K a.ba "tail"
 tV:bN K a.ba "base"
 tX:bN K a.ba "step"
 tN:bN K a.ba "accent"
 tY:bN K a.ba "most"
 tZ:bN K a.ba "rise"
 t4:bN K a.ba "fall"
 rm:bN K a.ba "tracks"
 Vm:mg "Wish"=some (.ref a.dN)
 fq:fg K a.dN
 yX:Mk K a.dN a.lU
 QS:aR K "__init__" "Wish.__init__" lO a.lU a.x5
 R8:Binds K a.x5 ["self","row","side","force"] []
 iW:bN K a.dN "row"
 oK:bN K a.dN "side"
 rn:bN K a.dN "force"
 Vn:mg "Plan"=some (.ref a.df)
 nN:fg K a.df
 yY:Mk K a.df a.lV
 QT:aR K "__init__" "Plan.__init__" lP a.lV a.x6
 R9:Binds K a.x6 ["self"] []
 Og:aR K "choose" "Plan.choose" lC a.lD a.xy
 PN:Binds K a.xy ["self","span","value","cost"] []
 Oh:Meth K a.df "choose" a.lD
 JO:aR K "value_for" "Plan.value_for" kh a.kD a.wD
 LI:Binds K a.wD ["self","wish"] []
 JP:Meth K a.df "value_for" a.kD
 rB:bN K a.df "cost"
 rj:bN K a.df "chosen"
 DR:mg "Side"=some (.ref a.bb)
 bH:fg K a.bb
 uo:Mk K a.bb a.lW
 QU:aR K "__init__" "Side.__init__" lQ a.lW a.x8
 C6:Binds K a.x8 ["self","bar","number"] []
 LJ:aR K "pass_row" "Side.pass_row" kP a.kT a.wV
 BP:Binds K a.wV ["self","sounding"] []
 Bu:Meth K a.bb "pass_row" a.kT
 Ip:aR K "pass_locks" "Side.pass_locks" jV a.j5 a.wc
 JQ:Binds K a.wc ["self","sounding"] []
 Iq:Meth K a.bb "pass_locks" a.j5
 Ir:aR K "pass_swell" "Side.pass_swell" jW a.j6 a.we
 JR:Binds K a.we ["self","sounding"] []
 Iu:Meth K a.bb "pass_swell" a.j6
 LN:aR K "force_by" "Side.force_by" kQ a.kU a.wW
 BQ:Binds K a.wW ["self","sounding"] []
 Bv:Meth K a.bb "force_by" a.kU
 nz:bN K a.bb "bar"
 tu:bN K a.bb "cancel_bit"
 qX:bN K a.bb "lock_bits"
 tL:bN K a.bb "up_bit"
 tI:bN K a.bb "down_bit"
 tw:bN K a.bb "accent_bit"
 qZ:bN K a.bb "soft_bit"
 hJ:bN K a.bb "lock_value"
 iM:bN K a.bb "swell"
 UI:mg "Strip"=some (.ref a.cx)
 i4:fg K a.cx
 yJ:Mk K a.cx a.lK
 PQ:aR K "__init__" "Strip.__init__" lJ a.lK a.xN
 QV:Binds K a.xN ["self","width","rows"] []
 JS:aR K "sounding" "Strip.sounding" ki a.kF a.wF
 wN:Binds K a.wF ["self","row","tail"] []
 wq:Meth K a.cx "sounding" a.kF
 tM:bN K a.cx "width"
 oI:bN K a.cx "rows"
 Vo:mg "Desk"=some (.ref a.bB)
 cI:fg K a.bB
 yZ:Mk K a.bB a.lX
 QW:aR K "__init__" "Desk.__init__" lR a.lX a.x9
 Sa:Binds K a.x9 ["self"] []
 MT:aR K "put_bar" "Desk.put_bar" lg a.ll a.xl
 Oi:Binds K a.xl ["self","text"] []
 MU:Meth K a.bB "put_bar" a.ll
 JT:aR K "put_strip" "Desk.put_strip" kj a.kG a.wG
 LO:Binds K a.wG ["self","text"] []
 JU:Meth K a.bB "put_strip" a.kG
 JV:aR K "check_bar" "Desk.check_bar" km a.kH a.wH
 Bw:Binds K a.wH ["self"] []
 AZ:Meth K a.bB "check_bar" a.kH
 Iv:aR K "find_strip" "Desk.find_strip" jX a.j7 a.wg
 wt:Binds K a.wg ["self","number"] []
 v8:Meth K a.bB "find_strip" a.j7
 JW:aR K "check_row" "Desk.check_row" kn a.kI a.wI
 Bx:Binds K a.wI ["self","strip","row"] []
 A0:Meth K a.bB "check_row" a.kI
 Iw:aR K "tell_state" "Desk.tell_state" jY a.j8 a.wj
 JX:Binds K a.wj ["self","number","row"] []
 Iy:Meth K a.bB "tell_state" a.j8
 Iz:aR K "tell_force" "Desk.tell_force" jZ a.j9 a.wk
 JY:Binds K a.wk ["self","number","row","which"] []
 IA:Meth K a.bB "tell_force" a.j9
 Hs:aR K "tell_strikes" "Desk.tell_strikes" jQ a.jS a.v7
 HW:Binds K a.v7 ["self","number"] []
 Ht:Meth K a.bB "tell_strikes" a.jS
 JZ:aR K "tell_plan" "Desk.tell_plan" ko a.kJ a.wJ
 LP:Binds K a.wJ ["self","numbers"] []
 J0:Meth K a.bB "tell_plan" a.kJ
 fZ:bN K a.bB "bar"
 m5:bN K a.bB "strips"
 Vp:mg "Feed"=some (.ref a.aU)
 d8:fg K a.aU
 y0:Mk K a.aU a.lY
 QX:aR K "__init__" "Feed.__init__" lS a.lY a.ya
 Sb:Binds K a.ya ["self","calls"] []
 IB:aR K "is_used_up" "Feed.is_used_up" j0 a.ka a.wm
 J1:Binds K a.wm ["self"] []
 IC:Meth K a.aU "is_used_up" a.ka
 QY:aR K "take" "Feed.take" lT a.lZ a.yb
 yd:Binds K a.yb ["self"] []
 xO:Meth K a.aU "take" a.lZ
 J2:aR K "take_some" "Feed.take_some" kr a.kK a.wK
 wO:Binds K a.wK ["self","count"] []
 wu:Meth K a.aU "take_some" a.kK
 LQ:aR K "take_row" "Feed.take_row" kR a.kW a.wX
 w6:Binds K a.wX ["self"] []
 wQ:Meth K a.aU "take_row" a.kW
 pU:bN K a.aU "calls"
 lE:bN K a.aU "place"
 BR:mg "TextTooLong"=some (.ref a.dE)
 Oj:cD K a.dE=true
 Ol:W.keepIn K (.ref a.dE)=true
 xm:W.findIn K (.ref a.dE) "__init__"=some (some (.builtin "Exception.__init__"))
 oJ:mg "TextFault"=some (.ref a.cf)
 nt:cD K a.cf=true
 pW:W.keepIn K (.ref a.cf)=true
 J3:aR K "__init__" "TextFault.__init__" ku a.iL a.wL
 pS:Binds K a.wL ["self","place"] []
 pX:W.findIn K (.ref a.cf) "__init__"=some (some (.ref a.iL))
 pY:W.isFn K (.ref a.iL)=true
 xP:W.findIn K (.ref a.cf) "__setattr__"=some (some (.builtin "object.__setattr__"))
 xQ:W.findIn K (.ref a.cf) "__getattribute__"=some (some (.builtin "BaseException.__getattribute__"))
 xR:W.findIn K (.ref a.cf) "__getattr__"=some none
 tD:bN K a.cf "place"
 CG:mg "DeskFull"=some (.ref a.dR)
 Sd:cD K a.dR=true
 Se:W.keepIn K (.ref a.dR)=true
 ye:W.findIn K (.ref a.dR) "__init__"=some (some (.builtin "Exception.__init__"))
 DH:mg "NoBar"=some (.ref a.dm)
 Vq:cD K a.dm=true
 Vr:W.keepIn K (.ref a.dm)=true
 yK:W.findIn K (.ref a.dm) "__init__"=some (some (.builtin "Exception.__init__"))
 C7:mg "NoStrip"=some (.ref a.dJ)
 TQ:cD K a.dJ=true
 TR:W.keepIn K (.ref a.dJ)=true
 yp:W.findIn K (.ref a.dJ) "__init__"=some (some (.builtin "Exception.__init__"))
 Cf:mg "OtherWidth"=some (.ref a.dI)
 PR:cD K a.dI=true
 PX:W.keepIn K (.ref a.dI)=true
 xB:W.findIn K (.ref a.dI) "__init__"=some (some (.builtin "Exception.__init__"))
 rk:mg "OutOfRange"=some (.ref a.cV)
 tO:cD K a.cV=true
 tP:W.keepIn K (.ref a.cV)=true
 pV:W.findIn K (.ref a.cV) "__init__"=some (some (.builtin "Exception.__init__"))
 AE:mg "RowsOutOfOrder"=some (.ref a.dD)
 J4:cD K a.dD=true
 J5:W.keepIn K (.ref a.dD)=true
 wx:W.findIn K (.ref a.dD) "__init__"=some (some (.builtin "Exception.__init__"))
 MV:mg "UnknownCall"=some (.ref a.ic)
 Om:cD K a.ic=true
 Oo:W.keepIn K (.ref a.ic)=true
 xn:W.findIn K (.ref a.ic) "__init__"=some (some (.builtin "Exception.__init__"))
 Gx:W.exmOne K (.ref a.dE) (.ref a.cV)=some false
 Gr:W.exmOne K (.ref a.dE) (.ref a.dE)=some true
 GP:W.exmOne K (.ref a.cf) (.ref a.cV)=some false
 GI:W.exmOne K (.ref a.cf) (.ref a.dE)=some false
 GQ:W.exmOne K (.ref a.cf) (.ref a.dI)=some false
 Gq:W.exmOne K (.ref a.cf) (.ref a.dD)=some false
 Hu:W.exmOne K (.ref a.cf) (.ref a.dJ)=some false
 G2:W.exmOne K (.ref a.cf) (.ref a.cf)=some true
 G3:W.exmOne K (.ref a.dR) (.ref a.cV)=some false
 GR:W.exmOne K (.ref a.dR) (.ref a.dE)=some false
 G4:W.exmOne K (.ref a.dR) (.ref a.dI)=some false
 Gs:W.exmOne K (.ref a.dR) (.ref a.dD)=some false
 HX:W.exmOne K (.ref a.dR) (.ref a.dJ)=some false
 Hc:W.exmOne K (.ref a.dR) (.ref a.cf)=some false
 J6:W.exmOne K (.ref a.dR) (.ref a.dm)=some false
 Hv:W.exmOne K (.ref a.dR) (.ref a.dR)=some true
 HY:W.exmOne K (.ref a.dm) (.ref a.cV)=some false
 Hw:W.exmOne K (.ref a.dm) (.ref a.dE)=some false
 HZ:W.exmOne K (.ref a.dm) (.ref a.dI)=some false
 GS:W.exmOne K (.ref a.dm) (.ref a.dD)=some false
 LR:W.exmOne K (.ref a.dm) (.ref a.dJ)=some false
 ID:W.exmOne K (.ref a.dm) (.ref a.cf)=some false
 Oq:W.exmOne K (.ref a.dm) (.ref a.dm)=some true
 Hd:W.exmOne K (.ref a.dJ) (.ref a.cV)=some false
 G5:W.exmOne K (.ref a.dJ) (.ref a.dE)=some false
 He:W.exmOne K (.ref a.dJ) (.ref a.dI)=some false
 Gy:W.exmOne K (.ref a.dJ) (.ref a.dD)=some false
 IE:W.exmOne K (.ref a.dJ) (.ref a.dJ)=some true
 GJ:W.exmOne K (.ref a.dI) (.ref a.cV)=some false
 Gz:W.exmOne K (.ref a.dI) (.ref a.dE)=some false
 GK:W.exmOne K (.ref a.dI) (.ref a.dI)=some true
 GL:W.exmOne K (.ref a.cV) (.ref a.cV)=some true
 Gm:W.exmOne K (.ref a.dD) (.ref a.cV)=some false
 Gk:W.exmOne K (.ref a.dD) (.ref a.dE)=some false
 Gn:W.exmOne K (.ref a.dD) (.ref a.dI)=some false
 Gj:W.exmOne K (.ref a.dD) (.ref a.dD)=some true
 eu:mg "len"=none
 je:mg "range"=none
 rC:mg "enumerate"=none
 uB:mg "max"=none
 nX:mg "min"=none
 zk:mg "ord"=none
 zl:mg "abs"=none
 yf:mg "reversed"=none
 zm:mg "sum"=none
 p6:∃ u,mg "LINE_END"=some u/\RelV (.int 10) u
 oO:∃ u,mg "BLANK"=some u/\RelV (.int 32) u
 rD:∃ u,mg "DIGIT_ZERO"=some u/\RelV (.int 48) u
 xS:∃ u,mg "DIGIT_NINE"=some u/\RelV (.int 57) u
 t8:∃ u,mg "LETTER_A"=some u/\RelV (.int 97) u
 yq:∃ u,mg "LETTER_Z"=some u/\RelV (.int 122) u
 yA:∃ u,mg "LETTERS"=some u/\RelV (.str "abcdefghijklmnopqrstuvwxyz") u
 rE:∃ u,mg "MOST_FORCE"=some u/\RelV (.int 127) u
 xC:∃ u,mg "MOST_WISHES"=some u/\RelV (.int 256) u
 yr:∃ u,mg "MOST_ROW"=some u/\RelV (.int 65535) u
 yg:∃ u,mg "MOST_KEYS"=some u/\RelV (.int 128) u
 xD:∃ u,mg "MOST_TRACKS"=some u/\RelV (.int 128) u
 yh:∃ u,mg "MOST_ROWS"=some u/\RelV (.int 256) u
 xT:∃ u,mg "MOST_BYTES"=some u/\RelV (.int 65536) u
 xE:∃ u,mg "MOST_STRIPS"=some u/\RelV (.int 32) u
 yt:∃ u,mg "CALL_BAR"=some u/\RelV (.int 1) u
 yi:∃ u,mg "CALL_READ"=some u/\RelV (.int 2) u
 xU:∃ u,mg "CALL_STATE"=some u/\RelV (.int 3) u
 xV:∃ u,mg "CALL_FORCE"=some u/\RelV (.int 4) u
 xo:∃ u,mg "CALL_STRIKES"=some u/\RelV (.int 5) u
 yj:∃ u,mg "CALL_PLAN"=some u/\RelV (.int 6) u
 iN:cE K a.iN [.int 1,.int 128]
 iO:cE K a.iO [.int 0,.int 128]
 md:cE K a.md [.ref a.iN,.ref a.iO]
 i6:cE K a.i6 [.str "bar",.ref a.md]
 iP:cE K a.iP [.int 0,.int 15]
 me:cE K a.me [.ref a.iP]
 i7:cE K a.i7 [.str "tail",.ref a.me]
 iQ:cE K a.iQ [.int 0,.int 127]
 iR:cE K a.iR [.int 0,.int 127]
 iS:cE K a.iS [.int 0,.int 127]
 mf:cE K a.mf [.ref a.iQ,.ref a.iR,.ref a.iS]
 i8:cE K a.i8 [.str "force",.ref a.mf]
 iT:cE K a.iT [.int 0,.int 1023]
 iU:cE K a.iU [.int 0,.int 1023]
 iV:cE K a.iV [.int 0,.int 1023]
 mh:cE K a.mh [.ref a.iT,.ref a.iU,.ref a.iV]
 i9:cE K a.i9 [.str "swell",.ref a.mh]
 iw:cE K a.iw [.ref a.i6,.ref a.i7,.ref a.i8,.ref a.i9]
 V7:mg "HEAD"=some (.ref a.iw)
 ji:cE K a.ji [.int 127]
 ja:cE K a.ja []
 jb:cE K a.jb []
 jc:cE K a.jc [.int 2,.int 1]
 iX:cE K a.iX [.int 1]
 jq:cE K a.jq [.int 1]
 jd:cE K a.jd [.int 1]
 iY:cE K a.iY [.int 1]
 jj:cE K a.jj []
 ie:uK w K a.ie [("key",.ref a.ji),("loud",.ref a.ja),("soft",.ref a.jb),("lock",.ref a.jc),("cancel",.ref a.iX),("up",.ref a.jq),("down",.ref a.jd),("accent",.ref a.iY),("end",.ref a.jj)]
 C8:mg "MEANINGS"=some (.ref a.ie)
end RF
end
section
namespace RF
open PySem PySem.Spec PyProof.Rows L2 LX LM
open Rol (Bytes)
def Kp (a:Addr) (H H':Hp):Prop:=∀ b o,H b=some o->b≠a->H' b=some o
theorem Kp.rfl' {a:Addr}{H:Hp}:Kp a H H:=fun _ _ h _=>h
theorem Kp.trans {a:Addr}{H H1 H2:Hp} (x:Kp a H H1) (y:Kp a H1 H2):Kp a H H2:=fun b o h n=>y b o (x b o h n) n
theorem Kp.upd {a:Addr}{H:Hp}{o:HO}:Kp a H (L2.upd H a o):=fun b u h n=>by rw[ai n];exact h
theorem Kp.same {a:Addr}{H H1 H2:Hp} (x:Kp a H H1) (y:au H1 H2):Kp a H H2:=fun b o h n=>y b o (x b o h n)
theorem apV {K:W.Frag}{a b:Addr}{H H':Hp}{xs:List V} (k:Kp a H H') (h:aq K H b xs) (n:∀ o,H a=some o->(∀ ys,o≠.lst ys)/\∀ ob u,o≠.bK ob u):aq K H' b xs:=by
 rcases h with (h | ⟨o,h⟩) | h
 ·exact .inl (.inl (k _ _ h fun z=>by subst z;exact(n _ h).1 _ rfl))
 ·exact .inl (.inr ⟨o,k _ _ h fun z=>by subst z;exact(n _ h).2 _ _ rfl⟩)
 exact .inr h
def bV (c:UInt8):V:=.int (c.toNat:Int)
def vC (tA:Addr) (p:Nat):List (Str×V):=[("text",.ref tA),("place",.int (p:Int))]
theorem ui (tA:Addr) (p:Nat):(vC tA p).lookup ("text":Str)=some (.ref tA):=rfl
theorem gr (tA:Addr) (p:Nat):(vC tA p).lookup ("place":Str)=some (.int (p:Int)):=rfl
structure bo (K:W.Frag) (C:Addr) (H:Hp) (a tA:Addr) (B:Bytes) (p:Nat):Prop where
 obj:∃ dx,H a=some (.ins C dx (vC tA p))
 txt:aq K H tA (B.map bV)
 le:p<=B.length
 sm:B.length<=1000000
def gQ (B:Bytes) (p:Nat) (lo hi:Int):Bool:=match B[p]? with
 | none=>false
 | some c=>decide (lo<=(c.toNat:Int))&&decide ((c.toNat:Int)<=hi)
section
variable {P:Program}{w:World}{K:W.Frag}{mg:Str->Option Value}{base:Heap}{a:aC}
def alb (K:W.Frag) (a:aC):Sp:=fun vs H Q _=>∃ (s tA:Addr) (B:Bytes) (p:Nat),vs=[.ref s]/\bo K a.aG H s tA B p/\Q (.bl (decide (p=B.length))) H
theorem A1 (T:Txt w K mg a):aN P w K mg base bC true 1 a.kx a.wz ["self"] (alb K a):=by
 refine T.JK.ok Z7 (fun vs H Q E h=>?_) (fun aF A outer s H vs Q E hr h=>?_)
 ·obtain⟨_,_,_,_,rfl,_⟩:=h
  rfl
 obtain⟨s,tA,B,p,rfl,S,k⟩:=h
 obtain⟨dx,ho⟩:=S.obj
 refine⟨_,(aw (bc (yO fw (aI (pv 0) rfl) (da fm rfl T.eu e7 (aa (aI (pv 0) rfl) ag)) (bS _)))),?_⟩
 refine⟨_,rfl,s,_,dx,_,_,rfl,ho,T.bz,T.eY,gr _ _,?_⟩
 refine⟨_,rfl,s,_,dx,_,_,rfl,ho,T.bz,T.mU,ui _ _,tA,_,rfl,.inl S.txt,?_⟩
 refine⟨rfl,?_⟩
 rw[List.length_map]
 have e:decide (V.int (p:Int)=V.int (B.length:Int))=decide (p=B.length):=by
  rw[Bool.eq_iff_iff,decide_eq_true_eq,decide_eq_true_eq]
  exact⟨fun z=>by injection z with z;omega,fun z=>by rw[z]⟩
 rw[e]
 exact k
def Faults (a:aC) (s:Addr) (H:Hp) (E:XK) (k:Nat):Prop:=∀ (d:Addr) (H':Hp),H' d=some (.xd [("place",.int (k:Int))])->Kp s H H'->E (.ref a.cf) (some d) H'
def Xk (K:W.Frag) (a:aC):Sp:=fun vs H Q _=>∃ (e u:Addr) (v:V),vs=[.ref e,v]/\H e=some (XO e (cY a.cf u none))/\∀ d,H d=none->Q .aH (upd (upd H d (.xd [("place",v)])) e (XO e (cY a.cf u (some d))))
theorem qY (T:Txt w K mg a):aN P w K mg base bC true 1 a.iL a.wL ["self","place"] (Xk K a):=by
 refine T.J3.ok aa3 (fun vs H Q E h=>?_) (fun aF A outer s H vs Q E hr h=>?_)
 ·obtain⟨_,_,_,rfl,_⟩:=h
  rfl
 obtain⟨e,u,v,rfl,he,k⟩:=h
 refine⟨_,(aw (anU (pv 0) (pv 1) rfl)),?_⟩
 exact⟨_,rfl,_,rfl,e,_,u,rfl,he,T.nt,T.xP,T.tD,fun d hd=>k d hd⟩
theorem nB {E:XK}{s:Addr}{H0 H1:Hp}{k:Nat} (h:Faults a s H0 E k) (kp:Kp s H0 H1):([V.int (k:Int)]:List V).length<=sizeLine/\∀ x u,H1 x=none ->
  Xk K a (.ref x::[V.int (k:Int)]) (upd H1 x (XO x (cY a.cf u none))) (fun v H2=>v=.aH/\∃ d,H2 x=some (XO x (cY a.cf u d))/\E (.ref a.cf) d (vp H2 x)) E0:=by
 refine⟨by show 1<=sizeLine;decide,fun x u hx=>⟨x,u,_,rfl,ak,fun d hd=>⟨rfl,some d,ak,?_⟩⟩⟩
 have dx:d≠x:=fun z=>by rw[z,ak] at hd;cases hd
 have sV:H1 d=none:=by rw[ai dx] at hd;exact hd
 refine h d _ ?_ fun b o hb n=>?_
 ·rw[nU dx,ai dx,ak]
 have h1:=kp b o hb n
 have bx:b≠x:=aJ h1 hx
 rw[nU bx,ai bx,ai (aJ h1 sV),ai bx]
 exact h1
def amF (K:W.Frag) (a:aC):Sp:=fun vs H Q _=>∃ (s tA dx:Addr) (B:Bytes),vs=[.ref s,.ref tA]/\H s=some (.ins a.aG dx [])/\aq K H tA (B.map bV)/\B.length<=1000000/\∀ H',bo K a.aG H' s tA B 0->Kp s H H'->Q .aH H'
theorem rS {K:W.Frag}{s b C dx:Addr}{H H':Hp}{fs:List (Str×V)}{xs:List V} (k:Kp s H H') (h:aq K H b xs) (ho:H s=some (.ins C dx fs)):aq K H' b xs:=apV k h fun o br=>by
 rw[ho] at br
 cases br
 exact⟨fun _ z=>(nomatch z),fun _ _ z=>(nomatch z)⟩
theorem MW (T:Txt w K mg a):aN P w K mg base bC true 1 a.lh a.xi ["self","text"] (amF K a):=by
 refine T.MR.ok abO (fun vs H Q E h=>?_) (fun aF A outer s H vs Q E hr h=>?_)
 ·obtain⟨_,_,_,_,rfl,_⟩:=h
  rfl
 obtain⟨s,tA,dx,B,rfl,ho,ht,hB,k⟩:=h
 refine⟨_,(ao (bZ (pv 0) (pv 1) rfl)
  (aw (bZ (pv 0) aB rfl))),?_⟩
 refine⟨_,rfl,_,rfl,s,_,dx,[],rfl,ho,T.bz,T.mU,(by show 0<1000;decide),?_⟩
 refine⟨_,rfl,s,_,dx,_,rfl,ak,T.bz,T.eY,(by show 1<1000;decide),?_⟩
 have kp:Kp s H (upd (upd H s (.ins a.aG dx (bE "text" (.ref tA) []))) s (.ins a.aG dx (bE "place" (.int 0) (bE "text" (.ref tA) [])))):=fun b o hb n=>by rw[ai n,ai n];exact hb
 exact k _ ⟨⟨dx,ak⟩,rS kp ht ho,Nat.zero_le _,hB⟩ kp
def aoe (K:W.Frag) (a:aC):Sp:=fun vs H Q _=>∃ (s tA:Addr) (B:Bytes) (p:Nat) (lo hi:Int),vs=[.ref s,.int lo,.int hi]/\bo K a.aG H s tA B p/\Q (.bl (gQ B p lo hi)) H
theorem y8 {B:Bytes}{p:Nat}{c:UInt8} (h:B[p]?=some c):iG (B.map bV) (p:Int)=some (.int (c.toNat:Int)):=il (by rw[List.getElem?_map,h];rfl)
theorem Ao (T:Txt w K mg a):aN P w K mg base bC true 2 a.jM a.vY ["self","low","high"] (aoe K a):=by
 refine T.GO.ok Y2 (fun vs H Q E h=>?_) (fun aF A outer s H vs Q E hr h=>?_)
 ·obtain⟨_,_,_,_,_,_,rfl,_⟩:=h
  rfl
 obtain⟨s,tA,B,p,lo,hi,rfl,S,k⟩:=h
 obtain⟨dx,ho⟩:=S.obj
 refine⟨_,(aw (bc (apb (apc (gL (pv 0) T.bz T.wo (A1 T) (hr.mono (by decide)) T.wM .nil aL)) (apa (am6 uD uD (pv 1) (bR cw (aI (pv 0) rfl) (aI (pv 0) rfl) (fun _ _=>rfl)) (pv 2)))))),?_⟩
 refine⟨_,rfl,s,dx,_,rfl,ho,rfl,s,tA,B,p,rfl,S,_,rfl,_,rfl,?_⟩
 by_cases hp:p=B.length
 ·have e:gQ B p lo hi=false:=by
   unfold gQ
   rw[List.getElem?_eq_none (by omega)]
  rw[decide_eq_true hp]
  rw[e] at k
  exact aE k
 have hl:p<B.length:=by have:=S.le;omega
 rw[decide_eq_false hp]
 refine aX ?_
 have hc:B[p]?=some B[p]:=List.getElem?_eq_getElem hl
 refine⟨_,rfl,_,rfl,s,_,dx,_,_,rfl,ho,T.bz,T.mU,ui _ _,?_⟩
 refine⟨_,rfl,s,_,dx,_,_,rfl,ho,T.bz,T.eY,gr _ _,tA,_,_,_,rfl,rfl,S.txt,y8 hc,_,_,rfl,rfl,_,rfl,?_⟩
 have e:gQ B p lo hi=(decide (lo<=(B[p].toNat:Int))&&decide ((B[p].toNat:Int)<=hi)):=by
  unfold gQ
  rw[hc]
 rw[e] at k
 by_cases h1:lo<=(B[p].toNat:Int)
 ·rw[decide_eq_true h1] at k ⊢
  exact aX ⟨_,rfl,_,_,rfl,rfl,k⟩
 rw[decide_eq_false h1] at k ⊢
 exact aE k
def apW (K:W.Frag) (a:aC):Sp:=fun vs H Q _=>∃ (s tA:Addr) (B:Bytes) (p:Nat) (c:UInt8),vs=[.ref s,.int (c.toNat:Int)]/\bo K a.aG H s tA B p/\Q (.bl (decide (B[p]?=some c))) H
theorem amG (B:Bytes) (p:Nat) (c:UInt8):gQ B p (c.toNat:Int) (c.toNat:Int)=decide (B[p]?=some c):=by
 unfold gQ
 cases h:B[p]? with
 | none=>simp
 | some x =>
  rw[Bool.eq_iff_iff,Bool.and_eq_true,decide_eq_true_eq,decide_eq_true_eq,decide_eq_true_eq]
  constructor
  ·rintro ⟨h1,h2⟩
   have:x.toNat=c.toNat:=by omega
   rw[UInt8.toNat_inj.mp this]
  intro z
  cases z
  exact⟨Int.le_refl _,Int.le_refl _⟩
theorem MX (T:Txt w K mg a):aN P w K mg base bC true 3 a.lj a.xj ["self","byte"] (apW K a):=by
 refine T.MS.ok abP (fun vs H Q E h=>?_) (fun aF A outer s H vs Q E hr h=>?_)
 ·obtain⟨_,_,_,_,_,rfl,_⟩:=h
  rfl
 obtain⟨s,tA,B,p,c,rfl,S,k⟩:=h
 obtain⟨dx,ho⟩:=S.obj
 refine⟨_,(aw (bc (bf (pv 0) T.bz T.vX (Ao T) (hr.mono (by decide)) T.vZ .nil aL (aa (pv 1) (aa (pv 1) ag))))),?_⟩
 refine⟨_,rfl,s,dx,_,rfl,ho,rfl,_,rfl,_,rfl,s,tA,B,p,_,_,rfl,S,?_⟩
 rw[amG]
 exact k
def Reads {α:Type} (K:W.Frag) (a:aC) (s tA:Addr) (B:Bytes) (H:Hp) (r:Rol.Read α) (enc:α->V) (Q:VK) (E:XK):Prop:=match r with
 | .error k=>Faults a s H E k
 | .ok x=>∀ H',bo K a.aG H' s tA B x.2.1->Kp s H H'->Q (enc x.1) H'
def amH (K:W.Frag) (a:aC):Sp:=fun vs H Q E=>∃ (s tA:Addr) (B:Bytes) (p:Nat) (c:UInt8),vs=[.ref s,.int (c.toNat:Int)]/\bo K a.aG H s tA B p/\Reads K a s tA B H (Rol.exactly [c] p (B.drop p)) (fun _=>.aH) Q E
theorem bo.move {K:W.Frag}{C:Addr}{H H':Hp}{s tA:Addr}{B:Bytes}{p q:Nat} (S:bo K C H s tA B p) (k:Kp s H H') (o:∃ dx,H' s=some (.ins C dx (vC tA q))) (le:q<=B.length):bo K C H' s tA B q:=by
 obtain⟨dx,ho⟩:=S.obj
 exact⟨o,rS k S.txt ho,le,S.sm⟩
theorem mQ (T:Txt w K mg a):aN P w K mg base (cu P w) true 4 a.kz a.wB ["self","byte"] (amH K a):=by
 refine T.JL.eh Z8 (fun vs H Q E h=>?_) (fun aF A outer s H vs Q E hr h=>?_)
 ·obtain⟨_,_,_,_,_,rfl,_⟩:=h
  rfl
 obtain⟨s,tA,B,p,c,rfl,S,k⟩:=h
 obtain⟨dx,ho⟩:=S.obj
 refine⟨_,(ao (cn (qf (jl (bf (pv 0) T.bz T.BO (MX T) (hr.mono (by decide)) T.Ce .nil aL (aa (pv 1) ag)))) (aw (rL ft rfl rfl T.oJ T.pW T.nt T.pX T.pY (qY T) (hr.mono (by decide)) T.pS (aa (aI (pv 0) rfl) ag))) cv)
  (aw (rK (pv 0) aB rT))),?_⟩
 refine⟨_,rfl,s,dx,_,rfl,ho,rfl,_,rfl,s,tA,B,p,c,rfl,S,_,rfl,?_⟩
 by_cases hc:B[p]?=some c
 ·rw[decide_eq_true hc]
  refine aE ?_
  refine⟨_,rfl,s,_,dx,_,_,rfl,ho,T.bz,T.eY,gr _ _,_,_,rfl,rfl,dx,_,ho,(by show 2<1000;decide),?_⟩
  rw[ip hc,p4,pZ] at k
  have hp:=(List.getElem?_eq_some_iff.mp hc).1
  exact k _ (S.move Kp.upd ⟨dx,ak⟩ hp) Kp.upd
 rw[decide_eq_false hc]
 refine aX ?_
 refine⟨_,rfl,s,_,dx,_,_,rfl,ho,T.bz,T.eY,gr _ _,?_⟩
 have e:Rol.exactly [c] p (B.drop p)=.error p:=by
  cases hx:B[p]? with
  | none=>rw[ug hx,rF]
  | some x=>rw[ip hx,rp _ _ _ (fun z=>hc (by rw[hx,z]))]
 rw[e] at k
 exact nB k Kp.rfl'
end
end RF
end
section
namespace RF
open PySem PySem.Spec PyProof.Rows L2 LX LM
open Rol (Bytes)
section
variable {P:Program}{w:World}{K:W.Frag}{mg:Str->Option Value}{base:Heap}{a:aC}
theorem Faults.mono {s:Addr}{H H':Hp}{E:XK}{k:Nat} (kp:Kp s H H') (h:Faults a s H E k):Faults a s H' E k:=fun d H2 hd k2=>h d H2 hd (kp.trans k2)
theorem aof {x:Str}{g:TG}{tb:TS}{D:Ends}{σ:L2.St}{H:Hp} (Pv:Nat->L2.St->Hp->Prop) (h0:Pv 0 σ H)
  (hs:∀ i c σ H,x.cps[i]?=some c->Pv i σ H->g (.str ⟨#[c]⟩) σ H fun σ2 H2=>tb {D with nx:=Pv (i+1),ct:=Pv (i+1),bk:=D.nx} σ2 H2) (hd:∀ σ H,Pv x.cps.size σ H->D.nx σ H) :
  ∃ W:Nat->Nat->L2.St->Hp->Prop,(∃ m,W 0 m σ H)/\∀ i m σ H,W i m σ H ->
   ((vf x).stop i H/\D.nx σ H)\/((vf x).go i H/\∃ N:L2.St->Hp->Prop,(∀ σ' H',N σ' H'->∃ m',m'<m/\W (i+1) m' σ' H')/\∀ v H',(vf x).fT i H v H'->g v σ H' fun σ2 H2=>tb {D with nx:=N,ct:=N,bk:=D.nx} σ2 H2):=by
 refine⟨fun i m σ H=>m=x.cps.size-i/\i<=x.cps.size/\Pv i σ H,⟨x.cps.size,by simp,Nat.zero_le _,h0⟩,?_⟩
 rintro i m σ H ⟨rfl,hi,p⟩
 by_cases aO:i<x.cps.size
 ·refine .inr ⟨aO,Pv (i+1),fun σ' H' p'=>⟨x.cps.size-(i+1),by omega,rfl,aO,p'⟩,fun v H' y=>?_⟩
  obtain⟨e,c,hc,rfl⟩:=y
  subst e
  exact hs i c σ _ hc p
 have e:i=x.cps.size:=by omega
 subst e
 exact .inl ⟨Nat.le_refl _,hd σ H p⟩
def fb (x:Str) (wd:Bytes):Prop:=x.cps.toList=wd.map (·.toNat)
def alc (K:W.Frag) (a:aC):Sp:=fun vs H Q E=>∃ (s tA:Addr) (B:Bytes) (p:Nat) (x:Str) (wd:Bytes),vs=[.ref s,.str x]/\fb x wd/\bo K a.aG H s tA B p/\Reads K a s tA B H (Rol.exactly wd p (B.drop p)) (fun _=>.aH) Q E
theorem yu {α:Type}{l:List α}{i:Nat}{x:α} (h:l[i]?=some x):l.drop i=x::l.drop (i+1):=by
 obtain⟨h1,h2⟩:=List.getElem?_eq_some_iff.mp h
 rw[List.drop_eq_getElem_cons h1,h2]
theorem GA (T:Txt w K mg a):aN P w K mg base (cu P w) true 5 a.jK a.vW ["self","letters"] (alc K a):=by
 refine T.Gw.eh Gv (fun vs H Q E h=>?_) (fun aF A outer s H vs Q E hr h=>?_)
 ·obtain⟨_,_,_,_,_,_,rfl,_⟩:=h
  rfl
 obtain⟨s,tA,B,p,x,wd,rfl,hx,S,k⟩:=h
 have hsz:x.cps.size=wd.length:=by
  have:=congrArg List.length hx
  rw[List.length_map,Array.length_toList] at this
  exact this
 refine⟨_,(aw (dS jx rfl (apB (pv 1)) (bM (i:=2) Gv.nd rfl (Or.inl rfl)) (aw (bY (bf (pv 0) T.bz T.kb (mQ T) (hr.mono (by decide)) T.kL .nil bW (aa (da am9 rfl T.zk apL (aa (pv 2) ag)) ag)))))),?_⟩
 refine⟨_,rfl,x,rfl,aof (fun i σ' H'=>∃ (l:Option V) (q:Nat),σ'=[some (.ref s),some (.str x),l]/\bo K a.aG H' s tA B q/\Kp s H H'/\Rol.exactly wd p (B.drop p)=Rol.exactly (wd.drop i) q (B.drop q)) ⟨none,p,rfl,S,Kp.rfl',rfl⟩ ?_ ?_⟩
 ·rintro i c σ' H' hc ⟨l,q,rfl,S',kp,e⟩
  have eg:(wd.map (·.toNat))[i]?=some c:=by rw[<- hx,Array.getElem?_toList];exact hc
  obtain⟨b,hb,rfl⟩:∃ b,wd[i]?=some b/\b.toNat=c:=by
   rw[List.getElem?_map] at eg
   cases hw:wd[i]? with
   | none=>rw[hw] at eg;cases eg
   | some b=>rw[hw] at eg;exact⟨b,rfl,Option.some.inj eg⟩
  obtain⟨dx,ho⟩:=S'.obj
  refine⟨_,rfl,s,dx,_,rfl,ho,rfl,_,rfl,_,rfl,rfl,s,tA,B,q,b,rfl,S',?_⟩
  rw[yu hb] at e
  by_cases hq:B[q]?=some b
  ·rw[ip hq,p4] at e ⊢
   rw[pZ]
   exact fun H2 S2 aP=>⟨_,q+1,rfl,S2,kp.trans aP,e⟩
  have e1:∀ u,Rol.exactly (b::u) q (B.drop q)=.error q:=fun u=>by
   cases hx:B[q]? with
   | none=>rw[ug hx,rF]
   | some y=>rw[ip hx,rp _ _ _ (fun z=>hq (by rw[hx,z]))]
  rw[e1] at e ⊢
  rw[e] at k
  exact Faults.mono kp k
 rintro σ' H' ⟨l,q,rfl,S',kp,e⟩
 rw[hsz,List.drop_length,pZ] at e
 rw[e] at k
 exact k H' S' kp
theorem TU (B:Bytes) (q:Nat):gQ B q 48 57=true↔∃ c,B[q]?=some c/\Rol.isDigit c=true:=by
 unfold gQ Rol.isDigit
 cases h:B[q]? with
 | none=>simp
 | some c =>
  simp only [Bool.and_eq_true,decide_eq_true_eq,Option.some.injEq,exists_eq_left']
  omega
def amI (K:W.Frag) (a:aC):Sp:=fun vs H Q E=>∃ (s tA:Addr) (B:Bytes) (p lo hi:Nat),vs=[.ref s,.int (lo:Int),.int (hi:Int)]/\bo K a.aG H s tA B p/\Reads K a s tA B H (Rol.numberIn lo hi p (B.drop p)) (fun n=>.int (n:Int)) Q E
theorem take_succ {b:Bytes}{k:Nat}{c:UInt8} (h:b[k]?=some c):b.take (k+1)=b.take k++[c]:=by
 rw[List.take_add_one,h]
 rfl
theorem qW (T:Txt w K mg a):aN P w K mg base (cu P w) true 3 a.jO a.v3 ["self","low","high"] (amI K a):=by
 refine T.G1.eh tm (fun vs H Q E h=>?_) (fun aF A outer s H vs Q E hr h=>?_)
 ·obtain⟨_,_,_,_,_,_,rfl,_⟩:=h
  rfl
 obtain⟨s,tA,B,p,lo,hi,rfl,S,k⟩:=h
 obtain⟨dx,ho⟩:=S.obj
 refine⟨_,(ao (aK (i:=3) tm.nd rfl (Or.inl rfl) (aI (pv 0) rfl))
  (ao (aK (i:=4) tm.nd rfl (Or.inl rfl) aB)
  (ao (rN jx (jl (bf (pv 0) T.bz T.vX (Ao T) (hr.mono (by decide)) T.vZ .nil aL (aa (cC rfl T.rD) (aa (cC rfl T.xS) ag)))) (ao (cn (cg uD (pv 4) (pv 2) (bS _)) (aw (aK (i:=4) tm.nd rfl (Or.inl rfl) (bp mw (bp fN (bp Wl (pv 4) aB) (bR cw (aI (pv 0) rfl) (aI (pv 0) rfl) (fun _ _=>rfl))) (cC rfl T.rD)))) cv)
  (aw (rK (pv 0) aB rT))))
  (ao (aK (i:=5) tm.nd rfl (Or.inl rfl) (bp mw (aI (pv 0) rfl) (pv 3)))
  (ao (cn (PW.pt (zq (cg fw (pv 5) aB (bS _)) (D8 (qf (am7 uD uD (pv 1) (pv 4) (pv 2)))))) (aw (rL ft rfl rfl T.oJ T.pW T.nt T.pX T.pY (qY T) (hr.mono (by decide)) T.pS (aa (pv 3) ag))) cv)
  (ao (cn (PW.pt (D9 (cg oY (pv 5) aB (bS _)) (DU (cg fw (bR cw (aI (pv 0) rfl) (pv 3) (fun _ _=>rfl)) (cC rfl T.rD) (bS _))))) (aw (rL ft rfl rfl T.oJ T.pW T.nt T.pX T.pY (qY T) (hr.mono (by decide)) T.pS (aa (pv 3) ag))) cv)
  (aw (bc (pv 4))))))))),?_⟩
 refine⟨_,rfl,s,_,dx,_,_,rfl,ho,T.bz,T.eY,gr _ _,?_⟩
 refine⟨fun m σ' H'=>∃ (n:Nat) (v:Int),σ'=[some (.ref s),some (.int (lo:Int)),some (.int (hi:Int)),some (.int (p:Int)),some (.int v),none]/\bo K a.aG H' s tA B (p+n)/\Kp s H H' /\
  (∀ i,i<n->∃ c,(B.drop p)[i]?=some c/\Rol.isDigit c=true)/\fX (hi:Int) v ((B.drop p).take n)/\m=B.length-(p+n),⟨_,0,0,rfl,S,Kp.rfl',fun i hi=>absurd hi (Nat.not_lt_zero _),fX.nil _,rfl⟩,?_⟩
 rintro m σ' H' ⟨n,v,rfl,S',kp,vD,si,rfl⟩
 obtain⟨bL,br⟩:=S'.obj
 refine⟨_,rfl,s,bL,_,rfl,br,rfl,s,tA,B,p+n,_,_,rfl,S',_,rfl,?_⟩
 cases qz:gQ B (p+n) 48 57 with
 | true =>
  obtain⟨c,hc,dY⟩:=(TU B (p+n)).mp qz
  have aO:=(List.getElem?_eq_some_iff.mp hc).1
  have eg:(B.drop p)[n]?=some c:=by rw[List.getElem?_drop];exact hc
  refine aX ⟨fun σ2 H2=>∃ v',σ2=[some (.ref s),some (.int (lo:Int)),some (.int (hi:Int)),some (.int (p:Int)),some (.int v'),none]/\bo K a.aG H2 s tA B (p+(n+1))/\Kp s H H2/\fX (hi:Int) v' ((B.drop p).take (n+1)),?_,?_⟩
  ·rintro σ2 H2 ⟨v',rfl,S2,aP,oZ⟩
   refine⟨B.length-(p+(n+1)),by omega,n+1,v',rfl,S2,aP,fun i hi=>?_,oZ,rfl⟩
   by_cases mJ:i=n
   ·subst mJ
    exact⟨c,eg,dY⟩
   exact vD i (by omega)
  have oZ:fX (hi:Int) (vA (hi:Int) v (c.toNat:Int)) ((B.drop p).take (n+1)):=by
   rw[take_succ eg]
   exact si.snoc dY
  refine⟨_,rfl,_,rfl,_,_,rfl,rfl,_,rfl,arM (fun h1=>?_) fun h1=>?_⟩
  ·refine⟨_,rfl,_,_,rfl,rfl,.inr ⟨by decide,by decide⟩,_,rfl,s,_,bL,_,_,rfl,br,T.bz,T.mU,ui _ _,?_⟩
   refine⟨_,rfl,s,_,bL,_,_,rfl,br,T.bz,T.eY,gr _ _,tA,_,_,_,rfl,rfl,S'.txt,y8 hc,_,_,rfl,rfl,_,_,rfl,rfl,?_⟩
   refine⟨_,rfl,s,_,bL,_,_,rfl,br,T.bz,T.eY,gr _ _,_,_,rfl,rfl,bL,_,br,(by show 2<1000;decide),?_⟩
   refine⟨_,rfl,S'.move Kp.upd ⟨bL,ak⟩ aO,kp.trans Kp.upd,?_⟩
   unfold vA at oZ
   rw[if_pos (of_decide_eq_true h1)] at oZ
   exact oZ
  refine⟨_,rfl,s,_,bL,_,_,rfl,br,T.bz,T.eY,gr _ _,_,_,rfl,rfl,bL,_,br,(by show 2<1000;decide),?_⟩
  refine⟨v,rfl,S'.move Kp.upd ⟨bL,ak⟩ aO,kp.trans Kp.upd,?_⟩
  unfold vA at oZ
  rw[if_neg (fun z=>h1 (decide_eq_true z))] at oZ
  exact oZ
 | false =>
  have uL:∀ c,(B.drop p)[n]?=some c->Rol.isDigit c=false:=fun c hc=>by
   cases hd:Rol.isDigit c with
   | false=>rfl
   | true =>
    rw[List.getElem?_drop] at hc
    rw[(TU B (p+n)).mpr ⟨c,hc,hd⟩] at qz
    cases qz
  refine aE ?_
  have en:((p+n:Nat):Int)-(p:Int)=(n:Int):=by omega
  refine⟨_,rfl,s,_,bL,_,_,rfl,br,T.bz,T.eY,gr _ _,_,rfl,_,_,rfl,rfl,?_⟩
  refine⟨_,rfl,rfl,_,rfl,?_⟩
  show if decide (V.int (((p+n:Nat):Int)-(p:Int))=V.int 0)=true then _ else _
  have bad:(n=0\/¬ ((lo:Int)<=v/\v<=(hi:Int))\/(1<n/\(B.drop p)[0]?=some 48))->Faults a s H' E p:=fun z=>by
   have e:=aj7 (p:=p) vD uL si z
   rw[e] at k
   exact Faults.mono kp k
  have e0:decide (V.int (((p+n:Nat):Int)-(p:Int))=V.int 0)=decide (n=0):=by
   rw[Bool.eq_iff_iff,decide_eq_true_eq,decide_eq_true_eq]
   exact⟨fun z=>by injection z with z;omega,fun z=>by rw[en,z];rfl⟩
  rw[e0]
  by_cases h0:n=0
  ·rw[decide_eq_true h0]
   exact aX (aX ⟨_,rfl,nB (bad (.inl h0)) Kp.rfl'⟩)
  rw[decide_eq_false h0]
  refine aE ?_
  refine⟨_,rfl,_,rfl,_,_,rfl,rfl,_,rfl,?_⟩
  by_cases h1:(lo:Int)<=v
  ·rw[decide_eq_true h1]
   refine aX ⟨_,rfl,_,_,rfl,rfl,_,rfl,?_⟩
   by_cases h2:v<=(hi:Int)
   ·rw[decide_eq_true h2]
    refine aE ?_
    refine⟨_,rfl,_,_,rfl,rfl,_,rfl,?_⟩
    show if decide ((1:Int)<((p+n:Nat):Int)-(p:Int))=true then _ else _
    by_cases h3:(1:Int)<((p+n:Nat):Int)-(p:Int)
    ·rw[decide_eq_true h3]
     refine aX ?_
     obtain⟨c,hc,dY⟩:=vD 0 (by omega)
     have eg:B[p]?=some c:=by rw[List.getElem?_drop] at hc;exact hc
     refine⟨_,rfl,s,_,bL,_,_,rfl,br,T.bz,T.mU,ui _ _,_,rfl,tA,_,_,_,rfl,rfl,S'.txt,y8 eg,rfl,_,rfl,?_⟩
     by_cases h4:c=48
     ·subst h4
      exact aX ⟨_,rfl,nB (bad (.inr (.inr ⟨by omega,hc⟩))) Kp.rfl'⟩
     have e4:decide (V.int ((c.toNat:Nat):Int)=V.int 48)=false:=by
      rw[decide_eq_false_iff_not]
      intro z
      injection z with z
      exact h4 (UInt8.toNat_inj.mp (by show c.toNat=48;omega))
     rw[e4]
     refine aE ⟨_,rfl,?_⟩
     have e:=Ux (p:=p) vD uL si h0 ⟨h1,h2⟩ (fun z=>h4 (by rw[hc] at z;exact Option.some.inj z.2))
     rw[e] at k
     have k':Q (.int ((v.toNat:Nat):Int)) H':=k H' S' kp
     rw[show((v.toNat:Nat):Int)=v by omega] at k'
     exact k'
    rw[decide_eq_false h3]
    refine aE (aE ⟨_,rfl,?_⟩)
    have e:=Ux (p:=p) vD uL si h0 ⟨h1,h2⟩ (fun z=>h3 (by omega))
    rw[e] at k
    have k':Q (.int ((v.toNat:Nat):Int)) H':=k H' S' kp
    rw[show((v.toNat:Nat):Int)=v by omega] at k'
    exact k'
   rw[decide_eq_false h2]
   exact aX ⟨_,rfl,nB (bad (.inr (.inl fun z=>h2 z.2))) Kp.rfl'⟩
  rw[decide_eq_false h1]
  exact aE ⟨_,rfl,aX ⟨_,rfl,nB (bad (.inr (.inl fun z=>h1 z.1))) Kp.rfl'⟩⟩
end
end RF
end
section
namespace RF
open PySem PySem.Spec PyProof.Rows L2 LX LM
open Rol (Bytes)
theorem yB (m n:Nat):Builtin.bitOr (m:Int) (n:Int)=((m|||n:Nat):Int):=by
 unfold Builtin.bitOr Builtin.bitAnd Builtin.bitNot
 rw[decide_eq_false (show ¬ (0:Int) <= -(m:Int)-1 by omega),decide_eq_false (show ¬ (0:Int) <= -(n:Int)-1 by omega)]
 dsimp only
 rw[show(-(-(m:Int)-1)-1).toNat=m by omega,show(-(-(n:Int)-1)-1).toNat=n by omega]
 omega
theorem nI (m n:Nat):Builtin.bitAnd (m:Int) (n:Int)=((m&&&n:Nat):Int):=by
 unfold Builtin.bitAnd
 rw[decide_eq_true (show(0:Int)<=(m:Int) by omega),decide_eq_true (show(0:Int)<=(n:Int) by omega)]
 dsimp only
 rw[Int.toNat_natCast,Int.toNat_natCast]
theorem uq (x:Nat):(1:Int)*2 ^ ((x:Int)).toNat=((2 ^ x:Nat):Int):=by
 rw[Int.toNat_natCast,Int.one_mul]
 norm_cast
section
variable {P:Program}{w:World}{K:W.Frag}{mg:Str->Option Value}{base:Heap}{a:aC}
def aog (K:W.Frag) (a:aC):Sp:=fun vs H Q E=>∃ (s tA:Addr) (B:Bytes) (p wd:Nat),vs=[.ref s,.int (wd:Int)]/\1<=wd/\wd<=128/\bo K a.aG H s tA B p /\
 (∀ (q b9:Nat) (H':Hp),(B[q]?=some 10->Rol.tracksIn wd (wd+1) 0 p (B.drop p)=.ok ((b9,q),q+1,B.drop (q+1)))->(¬ B[q]?=some 10->Rol.tracksIn wd (wd+1) 0 p (B.drop p)=.error q)->p<=q->bo K a.aG H' s tA B q->Kp s H H'->Q (.int (b9:Int)) H') /\
 ∀ k,Rol.tracksIn wd (wd+1) 0 p (B.drop p)=.error k->Faults a s H E k
theorem aeQ (T:Txt w K mg a):aN P w K mg base (cu P w) true 5 a.nr a.xM ["scanner","width"] (aog K a):=by
 refine T.Ct.eh rl (fun vs H Q E h=>?_) (fun aF A outer s H vs Q E hr h=>?_)
 ·obtain⟨_,_,_,_,_,rfl,_⟩:=h
  rfl
 obtain⟨s,tA,B,p,wd,rfl,ox,vE,S,k,kE⟩:=h
 refine⟨_,(ao (aK (i:=2) rl.nd rfl (Or.inl rfl) aB)
  (ao (aK (i:=3) rl.nd rfl (Or.inl rfl) aB)
  (ao (rN jx (jl (bf (pv 0) T.bz T.BO (MX T) (hr.mono (by decide)) T.Ce .nil aL (aa (cC rfl T.oO) ag))) (ao (bY (bf (pv 0) T.bz T.kb (mQ T) (hr.mono (by decide)) T.kL .nil bW (aa (cC rfl T.oO) ag)))
  (ao (aK (i:=4) rl.nd rfl (Or.inl rfl) (bf (pv 0) T.bz T.pO (qW T) (hr.mono (by decide)) T.pP .nil bW (aa (pv 3) (aa (bp mw (pv 1) aB) ag))))
  (ao (aK (i:=2) rl.nd rfl (Or.inl rfl) (bp Ef (pv 2) (bp ze aB (pv 4))))
  (aw (aK (i:=3) rl.nd rfl (Or.inl rfl) (bp fN (pv 4) aB)))))))
  (aw (bc (pv 2)))))),?_⟩
 refine⟨fun m σ' H'=>∃ (q b9 least:Nat) (tr:Option V),σ'=[some (.ref s),some (.int (wd:Int)),some (.int (b9:Int)),some (.int (least:Int)),tr]/\bo K a.aG H' s tA B q/\Kp s H H'/\p<=q/\gz wd p B q b9 least/\m=B.length-q,
  ⟨_,p,0,0,none,rfl,S,Kp.rfl',Nat.le_refl _,gz.start S.le,rfl⟩,?_⟩
 rintro m σ' H' ⟨q,b9,least,tr,rfl,S',kp,Yo,hA,rfl⟩
 obtain⟨bL,br⟩:=S'.obj
 refine⟨_,rfl,s,bL,_,rfl,br,rfl,s,tA,B,q,32,rfl,S',_,rfl,?_⟩
 by_cases hb:B[q]?=some 32
 ·rw[decide_eq_true hb]
  have aO:=(List.getElem?_eq_some_iff.mp hb).1
  refine aX ⟨fun σ2 H2=>∃ (q2 b9 least:Nat) (tr:Option V),σ2=[some (.ref s),some (.int (wd:Int)),some (.int (b9:Int)),some (.int (least:Int)),tr]/\bo K a.aG H2 s tA B q2/\Kp s H H2/\q<q2/\gz wd p B q2 b9 least,?_,?_⟩
  ·rintro σ2 H2 ⟨q2,apX,Ed,tr2,rfl,S2,aP,eN,hA2⟩
   exact⟨B.length-q2,by have:=S2.le;omega,q2,apX,Ed,tr2,rfl,S2,aP,by omega,hA2,rfl⟩
  refine⟨_,rfl,s,bL,_,rfl,br,rfl,s,tA,B,q,32,rfl,S',?_⟩
  rw[ip hb,p4,pZ]
  intro H2 S2 aP
  obtain⟨eO,eC⟩:=S2.obj
  have S2':bo K a.aG H2 s tA B (q+1):=S2
  refine⟨_,rfl,s,eO,_,rfl,eC,rfl,_,rfl,_,rfl,_,_,rfl,rfl,?_⟩
  refine⟨s,tA,B,q+1,least,wd-1,?_,S2',?_⟩
  ·show[V.ref s,V.int (least:Int),V.int ((wd:Int)-1)]=_
   rw[show(wd:Int)-1=((wd-1:Nat):Int) by omega]
  cases hn:Rol.numberIn least (wd-1) (q+1) (B.drop (q+1)) with
  | error e =>
   exact Faults.mono (kp.trans aP) (kE e (hA.bad hb hn))
  | ok y =>
   obtain⟨x,q3,r3⟩:=y
   obtain⟨rfl,g1,g2,g3,g4⟩:=hZ hn
   intro H3 S3 bD
   have h2x:b9<2 ^ x:=by
    obtain⟨_,_,_,hh,_⟩:=hA
    exact Nat.lt_of_lt_of_le hh (Nat.pow_le_pow_right (by omega) g3)
   refine⟨_,rfl,_,rfl,_,_,rfl,rfl,⟨by omega,by omega,by decide⟩,_,_,rfl,rfl,?_⟩
   refine⟨_,rfl,_,_,rfl,rfl,?_⟩
   refine⟨q3,b9+2 ^ x,x+1,some (.int (x:Int)),?_,S3,(kp.trans aP).trans bD,by omega,hA.turn ox hb hn⟩
   show[some (V.ref s),some (V.int (wd:Int)),some (V.int (Builtin.bitOr (b9:Int) (1*2 ^ ((x:Int)).toNat))),some (V.int ((x:Int)+1)),some (V.int (x:Int))]=_
   rw[uq,yB,Wy h2x]
   rfl
 rw[decide_eq_false hb]
 exact aE ⟨_,rfl,k q b9 H' (fun z=>hA.apQ z) (fun z=>hA.ao6 z hb) Yo S' kp⟩
def FC (wd:Nat) (rA:Addr):List (Str×V):=[("width",.int (wd:Int)),("rows",.ref rA)]
def nV (n:Nat):V:=.int (n:Int)
structure gB (C:Addr) (H:Hp) (x rA:Addr) (X:Rol.Strip):Prop where
 obj:∃ dx,H x=some (.ins C dx (FC X.wide rA))
 rows:H rA=some (.lst (X.rows.map nV))
def ahD (K:W.Frag) (a:aC):Sp:=fun vs H Q _=>∃ (s rA dx:Addr) (wd:Nat) (rows:List Nat),vs=[.ref s,.int (wd:Int),.ref rA]/\H s=some (.ins a.cx dx [])/\H rA=some (.lst (rows.map nV))/\∀ H',gB a.cx H' s rA ⟨wd,rows⟩->Kp s H H'->Q .aH H'
theorem aeR (T:Txt w K mg a):aN P w K mg base bC true 1 a.lK a.xN ["self","width","rows"] (ahD K a):=by
 refine T.PQ.ok aeP (fun vs H Q E h=>?_) (fun aF A outer s H vs Q E hr h=>?_)
 ·obtain⟨_,_,_,_,_,rfl,_⟩:=h
  rfl
 obtain⟨s,rA,dx,wd,rows,rfl,ho,mL,k⟩:=h
 refine⟨_,(ao (bZ (pv 0) (pv 1) rfl)
  (aw (bZ (pv 0) (pv 2) rfl))),?_⟩
 refine⟨_,rfl,_,rfl,s,_,dx,[],rfl,ho,T.i4,T.tM,(by show 0<1000;decide),?_⟩
 refine⟨_,rfl,_,rfl,s,_,dx,_,rfl,ak,T.i4,T.oI,(by show 1<1000;decide),?_⟩
 have kp:Kp s H (upd (upd H s (.ins a.cx dx (bE "width" (.int (wd:Int)) []))) s (.ins a.cx dx (bE "rows" (.ref rA) (bE "width" (.int (wd:Int)) [])))):=fun b o hb n=>by rw[ai n,ai n];exact hb
 exact k _ ⟨⟨dx,ak⟩,kp _ _ mL (fun z=>by rw[z,ho] at mL;cases mL)⟩ kp
def dF (a:aC) (H:Hp) (E:XK) (k:Nat):Prop:=∀ (d:Addr) (H':Hp),H' d=some (.xd [("place",.int (k:Int))])->au H H'->E (.ref a.cf) (some d) H'
theorem dF.at {s:Addr}{H H1:Hp}{E:XK}{k:Nat} (h:dF a H E k) (hn:H s=none) (sm:au H H1):Faults a s H1 E k:=fun d H' hd kp=>h d H' hd fun b o hb=>kp b o (sm b o hb) (aJ hb hn)
theorem au.kp {s:Addr}{H H1 H2:Hp} (sm:au H H1) (hn:H s=none) (kp:Kp s H1 H2):au H H2:=fun b o hb=>kp b o (sm b o hb) (aJ hb hn)
def ahE (K:W.Frag) (a:aC):Sp:=fun vs H Q E=>∃ (tA:Addr) (B:Bytes),vs=[.ref tA]/\aq K H tA (B.map bV)/\B.length<=1000000/\match Rol.readText B with
 | .error k=>dF a H E k
 | .ok y=>∀ (x rA:Addr) (H':Hp),gB a.cx H' x rA y.1->H x=none->H rA=none->au H H'->Q (.ref x) H'
theorem Vs (n:Nat) (v:V):(List.replicate n [v]).flatten=List.replicate n v:=by
 induction n with
 | zero=>rfl
 | succ n ih=>rw[List.replicate_succ,List.flatten_cons,ih];rfl
def su:Option Nat->V
 | none=>.aH
 | some n=>.int (n:Int)
theorem apY (h:Nat) (l:Option Nat):decide (V.int (h:Int)=su l)=decide (l=some h):=by
 rw[Bool.eq_iff_iff,decide_eq_true_eq,decide_eq_true_eq]
 cases l with
 | none=>exact⟨fun z=>(nomatch z),fun z=>(nomatch z)⟩
 | some n=>exact⟨fun z=>by unfold su at z;injection z with z;rw[show n=h by omega],fun z=>by cases z;rfl⟩
theorem amJ (h:Nat) (l:Option Nat):Es (V.int (h:Int)) (su l)=true:=by cases l <;> rfl
theorem ald:fb "strip " Rol.HEAD:=by
 rw[amy]
 unfold fb
 decide +kernel
theorem aeS (T:Txt w K mg a):aN P w K mg base (cu P w) true 6 a.nq a.xK ["text"] (ahE K a):=by
 refine T.Cs.eh oH (fun vs H Q E h=>?_) (fun aF A outer s H vs Q E hr h=>?_)
 ·obtain⟨_,_,rfl,_⟩:=h
  rfl
 obtain⟨tA,B,rfl,ht,hB,k⟩:=h
 rw[RY] at k
 refine⟨_,(ao (aK (i:=1) oH.nd rfl (Or.inl rfl) (oM T.t7 (MW T) (hr.mono (by decide)) rfl T.C5 T.Cd .nil aL (aa (pv 0) ag)))
  (ao (bY (bf (pv 1) T.bz T.Ak (GA T) (hr.mono (by decide)) T.An .nil bW (aa jk ag)))
  (ao (aK (i:=2) oH.nd rfl (Or.inl rfl) (bf (pv 1) T.bz T.pO (qW T) (hr.mono (by decide)) T.pP .nil bW (aa aB (aa (cC rfl T.xD) ag))))
  (ao (bY (bf (pv 1) T.bz T.kb (mQ T) (hr.mono (by decide)) T.kL .nil bW (aa (cC rfl T.p6) ag)))
  (ao (aK (i:=3) oH.nd rfl (Or.inl rfl) (cP ag))
  (ao (aK (i:=4) oH.nd rfl (Or.inl rfl) Wh)
  (ao (rN jx (qf (jl (gL (pv 1) T.bz T.wo (A1 T) (hr.mono (by decide)) T.wM .nil aL))) (ao (aK (i:=5) oH.nd rfl (Or.inl rfl) (bf (pv 1) T.bz T.pO (qW T) (hr.mono (by decide)) T.pP .nil bW (aa aB (aa (bp mw (cC rfl T.yh) (da fm rfl T.eu e7 (aa (pv 3) ag))) ag))))
  (ao (aK (i:=6) oH.nd rfl (Or.inl rfl) (bQ (aeQ T) (hr.mono (by decide)) rfl T.PM T.Ct.kp T.QQ .nil bW (aa (pv 1) (aa (pv 2) ag))))
  (ao (cn (cg fw (pv 6) (pv 4) (bS _)) (aw (rL ft rfl rfl T.oJ T.pW T.nt T.pX T.pY (qY T) (hr.mono (by decide)) T.pS (aa (aI (pv 1) rfl) ag))) cv)
  (ao (bY (bf (pv 1) T.bz T.kb (mQ T) (hr.mono (by decide)) T.kL .nil bW (aa (cC rfl T.p6) ag)))
  (ao (bY (gP PySem.F.plainAttrs_list PySem.F.slot_list_extend PySem.F.type_list_extend Ds (pv 3) (aa (bp apq (cP (aa (pv 6) ag)) (pv 5)) ag)))
  (aw (aK (i:=4) oH.nd rfl (Or.inl rfl) (pv 6)))))))))
  (aw (bc (oM T.yJ (aeR T) (hr.mono (by decide)) rfl T.UI T.QV .nil aL (aa (pv 2) (aa (pv 3) ag)))))))))))),?_⟩
 refine⟨_,rfl,fun s dx hs gm cq=>?_⟩
 have cT:au H (upd (upd H dx (.own s)) s (.ins a.aG dx [])):=fun b o hb=>by rw[ai (aJ hb hs),ai (aJ hb gm)];exact hb
 refine⟨s,tA,dx,B,rfl,ak,cT.seq ht,hB,fun H1 S1 a9=>⟨rfl,?_⟩⟩
 have aM:au H H1:=au.kp cT hs a9
 obtain⟨cj,bG⟩:=S1.obj
 refine⟨_,rfl,s,cj,_,rfl,bG,rfl,s,tA,B,0,_,Rol.HEAD,rfl,ald,S1,?_⟩
 rw[List.drop_zero]
 cases h1:Rol.exactly Rol.HEAD 0 B with
 | error e =>
  rw[h1] at k
  exact dF.at k hs aM
 | ok y1 =>
  obtain⟨u1,p1,r1⟩:=y1
  obtain⟨rfl,_,hp1⟩:=lF (p:=0) (B:=B) (by rw[List.drop_zero];exact h1) (Nat.zero_le _)
  rw[h1] at k
  intro H2 S2 aP
  have S2:bo K a.aG H2 s tA B p1:=S2
  have bg:au H H2:=au.kp aM hs aP
  obtain⟨eO,eC⟩:=S2.obj
  refine⟨_,rfl,s,eO,_,rfl,eC,rfl,s,tA,B,p1,1,128,rfl,S2,?_⟩
  have k:(match Rol.numberIn 1 128 p1 (B.drop p1) with
   | .error k=>dF a H E k
   | .ok w=>match (match Rol.exactly [10] w.2.1 w.2.2 with
    | .error k=>Except.error k
    | .ok y=>match Rol.linesIn w.1 (y.2.2.length+1) 0 none y.2.1 y.2.2 with
     | .error k=>.error k
     | .ok l=>.ok ((⟨w.1,rowsOf l⟩:Rol.Strip),l.length)) with
    | .error k=>dF a H E k
    | .ok y=>∀ (x rA:Addr) (H':Hp),gB a.cx H' x rA y.1->H x=none->H rA=none->au H H'->Q (.ref x) H'):=by
   dsimp only at k
   cases h2:Rol.numberIn 1 128 p1 (B.drop p1) with
   | error e=>rw[show Rol.numberIn 1 Rol.TRACKS p1 (B.drop p1)=_ from h2] at k;exact k
   | ok y=>rw[show Rol.numberIn 1 Rol.TRACKS p1 (B.drop p1)=_ from h2] at k;exact k
  cases h2:Rol.numberIn 1 128 p1 (B.drop p1) with
  | error e =>
   rw[h2] at k
   exact dF.at k hs bg
  | ok y2 =>
   obtain⟨wd,p2,r2⟩:=y2
   obtain⟨rfl,_,Fh,ox,vE⟩:=hZ h2
   rw[h2] at k
   dsimp only at k
   intro H3 S3 bD
   have S3:bo K a.aG H3 s tA B p2:=S3
   have bj:au H H3:=au.kp bg hs bD
   obtain⟨oy,fi⟩:=S3.obj
   refine⟨_,rfl,s,oy,_,rfl,fi,rfl,s,tA,B,p2,10,rfl,S3,?_⟩
   cases h3:Rol.exactly [10] p2 (B.drop p2) with
   | error e =>
    rw[h3] at k
    exact dF.at k hs bj
   | ok y3 =>
    obtain⟨u3,p3,r3⟩:=y3
    obtain⟨rfl,_,FD⟩:=lF h3 Fh
    rw[h3] at k
    dsimp only at k
    intro H4 S4 iJ
    have S4:bo K a.aG H4 s tA B p3:=S4
    have bh:au H H4:=au.kp bj hs iJ
    refine⟨Nat.zero_le _,fun rA iK=>?_⟩
    have Yp:H rA=none:=bh.free iK
    have cU:au H (upd H4 rA (.lst [])):=fun b o hb=>by rw[ai (aJ (bh b o hb) iK)];exact bh b o hb
    have S5:bo K a.aG (upd H4 rA (.lst [])) s tA B p3:=by
     obtain⟨oz,oA⟩:=S4.obj
     have sm:au H4 (upd H4 rA (.lst [])):=fun b o hb=>by rw[ai (aJ hb iK)];exact hb
     exact⟨⟨oz,sm _ _ oA⟩,sm.seq S4.txt,S4.le,S4.sm⟩
    refine⟨fun m σ' H'=>∃ (q:Nat) (l:List (Nat×Nat)) (last:Option Nat) (c6 c7:Option V),σ'=[some (.ref tA),some (.ref s),some (.int (wd:Int)),some (.ref rA),some (su last),c6,c7]/\bo K a.aG H' s tA B q/\au H H' /\
     H' rA=some (.lst ((rowsOf l).map nV))/\e6 wd ((B.drop p3).length+1) p3 B q l last/\m=B.length-q,⟨_,p3,[],none,none,none,rfl,S5,cU,ak,e6.start FD,rfl⟩,?_⟩
    rintro m σ' H' ⟨q,l,last,c6,c7,rfl,S',aV,ql,hL,rfl⟩
    obtain⟨bL,br⟩:=S'.obj
    have FE:rA≠s:=fun z=>by rw[z,br] at ql;cases ql
    refine⟨_,rfl,s,bL,_,rfl,br,rfl,s,tA,B,q,rfl,S',_,rfl,?_⟩
    by_cases qA:q=B.length
    ·rw[decide_eq_true qA]
     refine aE ?_
     have e:=hL.done qA
     rw[e] at k
     refine⟨_,rfl,_,rfl,fun x gn hx Xl av4=>?_⟩
     refine⟨x,rA,gn,wd,rowsOf l,rfl,ak,?_,fun H7 ST vF=>⟨rfl,?_⟩⟩
     ·rw[ai (aJ ql hx),ai (aJ ql Xl)]
      exact ql
     exact k x rA H7 ST (aV.free hx) Yp (au.kp (s:=x) (fun b o hb=>by
      have h1:=aV b o hb
      rw[ai (aJ h1 hx),ai (aJ h1 Xl)]
      exact h1) (aV.free hx) vF)
    rw[decide_eq_false qA]
    have aO:q<B.length:=by have:=S'.le;omega
    refine aX ⟨fun σ2 H2=>∃ (q2:Nat) (l:List (Nat×Nat)) (last:Option Nat) (c6 c7:Option V),σ2=[some (.ref tA),some (.ref s),some (.int (wd:Int)),some (.ref rA),some (su last),c6,c7]/\bo K a.aG H2 s tA B q2/\au H H2 /\
     H2 rA=some (.lst ((rowsOf l).map nV))/\e6 wd ((B.drop p3).length+1) p3 B q2 l last/\q<q2,?_,?_⟩
    ·rintro σ2 H2 ⟨q2,l2,aqP,d6,d7,rfl,S2,bg,eX,vG,eN⟩
     exact⟨B.length-q2,by have:=S2.le;omega,q2,l2,aqP,d6,d7,rfl,S2,bg,eX,vG,rfl⟩
    have hrl:(rowsOf l).length<=256:=by obtain⟨_,_,_,h,_⟩:=hL;exact h
    have bad:∀ e,Rol.linesIn wd ((B.drop p3).length+1) 0 none p3 (B.drop p3)=.error e->dF a H E e:=fun e he=>by
     rw[he] at k
     exact k
    refine⟨_,rfl,s,bL,_,rfl,br,rfl,_,rfl,rA,_,rfl,.inl (aq.of ql),_,_,rfl,rfl,?_⟩
    refine⟨s,tA,B,q,1,256-(rowsOf l).length,?_,S',?_⟩
    ·show[V.ref s,V.int 1,V.int ((256:Int)-(((rowsOf l).map nV).length:Nat))]=_
     rw[List.length_map,show(256:Int)-((rowsOf l).length:Nat)=((256-(rowsOf l).length:Nat):Int) by omega]
     rfl
    cases h4:Rol.numberIn 1 (256-(rowsOf l).length) q (B.drop q) with
    | error e=>exact dF.at (bad e (hL.arX aO h4)) hs aV
    | ok y4 =>
     obtain⟨n,q1,rr⟩:=y4
     obtain⟨rfl,g1,g2,g3,g4⟩:=hZ h4
     intro H5 S6 cH
     have S6:bo K a.aG H5 s tA B q1:=S6
     have eF:au H H5:=au.kp aV hs cH
     have apZ:H5 rA=some (.lst ((rowsOf l).map nV)):=cH _ _ ql FE
     refine⟨_,rfl,_,rfl,s,tA,B,q1,wd,rfl,ox,vE,S6,fun q2 b9 H6 az as1 as2 S7 vH=>?_,fun e he=>dF.at (bad e (hL.uR aO h4 he)) hs eF⟩
     have qN:au H H6:=au.kp eF hs vH
     have aq0:H6 rA=some (.lst ((rowsOf l).map nV)):=vH _ _ apZ FE
     obtain⟨sW,sX⟩:=S7.obj
     refine⟨_,rfl,_,rfl,amJ b9 last,_,rfl,?_⟩
     show if decide (V.int (b9:Int)=su last)=true then _ else _
     rw[apY]
     by_cases oB:B[q2]?=some 10
     ·have zV:=az oB
      have eN:=(List.getElem?_eq_some_iff.mp oB).1
      by_cases qm:last=some b9
      ·rw[decide_eq_true qm]
       refine aX ⟨_,rfl,s,_,sW,_,_,rfl,sX,T.bz,T.eY,gr _ _,?_⟩
       exact nB (dF.at (bad q2 (hL.arY aO h4 zV qm)) hs qN) Kp.rfl'
      rw[decide_eq_false qm]
      refine aE ?_
      refine⟨_,rfl,s,sW,_,rfl,sX,rfl,s,tA,B,q2,10,rfl,S7,?_⟩
      rw[ip oB,p4,pZ]
      intro H8 S8 zW
      have S8:bo K a.aG H8 s tA B (q2+1):=S8
      have vI:au H H8:=au.kp qN hs zW
      have uC:H8 rA=some (.lst ((rowsOf l).map nV)):=zW _ _ aq0 FE
      refine⟨_,rfl,.inl ⟨rfl,_,aq.of uC⟩,_,rfl,(by show 1<=sizeLine;decide),fun t1 vJ=>⟨_,rfl,t1,_,_,rfl,rfl,ak,(by show -(2 ^ 63)<=((n:Nat):Int);omega),(by show((n:Nat):Int)<2 ^ 63;omega),(by show 1*((n:Nat):Int).toNat<=sizeLine;rw[sizeLine_eq];omega),fun t2 vz=>?_⟩⟩
      have n1:rA≠t1:=aJ uC vJ
      have EG:H8 t2=none:=by
       by_cases z:t2=t1
       ·rw[z];exact vJ
       rw[ai z] at vz;exact vz
      have n2:rA≠t2:=aJ uC EG
      refine⟨rA,t2,(rowsOf l).map nV,_,rfl,rfl,?_,ak,?_,?_⟩
      ·rw[ai n2,ai n1]
       exact uC
      ·rw[Vs,List.length_map,List.length_replicate,sizeLine_eq]
       have:(((n:Nat):Int)).toNat=n:=Int.toNat_natCast n
       show(rowsOf l).length+(((n:Nat):Int)).toNat<=16777216
       omega
      have Yq:au H (upd (upd (upd H8 t1 (.lst [V.int (b9:Int)])) t2 (.lst (List.replicate ((n:Nat):Int).toNat [V.int (b9:Int)]).flatten)) rA (.lst ((rowsOf l).map nV++(List.replicate ((n:Nat):Int).toNat [V.int (b9:Int)]).flatten))):=fun b o hb=>by
       have h8:=vI b o hb
       rw[ai (aJ hb Yp),ai (aJ h8 EG),ai (aJ h8 vJ)]
       exact h8
      refine⟨_,rfl,q2+1,l++[(n,b9)],some b9,_,_,rfl,?_,Yq,?_,hL.turn aO h4 zV as2 eN qm,by omega⟩
      ·obtain⟨dx8,zX⟩:=S8.obj
       refine⟨⟨dx8,?_⟩,Yq.seq ht,S8.le,S8.sm⟩
       rw[ai (Ne.symm (WE uC zX (by intro z;cases z))),ai (aJ zX EG),ai (aJ zX vJ)]
       exact zX
      rw[ak,RX,List.map_append,List.map_replicate,Vs]
      rfl
     have zV:=as1 oB
     have Xm:=bad q2 (hL.uR aO h4 zV)
     by_cases qm:last=some b9
     ·rw[decide_eq_true qm]
      refine aX ⟨_,rfl,s,_,sW,_,_,rfl,sX,T.bz,T.eY,gr _ _,?_⟩
      exact nB (dF.at Xm hs qN) Kp.rfl'
     rw[decide_eq_false qm]
     refine aE ?_
     refine⟨_,rfl,s,sW,_,rfl,sX,rfl,s,tA,B,q2,10,rfl,S7,?_⟩
     have e:Rol.exactly [10] q2 (B.drop q2)=.error q2:=by
      cases hx:B[q2]? with
      | none=>rw[ug hx,rF]
      | some x=>rw[ip hx,rp _ _ _ (fun z=>oB (by rw[hx,z]))]
     rw[e]
     exact dF.at Xm hs qN
end
end RF
end
section
namespace RF
open PySem PySem.Spec PyProof.Rows L2 LX LM
open Rol (Bytes)
section
variable {P:Program}{w:World}{K:W.Frag}{mg:Str->Option Value}{base:Heap}{a:aC}
theorem TV (B:Bytes) (q:Nat):gQ B q 97 122=true↔∃ c,B[q]?=some c/\Rol.isSmall c=true:=by
 unfold gQ Rol.isSmall
 cases h:B[q]? with
 | none=>simp
 | some c =>
  simp only [Bool.and_eq_true,decide_eq_true_eq,Option.some.injEq,exists_eq_left']
  omega
def f6 (B:Bytes) (p:Nat):Bytes:=(B.drop p).takeWhile Rol.isSmall
def aq1 (K:W.Frag) (a:aC):Sp:=fun vs H Q _=>∃ (s tA:Addr) (B:Bytes) (p:Nat),vs=[.ref s]/\bo K a.aG H s tA B p /\
 ∀ (x:Str) (H':Hp),fb x (f6 B p)->bo K a.aG H' s tA B (p+(f6 B p).length)->Kp s H H'->Q (.str x) H'
def oV (c:UInt8):Str:=⟨#[c.toNat]⟩
theorem ale:∀ k,k<26->("abcdefghijklmnopqrstuvwxyz":Str).cps.toList[k]?=some (97+k):=by decide +kernel
theorem alf {c:UInt8} (h:Rol.isSmall c=true):iG ("abcdefghijklmnopqrstuvwxyz":Str).cps.toList ((c.toNat:Int)-97)=some c.toNat:=by
 unfold Rol.isSmall at h
 rw[Bool.and_eq_true,decide_eq_true_eq,decide_eq_true_eq] at h
 rw[show(c.toNat:Int)-97=((c.toNat-97:Nat):Int) by omega]
 refine il ?_
 rw[ale _ (by omega),show 97+(c.toNat-97)=c.toNat by omega]
theorem UJ:∀ l:List (List Nat),TL.r8 [] l=l.flatten
 | []=>rfl
 | [x]=>by simp[TL.r8]
 | x::y::r=>by
  show x++([]++TL.r8 [] (y::r))=_
  rw[UJ (y::r),List.nil_append]
  rfl
theorem alg (l:Bytes):(l.map fun c=>[c.toNat]).flatten=l.map (·.toNat):=by
 induction l with
 | nil=>rfl
 | cons x r ih=>rw[List.map_cons,List.flatten_cons,ih];rfl
theorem join_ones (l:Bytes):fb (PySem.Txt.join "" (l.map oV)) l:=by
 unfold fb
 rw[TL.join_eq]
 have e:=TL.VT "" (l.map oV)
 rw[show TL.tl ""=[] from rfl,UJ,List.map_map] at e
 exact e.trans (alg l)
theorem Zd (T:Txt w K mg a):aN P w K mg base bC true 3 a.jR a.v5 ["self"] (aq1 K a):=by
 refine T.Hq.ok Ho (fun vs H Q E h=>?_) (fun aF A outer s H vs Q E hr h=>?_)
 ·obtain⟨_,_,_,_,rfl,_⟩:=h
  rfl
 obtain⟨s,tA,B,p,rfl,S,k⟩:=h
 refine⟨_,(ao (aK (i:=1) Ho.nd rfl (Or.inl rfl) (cP ag))
  (ao (rN PassesOwn.never (jl (bf (pv 0) T.bz T.vX (Ao T) (hr.mono (by decide)) T.vZ .nil aL (aa (cC rfl T.t8) (aa (cC rfl T.yq) ag)))) (ao (bY (gP PySem.F.plainAttrs_list PySem.F.slot_list_append PySem.F.type_list_append mi (pv 1) (aa (bR apl (cC rfl T.yA) (bp mw (bR cw (aI (pv 0) rfl) (aI (pv 0) rfl) (fun _ _=>rfl)) (cC rfl T.t8)) (fun _ _=>rfl)) ag)))
  (aw (rK (pv 0) aB rT))))
  (aw (bc (anO jk (pv 1)))))),?_⟩
 refine⟨Nat.zero_le _,fun lA zY=>?_⟩
 have cT:au H (upd H lA (.lst [])):=fun b o hb=>by rw[ai (aJ hb zY)];exact hb
 have S0:bo K a.aG (upd H lA (.lst [])) s tA B p:=by
  obtain⟨dx,ho⟩:=S.obj
  exact⟨⟨dx,cT _ _ ho⟩,cT.seq S.txt,S.le,S.sm⟩
 refine⟨fun m σ' H'=>∃ n,σ'=[some (.ref s),some (.ref lA)]/\bo K a.aG H' s tA B (p+n)/\Kp s H H'/\H' lA=some (.lst (((B.drop p).take n).map fun c=>V.str (oV c))) /\
  (∀ i,i<n->∃ c,(B.drop p)[i]?=some c/\Rol.isSmall c=true)/\m=B.length-(p+n),⟨_,0,rfl,S0,fun b o hb _=>cT b o hb,ak,fun i hi=>absurd hi (Nat.not_lt_zero _),rfl⟩,?_⟩
 rintro m σ' H' ⟨n,rfl,S',kp,hL,FF,rfl⟩
 obtain⟨bL,br⟩:=S'.obj
 have zZ:lA≠s:=fun z=>by rw[z,br] at hL;cases hL
 have vx:((B.drop p).take n).length=n:=Eb fun i hi=>let ⟨c,e,_⟩:=FF i hi;⟨c,e⟩
 refine⟨_,rfl,s,bL,_,rfl,br,rfl,s,tA,B,p+n,_,_,rfl,S',_,rfl,?_⟩
 cases qz:gQ B (p+n) 97 122 with
 | true =>
  obtain⟨c,hc,dY⟩:=(TV B (p+n)).mp qz
  have aO:=(List.getElem?_eq_some_iff.mp hc).1
  have eg:(B.drop p)[n]?=some c:=by rw[List.getElem?_drop];exact hc
  refine aX ⟨fun σ2 H2=>σ2=[some (.ref s),some (.ref lA)]/\bo K a.aG H2 s tA B (p+(n+1))/\Kp s H H2/\H2 lA=some (.lst (((B.drop p).take (n+1)).map fun c=>V.str (oV c))),?_,?_⟩
  ·rintro σ2 H2 ⟨rfl,S2,aP,vG⟩
   refine⟨B.length-(p+(n+1)),by omega,n+1,rfl,S2,aP,vG,fun i hi=>?_,rfl⟩
   by_cases mJ:i=n
   ·subst mJ
    exact⟨c,eg,dY⟩
   exact FF i (by omega)
  refine⟨_,rfl,.inl ⟨rfl,_,aq.of hL⟩,_,rfl,s,_,bL,_,_,rfl,br,T.bz,T.mU,ui _ _,?_⟩
  refine⟨_,rfl,s,_,bL,_,_,rfl,br,T.bz,T.eY,gr _ _,tA,_,_,_,rfl,rfl,S'.txt,y8 hc,_,_,rfl,rfl,_,_,_,rfl,rfl,(by show 26<=sizeLine;decide),alf dY,?_⟩
  have FG:n<1000000:=by have:=S'.sm;omega
  refine⟨lA,_,_,rfl,rfl,hL,?_,?_⟩
  ·rw[List.length_map,vx,sizeLine_eq]
   omega
  have o2:upd H' lA (.lst ((((B.drop p).take n).map fun c=>V.str (oV c))++[V.str ⟨#[c.toNat]⟩])) s=some (.ins a.aG bL (vC tA (p+n))):=by rw[ai (Ne.symm zZ)];exact br
  refine⟨_,rfl,s,_,bL,_,_,rfl,o2,T.bz,T.eY,gr _ _,_,_,rfl,rfl,bL,_,o2,(by show 2<1000;decide),?_⟩
  have kl:Kp s H (upd H' lA (.lst ((((B.drop p).take n).map fun c=>V.str (oV c))++[V.str ⟨#[c.toNat]⟩]))):=fun b o hb nb=>by
   rw[ai (aJ hb zY)]
   exact kp b o hb nb
  refine⟨rfl,⟨⟨bL,ak⟩,?_,aO,S'.sm⟩,kl.trans Kp.upd,?_⟩
  ·obtain⟨dx,ho⟩:=S.obj
   exact rS (kl.trans Kp.upd) S.txt ho
  rw[ai zZ,ak,take_succ eg,List.map_append]
  rfl
 | false =>
  have uL:∀ c,(B.drop p)[n]?=some c->Rol.isSmall c=false:=fun c hc=>by
   cases hd:Rol.isSmall c with
   | false=>rfl
   | true =>
    rw[List.getElem?_drop] at hc
    rw[(TV B (p+n)).mpr ⟨c,hc,hd⟩] at qz
    cases qz
  have e:f6 B p=(B.drop p).take n:=yV FF uL
  refine aE ?_
  refine⟨⟨_,rfl⟩,_,rfl,_,lA,((B.drop p).take n).map oV,rfl,rfl,.inl (aq.of ?_),?_,?_⟩
  ·rw[List.map_map]
   exact hL
  ·rw[List.map_map,List.length_map,vx,show(Str.ofString "").length=0 from rfl,Nat.mul_zero,Nat.add_zero]
   have:∀ l:Bytes,(l.map ((·.length)∘oV)).sum=l.length:=fun l=>by
    induction l with
    | nil=>rfl
    | cons x r ih=>rw[List.map_cons,List.sum_cons,ih,List.length_cons,Nat.add_comm];rfl
   rw[this,vx]
   have:=S'.sm
   have:=S'.le
   omega
  refine k _ H' ?_ ?_ kp
  ·rw[e]
   exact join_ones _
  rw[e,vx]
  exact S'
end
end RF
end
section
namespace RF
open PySem PySem.Spec PyProof.Rows L2 LX LM
open Rol (Bytes Means)
def nameOf:Means->Str
 | .key _=>"key"
 | .loud=>"loud"
 | .soft=>"soft"
 | .lock _ _=>"lock"
 | .cancel _=>"cancel"
 | .up _=>"up"
 | .down _=>"down"
 | .accent _=>"accent"
 | .end_=>"end"
def EH:Means->Nat
 | .key k=>k
 | .lock i _=>i
 | .cancel s=>s
 | .up s=>s
 | .down s=>s
 | .accent s=>s
 | _=>0
def EI:Means->Nat
 | .lock _ s=>s
 | _=>0
def keyOf (m:Means):List Key:=[.inr (nameOf m),.inl (EH m:Int),.inl (EI m:Int)]
def WQ:List Key->Option Means
 | [.inr x,.inl i,.inl j]=>if x="key" then some (.key i.toNat) else if x="loud" then some .loud else if x="soft" then some .soft else if x="lock" then some (.lock i.toNat j.toNat) else
  if x="cancel" then some (.cancel i.toNat) else if x="up" then some (.up i.toNat) else if x="down" then some (.down i.toNat) else if x="accent" then some (.accent i.toNat) else some .end_
 | _=>none
theorem Sf (m:Means):WQ (keyOf m)=some m:=by
 cases m <;> rfl
theorem UK {m n:Means} (h:keyOf m=keyOf n):m=n:=by
 have:=congrArg WQ h
 rw[Sf,Sf] at this
 exact Option.some.inj this
def ei (l:List (Nat×Means)):List (List Key×V):=l.map fun x=>(keyOf x.2,nV x.1)
theorem V8 (l:List (Nat×Means)) (m:Means):cM (ei l) (keyOf m)=((l.find? fun x=>x.2==m).map fun x=>nV x.1):=by
 unfold cM ei
 induction l with
 | nil=>rfl
 | cons y r ih =>
  rw[List.map_cons,List.find?_cons,List.find?_cons]
  by_cases h:y.2=m
  ·rw[h]
   simp
  rw[decide_eq_false (fun z=>h (UK z)),beq_eq_false_iff_ne.mpr h]
  exact ih
theorem aoh (l:List (Nat×Means)) (m:Means):(cM (ei l) (keyOf m)).isSome=(cF l).contains m:=by
 rw[V8,Option.isSome_map]
 unfold cF
 rw[List.contains_reverse]
 induction l with
 | nil=>rfl
 | cons y r ih =>
  rw[List.find?_cons,List.map_cons,List.contains_cons]
  by_cases h:y.2=m
  ·rw[h]
   simp
  rw[beq_eq_false_iff_ne.mpr h,beq_eq_false_iff_ne.mpr (Ne.symm h)]
  exact ih
theorem aoi {l:List (Nat×Means)}{m:Means}{t:Nat} (h:(cF l).contains m=false):putK (ei l) (keyOf m) (nV t)=ei (l++[(t,m)]):=by
 unfold putK
 rw[if_neg]
 ·unfold ei
  rw[List.map_append]
  rfl
 intro z
 rw[List.any_eq_true] at z
 obtain⟨kv,h1,h2⟩:=z
 rw[decide_eq_true_eq] at h2
 unfold ei at h1
 obtain⟨y,hy,rfl⟩:=List.mem_map.mp h1
 have e:y.2=m:=UK h2
 have:(cF l).contains m=true:=by
  rw[List.contains_iff_mem]
  unfold cF
  rw[List.mem_reverse]
  exact List.mem_map.mpr ⟨y,hy,e⟩
 rw[this] at h
 cases h
theorem V9 (l:List (Nat×Means)):(ei l).length=l.length:=List.length_map _
def sv (a:aC):List (Str×V):=[("key",.ref a.ji),("loud",.ref a.ja),("soft",.ref a.jb),("lock",.ref a.jc),("cancel",.ref a.iX),("up",.ref a.jq),("down",.ref a.jd),("accent",.ref a.iY),("end",.ref a.jj)]
def jv:List Str:=["key","loud","soft","lock","cancel","up","down","accent","end"]
theorem str_inj {x y:Str}{b:Bytes} (h:fb x b) (k:fb y b):x=y:=TL.apD (h.trans k.symm)
theorem bytes_inj {x:Str}{b c:Bytes} (h:fb x b) (k:fb x c):b=c:=by
 have e:b.map (·.toNat)=c.map (·.toNat):=h.symm.trans k
 exact(List.map_inj_right fun _ _ q=>UInt8.toNat_inj.mp q).mp e
theorem Sg:∀ i,i<9->fb (jv.getD i "") (Rol.WORDS.getD i []):=by unfold fb;decide +kernel
section
variable {P:Program}{w:World}{K:W.Frag}{mg:Str->Option Value}{base:Heap}{a:aC}
theorem aoj (T:Txt w K mg a) {i:Nat} (hi:i<9):∃ tA,(sv a).lookup (jv.getD i "")=some (.ref tA)/\cE K tA ((fo (i+1)).map fun b=>nV b.2)/\∀ b∈fo (i+1),b.1=0:=by
 match i,hi with
 | 0,_=>exact⟨_,rfl,T.ji,by decide⟩
 | 1,_=>exact⟨_,rfl,T.ja,by decide⟩
 | 2,_=>exact⟨_,rfl,T.jb,by decide⟩
 | 3,_=>exact⟨_,rfl,T.jc,by decide⟩
 | 4,_=>exact⟨_,rfl,T.iX,by decide⟩
 | 5,_=>exact⟨_,rfl,T.jq,by decide⟩
 | 6,_=>exact⟨_,rfl,T.jd,by decide⟩
 | 7,_=>exact⟨_,rfl,T.iY,by decide⟩
 | 8,_=>exact⟨_,rfl,T.jj,by decide⟩
theorem amK {x:Str} (h:∀ i,i<9->x≠jv.getD i ""):(sv a).lookup x=none:=by
 rw[List.lookup_eq_none_iff]
 intro p hp
 unfold sv at hp
 simp only [List.mem_cons,List.not_mem_nil,or_false] at hp
 rcases hp with rfl | rfl | rfl | rfl | rfl | rfl | rfl | rfl | rfl
 ·exact bne_iff_ne.mpr (h 0 (by decide))
 ·exact bne_iff_ne.mpr (h 1 (by decide))
 ·exact bne_iff_ne.mpr (h 2 (by decide))
 ·exact bne_iff_ne.mpr (h 3 (by decide))
 ·exact bne_iff_ne.mpr (h 4 (by decide))
 ·exact bne_iff_ne.mpr (h 5 (by decide))
 ·exact bne_iff_ne.mpr (h 6 (by decide))
 ·exact bne_iff_ne.mpr (h 7 (by decide))
 exact bne_iff_ne.mpr (h 8 (by decide))
theorem ajg (B:Bytes) (p:Nat) {x:Str} (hx:fb x (f6 B p)):(∃ i,i<9/\x=jv.getD i ""/\Rol.word p (B.drop p)=.ok (i+1,p+(f6 B p).length,B.drop (p+(f6 B p).length))) \/
  (Rol.word p (B.drop p)=.error p/\∀ i,i<9->x≠jv.getD i ""):=by
 unfold Rol.word
 cases h:Rol.WORDS.findIdx? (fun w=>w==(B.drop p).takeWhile Rol.isSmall) with
 | some i =>
  left
  obtain⟨h1,h2,_⟩:=List.findIdx?_eq_some_iff_getElem.mp h
  have hi:i<9:=h1
  refine⟨i,hi,?_,?_⟩
  ·refine str_inj hx ?_
   have e:Rol.WORDS[i]=(B.drop p).takeWhile Rol.isSmall:=beq_iff_eq.mp h2
   unfold f6
   rw[<- e]
   have:=Sg i hi
   rw[show Rol.WORDS.getD i []=Rol.WORDS[i] by rw[List.getD_eq_getElem?_getD,List.getElem?_eq_getElem h1,Option.getD_some];rfl] at this
   exact this
  dsimp only
  unfold f6
  rw[List.drop_drop]
 | none =>
  right
  refine⟨rfl,fun i hi z=>?_⟩
  have hn:=List.findIdx?_eq_none_iff.mp h (Rol.WORDS.getD i []) (by
   rw[List.getD_eq_getElem?_getD,List.getElem?_eq_getElem (show i<Rol.WORDS.length from hi),Option.getD_some]
   exact List.getElem_mem _)
  subst z
  have e:=bytes_inj hx (Sg i hi)
  unfold f6 at e
  rw[e,beq_self_eq_true] at hn
  cases hn
def mD (ns:List Nat):List V:=[nV (ns.getD 0 0),nV (ns.getD 1 0)]
theorem amL {ns:List Nat}{n:Nat} (h:ns.length<2):(mD ns).set ns.length (nV n)=mD (ns++[n]):=by
 match ns,h with
 | [],_=>rfl
 | [x],_=>rfl
theorem ahF {i:Nat} (hi:i<9) {ns:List Nat} (h:ns.length=(fo (i+1)).length):keyOf (gA (i+1) ns)=[.inr (jv.getD i ""),.inl (ns.getD 0 0:Nat),.inl (ns.getD 1 0:Nat)]:=by
 match i,hi,ns,h with
 | 0,_,[x],_=>rfl
 | 1,_,[],_=>rfl
 | 2,_,[],_=>rfl
 | 3,_,[x,y],_=>rfl
 | 4,_,[x],_=>rfl
 | 5,_,[x],_=>rfl
 | 6,_,[x],_=>rfl
 | 7,_,[x],_=>rfl
 | 8,_,[],_=>rfl
theorem ajh (i:Nat):(fo i).length<=2:=by
 unfold fo
 split <;> decide
def alh (K:W.Frag) (a:aC):Sp:=fun vs H Q E=>∃ (s tA dA:Addr) (B:Bytes) (p:Nat) (l:List (Nat×Means)),vs=[.ref s,.ref dA]/\bo K a.aG H s tA B p/\H dA=some (.dT (ei l)) /\
 match gD (cF l) p (B.drop p) with
 | .error k=>Faults a s H E k
 | .ok x=>∀ (t:Addr) (H':Hp),H' t=some (.tup ((keyOf x.1).map kV))->H t=none->bo K a.aG H' s tA B x.2.1->Kp s H H'->Q (.ref t) H'
theorem abR (T:Txt w K mg a):aN P w K mg base (cu P w) true 5 a.mW a.xa ["scanner","tracks"] (alh K a):=by
 refine T.BJ.eh pT (fun vs H Q E h=>?_) (fun aF A outer s H vs Q E hr h=>?_)
 ·obtain⟨_,_,_,_,_,_,rfl,_⟩:=h
  rfl
 obtain⟨s,tA,dA,B,p,l,rfl,S,hD,k⟩:=h
 obtain⟨dx,ho⟩:=S.obj
 have mM:dA≠s:=fun z=>by rw[z,ho] at hD;cases hD
 refine⟨_,(ao (aK (i:=2) pT.nd rfl (Or.inl rfl) (aI (pv 0) rfl))
  (ao (aK (i:=3) pT.nd rfl (Or.inl rfl) (gL (pv 0) T.bz T.Hr (Zd T) (hr.mono (by decide)) T.HV .nil aL))
  (ao (cn (zd (akX T.ie rfl T.C8 (pv 3))) (aw (rL ft rfl rfl T.oJ T.pW T.nt T.pX T.pY (qY T) (hr.mono (by decide)) T.pS (aa (pv 2) ag))) cv)
  (ao (aK (i:=4) pT.nd rfl (Or.inl rfl) (cP (aa aB (aa aB ag))))
  (ao (dS jx rfl (ams rfl T.rC (aa (anZ T.ie rfl T.C8 (pv 3) (fun _ _=>rfl)) ag)) (uu rfl (ig (bM (i:=5) pT.nd rfl (Or.inl rfl)) (ig (bM (i:=6) pT.nd rfl (Or.inl rfl)) rQ))) (ao (bY (bf (pv 0) T.bz T.kb (mQ T) (hr.mono (by decide)) T.kL .nil bW (aa (cC rfl T.oO) ag)))
  (aw (ape (bf (pv 0) T.bz T.pO (qW T) (hr.mono (by decide)) T.pP .nil bW (aa aB (aa (pv 6) ag))) (apd (pv 4) (pv 5) set_list)))))
  (ao (aK (i:=7) pT.nd rfl (Or.inl rfl) (oS (aa (pv 3) (aa (bR cw (pv 4) aB (fun _ _=>rfl)) (aa (bR cw (pv 4) aB (fun _ _=>rfl)) ag)))))
  (ao (cn (zd (apu (n6 hr) (pv 7) (pv 1))) (aw (rL ft rfl rfl T.oJ T.pW T.nt T.pX T.pY (qY T) (hr.mono (by decide)) T.pS (aa (pv 2) ag))) cv)
  (aw (bc (pv 7)))))))))),?_⟩
 refine⟨_,rfl,s,_,dx,_,_,rfl,ho,T.bz,T.eY,gr _ _,?_⟩
 refine⟨_,rfl,s,dx,_,rfl,ho,rfl,s,tA,B,p,rfl,S,fun x H1 hx S1 a9=>?_⟩
 refine⟨_,rfl,x,rfl,_,rfl,?_⟩
 rcases ajg B p hx with ⟨i,hi,rfl,hw⟩ | ⟨hw,aqQ⟩
 ·obtain⟨cA,vt,uQ,hzero⟩:=aoj T hi
  have Xn:List.lookup (jv.getD i "") (sv a)=some (.ref cA):=vt
  show if (!(List.lookup (jv.getD i "") (sv a)).isSome)=true then _ else _
  rw[Xn]
  refine aE ?_
  have smb:=S1.sm
  obtain⟨cj,bG⟩:=S1.obj
  have Xo:∀ e,et (fo (i+1)) (p+(f6 B p).length) (B.drop (p+(f6 B p).length))=.error e->Faults a s H E e:=fun e he=>by
   have:gD (cF l) p (B.drop p)=.error e:=by
    unfold gD
    rw[dX hw,Di,gv]
    exact fv he
   rw[this] at k
   exact k
  refine⟨(by show 2<=sizeLine;decide),fun nA g6=>?_⟩
  have pD:nA≠s:=fun z=>by rw[z,bG] at g6;cases g6
  have Yr:∀ b o,H b=some o->b≠nA:=fun b o hb z=>by
   subst z
   by_cases q:b=s
   ·exact pD q
   rw[a9 b o hb q] at g6;cases g6
  have aP:Kp s H (upd H1 nA (.lst (mD []))):=fun b o hb n=>by rw[ai (Yr b o hb)];exact a9 b o hb n
  have S2:bo K a.aG (upd H1 nA (.lst (mD []))) s tA B (p+(f6 B p).length):=S.move aP ⟨cj,by rw[ai (Ne.symm pD)];exact bG⟩ S1.le
  refine⟨_,rfl,_,_,rfl,Xn,cA,_,rfl,uQ.sq _,akY (fun j σ' H'=>∃ (q:Nat) (done:List Nat) (c5 c6:Option V),σ'=[some (.ref s),some (.ref dA),some (.int (p:Int)),some (.str (jv.getD i "")),some (.ref nA),c5,c6,none] /\
   bo K a.aG H' s tA B q/\Kp s H H'/\H' nA=some (.lst (mD done))/\gO (fo (i+1)) B (p+(f6 B p).length) q done ((fo (i+1)).drop j)/\done.length=j)
   ⟨_,[],none,none,rfl,S2,aP,ak,gO.start S1.le,rfl⟩ (fun _ _ _ _ _=>uQ.sq _) ?_ ?_⟩
  ·rintro j v σ' H' hv ⟨q,done,c5,c6,rfl,S',fj,hL,hN,hlen⟩ t ht
   rw[List.getElem?_map] at hv
   obtain⟨b,hb,rfl⟩:∃ b,(fo (i+1))[j]?=some b/\nV b.2=v:=by
    cases hq:(fo (i+1))[j]? with
    | none=>rw[hq] at hv;cases hv
    | some b=>rw[hq] at hv;exact⟨b,rfl,Option.some.inj hv⟩
   have hj2:j<2:=by have:=(List.getElem?_eq_some_iff.mp hb).1;have:=ajh (i+1);omega
   obtain⟨b1,b2⟩:=b
   obtain rfl:b1=0:=hzero _ (List.mem_of_getElem? hb)
   rw[yu hb] at hN
   obtain⟨FH,vK⟩:=S'.obj
   have sY:t≠s:=fun z=>by rw[z,vK] at ht;cases ht
   have htn:t≠nA:=fun z=>by rw[z,hL] at ht;cases ht
   have pE:Kp s H (upd H' t (.tup [.int (j:Nat),nV b2])):=fun b o hb n=>by rw[ai (aJ (fj b o hb n) ht)];exact fj b o hb n
   have St:bo K a.aG (upd H' t (.tup [.int (j:Nat),nV b2])) s tA B q:=S.move pE ⟨FH,by rw[ai (Ne.symm sY)];exact vK⟩ S'.le
   have hLt:upd H' t (.tup [.int (j:Nat),nV b2]) nA=some (.lst (mD done)):=by rw[ai (Ne.symm htn)];exact hL
   obtain⟨dxt,hot⟩:=St.obj
   refine⟨t,_,rfl,cp.of ak,rfl,_,_,rfl,_,_,rfl,rfl,?_⟩
   refine⟨_,rfl,s,dxt,_,rfl,hot,rfl,s,tA,B,q,32,rfl,St,?_⟩
   cases h1:Rol.exactly [32] q (B.drop q) with
   | error e=>exact Faults.mono pE (Xo e (hN.bad (fv h1)))
   | ok y1 =>
    obtain⟨u1,q1,r1⟩:=y1
    obtain⟨rfl,_,bF⟩:=lF h1 St.le
    intro H3 S3 bD
    have S3:bo K a.aG H3 s tA B q1:=S3
    obtain⟨oy,fi⟩:=S3.obj
    have qO:H3 nA=some (.lst (mD done)):=bD _ _ hLt pD
    refine⟨_,rfl,s,oy,_,rfl,fi,rfl,_,rfl,s,tA,B,q1,0,b2,rfl,S3,?_⟩
    cases h2:Rol.numberIn 0 b2 q1 (B.drop q1) with
    | error e=>exact Faults.mono (pE.trans bD) (Xo e (hN.bad ((dX h1).trans h2)))
    | ok y2 =>
     obtain⟨n,q2,r2⟩:=y2
     obtain⟨rfl,_,eN,_⟩:=hZ h2
     intro H4 S4 iJ
     have S4:bo K a.aG H4 s tA B q2:=S4
     have vL:H4 nA=some (.lst (mD done)):=iJ _ _ qO pD
     refine⟨_,rfl,_,rfl,nA,_,_,j,rfl,rfl,vL,?_,?_⟩
     ·unfold mI
      rw[if_pos (by omega),if_pos (by show(j:Int)<((2:Nat):Int);omega)]
      simp
     have cH:Kp s H (upd H4 nA (.lst ((mD done).set j (nV n)))):=fun b o hb n=>by rw[ai (Yr b o hb)];exact iJ b o (bD b o (pE b o hb n) n) n
     obtain⟨oz,oA⟩:=S4.obj
     refine⟨q2,done++[n],_,_,rfl,S.move cH ⟨oz,by rw[ai (Ne.symm pD)];exact oA⟩ eN,cH,?_,hN.turn ((dX h1).trans h2),by rw[List.length_append,hlen];rfl⟩
     rw[ak,<- hlen]
     show some (HO.lst ((mD done).set done.length (nV n)))=_
     rw[amL (by omega)]
  rintro σ' H' ⟨q,done,c5,c6,rfl,S',fj,hL,hN,hlen⟩
  rw[List.length_map] at hN hlen
  rw[List.drop_length] at hN
  have hm:Rol.meaning (i+1) (p+(f6 B p).length) (B.drop (p+(f6 B p).length))=.ok (gA (i+1) done,q,B.drop q):=by
   rw[Di,dX hN.done]
   rfl
  have uO:=ahF hi hlen
  have hmr:gD (cF l) p (B.drop p)=if (cF l).contains (gA (i+1) done)=true then .error p else .ok (gA (i+1) done,q,B.drop q):=by
   unfold gD
   rw[dX hw,dX hm]
   split <;> rfl
  obtain⟨FH,vK⟩:=S'.obj
  refine⟨_,rfl,_,rfl,nA,_,_,nV (done.getD 0 0),rfl,rfl,aq.of hL,rfl,_,rfl,nA,_,_,nV (done.getD 1 0),rfl,rfl,aq.of hL,rfl,(by show 3<=sizeLine;decide),fun t ht=>?_⟩
  have vM:H' dA=some (.dT (ei l)):=fj _ _ hD mM
  have sY:t≠s:=fun z=>by rw[z,vK] at ht;cases ht
  have Ys:upd H' t (.tup [V.str (jv.getD i ""),nV (done.getD 0 0),nV (done.getD 1 0)]) t=some (.tup ((keyOf (gA (i+1) done)).map kV)):=by
   rw[ak,uO]
   rfl
  have pE:Kp s H (upd H' t (.tup [V.str (jv.getD i ""),nV (done.getD 0 0),nV (done.getD 1 0)])):=fun b o hb n=>by rw[ai (aJ (fj b o hb n) ht)];exact fj b o hb n
  refine⟨_,rfl,_,rfl,dA,_,rfl,gh.t (by rw[ai (aJ vM ht)];exact vM) Ys,_,rfl,?_⟩
  show if (cM (ei l) (keyOf (gA (i+1) done))).isSome=true then _ else _
  rw[aoh]
  rw[hmr] at k
  by_cases hc:(cF l).contains (gA (i+1) done)=true
  ·rw[if_pos hc] at k ⊢
   exact⟨_,rfl,nB k pE⟩
  rw[if_neg hc] at k ⊢
  refine⟨_,rfl,k t _ Ys ?_ (S.move pE ⟨FH,by rw[ai (Ne.symm sY)];exact vK⟩ S'.le) pE⟩
  cases hz:H t with
  | none=>rfl
  | some o=>rw[fj t o hz sY] at ht;cases ht
 show if (!(List.lookup x (sv a)).isSome)=true then _ else _
 rw[amK aqQ]
 refine aX ⟨_,rfl,?_⟩
 have e:gD (cF l) p (B.drop p)=.error p:=by
  unfold gD
  exact fv hw
 rw[e] at k
 exact nB k a9
end
end RF
end
section
namespace RF
open PySem PySem.Spec PyProof.Rows L2 LX LM
open Rol (Bytes Means)
section
variable {P:Program}{w:World}{K:W.Frag}{mg:Str->Option Value}{base:Heap}{a:aC}
def amM (K:W.Frag) (a:aC):Sp:=fun vs H Q E=>∃ (s tA:Addr) (B:Bytes) (p wd:Nat),vs=[.ref s,.int (wd:Int)]/\1<=wd/\wd<=128/\bo K a.aG H s tA B p /\
 match Rol.trackLines wd ((B.drop p).length+1) 0 [] p (B.drop p) with
 | .error k=>Faults a s H E k
 | .ok l=>∀ (dA:Addr) (H':Hp),H' dA=some (.dT (ei l))->H dA=none->Kp s H H'->Q (.ref dA) H'
theorem adi (T:Txt w K mg a):aN P w K mg base (cu P w) true 6 a.m7 a.xp ["scanner","width"] (amM K a):=by
 refine T.B4.eh rf (fun vs H Q E h=>?_) (fun aF A outer s H vs Q E hr h=>?_)
 ·obtain⟨_,_,_,_,_,rfl,_⟩:=h
  rfl
 obtain⟨s,tA,B,p,wd,rfl,ox,vE,S,k⟩:=h
 obtain⟨dx,ho⟩:=S.obj
 refine⟨_,(ao (aK (i:=2) rf.nd rfl (Or.inl rfl) U7)
  (ao (aK (i:=3) rf.nd rfl (Or.inl rfl) aB)
  (ao (rN jx (qf (jl (gL (pv 0) T.bz T.wo (A1 T) (hr.mono (by decide)) T.wM .nil aL))) (ao (aK (i:=4) rf.nd rfl (Or.inl rfl) (bf (pv 0) T.bz T.pO (qW T) (hr.mono (by decide)) T.pP .nil bW (aa (pv 3) (aa (bp mw (pv 1) aB) ag))))
  (ao (bY (bf (pv 0) T.bz T.kb (mQ T) (hr.mono (by decide)) T.kL .nil bW (aa (cC rfl T.oO) ag)))
  (ao (aK (i:=5) rf.nd rfl (Or.inl rfl) (bQ (abR T) (hr.mono (by decide)) rfl T.MN T.BJ.kp T.N7 .nil bW (aa (pv 0) (aa (pv 2) ag))))
  (ao (bY (bf (pv 0) T.bz T.kb (mQ T) (hr.mono (by decide)) T.kL .nil bW (aa (cC rfl T.p6) ag)))
  (ao (yQ (n6 hr) (pv 2) (pv 5) (pv 4) rfl)
  (aw (aK (i:=3) rf.nd rfl (Or.inl rfl) (bp fN (pv 4) aB)))))))))
  (aw (bc (pv 2)))))),?_⟩
 intro dA pF
 have mM:dA≠s:=fun z=>by rw[z,ho] at pF;cases pF
 have vn:∀ b o,H b=some o->b≠dA:=fun b o hb=>aJ hb pF
 have Yt:Kp s H (upd H dA (.dT (ei []))):=fun b o hb n=>by rw[ai (vn b o hb)];exact hb
 have S0:bo K a.aG (upd H dA (.dT (ei []))) s tA B p:=S.move Yt ⟨dx,by rw[ai (Ne.symm mM)];exact ho⟩ S.le
 refine⟨fun m σ' H'=>∃ (q least:Nat) (l:List (Nat×Means)) (c4 c5:Option V),σ'=[some (.ref s),some (.int (wd:Int)),some (.ref dA),some (.int (least:Int)),c4,c5]/\bo K a.aG H' s tA B q/\Kp s H H' /\
  H' dA=some (.dT (ei l))/\gw wd ((B.drop p).length+1) p B q least l/\m=B.length-q,⟨_,p,0,[],none,none,rfl,S0,Yt,ak,gw.start S.le,rfl⟩,?_⟩
 rintro m σ' H' ⟨q,least,l,c4,c5,rfl,S',fj,hD,hT,rfl⟩
 obtain⟨bL,br⟩:=S'.obj
 refine⟨_,rfl,s,bL,_,rfl,br,rfl,s,tA,B,q,rfl,S',_,rfl,?_⟩
 by_cases qA:q=B.length
 ·rw[decide_eq_true qA]
  refine aE ⟨_,rfl,?_⟩
  rw[hT.done qA] at k
  exact k dA H' hD pF fj
 rw[decide_eq_false qA]
 have aO:q<B.length:=by have:=S'.le;omega
 have bad:∀ e,Rol.trackLine wd least (cF l) q (B.drop q)=.error e->Faults a s H E e:=fun e he=>by
  rw[hT.bad ox aO he] at k
  exact k
 refine aX ⟨fun σ2 H2=>∃ (q2 least:Nat) (l:List (Nat×Means)) (c4 c5:Option V),σ2=[some (.ref s),some (.int (wd:Int)),some (.ref dA),some (.int (least:Int)),c4,c5]/\bo K a.aG H2 s tA B q2/\Kp s H H2 /\
  H2 dA=some (.dT (ei l))/\gw wd ((B.drop p).length+1) p B q2 least l/\q<q2,?_,?_⟩
 ·rintro σ2 H2 ⟨q2,Ed,l2,d4,d5,rfl,S2,aP,gI,qH,eN⟩
  exact⟨B.length-q2,by have:=S2.le;omega,q2,Ed,l2,d4,d5,rfl,S2,aP,gI,qH,rfl⟩
 refine⟨_,rfl,s,bL,_,rfl,br,rfl,_,rfl,_,rfl,_,_,rfl,rfl,?_⟩
 refine⟨s,tA,B,q,least,wd-1,?_,S',?_⟩
 ·show[V.ref s,V.int (least:Int),V.int ((wd:Int)-1)]=_
  rw[show(wd:Int)-1=((wd-1:Nat):Int) by omega]
 cases h1:Rol.numberIn least (wd-1) q (B.drop q) with
 | error e=>exact Faults.mono fj (bad e (by rw[rq];exact fv h1))
 | ok y1 =>
  obtain⟨t,q1,r1⟩:=y1
  obtain⟨rfl,_,bF,vJ,vz⟩:=hZ h1
  intro H1 S1 a9
  have S1:bo K a.aG H1 s tA B q1:=S1
  obtain⟨cj,bG⟩:=S1.obj
  have e1:Rol.trackLine wd least (cF l) q (B.drop q)=Rol.andThen (Rol.exactly [32]) (fun _=>Rol.andThen (gD (cF l)) fun m=>Rol.andThen (Rol.exactly [10]) fun _=>Rol.gives (t,m)) q1 (B.drop q1):=by
   rw[rq]
   exact dX h1
  refine⟨_,rfl,s,cj,_,rfl,bG,rfl,s,tA,B,q1,32,rfl,S1,?_⟩
  cases h2:Rol.exactly [32] q1 (B.drop q1) with
  | error e=>exact Faults.mono (fj.trans a9) (bad e (by rw[e1];exact fv h2))
  | ok y2 =>
   obtain⟨u2,q2,r2⟩:=y2
   obtain⟨rfl,_,eN⟩:=lF h2 bF
   intro H2 S2 aP
   have S2:bo K a.aG H2 s tA B q2:=S2
   have gI:H2 dA=some (.dT (ei l)):=aP _ _ (a9 _ _ hD mM) mM
   have e2:Rol.trackLine wd least (cF l) q (B.drop q)=Rol.andThen (gD (cF l)) (fun m=>Rol.andThen (Rol.exactly [10]) fun _=>Rol.gives (t,m)) q2 (B.drop q2):=by
    rw[e1]
    exact dX h2
   have EJ:Kp s H H2:=(fj.trans a9).trans aP
   refine⟨_,rfl,_,rfl,s,tA,dA,B,q2,l,rfl,S2,gI,?_⟩
   cases h3:gD (cF l) q2 (B.drop q2) with
   | error e=>exact Faults.mono EJ (bad e (by rw[e2];exact fv h3))
   | ok y3 =>
    obtain⟨m,q3,r3⟩:=y3
    obtain⟨rfl,_,sZ⟩:=DA (cF l) B q2 q3 m r3 eN h3
    intro mA H3 FI hmn S3 bD
    have S3:bo K a.aG H3 s tA B q3:=S3
    obtain⟨oy,fi⟩:=S3.obj
    have hms:mA≠s:=fun z=>by rw[z,fi] at FI;cases FI
    have e3:Rol.trackLine wd least (cF l) q (B.drop q)=Rol.andThen (Rol.exactly [10]) (fun _=>Rol.gives (t,m)) q3 (B.drop q3):=by
     rw[e2]
     exact dX h3
    refine⟨_,rfl,s,oy,_,rfl,fi,rfl,s,tA,B,q3,10,rfl,S3,?_⟩
    cases h4:Rol.exactly [10] q3 (B.drop q3) with
    | error e=>exact Faults.mono (EJ.trans bD) (bad e (by rw[e3];exact fv h4))
    | ok y4 =>
     obtain⟨u4,q4,r4⟩:=y4
     obtain⟨rfl,_,z4⟩:=lF h4 sZ
     intro H4 S4 iJ
     have S4:bo K a.aG H4 s tA B q4:=S4
     have hD4:H4 dA=some (.dT (ei l)):=iJ _ _ (bD _ _ gI mM) mM
     have hm4:H4 mA=some (.tup ((keyOf m).map kV)):=iJ _ _ FI hms
     have e4:Rol.trackLine wd least (cF l) q (B.drop q)=.ok ((t,m),q4,B.drop q4):=by
      rw[e3]
      exact dX h4
     have o9:(cF l).contains m=false:=by
      cases hc:(cF l).contains m with
      | false=>rfl
      | true =>
       exfalso
       unfold gD at h3
       cases h5:Rol.word q2 (B.drop q2) with
       | error e=>rw[fv h5] at h3;cases h3
       | ok y5 =>
        obtain⟨kd,q5,r5⟩:=y5
        rw[dX h5] at h3
        cases h6:Rol.meaning kd q5 r5 with
        | error e=>rw[fv h6] at h3;cases h3
        | ok y6 =>
         obtain⟨m6,q6,r6⟩:=y6
         rw[dX h6] at h3
         by_cases FJ:(cF l).contains m6=true
         ·rw[if_pos FJ] at h3;cases h3
         rw[if_neg FJ] at h3
         cases h3
         exact FJ hc
     have vy:l.length<=128:=by obtain⟨_,_,_,g1,g2,_⟩:=hT;omega
     refine⟨_,rfl,_,rfl,_,rfl,dA,_,rfl,mC.t hD4 hm4 (by rw[V9,sizeLine_eq];omega),?_⟩
     have cH:Kp s H (upd H4 dA (.dT (putK (ei l) (keyOf m) (nV t)))):=fun b o hb n=>by rw[ai (vn b o hb)];exact iJ b o (bD b o (EJ b o hb n) n) n
     obtain⟨oz,oA⟩:=S4.obj
     refine⟨_,rfl,_,_,rfl,rfl,q4,t+1,l++[(t,m)],_,_,rfl,S.move cH ⟨oz,by rw[ai (Ne.symm mM)];exact oA⟩ z4,cH,?_,hT.turn ox aO e4,?_⟩
     ·rw[<- aoi o9]
      exact ak
     have:=QG (by omega) e4
     exact this
end
end RF
end
section
namespace RF
open PySem PySem.Spec PyProof.Rows L2 LX LM
open Rol (Bytes Means)
def se (b:Rol.Bar):List Nat:=[b.wide,b.split,b.tail,b.base,b.step,b.accent,b.most,b.up,b.down]
def ff (nA dA:Addr) (b:Rol.Bar):List (Str×V):=[("numbers",.ref nA),("width",nV b.wide),("split_key",nV b.split),("tail",nV b.tail),("base",nV b.base),("step",nV b.step),("accent",nV b.accent),("most",nV b.most),("rise",nV b.up),("fall",nV b.down),("tracks",.ref dA)]
structure fc (C:Addr) (H:Hp) (x nA dA:Addr) (b:Rol.Bar):Prop where
 obj:∃ dx,H x=some (.ins C dx (ff nA dA b))
 nums:H nA=some (.lst ((se b).map nV))
 pG:H dA=some (.dT (ei b.tracks))
section
variable {P:Program}{w:World}{K:W.Frag}{mg:Str->Option Value}{base:Heap}{a:aC}
def ali (K:W.Frag) (a:aC):Sp:=fun vs H Q _=>∃ (s nA dA dx:Addr) (b:Rol.Bar),vs=[.ref s,.ref nA,.ref dA]/\H s=some (.ins a.ba dx [])/\H nA=some (.lst ((se b).map nV))/\H dA=some (.dT (ei b.tracks)) /\
 ∀ H',fc a.ba H' s nA dA b->Kp s H H'->Q .aH H'
theorem ahG (T:Txt w K mg a):aN P w K mg base bC true 1 a.ma a.yo ["self","numbers","tracks"] (ali K a):=by
 refine T.R7.ok ahC (fun vs H Q E h=>?_) (fun aF A outer s H vs Q E hr h=>?_)
 ·obtain⟨_,_,_,_,_,rfl,_⟩:=h
  rfl
 obtain⟨s,nA,dA,dx,b,rfl,ho,hn,hd,k⟩:=h
 have gj:nA≠s:=fun z=>by rw[z,ho] at hn;cases hn
 have mM:dA≠s:=fun z=>by rw[z,ho] at hd;cases hd
 have sn:∀ H',Kp s H H'->aq K H' nA ((se b).map nV):=fun H' kp=>aq.of (kp _ _ hn gj)
 refine⟨_,(ao (bZ (pv 0) (pv 1) rfl)
  (ao (bZ (pv 0) (bR cw (pv 1) aB (fun _ _=>rfl)) rfl)
  (ao (bZ (pv 0) (bR cw (pv 1) aB (fun _ _=>rfl)) rfl)
  (ao (bZ (pv 0) (bR cw (pv 1) aB (fun _ _=>rfl)) rfl)
  (ao (bZ (pv 0) (bR cw (pv 1) aB (fun _ _=>rfl)) rfl)
  (ao (bZ (pv 0) (bR cw (pv 1) aB (fun _ _=>rfl)) rfl)
  (ao (bZ (pv 0) (bR cw (pv 1) aB (fun _ _=>rfl)) rfl)
  (ao (bZ (pv 0) (bR cw (pv 1) aB (fun _ _=>rfl)) rfl)
  (ao (bZ (pv 0) (bR cw (pv 1) aB (fun _ _=>rfl)) rfl)
  (ao (bZ (pv 0) (bR cw (pv 1) aB (fun _ _=>rfl)) rfl)
  (aw (bZ (pv 0) (pv 2) rfl)))))))))))),?_⟩
 refine⟨_,rfl,_,rfl,s,_,dx,[],rfl,ho,T.bU,T.tK,(by show 0<1000;decide),?_⟩
 refine⟨_,rfl,nA,_,_,nV b.wide,rfl,rfl,sn _ Kp.upd,rfl,_,rfl,s,_,dx,_,rfl,ak,T.bU,T.tQ,(by show 1<1000;decide),?_⟩
 refine⟨_,rfl,nA,_,_,nV b.split,rfl,rfl,sn _ (Kp.upd.trans Kp.upd),rfl,_,rfl,s,_,dx,_,rfl,ak,T.bU,T.tG,(by show 2<1000;decide),?_⟩
 refine⟨_,rfl,nA,_,_,nV b.tail,rfl,rfl,sn _ ((Kp.upd.trans Kp.upd).trans Kp.upd),rfl,_,rfl,s,_,dx,_,rfl,ak,T.bU,T.ny,(by show 3<1000;decide),?_⟩
 refine⟨_,rfl,nA,_,_,nV b.base,rfl,rfl,sn _ (((Kp.upd.trans Kp.upd).trans Kp.upd).trans Kp.upd),rfl,_,rfl,s,_,dx,_,rfl,ak,T.bU,T.tV,(by show 4<1000;decide),?_⟩
 refine⟨_,rfl,nA,_,_,nV b.step,rfl,rfl,sn _ ((((Kp.upd.trans Kp.upd).trans Kp.upd).trans Kp.upd).trans Kp.upd),rfl,_,rfl,s,_,dx,_,rfl,ak,T.bU,T.tX,(by show 5<1000;decide),?_⟩
 refine⟨_,rfl,nA,_,_,nV b.accent,rfl,rfl,sn _ (((((Kp.upd.trans Kp.upd).trans Kp.upd).trans Kp.upd).trans Kp.upd).trans Kp.upd),rfl,_,rfl,s,_,dx,_,rfl,ak,T.bU,T.tN,(by show 6<1000;decide),?_⟩
 refine⟨_,rfl,nA,_,_,nV b.most,rfl,rfl,sn _ ((((((Kp.upd.trans Kp.upd).trans Kp.upd).trans Kp.upd).trans Kp.upd).trans Kp.upd).trans Kp.upd),rfl,_,rfl,s,_,dx,_,rfl,ak,T.bU,T.tY,(by show 7<1000;decide),?_⟩
 refine⟨_,rfl,nA,_,_,nV b.up,rfl,rfl,sn _ (((((((Kp.upd.trans Kp.upd).trans Kp.upd).trans Kp.upd).trans Kp.upd).trans Kp.upd).trans Kp.upd).trans Kp.upd),rfl,_,rfl,s,_,dx,_,rfl,ak,T.bU,T.tZ,(by show 8<1000;decide),?_⟩
 refine⟨_,rfl,nA,_,_,nV b.down,rfl,rfl,sn _ ((((((((Kp.upd.trans Kp.upd).trans Kp.upd).trans Kp.upd).trans Kp.upd).trans Kp.upd).trans Kp.upd).trans Kp.upd).trans Kp.upd),rfl,_,rfl,s,_,dx,_,rfl,ak,T.bU,T.t4,(by show 9<1000;decide),?_⟩
 refine⟨_,rfl,_,rfl,s,_,dx,_,rfl,ak,T.bU,T.rm,(by show 10<1000;decide),?_⟩
 have fin:∀ H',Kp s H H'->(∃ dx,H' s=some (.ins a.ba dx (ff nA dA b)))->Q .aH H':=fun H' kp o=>k _ ⟨o,kp _ _ hn gj,kp _ _ hd mM⟩ kp
 exact fin _ (((((((((((Kp.upd (a:=s) (H:=H)).trans Kp.upd).trans Kp.upd).trans Kp.upd).trans Kp.upd).trans Kp.upd).trans Kp.upd).trans Kp.upd).trans Kp.upd).trans Kp.upd).trans Kp.upd) ⟨dx,ak⟩
theorem aok (T:Txt w K mg a) {i:Nat} (hi:i<4):∃ (hA wA:Addr) (x:Str) (vN:List Addr),[V.ref a.i6,V.ref a.i7,V.ref a.i8,V.ref a.i9][i]?=some (.ref hA)/\cE K hA [.str x,.ref wA]/\fb x (ez.getD i ([],[])).1 /\
  cE K wA (vN.map V.ref)/\vN.length=(ez.getD i ([],[])).2.length/\∀ (j:Nat) (b:Nat×Nat),(ez.getD i ([],[])).2[j]?=some b->∃ bA,vN[j]?=some bA/\cE K bA [nV b.1,nV b.2]:=by
 match i,hi with
 | 0,_=>exact⟨_,_,_,[a.iN,a.iO],rfl,T.i6,(by unfold fb;decide +kernel),T.md,rfl,fun j b hb=>match j,hb with
  | 0,hb=>by cases hb;exact⟨_,rfl,T.iN⟩
  | 1,hb=>by cases hb;exact⟨_,rfl,T.iO⟩⟩
 | 1,_=>exact⟨_,_,_,[a.iP],rfl,T.i7,(by unfold fb;decide +kernel),T.me,rfl,fun j b hb=>match j,hb with
  | 0,hb=>by cases hb;exact⟨_,rfl,T.iP⟩⟩
 | 2,_=>exact⟨_,_,_,[a.iQ,a.iR,a.iS],rfl,T.i8,(by unfold fb;decide +kernel),T.mf,rfl,fun j b hb=>match j,hb with
  | 0,hb=>by cases hb;exact⟨_,rfl,T.iQ⟩
  | 1,hb=>by cases hb;exact⟨_,rfl,T.iR⟩
  | 2,hb=>by cases hb;exact⟨_,rfl,T.iS⟩⟩
 | 3,_=>exact⟨_,_,_,[a.iT,a.iU,a.iV],rfl,T.i9,(by unfold fb;decide +kernel),T.mh,rfl,fun j b hb=>match j,hb with
  | 0,hb=>by cases hb;exact⟨_,rfl,T.iT⟩
  | 1,hb=>by cases hb;exact⟨_,rfl,T.iU⟩
  | 2,hb=>by cases hb;exact⟨_,rfl,T.iV⟩⟩
def alj (K:W.Frag) (a:aC):Sp:=fun vs H Q E=>∃ (tA:Addr) (B:Bytes),vs=[.ref tA]/\aq K H tA (B.map bV)/\B.length<=1000000/\match Rol.readBar B with
 | .error k=>dF a H E k
 | .ok b=>∀ (x nA dA:Addr) (H':Hp),fc a.ba H' x nA dA b->gd b->H x=none->H nA=none->H dA=none->au H H'->Q (.ref x) H'
theorem ahH (T:Txt w K mg a):aN P w K mg base (cu P w) true 7 a.nE a.yl ["text"] (alj K a):=by
 refine T.C2.eh tT (fun vs H Q E h=>?_) (fun aF A outer s H vs Q E hr h=>?_)
 ·obtain⟨_,_,rfl,_⟩:=h
  rfl
 obtain⟨tA,B,rfl,ht,hB,k⟩:=h
 rw[aj8] at k
 refine⟨_,(ao (aK (i:=1) tT.nd rfl (Or.inl rfl) (oM T.t7 (MW T) (hr.mono (by decide)) rfl T.C5 T.Cd .nil aL (aa (pv 0) ag)))
  (ao (aK (i:=2) tT.nd rfl (Or.inl rfl) (cP ag))
  (ao (dS jx rfl (Wk (VC (v:=.ref a.iw) rfl T.V7 rfl)) (bM (i:=3) tT.nd rfl (Or.inl rfl)) (ao (bY (bf (pv 1) T.bz T.Ak (GA T) (hr.mono (by decide)) T.An .nil bW (aa (bR qg (pv 3) aB (fun _ _=>rfl)) ag)))
  (ao (dS jx rfl (Wk (bR qg (pv 3) aB (fun _ _=>rfl))) (bM (i:=4) tT.nd rfl (Or.inl rfl)) (ao (bY (bf (pv 1) T.bz T.kb (mQ T) (hr.mono (by decide)) T.kL .nil bW (aa (cC rfl T.oO) ag)))
  (aw (bY (gP PySem.F.plainAttrs_list PySem.F.slot_list_append PySem.F.type_list_append mi (pv 2) (aa (bf (pv 1) T.bz T.pO (qW T) (hr.mono (by decide)) T.pP .nil bW (aa (bR qg (pv 4) aB (fun _ _=>rfl)) (aa (bR qg (pv 4) aB (fun _ _=>rfl)) ag))) ag))))))
  (aw (bY (bf (pv 1) T.bz T.kb (mQ T) (hr.mono (by decide)) T.kL .nil bW (aa (cC rfl T.p6) ag)))))))
  (aw (bc (oM T.zj (ahG T) (hr.mono (by decide)) rfl T.V6 T.TN .nil aL (aa (pv 2) (aa (bQ (adi T) (hr.mono (by decide)) rfl T.N6 T.B4.kp T.Pw .nil bW (aa (pv 1) (aa (bR cw (pv 2) aB (fun _ _=>rfl)) ag))) ag)))))))),?_⟩
 refine⟨_,rfl,fun s dx hs gm cq=>?_⟩
 have cT:au H (upd (upd H dx (.own s)) s (.ins a.aG dx [])):=fun b o hb=>by rw[ai (aJ hb hs),ai (aJ hb gm)];exact hb
 refine⟨s,tA,dx,B,rfl,ak,cT.seq ht,hB,fun H1 S1 a9=>⟨rfl,?_⟩⟩
 have aM:au H H1:=au.kp cT hs a9
 obtain⟨cj,bG⟩:=S1.obj
 refine⟨Nat.zero_le _,fun nA g6=>?_⟩
 have pD:H nA=none:=aM.free g6
 have gj:nA≠s:=fun z=>by rw[z,bG] at g6;cases g6
 have bg:au H (upd H1 nA (.lst (([]:List Nat).map nV))):=fun b o hb=>by rw[ai (aJ (aM b o hb) g6)];exact aM b o hb
 have S2:bo K a.aG (upd H1 nA (.lst (([]:List Nat).map nV))) s tA B 0:=⟨⟨cj,by rw[ai (Ne.symm gj)];exact bG⟩,bg.seq ht,Nat.zero_le _,hB⟩
 have bad:∀ e,f7 ez 0 B=.error e->dF a H E e:=fun e he=>by rw[he] at k;exact k
 refine⟨_,rfl,⟨_,T.iw.sq _⟩,VD (fun i σ' H'=>∃ (q:Nat) (done:List Nat) (c3 c4:Option V),σ'=[some (.ref tA),some (.ref s),some (.ref nA),c3,c4]/\bo K a.aG H' s tA B q/\au H H'/\H' nA=some (.lst (done.map nV))/\gN B q done (ez.drop i)/\done.length<=3*i)
  ⟨0,[],none,none,rfl,S2,bg,ak,gN.start B,Nat.le_refl _⟩ (fun _ _ _ _ _=>T.iw.sq _) ?_ ?_⟩
 ·rintro i v σ' H' hv ⟨q,done,c3,c4,rfl,S',aV,hL,hH,hlen⟩
  have hi:i<4:=(List.getElem?_eq_some_iff.mp hv).1
  obtain⟨hA,wA,x,vN,iF,tH,hx,tW,FK,tB⟩:=aok T hi
  rw[iF] at hv
  obtain rfl:V.ref hA=v:=Option.some.inj hv
  have hg:ez[i]?=some (ez.getD i ([],[])):=by
   rw[List.getD_eq_getElem?_getD,List.getElem?_eq_getElem (show i<ez.length from hi)]
   rfl
  have h3:(ez.getD i ([],[])).2.length<=3:=by
   match i,hi with
   | 0,_=>decide
   | 1,_=>decide
   | 2,_=>decide
   | 3,_=>decide
  obtain⟨wd,bs,X3⟩:∃ wd bs,ez.getD i ([],[])=(wd,bs):=⟨_,_,rfl⟩
  rw[X3] at hx FK tB hg h3
  dsimp only at hx FK tB h3
  rw[yu hg] at hH
  obtain⟨bL,br⟩:=S'.obj
  refine⟨_,rfl,s,bL,_,rfl,br,rfl,_,rfl,hA,_,_,.str x,rfl,rfl,tH.sq _,rfl,s,tA,B,q,x,_,rfl,hx,S',?_⟩
  cases h1:Rol.exactly wd q (B.drop q) with
  | error e=>exact dF.at (bad e (hH.bad (by unfold jn;exact fv h1))) hs aV
  | ok y1 =>
   obtain⟨u1,q1,r1⟩:=y1
   obtain⟨rfl,_,bF⟩:=lF h1 S'.le
   intro H3 S3 bD
   have S3:bo K a.aG H3 s tA B q1:=S3
   have bj:au H H3:=au.kp aV hs bD
   have qO:H3 nA=some (.lst (done.map nV)):=bD _ _ hL gj
   refine⟨_,rfl,hA,_,_,.ref wA,rfl,rfl,tH.sq _,rfl,wA,rfl,⟨_,tW.sq _⟩,VD (fun j σ' H'=>∃ (q:Nat) (ns:List Nat) (c4:Option V),σ'=[some (.ref tA),some (.ref s),some (.ref nA),some (.ref hA),c4]/\bo K a.aG H' s tA B q/\au H H'/\H' nA=some (.lst ((done++ns).map nV)) /\
    gO bs B q1 q ns (bs.drop j)/\ns.length=j) ⟨q1,[],c4,rfl,S3,bj,by rw[List.append_nil];exact qO,gO.start bF,rfl⟩ (fun _ _ _ _ _=>tW.sq _) ?_ ?_⟩
   ·rintro j v σ2 H4 FL ⟨q4,ns,c4,rfl,S4,bh,vL,hN,oB⟩
    have hj:j<vN.length:=by have:=(List.getElem?_eq_some_iff.mp FL).1;rw[List.length_map] at this;exact this
    have FN:bs[j]?=some (bs[j]'(by omega)):=List.getElem?_eq_getElem _
    generalize mF:bs[j]'(by omega)=b at FN
    obtain⟨bA,vO,tb⟩:=tB j b FN
    rw[List.getElem?_map,vO] at FL
    obtain rfl:V.ref bA=v:=Option.some.inj FL
    rw[yu FN] at hN
    obtain⟨oz,oA⟩:=S4.obj
    have uR:∀ e,Rol.blankNum b.1 b.2 q4 (B.drop q4)=.error e->dF a H E e:=fun e he=>bad e (hH.bad (by
     unfold jn
     rw[dX h1]
     exact fv (hN.bad he)))
    refine⟨_,rfl,s,oz,_,rfl,oA,rfl,s,tA,B,q4,32,rfl,S4,?_⟩
    cases h5:Rol.exactly [32] q4 (B.drop q4) with
    | error e=>exact dF.at (uR e (fv h5)) hs bh
    | ok y5 =>
     obtain⟨u5,q5,r5⟩:=y5
     obtain⟨rfl,_,hq5⟩:=lF h5 S4.le
     intro H5 S5 cH
     have S5:bo K a.aG H5 s tA B q5:=S5
     have cU:au H H5:=au.kp bh hs cH
     have Yu:H5 nA=some (.lst ((done++ns).map nV)):=cH _ _ vL gj
     obtain⟨dx5,ho5⟩:=S5.obj
     refine⟨_,rfl,.inl ⟨rfl,_,aq.of Yu⟩,_,rfl,s,dx5,_,rfl,ho5,rfl,_,rfl,bA,_,_,nV b.1,rfl,rfl,tb.sq _,rfl,_,rfl,bA,_,_,nV b.2,rfl,rfl,tb.sq _,rfl,s,tA,B,q5,b.1,b.2,rfl,S5,?_⟩
     cases h6:Rol.numberIn b.1 b.2 q5 (B.drop q5) with
     | error e=>exact dF.at (uR e ((dX h5).trans h6)) hs cU
     | ok y6 =>
      obtain⟨n,q6,r6⟩:=y6
      obtain⟨rfl,_,hq6,_⟩:=hZ h6
      intro H6 S6 vH
      have S6:bo K a.aG H6 s tA B q6:=S6
      have eF:au H H6:=au.kp cU hs vH
      have hL6:H6 nA=some (.lst ((done++ns).map nV)):=vH _ _ Yu gj
      obtain⟨sW,sX⟩:=S6.obj
      refine⟨nA,_,_,rfl,rfl,hL6,?_,?_⟩
      ·rw[List.length_map,List.length_append,sizeLine_eq]
       omega
      have qN:au H (upd H6 nA (.lst ((done++ns).map nV++[nV n]))):=fun b o hb=>by rw[ai (aJ hb pD)];exact eF b o hb
      refine⟨q6,ns++[n],_,rfl,⟨⟨sW,?_⟩,qN.seq ht,hq6,hB⟩,qN,?_,hN.turn ((dX h5).trans h6),by rw[List.length_append,oB];rfl⟩
      ·rw[ai (Ne.symm gj)];exact sX
      rw[ak,<- List.append_assoc,List.map_append (l₁:=done++ns)]
      rfl
   rintro σ2 H4 ⟨q4,ns,c4',rfl,S4,bh,vL,hN,oB⟩
   rw[List.length_map,FK] at hN oB
   rw[List.drop_length] at hN
   have qI:=hN.done
   obtain⟨oz,oA⟩:=S4.obj
   refine⟨_,rfl,s,oz,_,rfl,oA,rfl,s,tA,B,q4,10,rfl,S4,?_⟩
   cases h5:Rol.exactly [10] q4 (B.drop q4) with
   | error e=>exact dF.at (bad e (hH.bad (by unfold jn;rw[dX h1,dX qI];exact fv h5))) hs bh
   | ok y5 =>
    obtain⟨u5,q5,r5⟩:=y5
    obtain⟨rfl,_,hq5⟩:=lF h5 S4.le
    intro H5 S5 cH
    have S5:bo K a.aG H5 s tA B q5:=S5
    refine⟨q5,done++ns,_,_,rfl,S5,au.kp bh hs cH,cH _ _ vL gj,hH.turn (by unfold jn;rw[dX h1,dX qI,dX h5];rfl),?_⟩
    rw[List.length_append]
    omega
 rintro σ' H' ⟨q,done,c3,c4,rfl,S',aV,hL,hH,hlen⟩
 have WR:=gN.done (show gN B q done [] from hH)
 rw[WR] at k
 dsimp only at k
 have nine:=aoa (Vh WR)
 obtain⟨W,S,G,Bb,Pp,Aa,M,U,Dd,rfl,ox,vE,_⟩:=nine.ex
 refine⟨_,rfl,_,rfl,_,rfl,nA,_,_,nV W,rfl,rfl,aq.of hL,rfl,s,tA,B,q,W,rfl,ox,vE,S',?_⟩
 have k:(match Rol.trackLines W ((B.drop q).length+1) 0 [] q (B.drop q) with
  | .error k=>dF a H E k
  | .ok l=>∀ (x nA dA:Addr) (H':Hp),fc a.ba H' x nA dA (qk [W,S,G,Bb,Pp,Aa,M,U,Dd] l)->gd (qk [W,S,G,Bb,Pp,Aa,M,U,Dd] l)->H x=none->H nA=none->H dA=none->au H H'->Q (.ref x) H'):=by
  have k':=k
  have eT:Rol.trackLines ([W,S,G,Bb,Pp,Aa,M,U,Dd].getD 0 0) ((B.drop q).length+1) 0 [] q (B.drop q)=Rol.trackLines W ((B.drop q).length+1) 0 [] q (B.drop q):=rfl
  rw[eT] at k'
  cases hT:Rol.trackLines W ((B.drop q).length+1) 0 [] q (B.drop q) with
  | error e=>rw[hT] at k';exact k'
  | ok l=>rw[hT] at k';exact k'
 cases hT:Rol.trackLines W ((B.drop q).length+1) 0 [] q (B.drop q) with
 | error e =>
  rw[hT] at k
  exact dF.at k hs aV
 | ok l =>
  rw[hT] at k
  intro dA H3 hD Yv bD x dxx hx EK av5
  have bj:au H H3:=au.kp aV hs bD
  have qO:=bD _ _ hL gj
  refine⟨x,nA,dA,dxx,qk [W,S,G,Bb,Pp,Aa,M,U,Dd] l,rfl,ak,?_,?_,fun H4 BA iJ=>⟨rfl,?_⟩⟩
  ·rw[ai (aJ qO hx),ai (aJ qO EK)]
   exact qO
  ·rw[ai (aJ hD hx),ai (aJ hD EK)]
   exact hD
  refine k x nA dA H4 BA (gd.of nine (Uz ox hT)) (bj.free hx) pD (aV.free Yv) (au.kp (s:=x) (fun b o hb=>?_) (bj.free hx) iJ)
  have h3:=bj b o hb
  rw[ai (aJ h3 hx),ai (aJ h3 EK)]
  exact h3
end
end RF
end
section
namespace RF
open PySem PySem.Spec PyProof.Rows L2 LX LM
open Rol (Bytes Means)
def aY (b:Rol.Bar) (m:Means):Nat:=match b.find m with
 | some t=>2 ^ t
 | none=>0
theorem amN (b:Rol.Bar) (m:Means):cM (ei b.tracks) (keyOf m)=(b.find m).map nV:=by
 rw[V8]
 unfold Rol.Bar.find
 rw[Option.map_map]
 rfl
theorem aol {b:Rol.Bar} (ok:gd b) {m:Means}{t:Nat} (h:b.find m=some t):t<b.wide:=by
 unfold Rol.Bar.find at h
 cases e:b.tracks.find? (fun x=>x.2==m) with
 | none=>rw[e] at h;cases h
 | some x =>
  rw[e] at h
  cases h
  exact ok.tr x (List.mem_of_find?_eq_some e)
theorem aom (x t:Nat):x&&&2 ^ t=if Nat.testBit x t=true then 2 ^ t else 0:=by
 refine Nat.eq_of_testBit_eq fun i=>?_
 rw[Nat.testBit_and,Nat.testBit_two_pow]
 by_cases h:t=i
 ·subst h
  cases e:Nat.testBit x t with
  | true=>simp
  | false=>simp
 rw[decide_eq_false h,Bool.and_false]
 split
 ·rw[Nat.testBit_two_pow,decide_eq_false h]
 rw[Nat.zero_testBit]
theorem oP (b:Rol.Bar) (x:Nat) (m:Means):decide (x&&&aY b m≠0)=b.has x m:=by
 unfold aY Rol.Bar.has
 cases b.find m with
 | none=>simp
 | some t =>
  dsimp only
  unfold Rol.Row.hole
  rw[aom]
  cases h:Nat.testBit x t with
  | true=>simp
  | false=>simp
section
variable {P:Program}{w:World}{K:W.Frag}{mg:Str->Option Value}{base:Heap}{a:aC}
theorem alk (nA dA:Addr) (b:Rol.Bar):(ff nA dA b).lookup ("most":Str)=some (nV b.most):=rfl
theorem alm (nA dA:Addr) (b:Rol.Bar):(ff nA dA b).lookup ("rise":Str)=some (nV b.up):=rfl
theorem aln (nA dA:Addr) (b:Rol.Bar):(ff nA dA b).lookup ("fall":Str)=some (nV b.down):=rfl
theorem Sh (nA dA:Addr) (b:Rol.Bar):(ff nA dA b).lookup ("tracks":Str)=some (.ref dA):=rfl
def aqR (K:W.Frag) (a:aC):Sp:=fun vs H Q _=>∃ (x nA dA:Addr) (b:Rol.Bar) (m:Means),vs=[.ref x,.str (nameOf m),nV (EH m),nV (EI m)]/\fc a.ba H x nA dA b/\gd b/\∀ H',au H H'->Q (nV (aY b m)) H'
theorem mS (T:Txt w K mg a):aN P w K mg base bC true 1 a.kS a.wU ["self","word","first","second"] (aqR K a):=by
 refine T.LH.ok LC (fun vs H Q E h=>?_) (fun aF A outer s H vs Q E hr h=>?_)
 ·obtain⟨_,_,_,_,_,rfl,_⟩:=h
  rfl
 obtain⟨x,nA,dA,b,m,rfl,BA,ok,k⟩:=h
 obtain⟨dx,ho⟩:=BA.obj
 refine⟨_,(ao (aK (i:=4) LC.nd rfl (Or.inl rfl) (amj (n6 hr) (aI (pv 0) rfl) (oS (aa (pv 1) (aa (pv 2) (aa (pv 3) ag)))) ⟨rfl,rfl,rfl,rfl⟩))
  (ao (cn (zd (Wi (pv 4))) (aw (bc aB)) cv)
  (aw (bc (bp ze aB (pv 4)))))),?_⟩
 refine⟨_,rfl,x,_,dx,_,_,rfl,ho,T.bU,T.rm,Sh _ _ _,dA,rfl,.inr ⟨_,.inl BA.pG⟩,_,rfl,_,rfl,_,rfl,(by show 3<=sizeLine;decide),fun t ht=>?_⟩
 have sm:au H (upd H t (.tup [V.str (nameOf m),nV (EH m),nV (EI m)])):=fun b o hb=>by rw[ai (aJ hb ht)];exact hb
 refine⟨_,gh.t (k:=keyOf m) (sm _ _ BA.pG) ak,?_⟩
 rw[amN]
 have k':=k _ sm
 unfold aY at k'
 cases hf:b.find m with
 | none =>
  rw[hf] at k'
  exact⟨_,rfl,_,rfl,k'⟩
 | some t =>
  rw[hf] at k'
  have:=aol ok hf
  have:=ok.w2
  refine⟨_,rfl,_,rfl,?_⟩
  show if decide (nV t=V.aH)=true then _ else _
  rw[decide_eq_false (show ¬ nV t=V.aH from fun z=>(nomatch z))]
  refine aE ⟨_,rfl,_,_,rfl,rfl,⟨by omega,by omega,by decide⟩,?_⟩
  show Q (V.int (1*2 ^ ((t:Nat):Int).toNat)) _
  rw[uq]
  exact k'
theorem WT:∀ (l:List Nat) (a w:Nat),a<2 ^ w->(∀ x∈l,x<2 ^ w)->l.foldl (fun a b=>a|||b) a<2 ^ w
 | [],a,w,h,_=>h
 | x::l,a,w,h,k=>WT l (a|||x) w (Nat.or_lt_two_pow h (k x (List.mem_cons_self))) fun y hy=>k y (List.mem_cons_of_mem _ hy)
def jf (X:Rol.Strip) (g i:Nat):List Nat:=(X.rows.take (i+1)).drop (i-g)
theorem amO {X:Rol.Strip} (ok:iq X) (g i:Nat):X.soundRow g i=(jf X g i).foldl (fun a b=>a|||b) 0:=by
 unfold Rol.Strip.soundRow jf
 refine Nat.mod_eq_of_lt (WT _ _ _ (Nat.two_pow_pos _) fun x hx=>ok.rw x ?_)
 exact List.mem_of_mem_take (List.mem_of_mem_drop hx)
theorem TX (X:Rol.Strip) (g i:Nat):(jf X g i).length=min (i+1) X.rows.length-(i-g):=by
 unfold jf
 rw[List.length_drop,List.length_take]
theorem alo {X:Rol.Strip}{g i j:Nat}{y:Nat} (h:(jf X g i)[j]?=some y):X.rows[i-g+j]?=some y:=by
 have hl:=TX X g i
 have hj:=(List.getElem?_eq_some_iff.mp h).1
 unfold jf at h
 rw[List.getElem?_drop,List.getElem?_take,if_pos (by omega)] at h
 exact h
theorem yL (wd:Nat) (rA:Addr):(FC wd rA).lookup ("rows":Str)=some (.ref rA):=rfl
def aji (K:W.Frag) (a:aC):Sp:=fun vs H Q _=>∃ (x rA:Addr) (X:Rol.Strip) (i g:Nat),vs=[.ref x,nV i,nV g]/\gB a.cx H x rA X/\iq X/\i<=1000/\g<=15/\Q (nV (X.soundRow g i)) H
theorem A2 (T:Txt w K mg a):aN P w K mg base bC true 1 a.kF a.wF ["self","row","tail"] (aji K a):=by
 refine T.JS.ok v9 (fun vs H Q E h=>?_) (fun aF A outer s H vs Q E hr h=>?_)
 ·obtain⟨_,_,_,_,_,rfl,_⟩:=h
  rfl
 obtain⟨x,rA,X,i,g,rfl,SA,ok,hi,hg,k⟩:=h
 obtain⟨dx,ho⟩:=SA.obj
 have hl:=ok.ln
 refine⟨_,(ao (aK (i:=3) v9.nd rfl (Or.inl rfl) aB)
  (ao (dS PassesOwn.never rfl (akG rfl T.je (aa (da (Ui rfl) rfl T.uB Wu (aa aB (aa (bp mw (pv 1) (pv 2)) ag))) (aa (da (yx rfl) rfl T.nX rV (aa (bp fN (pv 1) aB) (aa (da fm rfl T.eu e7 (aa (aI (pv 0) rfl) ag)) ag))) ag))) (bM (i:=4) v9.nd rfl (Or.inl rfl)) (aw (aK (i:=3) v9.nd rfl (Or.inl rfl) (bp Ef (pv 3) (bR cw (aI (pv 0) rfl) (pv 4) (fun _ _=>rfl))))))
  (aw (bc (pv 3))))),?_⟩
 refine⟨_,rfl,_,rfl,_,_,rfl,rfl,_,_,rfl,?_⟩
 refine⟨_,rfl,_,_,rfl,rfl,_,rfl,x,_,dx,_,_,rfl,ho,T.i4,T.oI,yL _ _,rA,_,rfl,.inl (aq.of SA.rows),_,_,rfl,?_⟩
 have Yw:(if (i:Int)-(g:Int)>0 then (i:Int)-(g:Int) else 0)=((i-g:Nat):Int):=by split <;> omega
 have Yx:(if ((X.rows.map nV).length:Int)<(i:Int)+1 then ((X.rows.map nV).length:Int) else (i:Int)+1)=((min (i+1) X.rows.length:Nat):Int):=by
  rw[List.length_map]
  split <;> omega
 refine⟨_,_,rfl,?_,?_⟩
 ·rw[Yw,Yx]
  omega
 rw[Yw,Yx,show(((min (i+1) X.rows.length:Nat):Int)-((i-g:Nat):Int)).toNat=(jf X g i).length by rw[TX];omega]
 refine t9 (fun j σ' H'=>∃ c4:Option V,σ'=[some (.ref x),some (nV i),some (nV g),some (nV (((jf X g i).take j).foldl (fun a b=>a|||b) 0)),c4]/\H'=H) ⟨none,rfl,rfl⟩ ?_ ?_
 ·rintro j σ' H' hj ⟨c4,rfl,rfl⟩
  have hy:(jf X g i)[j]?=some (jf X g i)[j]:=List.getElem?_eq_getElem hj
  have hat:=alo hy
  have as3:iG (X.rows.map nV) (((i-g:Nat):Int)+(j:Int))=some (nV (jf X g i)[j]):=by
   rw[show((i-g:Nat):Int)+(j:Int)=((i-g+j:Nat):Int) by omega]
   exact il (by rw[List.getElem?_map,hat];rfl)
  refine⟨_,rfl,_,rfl,x,_,dx,_,_,rfl,ho,T.i4,T.oI,yL _ _,_,rfl,rA,_,_,_,rfl,rfl,aq.of SA.rows,as3,_,_,rfl,rfl,?_⟩
  refine⟨some (.int (((i-g:Nat):Int)+(j:Int))),?_,rfl⟩
  rw[List.take_add_one,hy,List.foldl_append]
  show[some (V.ref x),some (nV i),some (nV g),some (V.int (Builtin.bitOr _ _)),some (V.int (((i-g:Nat):Int)+(j:Int)))]=_
  rw[yB]
  rfl
 rintro σ' H' ⟨c4,rfl,rfl⟩
 refine⟨_,rfl,?_⟩
 rw[List.take_length]
 rw[amO ok] at k
 exact k
end
end RF
end
section
namespace L2
open PySem PySem.Spec PyProof.Rows LX
theorem DI {K:W.Frag}{a:Addr}{xs:List V}{g:TG}{tb:TS}{D:Ends}{σ:St}{H:Hp} (Pv:Nat->St->Hp->Prop) (h0:Pv 0 σ H) (hl:∀ i σ H,i<=xs.length->Pv i σ H->aq K H a xs)
  (hs:∀ i x σ H,xs[i]?=some x->Pv i σ H->∀ T,H T=none->g (.ref T) σ (upd H T (.tup [.int (i:Nat),x])) fun σ2 H2=>tb {D with nx:=Pv (i+1),ct:=Pv (i+1),bk:=D.nx} σ2 H2) (hd:∀ σ H,Pv xs.length σ H->D.nx σ H) :
  ∃ W:Nat->Nat->St->Hp->Prop,(∃ m,W 0 m σ H)/\∀ i m σ H,W i m σ H ->
   ((vg K a).stop i H/\D.nx σ H)\/((vg K a).go i H/\∃ N:St->Hp->Prop,(∀ σ' H',N σ' H'->∃ m',m'<m/\W (i+1) m' σ' H')/\∀ x H',(vg K a).fT i H x H'->g x σ H' fun σ2 H2=>tb {D with nx:=N,ct:=N,bk:=D.nx} σ2 H2):=by
 refine⟨fun i m σ H=>m=xs.length-i/\i<=xs.length/\Pv i σ H,⟨xs.length,by simp,Nat.zero_le _,h0⟩,?_⟩
 rintro i m σ H ⟨rfl,hi,p⟩
 have q:=hl i σ H hi p
 by_cases aO:i<xs.length
 ·refine .inr ⟨⟨xs,xs[i],q,by simp[aO]⟩,Pv (i+1),fun σ' H' p'=>⟨xs.length-(i+1),by omega,rfl,aO,p'⟩,fun x H' y=>?_⟩
  obtain⟨T,x0,rfl,hT,rfl,iI⟩:=y
  exact hs i x0 σ H (iI xs q) p T hT
 have e:i=xs.length:=by omega
 subst e
 exact .inl ⟨⟨xs,q,Nat.le_refl _⟩,hd σ H p⟩
end L2
namespace RF
open PySem PySem.Spec PyProof.Rows L2 LX LM
open Rol (Bytes Means)
def qa (b:Rol.Bar) (k:Nat):List Nat:=[aY b (.lock 0 k),aY b (.lock 1 k),aY b (.lock 2 k)]
def dB (bA:Addr) (b:Rol.Bar) (k:Nat) (lA:Addr) (l v:Nat):List (Str×V):=[("bar",.ref bA),("cancel_bit",nV (aY b (.cancel k))),("lock_bits",.ref lA),("up_bit",nV (aY b (.up k))),("down_bit",nV (aY b (.down k))),("accent_bit",nV (aY b (.accent k))),("soft_bit",nV (aY b .soft)),("lock_value",nV l),("swell",nV v)]
structure dW (a:aC) (H:Hp) (x lA bA:Addr) (b:Rol.Bar) (k:Nat) (s:Rol.Side):Prop where
 obj:∃ dx,H x=some (.ins a.bb dx (dB bA b k lA s.lock s.swell))
 bits:H lA=some (.lst ((qa b k).map nV))
 bar:∃ dx nA dA,H bA=some (.ins a.ba dx (ff nA dA b))
theorem zo {H:Hp}{C D x bA nA dA cA lA dx dy:Addr}{b c:Rol.Bar}{k l v:Nat} (h:H x=some (.ins C dx (dB cA c k lA l v))) (g:H bA=some (.ins D dy (ff nA dA b))):bA≠x:=fun z=>by
 rw[z,h] at g
 have:=congrArg (fun l=>List.lookup ("numbers":Str) l) (HO.ins.inj (Option.some.inj g)).2.2
 cases this
theorem ur (bA:Addr) (b:Rol.Bar) (k:Nat) (lA:Addr) (l v:Nat):(dB bA b k lA l v).lookup ("bar":Str)=some (.ref bA):=rfl
theorem ajj (bA:Addr) (b:Rol.Bar) (k:Nat) (lA:Addr) (l v:Nat):(dB bA b k lA l v).lookup ("cancel_bit":Str)=some (nV (aY b (.cancel k))):=rfl
theorem Vt (bA:Addr) (b:Rol.Bar) (k:Nat) (lA:Addr) (l v:Nat):(dB bA b k lA l v).lookup ("lock_bits":Str)=some (.ref lA):=rfl
theorem aq2 (bA:Addr) (b:Rol.Bar) (k:Nat) (lA:Addr) (l v:Nat):(dB bA b k lA l v).lookup ("up_bit":Str)=some (nV (aY b (.up k))):=rfl
theorem amP (bA:Addr) (b:Rol.Bar) (k:Nat) (lA:Addr) (l v:Nat):(dB bA b k lA l v).lookup ("down_bit":Str)=some (nV (aY b (.down k))):=rfl
theorem ajk (bA:Addr) (b:Rol.Bar) (k:Nat) (lA:Addr) (l v:Nat):(dB bA b k lA l v).lookup ("accent_bit":Str)=some (nV (aY b (.accent k))):=rfl
theorem Vu (bA:Addr) (b:Rol.Bar) (k:Nat) (lA:Addr) (l v:Nat):(dB bA b k lA l v).lookup ("soft_bit":Str)=some (nV (aY b .soft)):=rfl
theorem uj (bA:Addr) (b:Rol.Bar) (k:Nat) (lA:Addr) (l v:Nat):(dB bA b k lA l v).lookup ("lock_value":Str)=some (nV l):=rfl
theorem ud (bA:Addr) (b:Rol.Bar) (k:Nat) (lA:Addr) (l v:Nat):(dB bA b k lA l v).lookup ("swell":Str)=some (nV v):=rfl
def Vv (b:Rol.Bar) (x k l:Nat):Nat:=(if b.has x (.cancel k)=true then 0 else l)|||Rol.locksIn b x k
def p8 (b:Rol.Bar) (x k v:Nat):Nat:=if b.has x (.up k)=true/\b.has x (.down k)=false then min b.most (v+b.up) else if b.has x (.down k)=true/\b.has x (.up k)=false then v-b.down else v
def gy (b:Rol.Bar) (x k:Nat) (l i:Nat):Nat:=(List.range i).foldl (fun (a i:Nat)=>a|||(if b.has x (.lock i k)=true then 2 ^ i else 0)) l
theorem xF (b:Rol.Bar) (x k l i:Nat):gy b x k l (i+1)=gy b x k l i|||(if b.has x (.lock i k)=true then 2 ^ i else 0):=by
 unfold gy
 rw[List.range_succ,List.foldl_append]
 rfl
theorem Wa (f:Nat->Nat):∀ (l:List Nat) (a c:Nat),l.foldl (fun a i=>a|||f i) (c|||a)=c|||l.foldl (fun a i=>a|||f i) a
 | [],_,_=>rfl
 | x::l,a,c=>by
  show l.foldl (fun a i=>a|||f i) (c|||a|||f x)=c|||l.foldl (fun a i=>a|||f i) (a|||f x)
  rw[Nat.or_assoc]
  exact Wa f l (a|||f x) c
theorem ag6 (b:Rol.Bar) (x k l:Nat):gy b x k l 3=l|||Rol.locksIn b x k:=by
 unfold gy Rol.locksIn
 have:=Wa (fun i=>if b.has x (.lock i k)=true then 2 ^ i else 0) (List.range 3) 0 l
 rw[Nat.or_zero] at this
 exact this
theorem l5 (n:Nat):(!decide (V.int (n:Int)=V.int 0))=decide (n≠0):=by
 cases n with
 | zero=>rfl
 | succ n =>
  rw[decide_eq_false (show ¬ V.int ((n+1:Nat):Int)=V.int 0 from fun z=>by injection z with z;omega),decide_eq_true (show n+1≠0 by omega)]
  rfl
section
variable {P:Program}{w:World}{K:W.Frag}{mg:Str->Option Value}{base:Heap}{a:aC}
def aon (K:W.Frag) (a:aC):Sp:=fun vs H Q _=>∃ (x lA bA:Addr) (b:Rol.Bar) (k:Nat) (s:Rol.Side) (y:Nat),vs=[.ref x,nV y]/\dW a H x lA bA b k s/\∀ H',dW a H' x lA bA b k ⟨Vv b y k s.lock,s.swell⟩->Kp x H H'->Q .aH H'
theorem Zr (T:Txt w K mg a):aN P w K mg base bC true 1 a.j5 a.wc ["self","sounding"] (aon K a):=by
 refine T.Ip.ok Az (fun vs H Q E h=>?_) (fun aF A outer s H vs Q E hr h=>?_)
 ·obtain⟨_,_,_,_,_,_,_,rfl,_⟩:=h
  rfl
 obtain⟨x,lA,bA,b,k,sd,y,rfl,SA,kq⟩:=h
 obtain⟨dx,ho⟩:=SA.obj
 obtain⟨bw,nA,dA,bu⟩:=SA.bar
 have oC:=zo ho bu
 have g7:lA≠x:=fun z=>by have:=SA.bits;rw[z,ho] at this;cases this
 refine⟨_,(ao (cn (cg mz (bp oR (pv 1) (aI (pv 0) rfl)) aB (bS _)) (aw (bZ (pv 0) aB rfl)) cv)
  (aw (dS PassesOwn.never rfl (VS rfl T.rC (aa (aI (pv 0) rfl) ag)) (uu rfl (ig (bM (i:=2) Az.nd rfl (Or.inl rfl)) (ig (bM (i:=3) Az.nd rfl (Or.inl rfl)) rQ))) (aw (cn (cg mz (bp oR (pv 1) (pv 3)) aB (bS _)) (aw (bZ (pv 0) (bp Ef (aI (pv 0) rfl) (bp ze aB (pv 2))) rfl)) cv))))),?_⟩
 refine⟨_,rfl,_,rfl,x,_,dx,_,_,rfl,ho,T.bH,T.tu,ajj _ _ _ _ _ _,_,_,rfl,rfl,rfl,_,rfl,?_⟩
 show if (!decide (V.int (Builtin.bitAnd (y:Int) (aY b (.cancel k):Int))=V.int 0))=true then _ else _
 rw[nI,l5,oP]
 have zZ:Vv b y k sd.lock=gy b y k (if b.has y (.cancel k)=true then 0 else sd.lock) 3:=by rw[ag6];rfl
 rw[zZ] at kq
 by_cases hc:b.has y (.cancel k)=true
 ·rw[if_pos hc] at kq ⊢
  refine⟨_,rfl,x,_,dx,_,rfl,ho,T.bH,T.hJ,(by show 9<1000;decide),?_⟩
  have o1:∃ bL,upd H x (.ins a.bb dx (bE "lock_value" (.int 0) (dB bA b k lA sd.lock sd.swell))) x=some (.ins a.bb bL (dB bA b k lA 0 sd.swell)):=⟨dx,ak⟩
  have a9:Kp x H (upd H x (.ins a.bb dx (bE "lock_value" (.int 0) (dB bA b k lA sd.lock sd.swell)))):=Kp.upd
  revert o1 a9
  generalize Yy:upd H x (.ins a.bb dx (bE "lock_value" (.int 0) (dB bA b k lA sd.lock sd.swell)))=H1
  intro o1 a9
  obtain⟨l0,mN⟩:∃ l0,l0=(0:Nat):=⟨_,rfl⟩
  rw[<- mN] at kq o1
  obtain⟨cj,bG⟩:=o1
  refine⟨_,rfl,x,_,cj,_,_,rfl,bG,T.bH,T.qX,Vt _ _ _ _ _ _,lA,_,rfl,aq.of (a9 _ _ SA.bits g7),DI (fun i σ' H'=>∃ c2 c3:Option V,σ'=[some (.ref x),some (nV y),c2,c3]/\(∃ bL,H' x=some (.ins a.bb bL (dB bA b k lA (gy b y k l0 i) sd.swell)))/\Kp x H1 H')
   ⟨none,none,rfl,⟨cj,bG⟩,Kp.rfl'⟩ (fun i σ' H' _ hp=>by obtain⟨_,_,_,_,kp⟩:=hp;exact aq.of (kp _ _ (a9 _ _ SA.bits g7) g7)) ?_ ?_⟩
  ·rintro i v σ' H' hv ⟨c2,c3,rfl,⟨eO,eC⟩,aP⟩ t ht
   have hi:i<3:=(List.getElem?_eq_some_iff.mp hv).1
   obtain rfl:v=nV (aY b (.lock i k)):=by
    match i,hi,hv with
    | 0,_,hv=>exact(Option.some.inj hv).symm
    | 1,_,hv=>exact(Option.some.inj hv).symm
    | 2,_,hv=>exact(Option.some.inj hv).symm
   have FO:t≠x:=fun z=>by rw[z,eC] at ht;cases ht
   have fi:upd H' t (.tup [.int (i:Nat),nV (aY b (.lock i k))]) x=some (.ins a.bb eO (dB bA b k lA (gy b y k l0 i) sd.swell)):=by rw[ai (Ne.symm FO)];exact eC
   have bD:Kp x H1 (upd H' t (.tup [.int (i:Nat),nV (aY b (.lock i k))])):=fun b o hb n=>by rw[ai (aJ (aP b o hb n) ht)];exact aP b o hb n
   refine⟨t,_,rfl,cp.of ak,rfl,_,_,rfl,_,_,rfl,rfl,_,rfl,_,rfl,_,_,rfl,rfl,rfl,_,rfl,?_⟩
   show if (!decide (V.int (Builtin.bitAnd (y:Int) (aY b (.lock i k):Int))=V.int 0))=true then _ else _
   rw[nI,l5,oP]
   by_cases hb:b.has y (.lock i k)=true
   ·rw[if_pos hb]
    refine⟨_,rfl,x,_,eO,_,_,rfl,fi,T.bH,T.hJ,uj _ _ _ _ _ _,_,rfl,_,_,rfl,rfl,⟨by omega,by omega,by decide⟩,_,_,rfl,rfl,_,rfl,x,_,eO,_,rfl,fi,T.bH,T.hJ,(by show 9<1000;decide),?_⟩
    refine⟨_,_,rfl,⟨eO,?_⟩,bD.trans Kp.upd⟩
    rw[ak,xF,if_pos hb]
    show some (HO.ins a.bb eO (bE "lock_value" (V.int (Builtin.bitOr (gy b y k l0 i:Int) (1*2 ^ ((i:Nat):Int).toNat))) (dB bA b k lA (gy b y k l0 i) sd.swell)))=_
    rw[uq,yB]
    rfl
   rw[if_neg hb]
   refine⟨_,_,rfl,⟨eO,?_⟩,bD⟩
   rw[fi,xF,if_neg hb,Nat.or_zero]
  rintro σ' H' ⟨c2,c3,rfl,o2,aP⟩
  exact kq H' ⟨o2,aP _ _ (a9 _ _ SA.bits g7) g7,bw,nA,dA,aP _ _ (a9 _ _ bu oC) oC⟩ (a9.trans aP)
 rw[if_neg hc] at kq ⊢
 have o1:∃ bL,H x=some (.ins a.bb bL (dB bA b k lA sd.lock sd.swell)):=⟨dx,ho⟩
 have a9:Kp x H H:=Kp.rfl'
 revert o1 a9
 generalize Yy:H=H1
 rw[Yy] at kq SA bu
 intro o1 a9
 obtain⟨l0,mN⟩:∃ l0,l0=sd.lock:=⟨_,rfl⟩
 rw[<- mN] at kq o1
 obtain⟨cj,bG⟩:=o1
 refine⟨_,rfl,x,_,cj,_,_,rfl,bG,T.bH,T.qX,Vt _ _ _ _ _ _,lA,_,rfl,aq.of (a9 _ _ SA.bits g7),DI (fun i σ' H'=>∃ c2 c3:Option V,σ'=[some (.ref x),some (nV y),c2,c3]/\(∃ bL,H' x=some (.ins a.bb bL (dB bA b k lA (gy b y k l0 i) sd.swell)))/\Kp x H1 H')
  ⟨none,none,rfl,⟨cj,bG⟩,Kp.rfl'⟩ (fun i σ' H' _ hp=>by obtain⟨_,_,_,_,kp⟩:=hp;exact aq.of (kp _ _ (a9 _ _ SA.bits g7) g7)) ?_ ?_⟩
 ·rintro i v σ' H' hv ⟨c2,c3,rfl,⟨eO,eC⟩,aP⟩ t ht
  have hi:i<3:=(List.getElem?_eq_some_iff.mp hv).1
  obtain rfl:v=nV (aY b (.lock i k)):=by
   match i,hi,hv with
   | 0,_,hv=>exact(Option.some.inj hv).symm
   | 1,_,hv=>exact(Option.some.inj hv).symm
   | 2,_,hv=>exact(Option.some.inj hv).symm
  have FO:t≠x:=fun z=>by rw[z,eC] at ht;cases ht
  have fi:upd H' t (.tup [.int (i:Nat),nV (aY b (.lock i k))]) x=some (.ins a.bb eO (dB bA b k lA (gy b y k l0 i) sd.swell)):=by rw[ai (Ne.symm FO)];exact eC
  have bD:Kp x H1 (upd H' t (.tup [.int (i:Nat),nV (aY b (.lock i k))])):=fun b o hb n=>by rw[ai (aJ (aP b o hb n) ht)];exact aP b o hb n
  refine⟨t,_,rfl,cp.of ak,rfl,_,_,rfl,_,_,rfl,rfl,_,rfl,_,rfl,_,_,rfl,rfl,rfl,_,rfl,?_⟩
  show if (!decide (V.int (Builtin.bitAnd (y:Int) (aY b (.lock i k):Int))=V.int 0))=true then _ else _
  rw[nI,l5,oP]
  by_cases hb:b.has y (.lock i k)=true
  ·rw[if_pos hb]
   refine⟨_,rfl,x,_,eO,_,_,rfl,fi,T.bH,T.hJ,uj _ _ _ _ _ _,_,rfl,_,_,rfl,rfl,⟨by omega,by omega,by decide⟩,_,_,rfl,rfl,_,rfl,x,_,eO,_,rfl,fi,T.bH,T.hJ,(by show 9<1000;decide),?_⟩
   refine⟨_,_,rfl,⟨eO,?_⟩,bD.trans Kp.upd⟩
   rw[ak,xF,if_pos hb]
   show some (HO.ins a.bb eO (bE "lock_value" (V.int (Builtin.bitOr (gy b y k l0 i:Int) (1*2 ^ ((i:Nat):Int).toNat))) (dB bA b k lA (gy b y k l0 i) sd.swell)))=_
   rw[uq,yB]
   rfl
  rw[if_neg hb]
  refine⟨_,_,rfl,⟨eO,?_⟩,bD⟩
  rw[fi,xF,if_neg hb,Nat.or_zero]
 rintro σ' H' ⟨c2,c3,rfl,o2,aP⟩
 exact kq H' ⟨o2,aP _ _ (a9 _ _ SA.bits g7) g7,bw,nA,dA,aP _ _ (a9 _ _ bu oC) oC⟩ (a9.trans aP)
def aoo (K:W.Frag) (a:aC):Sp:=fun vs H Q _=>∃ (x lA bA:Addr) (b:Rol.Bar) (k:Nat) (s:Rol.Side) (y:Nat),vs=[.ref x,nV y]/\dW a H x lA bA b k s/\∀ H',dW a H' x lA bA b k ⟨s.lock,p8 b y k s.swell⟩->Kp x H H'->Q .aH H'
theorem Zs (T:Txt w K mg a):aN P w K mg base bC true 1 a.j6 a.we ["self","sounding"] (aoo K a):=by
 refine T.Ir.ok AA (fun vs H Q E h=>?_) (fun aF A outer s H vs Q E hr h=>?_)
 ·obtain⟨_,_,_,_,_,_,_,rfl,_⟩:=h
  rfl
 obtain⟨x,lA,bA,b,k,sd,y,rfl,SA,kq⟩:=h
 obtain⟨dx,ho⟩:=SA.obj
 obtain⟨bw,nA,dA,bu⟩:=SA.bar
 have oC:=zo ho bu
 have g7:lA≠x:=fun z=>by have:=SA.bits;rw[z,ho] at this;cases this
 refine⟨_,(ao (aK (i:=2) AA.nd rfl (Or.inl rfl) (yO mz (bp oR (pv 1) (aI (pv 0) rfl)) aB (bS _)))
  (ao (aK (i:=3) AA.nd rfl (Or.inl rfl) (yO mz (bp oR (pv 1) (aI (pv 0) rfl)) aB (bS _)))
  (ao (cn (PW.pt (D9 (jl (pv 2)) (DU (qf (jl (pv 3)))))) (aw (bZ (pv 0) (da (yx rfl) rfl T.nX rV (aa (bp fN (aI (pv 0) rfl) (aI (aI (pv 0) rfl) rfl)) (aa (aI (aI (pv 0) rfl) rfl) ag))) rfl)) cv)
  (aw (cn (PW.pt (D9 (jl (pv 3)) (DU (qf (jl (pv 2)))))) (aw (bZ (pv 0) (da (Ui rfl) rfl T.uB Wu (aa (bp mw (aI (pv 0) rfl) (aI (aI (pv 0) rfl) rfl)) (aa aB ag))) rfl)) cv))))),?_⟩
 refine⟨_,rfl,_,rfl,x,_,dx,_,_,rfl,ho,T.bH,T.tL,aq2 _ _ _ _ _ _,_,_,rfl,rfl,rfl,?_⟩
 refine⟨_,rfl,_,rfl,x,_,dx,_,_,rfl,ho,T.bH,T.tI,amP _ _ _ _ _ _,_,_,rfl,rfl,rfl,?_⟩
 have eU:(!decide (V.int (Builtin.bitAnd (y:Int) (aY b (.up k):Int))=V.int 0))=b.has y (.up k):=by rw[nI,l5,oP]
 have eD:(!decide (V.int (Builtin.bitAnd (y:Int) (aY b (.down k):Int))=V.int 0))=b.has y (.down k):=by rw[nI,l5,oP]
 have same:p8 b y k sd.swell=sd.swell->Q .aH H:=fun e=>by
  rw[e] at kq
  exact kq H SA Kp.rfl'
 have put:∀ n:Nat,p8 b y k sd.swell=n->Q .aH (upd H x (.ins a.bb dx (bE "swell" (nV n) (dB bA b k lA sd.lock sd.swell)))):=fun n e=>by
  rw[e] at kq
  exact kq _ ⟨⟨dx,ak⟩,by rw[ai g7];exact SA.bits,bw,nA,dA,by rw[ai oC];exact bu⟩ Kp.upd
 cases hU:b.has y (.up k) with
 | true =>
  cases hD:b.has y (.down k) with
  | true =>
   refine⟨_,rfl,_,rfl,?_⟩
   show if (!decide (V.int (Builtin.bitAnd (y:Int) (aY b (.up k):Int))=V.int 0))=true then _ else _
   rw[eU,hU]
   refine aX ⟨_,rfl,_,rfl,?_⟩
   show if (!!decide (V.int (Builtin.bitAnd (y:Int) (aY b (.down k):Int))=V.int 0))=true then _ else _
   rw[eD,hD]
   refine aE ⟨_,rfl,_,rfl,?_⟩
   refine aX ⟨_,rfl,_,rfl,?_⟩
   exact aE (same (by unfold p8;rw[hU,hD];rfl))
  | false =>
   refine⟨_,rfl,_,rfl,?_⟩
   show if (!decide (V.int (Builtin.bitAnd (y:Int) (aY b (.up k):Int))=V.int 0))=true then _ else _
   rw[eU,hU]
   refine aX ⟨_,rfl,_,rfl,?_⟩
   show if (!!decide (V.int (Builtin.bitAnd (y:Int) (aY b (.down k):Int))=V.int 0))=true then _ else _
   rw[eD,hD]
   refine aX ⟨_,rfl,x,_,dx,_,_,rfl,ho,T.bH,T.iM,ud _ _ _ _ _ _,_,rfl,x,_,dx,_,_,rfl,ho,T.bH,T.nz,ur _ _ _ _ _ _,bA,_,bw,_,_,rfl,bu,T.bU,T.tZ,alm _ _ _,_,_,rfl,rfl,_,rfl,x,_,dx,_,_,rfl,ho,T.bH,T.nz,ur _ _ _ _ _ _,bA,_,bw,_,_,rfl,bu,T.bU,T.tY,alk _ _ _,_,_,rfl,_,rfl,x,_,dx,_,rfl,ho,T.bH,T.iM,(by show 9<1000;decide),?_⟩
   refine⟨_,rfl,_,rfl,?_⟩
   refine aE (aE ?_)
   have e:=put (min b.most (sd.swell+b.up)) (by unfold p8;rw[hU,hD];rfl)
   have e2:(if (b.most:Int)<(sd.swell:Int)+(b.up:Int) then (b.most:Int) else (sd.swell:Int)+(b.up:Int))=((min b.most (sd.swell+b.up):Nat):Int):=by split <;> omega
   show Q .aH (upd H x (.ins a.bb dx (bE "swell" (V.int (if (b.most:Int)<(sd.swell:Int)+(b.up:Int) then (b.most:Int) else (sd.swell:Int)+(b.up:Int))) (dB bA b k lA sd.lock sd.swell))))
   rw[e2]
   exact e
 | false =>
  cases hD:b.has y (.down k) with
  | true =>
   refine⟨_,rfl,_,rfl,?_⟩
   show if (!decide (V.int (Builtin.bitAnd (y:Int) (aY b (.up k):Int))=V.int 0))=true then _ else _
   rw[eU,hU]
   refine aE (aE ⟨_,rfl,_,rfl,?_⟩)
   show if (!decide (V.int (Builtin.bitAnd (y:Int) (aY b (.down k):Int))=V.int 0))=true then _ else _
   rw[eD,hD]
   refine aX ⟨_,rfl,_,rfl,?_⟩
   refine aX ⟨_,rfl,x,_,dx,_,_,rfl,ho,T.bH,T.iM,ud _ _ _ _ _ _,_,rfl,x,_,dx,_,_,rfl,ho,T.bH,T.nz,ur _ _ _ _ _ _,bA,_,bw,_,_,rfl,bu,T.bU,T.t4,aln _ _ _,_,_,rfl,rfl,_,_,rfl,_,rfl,x,_,dx,_,rfl,ho,T.bH,T.iM,(by show 9<1000;decide),?_⟩
   have e:=put (sd.swell-b.down) (by unfold p8;rw[hU,hD];rfl)
   have e2:(if (0:Int)>(sd.swell:Int)-(b.down:Int) then (0:Int) else (sd.swell:Int)-(b.down:Int))=((sd.swell-b.down:Nat):Int):=by split <;> omega
   show Q .aH (upd H x (.ins a.bb dx (bE "swell" (V.int (if (0:Int)>(sd.swell:Int)-(b.down:Int) then (0:Int) else (sd.swell:Int)-(b.down:Int))) (dB bA b k lA sd.lock sd.swell))))
   rw[e2]
   exact e
  | false =>
   refine⟨_,rfl,_,rfl,?_⟩
   show if (!decide (V.int (Builtin.bitAnd (y:Int) (aY b (.up k):Int))=V.int 0))=true then _ else _
   rw[eU,hU]
   refine aE (aE ⟨_,rfl,_,rfl,?_⟩)
   show if (!decide (V.int (Builtin.bitAnd (y:Int) (aY b (.down k):Int))=V.int 0))=true then _ else _
   rw[eD,hD]
   exact aE (aE (same (by unfold p8;rw[hU,hD];rfl)))
def aqS (K:W.Frag) (a:aC):Sp:=fun vs H Q _=>∃ (x lA bA:Addr) (b:Rol.Bar) (k:Nat) (s:Rol.Side) (y:Nat),vs=[.ref x,nV y]/\dW a H x lA bA b k s/\∀ H',dW a H' x lA bA b k (s.at_ b y k)->Kp x H H'->Q .aH H'
theorem LU (T:Txt w K mg a):aN P w K mg base bC true 2 a.kT a.wV ["self","sounding"] (aqS K a):=by
 refine T.LJ.ok abc (fun vs H Q E h=>?_) (fun aF A outer s H vs Q E hr h=>?_)
 ·obtain⟨_,_,_,_,_,_,_,rfl,_⟩:=h
  rfl
 obtain⟨x,lA,bA,b,k,sd,y,rfl,SA,kq⟩:=h
 obtain⟨dx,ho⟩:=SA.obj
 obtain⟨bw,nA,dA,bu⟩:=SA.bar
 have oC:=zo ho bu
 refine⟨_,(ao (bY (bf (pv 0) T.bH T.Iq (Zr T) (hr.mono (by decide)) T.JQ .nil aL (aa (pv 1) ag)))
  (aw (bY (bf (pv 0) T.bH T.Iu (Zs T) (hr.mono (by decide)) T.JR .nil aL (aa (pv 1) ag))))),?_⟩
 refine⟨_,rfl,x,dx,_,rfl,ho,rfl,_,rfl,x,lA,bA,b,k,sd,y,rfl,SA,fun H1 S1 a9=>?_⟩
 obtain⟨cj,bG⟩:=S1.obj
 refine⟨_,rfl,x,cj,_,rfl,bG,rfl,_,rfl,x,lA,bA,b,k,_,y,rfl,S1,fun H2 S2 aP=>?_⟩
 exact kq H2 S2 (a9.trans aP)
theorem alp (nA dA:Addr) (b:Rol.Bar):(ff nA dA b).lookup ("base":Str)=some (nV b.base):=rfl
theorem alq (nA dA:Addr) (b:Rol.Bar):(ff nA dA b).lookup ("step":Str)=some (nV b.step):=rfl
theorem ahI (nA dA:Addr) (b:Rol.Bar):(ff nA dA b).lookup ("accent":Str)=some (nV b.accent):=rfl
theorem ajl (nA dA:Addr) (b:Rol.Bar):(ff nA dA b).lookup ("split_key":Str)=some (nV b.split):=rfl
def ahJ (K:W.Frag) (a:aC):Sp:=fun vs H Q _=>∃ (x nA dA dx:Addr) (b:Rol.Bar) (l:Nat),vs=[.ref x,nV l]/\H x=some (.ins a.ba dx (ff nA dA b))/\l<=1000/\Q (nV (b.base+b.step*l)) H
theorem J7 (T:Txt w K mg a):aN P w K mg base bC true 1 a.kC a.wC ["self","lock_value"] (ahJ K a):=by
 refine T.JM.ok Z9 (fun vs H Q E h=>?_) (fun aF A outer s H vs Q E hr h=>?_)
 ·obtain⟨_,_,_,_,_,_,rfl,_⟩:=h
  rfl
 obtain⟨x,nA,dA,dx,b,l,rfl,ho,hl,k⟩:=h
 refine⟨_,(aw (bc (bp fN (aI (pv 0) rfl) (bp Wl (aI (pv 0) rfl) (pv 1))))),?_⟩
 refine⟨_,rfl,x,_,dx,_,_,rfl,ho,T.bU,T.tV,alp _ _ _,_,rfl,x,_,dx,_,_,rfl,ho,T.bU,T.tX,alq _ _ _,_,rfl,_,_,rfl,rfl,.inr ⟨by omega,by omega⟩,_,_,rfl,rfl,?_⟩
 show Q (V.int ((b.base:Int)+(b.step:Int)*(l:Int))) H
 rw[show(b.base:Int)+(b.step:Int)*(l:Int)=((b.base+b.step*l:Nat):Int) by rw[Int.natCast_add,Int.natCast_mul]]
 exact k
def alr (K:W.Frag) (a:aC):Sp:=fun vs H Q _=>∃ (x nA dA dx:Addr) (b:Rol.Bar) (y:Nat),vs=[.ref x,nV y]/\H x=some (.ins a.ba dx (ff nA dA b))/\Q (nV (b.side y)) H
theorem Zt (T:Txt w K mg a):aN P w K mg base bC true 1 a.j4 a.wb ["self","key"] (alr K a):=by
 refine T.Im.ok Zp (fun vs H Q E h=>?_) (fun aF A outer s H vs Q E hr h=>?_)
 ·obtain⟨_,_,_,_,_,_,rfl,_⟩:=h
  rfl
 obtain⟨x,nA,dA,dx,b,y,rfl,ho,k⟩:=h
 refine⟨_,(ao (cn (cg WH (pv 1) (aI (pv 0) rfl) (bS _)) (aw (bc aB)) cv)
  (aw (bc aB))),?_⟩
 refine⟨_,rfl,_,rfl,x,_,dx,_,_,rfl,ho,T.bU,T.tG,ajl _ _ _,_,_,rfl,rfl,_,rfl,?_⟩
 show if decide ((y:Int)<(b.split:Int))=true then _ else _
 unfold Rol.Bar.side at k
 by_cases h:y<b.split
 ·rw[if_pos h] at k
  rw[decide_eq_true (show(y:Int)<(b.split:Int) by omega)]
  exact aX k
 rw[if_neg h] at k
 rw[decide_eq_false (show ¬ (y:Int)<(b.split:Int) by omega)]
 exact aE k
def als (K:W.Frag) (a:aC):Sp:=fun vs H Q _=>∃ (x lA bA:Addr) (b:Rol.Bar) (k:Nat) (s:Rol.Side) (y:Nat),vs=[.ref x,nV y]/\dW a H x lA bA b k s/\s.lock<=1000/\Q (nV (Rol.force b y k s)) H
theorem LW (T:Txt w K mg a):aN P w K mg base bC true 2 a.kU a.wW ["self","sounding"] (als K a):=by
 refine T.LN.ok tF (fun vs H Q E h=>?_) (fun aF A outer s H vs Q E hr h=>?_)
 ·obtain⟨_,_,_,_,_,_,_,rfl,_⟩:=h
  rfl
 obtain⟨x,lA,bA,b,k,sd,y,rfl,SA,hl,kq⟩:=h
 obtain⟨dx,ho⟩:=SA.obj
 obtain⟨bw,nA,dA,bu⟩:=SA.bar
 refine⟨_,(ao (aK (i:=2) tF.nd rfl (Or.inl rfl) (bp fN (bf (aI (pv 0) rfl) T.bU T.AY (J7 T) (hr.mono (by decide)) T.Bt .nil aL (aa (aI (pv 0) rfl) ag)) (bp DW (aI (pv 0) rfl) aB)))
  (ao (cn (cg mz (bp oR (pv 1) (aI (pv 0) rfl)) aB (bS _)) (aw (Wj (i:=2) tF.nd rfl (Or.inl rfl) (aI (aI (pv 0) rfl) rfl) apf)) cv)
  (ao (aK (i:=2) tF.nd rfl (Or.inl rfl) (da (yx rfl) rfl T.nX rV (aa (pv 2) (aa (cC rfl T.rE) ag))))
  (ao (cn (cg mz (bp oR (pv 1) (aI (pv 0) rfl)) aB (bS _)) (aw (Wj (i:=2) tF.nd rfl (Or.inl rfl) (bp DW (pv 2) aB) apg)) cv)
  (aw (bc (pv 2))))))),?_⟩
 refine⟨_,rfl,x,_,dx,_,_,rfl,ho,T.bH,T.nz,ur _ _ _ _ _ _,bA,bw,_,rfl,bu,rfl,_,rfl,x,_,dx,_,_,rfl,ho,T.bH,T.hJ,uj _ _ _ _ _ _,bA,nA,dA,bw,b,sd.lock,rfl,bu,hl,?_⟩
 refine⟨_,rfl,x,_,dx,_,_,rfl,ho,T.bH,T.iM,ud _ _ _ _ _ _,_,_,rfl,rfl,⟨by decide,by decide⟩,_,_,rfl,rfl,?_⟩
 have eA:(!decide (V.int (Builtin.bitAnd (y:Int) (aY b (.accent k):Int))=V.int 0))=b.has y (.accent k):=by rw[nI,l5,oP]
 have eS:(!decide (V.int (Builtin.bitAnd (y:Int) (aY b .soft:Int))=V.int 0))=b.has y .soft:=by rw[nI,l5,oP]
 unfold Rol.force at kq
 dsimp only at kq
 refine⟨_,rfl,_,rfl,x,_,dx,_,_,rfl,ho,T.bH,T.tw,ajk _ _ _ _ _ _,_,_,rfl,rfl,rfl,_,rfl,?_⟩
 show if (!decide (V.int (Builtin.bitAnd (y:Int) (aY b (.accent k):Int))=V.int 0))=true then _ else _
 rw[eA]
 cases hA:b.has y (.accent k) with
 | true =>
  rw[hA,if_pos (show true=true from rfl)] at kq
  refine aX ⟨_,rfl,_,rfl,x,_,dx,_,_,rfl,ho,T.bH,T.nz,ur _ _ _ _ _ _,bA,_,bw,_,_,rfl,bu,T.bU,T.tN,ahI _ _ _,_,_,rfl,rfl,?_⟩
  refine⟨_,rfl,_,_,rfl,?_⟩
  refine⟨_,rfl,_,rfl,x,_,dx,_,_,rfl,ho,T.bH,T.qZ,Vu _ _ _ _ _ _,_,_,rfl,rfl,rfl,_,rfl,?_⟩
  show if (!decide (V.int (Builtin.bitAnd (y:Int) (aY b .soft:Int))=V.int 0))=true then _ else _
  rw[eS]
  cases hS:b.has y .soft with
  | true =>
   rw[hS,if_pos (show true=true from rfl)] at kq
   refine aX ⟨_,rfl,_,rfl,_,_,rfl,rfl,⟨by decide,by decide⟩,_,_,rfl,rfl,_,rfl,?_⟩
   show Q (V.int ((if (127:Int)<((((b.base+b.step*sd.lock:Nat):Int)+(sd.swell:Int) / 8)+(b.accent:Int)) then (127:Int) else ((((b.base+b.step*sd.lock:Nat):Int)+(sd.swell:Int) / 8)+(b.accent:Int)))-(if (127:Int)<((((b.base+b.step*sd.lock:Nat):Int)+(sd.swell:Int) / 8)+(b.accent:Int)) then (127:Int) else ((((b.base+b.step*sd.lock:Nat):Int)+(sd.swell:Int) / 8)+(b.accent:Int))) / 4)) H
   rw[show(if (127:Int)<((((b.base+b.step*sd.lock:Nat):Int)+(sd.swell:Int) / 8)+(b.accent:Int)) then (127:Int) else ((((b.base+b.step*sd.lock:Nat):Int)+(sd.swell:Int) / 8)+(b.accent:Int)))-(if (127:Int)<((((b.base+b.step*sd.lock:Nat):Int)+(sd.swell:Int) / 8)+(b.accent:Int)) then (127:Int) else ((((b.base+b.step*sd.lock:Nat):Int)+(sd.swell:Int) / 8)+(b.accent:Int))) / 4=((min 127 (b.base+b.step*sd.lock+sd.swell / 8+b.accent)-min 127 (b.base+b.step*sd.lock+sd.swell / 8+b.accent) / 4:Nat):Int) by split <;> omega]
   exact kq
  | false =>
   rw[hS,if_neg (show ¬ (false=true) by simp)] at kq
   refine aE ⟨_,rfl,?_⟩
   show Q (V.int (if (127:Int)<((((b.base+b.step*sd.lock:Nat):Int)+(sd.swell:Int) / 8)+(b.accent:Int)) then (127:Int) else ((((b.base+b.step*sd.lock:Nat):Int)+(sd.swell:Int) / 8)+(b.accent:Int)))) H
   rw[show(if (127:Int)<((((b.base+b.step*sd.lock:Nat):Int)+(sd.swell:Int) / 8)+(b.accent:Int)) then (127:Int) else ((((b.base+b.step*sd.lock:Nat):Int)+(sd.swell:Int) / 8)+(b.accent:Int)))=((min 127 (b.base+b.step*sd.lock+sd.swell / 8+b.accent):Nat):Int) by split <;> omega]
   exact kq
 | false =>
  rw[hA,if_neg (show ¬ (false=true) by simp)] at kq
  refine aE ?_
  refine⟨_,rfl,_,_,rfl,?_⟩
  refine⟨_,rfl,_,rfl,x,_,dx,_,_,rfl,ho,T.bH,T.qZ,Vu _ _ _ _ _ _,_,_,rfl,rfl,rfl,_,rfl,?_⟩
  show if (!decide (V.int (Builtin.bitAnd (y:Int) (aY b .soft:Int))=V.int 0))=true then _ else _
  rw[eS]
  cases hS:b.has y .soft with
  | true =>
   rw[hS,if_pos (show true=true from rfl)] at kq
   refine aX ⟨_,rfl,_,rfl,_,_,rfl,rfl,⟨by decide,by decide⟩,_,_,rfl,rfl,_,rfl,?_⟩
   show Q (V.int ((if (127:Int)<(((b.base+b.step*sd.lock:Nat):Int)+(sd.swell:Int) / 8) then (127:Int) else (((b.base+b.step*sd.lock:Nat):Int)+(sd.swell:Int) / 8))-(if (127:Int)<(((b.base+b.step*sd.lock:Nat):Int)+(sd.swell:Int) / 8) then (127:Int) else (((b.base+b.step*sd.lock:Nat):Int)+(sd.swell:Int) / 8)) / 4)) H
   rw[show(if (127:Int)<(((b.base+b.step*sd.lock:Nat):Int)+(sd.swell:Int) / 8) then (127:Int) else (((b.base+b.step*sd.lock:Nat):Int)+(sd.swell:Int) / 8))-(if (127:Int)<(((b.base+b.step*sd.lock:Nat):Int)+(sd.swell:Int) / 8) then (127:Int) else (((b.base+b.step*sd.lock:Nat):Int)+(sd.swell:Int) / 8)) / 4=((min 127 (b.base+b.step*sd.lock+sd.swell / 8+0)-min 127 (b.base+b.step*sd.lock+sd.swell / 8+0) / 4:Nat):Int) by split <;> omega]
   exact kq
  | false =>
   rw[hS,if_neg (show ¬ (false=true) by simp)] at kq
   refine aE ⟨_,rfl,?_⟩
   show Q (V.int (if (127:Int)<(((b.base+b.step*sd.lock:Nat):Int)+(sd.swell:Int) / 8) then (127:Int) else (((b.base+b.step*sd.lock:Nat):Int)+(sd.swell:Int) / 8))) H
   rw[show(if (127:Int)<(((b.base+b.step*sd.lock:Nat):Int)+(sd.swell:Int) / 8) then (127:Int) else (((b.base+b.step*sd.lock:Nat):Int)+(sd.swell:Int) / 8))=((min 127 (b.base+b.step*sd.lock+sd.swell / 8+0):Nat):Int) by split <;> omega]
   exact kq
end
end RF
end
section
namespace L2
open PySem PySem.Spec PyProof.Rows LX
def Xp (N:List Str) (sc scope:Scope) (own:List (Str×Nat)):Bool:=(scope.kind==.function)&&scope.names.all (fun y=>scope.names.lookup y.1==some y.2)&&own.all (fun p=>N[p.2]?==some p.1) &&
 scope.names.all (fun y=>!(y.2==.free)||(sc.names.lookup y.1==some .cell||sc.names.lookup y.1==some .free))&&scope.names.all (fun y=>!(y.2==.local||y.2==.cell)||((own.map (·.1)).contains y.1||!N.contains y.1))
theorem gE {N:List Str}{sc scope:Scope}{own:List (Str×Nat)} (h:Xp N sc scope own=true):uF N sc scope own:=by
 unfold Xp at h
 simp only [Bool.and_eq_true,List.all_eq_true,Bool.or_eq_true,Bool.not_eq_true',beq_iff_eq,beq_eq_false_iff_ne,List.contains_iff_mem] at h
 obtain⟨⟨⟨⟨h1,h2⟩,h3⟩,h4⟩,h5⟩:=h
 refine⟨h1,h2,h3,fun y hy hf=>?_,fun y hy hf=>?_⟩
 ·rcases h4 y hy with q | q
  ·exact absurd hf q
  exact q
 rcases h5 y hy with q | q | q
 ·rw[Bool.or_eq_false_iff,beq_eq_false_iff_ne,beq_eq_false_iff_ne] at q
  rcases hf with hf | hf
  ·exact absurd hf q.1
  exact absurd hf q.2
 ·exact .inl q
 refine .inr fun z=>?_
 have:=List.contains_iff_mem.mpr z
 rw[this] at q
 cases q
end L2
namespace RF
open PySem PySem.Spec PyProof.Rows L2 LX LM
open Rol (Bytes Means)
theorem Kp.of_same {a:Addr}{H H1:Hp} (y:au H H1):Kp a H H1:=fun b o h _=>y b o h
section
variable {P:Program}{w:World}{K:W.Frag}{mg:Str->Option Value}{base:Heap}{a:aC}
theorem ue (nA dA:Addr) (b:Rol.Bar):(ff nA dA b).lookup ("tail":Str)=some (nV b.tail):=rfl
theorem ajm (nA dA:Addr) (b:Rol.Bar):(ff nA dA b).lookup ("width":Str)=some (nV b.wide):=rfl
theorem ag7 (nA dA:Addr) (b:Rol.Bar):(ff nA dA b).lookup ("numbers":Str)=some (.ref nA):=rfl
def ajn (K:W.Frag) (a:aC):Sp:=fun vs H Q _=>∃ (x bA nA dA dx:Addr) (b:Rol.Bar) (k:Nat),vs=[.ref x,.ref bA,nV k]/\H x=some (.ins a.bb dx [])/\fc a.ba H bA nA dA b/\gd b /\
 ∀ (lA:Addr) (H':Hp),dW a H' x lA bA b k ⟨0,0⟩->H lA=none->Kp x H H'->Q .aH H'
theorem QZ (T:Txt w K mg a):aN P w K mg base bC true 2 a.lW a.x8 ["self","bar","number"] (ajn K a):=by
 refine T.QU.ok CB (fun vs H Q E h=>?_) (fun aF A outer s H vs Q E hr h=>?_)
 ·obtain⟨_,_,_,_,_,_,_,rfl,_⟩:=h
  rfl
 obtain⟨x,bA,nA,dA,dx,b,k,rfl,ho,BA,ok,kq⟩:=h
 obtain⟨bw,bu⟩:=BA.obj
 have hbx:bA≠x:=fun z=>by rw[z,ho] at bu;exact absurd (HO.ins.inj (Option.some.inj bu)).2.2 (fun q=>by cases q)
 have hnx:nA≠x:=fun z=>by have:=BA.nums;rw[z,ho] at this;cases this
 have gm:dA≠x:=fun z=>by have:=BA.pG;rw[z,ho] at this;cases this
 have hb:∀ H',Kp x H H'->H' bA=some (.ins a.ba bw (ff nA dA b)):=fun H' kp=>kp _ _ bu hbx
 have bar:∀ H',Kp x H H'->fc a.ba H' bA nA dA b:=fun H' kp=>⟨⟨bw,hb H' kp⟩,kp _ _ BA.nums hnx,kp _ _ BA.pG gm⟩
 refine⟨_,(ao (bZ (pv 0) (pv 1) rfl)
  (ao (bZ (pv 0) (bf (pv 1) T.bU T.kM (mS T) (hr.mono (by decide)) T.kX .nil aL (aa jk (aa (pv 2) (aa aB ag)))) rfl)
  (ao (bZ (pv 0) (iy (own:=[("which",3)]) rfl CB.nd (rJ rfl T.je (aa aB ag)) (gE rfl) (fun _ _ _ _ _=>by exact(bM (i:=3) CB.nd rfl (Or.inl rfl))) (fun _ _ _ _ _=>by exact mq) (fun _ _ _ _ _=>by exact(bf (pv 1) T.bU T.kM (mS T) (hr.mono (by decide)) T.kX .nil aL (aa jk (aa (pv 3) (aa (pv 2) ag)))))) rfl)
  (ao (bZ (pv 0) (bf (pv 1) T.bU T.kM (mS T) (hr.mono (by decide)) T.kX .nil aL (aa jk (aa (pv 2) (aa aB ag)))) rfl)
  (ao (bZ (pv 0) (bf (pv 1) T.bU T.kM (mS T) (hr.mono (by decide)) T.kX .nil aL (aa jk (aa (pv 2) (aa aB ag)))) rfl)
  (ao (bZ (pv 0) (bf (pv 1) T.bU T.kM (mS T) (hr.mono (by decide)) T.kX .nil aL (aa jk (aa (pv 2) (aa aB ag)))) rfl)
  (ao (bZ (pv 0) (bf (pv 1) T.bU T.kM (mS T) (hr.mono (by decide)) T.kX .nil aL (aa jk (aa aB (aa aB ag)))) rfl)
  (ao (bZ (pv 0) aB rfl)
  (aw (bZ (pv 0) aB rfl)))))))))),?_⟩
 refine⟨_,rfl,_,rfl,x,_,dx,_,rfl,ho,T.bH,T.nz,(by show 0<1000;decide),?_⟩
 refine⟨_,rfl,bA,bw,_,rfl,hb _ Kp.upd,rfl,_,rfl,bA,nA,dA,b,.cancel k,rfl,bar _ Kp.upd,ok,fun H4 bh=>?_⟩
 have o4:=bh _ _ ak
 have iJ:Kp x H H4:=Kp.same Kp.upd bh
 clear bh
 refine⟨_,rfl,x,_,dx,_,rfl,o4,T.bH,T.tu,(by show 1<1000;decide),?_⟩
 refine⟨3,rfl,by decide,by decide,fun D hD=>?_⟩
 have o5:∃ fs,fs=bE "cancel_bit" (nV (aY b (.cancel k))) (bE "bar" (.ref bA) [])/\upd H4 x (.ins a.bb dx (bE "cancel_bit" (nV (aY b (.cancel k))) (bE "bar" (.ref bA) []))) x=some (.ins a.bb dx fs):=⟨_,rfl,ak⟩
 have cH:Kp x H (upd H4 x (.ins a.bb dx (bE "cancel_bit" (nV (aY b (.cancel k))) (bE "bar" (.ref bA) [])))):=iJ.trans Kp.upd
 obtain⟨fs,pH,o5⟩:=o5
 have pI:D≠x:=fun z=>by
  have vM:upd H4 x (.ins a.bb dx (bE "cancel_bit" (nV (aY b (.cancel k))) (bE "bar" (.ref bA) []))) D=none:=hD
  rw[z,o5] at vM
  cases vM
 have FP:∀ c o,H c=some o->c≠x->c≠D:=fun c o hc n=>aJ (cH c o hc n) hD
 refine U5 (fun i H'=>Kp x H H'/\H' x=some (.ins a.bb dx fs)/\H' D=some (.lst (((qa b k).take i).map nV))) ⟨fun c o hc n=>?_,?_,ak⟩ ?_ ?_
 ·rw[ai (FP c o hc n)]
  exact cH c o hc n
 ·rw[ai (Ne.symm pI)]
  exact o5
 ·rintro i H' hi ⟨fj,o',hL⟩
  refine⟨rfl,_,rfl,bA,bw,_,rfl,hb _ fj,rfl,_,rfl,_,rfl,bA,nA,dA,b,.lock i k,?_,bar _ fj,ok,fun H6 eF=>⟨_,eF _ _ hL,?_,?_,?_,?_⟩⟩
  ·show[V.ref bA,V.str "lock",V.int (0+(i:Int)),nV k]=_
   rw[Int.zero_add]
   rfl
  ·rw[List.length_map,List.length_take,sizeLine_eq]
   omega
  ·intro c o hc n
   rw[ai (FP c o hc n)]
   exact eF _ _ (fj c o hc n)
  ·rw[ai (Ne.symm pI)]
   exact eF _ _ o'
  rw[ak]
  match i,hi with
  | 0,_=>rfl
  | 1,_=>rfl
  | 2,_=>rfl
 rintro H' ⟨fj,o',hL⟩
 have hL:H' D=some (.lst ((qa b k).map nV)):=hL
 refine⟨_,rfl,x,_,dx,_,rfl,o',T.bH,T.qX,(by rw[pH];show 2<1000;decide),?_⟩
 have vF:∀ o,Kp x H (upd H' x o):=fun o=>fj.trans Kp.upd
 refine⟨_,rfl,bA,bw,_,rfl,hb _ (vF _),rfl,_,rfl,bA,nA,dA,b,.up k,rfl,bar _ (vF _),ok,fun H8 vI=>?_⟩
 have o8:=vI _ _ ak
 have zW:Kp x H H8:=(vF _).same vI
 have hL8:H8 D=some (.lst ((qa b k).map nV)):=vI _ _ (by rw[ai pI];exact hL)
 refine⟨_,rfl,x,_,dx,_,rfl,o8,T.bH,T.tL,(by rw[pH];show 3<1000;decide),?_⟩
 have FQ:∀ o,Kp x H (upd H8 x o):=fun o=>zW.trans Kp.upd
 refine⟨_,rfl,bA,bw,_,rfl,hb _ (FQ _),rfl,_,rfl,bA,nA,dA,b,.down k,rfl,bar _ (FQ _),ok,fun zM EL=>?_⟩
 have o10:=EL _ _ ak
 have as4:Kp x H zM:=(FQ _).same EL
 have as5:zM D=some (.lst ((qa b k).map nV)):=EL _ _ (by rw[ai pI];exact hL8)
 refine⟨_,rfl,x,_,dx,_,rfl,o10,T.bH,T.tI,(by rw[pH];show 4<1000;decide),?_⟩
 have EM:∀ o,Kp x H (upd zM x o):=fun o=>as4.trans Kp.upd
 refine⟨_,rfl,bA,bw,_,rfl,hb _ (EM _),rfl,_,rfl,bA,nA,dA,b,.accent k,rfl,bar _ (EM _),ok,fun FR jy=>?_⟩
 have o12:=jy _ _ ak
 have as6:Kp x H FR:=(EM _).same jy
 have as7:FR D=some (.lst ((qa b k).map nV)):=jy _ _ (by rw[ai pI];exact as5)
 refine⟨_,rfl,x,_,dx,_,rfl,o12,T.bH,T.tw,(by rw[pH];show 5<1000;decide),?_⟩
 have EN:∀ o,Kp x H (upd FR x o):=fun o=>as6.trans Kp.upd
 refine⟨_,rfl,bA,bw,_,rfl,hb _ (EN _),rfl,bA,nA,dA,b,.soft,rfl,bar _ (EN _),ok,fun FT EO=>?_⟩
 have o14:=EO _ _ ak
 have Xq:Kp x H FT:=(EN _).same EO
 have as8:FT D=some (.lst ((qa b k).map nV)):=EO _ _ (by rw[ai pI];exact as7)
 refine⟨_,rfl,x,_,dx,_,rfl,o14,T.bH,T.qZ,(by rw[pH];show 6<1000;decide),?_⟩
 refine⟨_,rfl,x,_,dx,_,rfl,ak,T.bH,T.hJ,(by rw[pH];show 7<1000;decide),?_⟩
 refine⟨_,rfl,x,_,dx,_,rfl,ak,T.bH,T.iM,(by rw[pH];show 8<1000;decide),?_⟩
 have fin:∀ H',Kp x FT H'->(∃ dx,H' x=some (.ins a.bb dx (dB bA b k D 0 0)))->Q .aH H':=fun H' kp o=>kq D _ ⟨o,kp _ _ as8 pI,bw,nA,dA,hb _ (Xq.trans kp)⟩ (by
  cases hz:H D with
  | none=>rfl
  | some o=>exact absurd rfl (FP D o hz pI)) (Xq.trans kp)
 exact fin _ ((Kp.upd.trans Kp.upd).trans Kp.upd) ⟨dx,by rw[ak,pH];rfl⟩
end
end RF
end
section
namespace RF
open PySem PySem.Spec PyProof.Rows L2 LX LM
open Rol (Bytes Means)
section
variable {P:Program}{w:World}{K:W.Frag}{mg:Str->Option Value}{base:Heap}{a:aC}
theorem fc.same {C:Addr}{H H':Hp}{x nA dA:Addr}{b:Rol.Bar} (B:fc C H x nA dA b) (s:au H H'):fc C H' x nA dA b:=by
 obtain⟨dx,ho⟩:=B.obj
 exact⟨⟨dx,s _ _ ho⟩,s _ _ B.nums,s _ _ B.pG⟩
theorem gB.same {C:Addr}{H H':Hp}{x rA:Addr}{X:Rol.Strip} (S:gB C H x rA X) (s:au H H'):gB C H' x rA X:=by
 obtain⟨dx,ho⟩:=S.obj
 exact⟨⟨dx,s _ _ ho⟩,s _ _ S.rows⟩
theorem dW.kp {H H':Hp}{y x lA mA bA cA:Addr}{b c:Rol.Bar}{k j:Nat}{s t:Rol.Side} (S:dW a H x lA bA b k s) (O:dW a H y mA cA c j t) (kp:Kp y H H') (n1:x≠y):dW a H' x lA bA b k s:=by
 obtain⟨dx,ho⟩:=S.obj
 obtain⟨dy,hy⟩:=O.obj
 obtain⟨bw,nA,dA,bu⟩:=S.bar
 exact⟨⟨dx,kp _ _ ho n1⟩,kp _ _ S.bits fun z=>(by have:=S.bits;rw[z,hy] at this;cases this),bw,nA,dA,kp _ _ bu (zo hy bu)⟩
theorem dW.same {H H':Hp}{x lA bA:Addr}{b:Rol.Bar}{k:Nat}{s:Rol.Side} (S:dW a H x lA bA b k s) (kp:au H H'):dW a H' x lA bA b k s:=by
 obtain⟨dx,ho⟩:=S.obj
 obtain⟨bw,nA,dA,bu⟩:=S.bar
 exact⟨⟨dx,kp _ _ ho⟩,kp _ _ S.bits,bw,nA,dA,kp _ _ bu⟩
theorem jg {H:Hp}{x dx:Addr}{C:Addr} (hx:H x=none) (hd:H dx=none):au H (upd (upd H dx (.own x)) x (.ins C dx [])):=fun b o hb=>by
 rw[ai (aJ hb hx),ai (aJ hb hd)]
 exact hb
structure nR (a:aC) (H:Hp) (lA x0 l0 x1 l1 bA:Addr) (b:Rol.Bar) (s:Rol.State):Prop where
 lst:H lA=some (.lst [.ref x0,.ref x1])
 bass:dW a H x0 l0 bA b 0 s.bass
 fS:dW a H x1 l1 bA b 1 s.treble
 ne:x0≠x1
theorem nR.same {H H':Hp}{lA x0 l0 x1 l1 bA:Addr}{b:Rol.Bar}{s:Rol.State} (S:nR a H lA x0 l0 x1 l1 bA b s) (k:au H H'):nR a H' lA x0 l0 x1 l1 bA b s:=⟨k _ _ S.lst,S.bass.same k,S.fS.same k,S.ne⟩
def aq3 (K:W.Frag) (a:aC):Sp:=fun vs H Q _=>∃ (bA nA dA:Addr) (b:Rol.Bar),vs=[.ref bA]/\fc a.ba H bA nA dA b/\gd b /\
 ∀ (lA x0 l0 x1 l1:Addr) (H':Hp),nR a H' lA x0 l0 x1 l1 bA b Rol.State.start->H x0=none->H x1=none->au H H'->Q (.ref lA) H'
theorem PY (T:Txt w K mg a):aN P w K mg base bC true 4 a.nk a.xJ ["bar"] (aq3 K a):=by
 refine T.xA.ok aeO (fun vs H Q E h=>?_) (fun aF A outer s H vs Q E hr h=>?_)
 ·obtain⟨_,_,_,_,rfl,_⟩:=h
  rfl
 obtain⟨bA,nA,dA,b,rfl,BA,dH,kq⟩:=h
 refine⟨_,(aw (bc (cP (aa (oM T.uo (QZ T) (hr.mono (by decide)) rfl T.DR T.C6 .nil aL (aa (pv 0) (aa aB ag))) (aa (oM T.uo (QZ T) (hr.mono (by decide)) rfl T.DR T.C6 .nil aL (aa (pv 0) (aa aB ag))) ag))))),?_⟩
 refine⟨_,rfl,fun x0 dx0 iI Xr _=>⟨x0,bA,nA,dA,dx0,b,0,rfl,ak,BA.same (jg iI Xr),dH,fun l0 H1 S0 mN a9=>⟨rfl,?_⟩⟩⟩
 have aM:au H H1:=au.kp (jg iI Xr) iI a9
 have S0:dW a H1 x0 l0 bA b 0 ⟨0,0⟩:=S0
 refine⟨_,rfl,fun x1 cj qP Xt _=>⟨x1,bA,nA,dA,cj,b,1,rfl,ak,(BA.same aM).same (jg qP Xt),dH,fun l1 H2 S1 qQ aP=>⟨rfl,?_⟩⟩⟩
 have jy:au H1 H2:=au.kp (jg qP Xt) qP aP
 have S1:dW a H2 x1 l1 bA b 1 ⟨0,0⟩:=S1
 obtain⟨dy0,FU⟩:=S0.obj
 refine⟨(by show 2<=sizeLine;decide),fun lA zY=>?_⟩
 have bj:au H2 (upd H2 lA (.lst [.ref x0,.ref x1])):=fun b o hb=>by rw[ai (aJ hb zY)];exact hb
 exact kq lA x0 l0 x1 l1 _ ⟨ak,(S0.same jy).same bj,S1.same bj,aJ FU qP⟩ iI (aM.free qP) ((aM.trans jy).trans bj)
def amQ (K:W.Frag) (a:aC):Sp:=fun vs H Q _=>∃ (bA nA dA sA rA:Addr) (b:Rol.Bar) (X:Rol.Strip) (i:Nat),vs=[.ref bA,.ref sA,nV i]/\fc a.ba H bA nA dA b/\gd b/\gB a.cx H sA rA X/\iq X/\i<=999 /\
 ∀ (lA x0 l0 x1 l1:Addr) (H':Hp),nR a H' lA x0 l0 x1 l1 bA b (Rol.stateAfter b X (i+1))->au H H'->Q (.ref lA) H'
theorem MY (T:Txt w K mg a):aN P w K mg base bC true 5 a.mY a.xf ["bar","strip","last"] (amQ K a):=by
 refine T.wY.ok tJ (fun vs H Q E h=>?_) (fun aF A outer s H vs Q E hr h=>?_)
 ·obtain⟨_,_,_,_,_,_,_,_,rfl,_⟩:=h
  rfl
 obtain⟨bA,nA,dA,sA,rA,b,X,i,rfl,BA,dH,SA,fk,hi,kq⟩:=h
 refine⟨_,(ao (aK (i:=3) tJ.nd rfl (Or.inl rfl) (bQ (PY T) (hr.mono (by decide)) rfl T.Cr T.xA.kp T.CD .nil aL (aa (pv 0) ag)))
  (ao (dS PassesOwn.never rfl (rJ rfl T.je (aa (bp fN (pv 2) aB) ag)) (bM (i:=4) tJ.nd rfl (Or.inl rfl)) (ao (aK (i:=5) tJ.nd rfl (Or.inl rfl) (bf (pv 1) T.i4 T.wq (A2 T) (hr.mono (by decide)) T.wN .nil aL (aa (pv 4) (aa (aI (pv 0) rfl) ag))))
  (aw (dS PassesOwn.never rfl (eG (pv 3)) (bM (i:=6) tJ.nd rfl (Or.inl rfl)) (aw (bY (bf (pv 6) T.bH T.Bu (LU T) (hr.mono (by decide)) T.BP .nil aL (aa (pv 5) ag))))))))
  (aw (bc (pv 3))))),?_⟩
 refine⟨_,rfl,bA,nA,dA,b,rfl,BA,dH,fun lA x0 l0 x1 l1 H0 SS0 iI ER smH=>?_⟩
 refine⟨_,rfl,_,_,rfl,rfl,(i:Int)+1,rfl,by omega,by omega,?_⟩
 rw[show((i:Int)+1).toNat=i+1 by omega]
 refine t9 (fun j σ' H'=>∃ c4 c5 c6:Option V,σ'=[some (.ref bA),some (.ref sA),some (nV i),some (.ref lA),c4,c5,c6]/\au H H'/\nR a H' lA x0 l0 x1 l1 bA b (Rol.stateAfter b X j))
  ⟨none,none,none,rfl,smH,SS0⟩ ?_ ?_
 ·rintro j σ' H' hj ⟨c4,c5,c6,rfl,aV,SS⟩
  obtain⟨gn,g8⟩:=(SA.same aV).obj
  obtain⟨bw,bu⟩:=(BA.same aV).obj
  refine⟨_,rfl,sA,gn,_,rfl,g8,rfl,_,rfl,_,rfl,bA,_,bw,_,_,rfl,bu,T.bU,T.ny,ue _ _ _,sA,rA,X,j,b.tail,?_,SA.same aV,fk,by omega,dH.tl,?_⟩
  ·show[V.ref sA,V.int (0+(j:Int)),nV b.tail]=_
   rw[Int.zero_add]
   rfl
  refine⟨_,rfl,lA,rfl,⟨_,aq.of SS.lst⟩,nJ (xs:=[.ref x0,.ref x1]) (fun t σ' H'=>∃ c6:Option V,σ'=[some (.ref bA),some (.ref sA),some (nV i),some (.ref lA),some (.int (0+(j:Int))),some (nV (X.soundRow b.tail j)),c6]/\au H H' /\
   nR a H' lA x0 l0 x1 l1 bA b ⟨if t=0 then (Rol.stateAfter b X j).bass else (Rol.stateAfter b X (j+1)).bass,if t<=1 then (Rol.stateAfter b X j).treble else (Rol.stateAfter b X (j+1)).treble⟩) ⟨c6,rfl,aV,SS⟩ (fun t σ' H' _ hp=>by obtain⟨_,_,_,hs⟩:=hp;exact aq.of hs.lst) ?_ ?_⟩
  ·rintro t v σ2 H4 hv ⟨c6,rfl,bh,S4⟩
   match t,hv with
   | 0,hv =>
    obtain rfl:V.ref x0=v:=Option.some.inj hv
    obtain⟨dz,hz⟩:=S4.bass.obj
    refine⟨_,rfl,x0,dz,_,rfl,hz,rfl,_,rfl,x0,l0,bA,b,0,_,X.soundRow b.tail j,rfl,S4.bass,fun H5 S5 cH=>?_⟩
    exact⟨_,rfl,au.kp bh iI cH,⟨cH _ _ S4.lst (fun z=>by have:=S4.lst;rw[z,hz] at this;cases this),S5,S4.fS.kp S4.bass cH (Ne.symm S4.ne),S4.ne⟩⟩
   | 1,hv =>
    obtain rfl:V.ref x1=v:=Option.some.inj hv
    obtain⟨dz,hz⟩:=S4.fS.obj
    refine⟨_,rfl,x1,dz,_,rfl,hz,rfl,_,rfl,x1,l1,bA,b,1,_,X.soundRow b.tail j,rfl,S4.fS,fun H5 S5 cH=>?_⟩
    exact⟨_,rfl,au.kp bh ER cH,⟨cH _ _ S4.lst (fun z=>by have:=S4.lst;rw[z,hz] at this;cases this),S4.bass.kp S4.fS cH S4.ne,S5,S4.ne⟩⟩
  rintro σ2 H4 ⟨c6,rfl,bh,S4⟩
  exact⟨_,_,_,rfl,bh,S4⟩
 rintro σ' H' ⟨c4,c5,c6,rfl,aV,SS⟩
 exact⟨_,rfl,kq lA x0 l0 x1 l1 H' SS aV⟩
end
end RF
end
section
namespace RF
open PySem PySem.Spec PyProof.Rows L2 LX LM
open Rol (Bytes Means)
def pJ (cA:Addr) (p:Nat):List (Str×V):=[("calls",.ref cA),("place",nV p)]
theorem yC (cA:Addr) (p:Nat):(pJ cA p).lookup ("calls":Str)=some (.ref cA):=rfl
theorem rM (cA:Addr) (p:Nat):(pJ cA p).lookup ("place":Str)=some (nV p):=rfl
structure bJ (K:W.Frag) (C:Addr) (H:Hp) (f cA:Addr) (ns:List Int) (p:Nat):Prop where
 obj:∃ dx,H f=some (.ins C dx (pJ cA p))
 lst:aq K H cA (ns.map V.int)
section
variable {P:Program}{w:World}{K:W.Frag}{mg:Str->Option Value}{base:Heap}{a:aC}
theorem bJ.move {C:Addr}{H H':Hp}{f cA:Addr}{ns:List Int}{p q:Nat} (F:bJ K C H f cA ns p) (k:Kp f H H') (o:∃ dx,H' f=some (.ins C dx (pJ cA q))):bJ K C H' f cA ns q:=by
 obtain⟨dx,ho⟩:=F.obj
 exact⟨o,rS k F.lst ho⟩
def ajo (K:W.Frag) (a:aC):Sp:=fun vs H Q _=>∃ (f cA dx:Addr) (ns:List Int),vs=[.ref f,.ref cA]/\H f=some (.ins a.aU dx [])/\aq K H cA (ns.map V.int)/\∀ H',bJ K a.aU H' f cA ns 0->Kp f H H'->Q .aH H'
theorem ag8 (T:Txt w K mg a):aN P w K mg base bC true 1 a.lY a.ya ["self","calls"] (ajo K a):=by
 refine T.QX.ok ag5 (fun vs H Q E h=>?_) (fun aF A outer s H vs Q E hr h=>?_)
 ·obtain⟨_,_,_,_,rfl,_⟩:=h
  rfl
 obtain⟨f,cA,dx,ns,rfl,ho,hc,k⟩:=h
 refine⟨_,(ao (bZ (pv 0) (pv 1) rfl)
  (aw (bZ (pv 0) aB rfl))),?_⟩
 refine⟨_,rfl,_,rfl,f,_,dx,[],rfl,ho,T.d8,T.pU,(by show 0<1000;decide),?_⟩
 refine⟨_,rfl,f,_,dx,_,rfl,ak,T.d8,T.lE,(by show 1<1000;decide),?_⟩
 have fin:∀ H',Kp f H H'->(∃ dx,H' f=some (.ins a.aU dx (pJ cA 0)))->Q .aH H':=fun H' kp o=>k _ ⟨o,rS kp hc ho⟩ kp
 exact fin _ (Kp.upd.trans Kp.upd) ⟨dx,ak⟩
def amR (K:W.Frag) (a:aC):Sp:=fun vs H Q _=>∃ (f cA:Addr) (ns:List Int) (p:Nat),vs=[.ref f]/\bJ K a.aU H f cA ns p/\Q (.bl (decide (ns.length<=p))) H
theorem Zu (T:Txt w K mg a):aN P w K mg base bC true 1 a.ka a.wm ["self"] (amR K a):=by
 refine T.IB.ok Zq (fun vs H Q E h=>?_) (fun aF A outer s H vs Q E hr h=>?_)
 ·obtain⟨_,_,_,_,rfl,_⟩:=h
  rfl
 obtain⟨f,cA,ns,p,rfl,F,k⟩:=h
 obtain⟨dx,ho⟩:=F.obj
 refine⟨_,(aw (bc (yO Eg (aI (pv 0) rfl) (da fm rfl T.eu e7 (aa (aI (pv 0) rfl) ag)) (bS _)))),?_⟩
 refine⟨_,rfl,f,_,dx,_,_,rfl,ho,T.d8,T.lE,rM _ _,?_⟩
 refine⟨_,rfl,f,_,dx,_,_,rfl,ho,T.d8,T.pU,yC _ _,cA,_,rfl,.inl F.lst,_,_,rfl,rfl,?_⟩
 show Q (.bl (decide (((ns.map V.int).length:Int)<=(p:Int)))) H
 rw[List.length_map,show decide ((ns.length:Int)<=(p:Int))=decide (ns.length<=p) by rw[Bool.eq_iff_iff,decide_eq_true_eq,decide_eq_true_eq];omega]
 exact k
def aq4 (K:W.Frag) (a:aC):Sp:=fun vs H Q _=>∃ (f cA:Addr) (ns:List Int) (p:Nat) (x:Int),vs=[.ref f]/\bJ K a.aU H f cA ns p/\ns[p]?=some x/\∀ H',bJ K a.aU H' f cA ns (p+1)->Kp f H H'->Q (.int x) H'
theorem CH (T:Txt w K mg a):aN P w K mg base bC true 1 a.lZ a.yb ["self"] (aq4 K a):=by
 refine T.QY.ok QN (fun vs H Q E h=>?_) (fun aF A outer s H vs Q E hr h=>?_)
 ·obtain⟨_,_,_,_,_,rfl,_⟩:=h
  rfl
 obtain⟨f,cA,ns,p,x,rfl,F,hx,k⟩:=h
 obtain⟨dx,ho⟩:=F.obj
 refine⟨_,(ao (aK (i:=1) QN.nd rfl (Or.inl rfl) (bR cw (aI (pv 0) rfl) (aI (pv 0) rfl) (fun _ _=>rfl)))
  (ao (rK (pv 0) aB rT)
  (aw (bc (pv 1))))),?_⟩
 refine⟨_,rfl,f,_,dx,_,_,rfl,ho,T.d8,T.pU,yC _ _,?_⟩
 refine⟨_,rfl,f,_,dx,_,_,rfl,ho,T.d8,T.lE,rM _ _,cA,_,_,.int x,rfl,rfl,F.lst,il (by rw[List.getElem?_map,hx];rfl),?_⟩
 refine⟨_,rfl,f,_,dx,_,_,rfl,ho,T.d8,T.lE,rM _ _,_,_,rfl,rfl,dx,_,ho,(by show 2<1000;decide),?_⟩
 exact⟨_,rfl,k _ (F.move Kp.upd ⟨dx,ak⟩) Kp.upd⟩
theorem amS {ns t:List Int}{p n:Nat} (hf:p+n<=ns.length) (ht:t=(ns.drop p).take n):sh (ns.map V.int) (some ((p:Nat):Int)) (some (((p:Nat):Int)+(n:Int)))=t.map V.int:=by
 unfold sh
 rw[show((p:Nat):Int)+(n:Int)=((p+n:Nat):Int) by omega,HT.VI,HT.VI,List.length_map,Nat.min_eq_left (by omega),Nat.min_eq_left (by omega),ht,show p+n-p=n by omega,List.map_take,List.map_drop]
def ajp (K:W.Frag) (a:aC):Sp:=fun vs H Q _=>∃ (f cA:Addr) (ns:List Int) (p n:Nat) (t:List Int),vs=[.ref f,nV n]/\bJ K a.aU H f cA ns p/\p+n<=ns.length/\t=(ns.drop p).take n /\
 ∀ (rA:Addr) (H':Hp),bJ K a.aU H' f cA ns (p+n)->H' rA=some (.lst (t.map V.int))->H rA=none->Kp f H H'->Q (.ref rA) H'
theorem A3 (T:Txt w K mg a):aN P w K mg base bC true 1 a.kK a.wK ["self","count"] (ajp K a):=by
 refine T.J2.ok JH (fun vs H Q E h=>?_) (fun aF A outer s H vs Q E hr h=>?_)
 ·obtain⟨_,_,_,_,_,_,rfl,_⟩:=h
  rfl
 obtain⟨f,cA,ns,p,n,t,rfl,F1,hf,ht,k⟩:=h
 obtain⟨cj,bG⟩:=F1.obj
 refine⟨_,(ao (aK (i:=2) JH.nd rfl (Or.inl rfl) (ame anH (aI (pv 0) rfl) (VJ (aI (pv 0) rfl)) (VJ (bp fN (aI (pv 0) rfl) (pv 1)))))
  (ao (rK (pv 0) (pv 1) rT)
  (aw (bc (pv 2))))),?_⟩
 refine⟨_,rfl,f,_,cj,_,_,rfl,bG,T.d8,T.pU,yC _ _,?_⟩
 refine⟨_,rfl,f,_,cj,_,_,rfl,bG,T.d8,T.lE,rM _ _,?_⟩
 refine⟨_,rfl,_,rfl,f,_,cj,_,_,rfl,bG,T.d8,T.lE,rM _ _,_,rfl,_,_,rfl,rfl,_,rfl,cA,_,rfl,F1.lst,fun rA iK=>?_⟩
 rw[amS hf ht]
 have Yz:rA≠f:=fun z=>by rw[z,bG] at iK;cases iK
 have eC:upd H rA (.lst (t.map V.int)) f=some (.ins a.aU cj (pJ cA p)):=by rw[ai (Ne.symm Yz)];exact bG
 have bg:au H (upd H rA (.lst (t.map V.int))):=fun b o hb=>by rw[ai (aJ hb iK)];exact hb
 refine⟨_,rfl,f,_,cj,_,_,rfl,eC,T.d8,T.lE,rM _ _,_,rfl,_,_,rfl,rfl,cj,_,eC,(by show 2<1000;decide),?_⟩
 have e:((p:Nat):Int)+(n:Int)=((p+n:Nat):Int):=by omega
 refine⟨_,rfl,?_⟩
 show Q (.ref rA) (upd (upd H rA (.lst (t.map V.int))) f (.ins a.aU cj (bE "place" (.int (((p:Nat):Int)+(n:Int))) (pJ cA p))))
 rw[e]
 have bD:=((Kp.of_same bg).trans (Kp.upd (a:=f) (o:=.ins a.aU cj (bE "place" (.int ((p+n:Nat):Int)) (pJ cA p)))))
 exact k rA _ (F1.move bD ⟨cj,ak⟩) (by rw[ai Yz];exact ak) iK bD
def alu (K:W.Frag) (a:aC):Sp:=fun vs H Q _=>∃ (f cA:Addr) (ns:List Int) (p n:Nat) (t:List Int),vs=[.ref f]/\bJ K a.aU H f cA ns p/\r9 ns p n t /\
 ∀ (rA:Addr) (H':Hp),bJ K a.aU H' f cA ns (p+1+n)->H' rA=some (.lst (t.map V.int))->H rA=none->Kp f H H'->Q (.ref rA) H'
theorem By (T:Txt w K mg a):aN P w K mg base bC true 2 a.kW a.wX ["self"] (alu K a):=by
 refine T.LQ.ok LD (fun vs H Q E h=>?_) (fun aF A outer s H vs Q E hr h=>?_)
 ·obtain⟨_,_,_,_,_,_,rfl,_⟩:=h
  rfl
 obtain⟨f,cA,ns,p,n,t,rfl,F,R,k⟩:=h
 obtain⟨dx,ho⟩:=F.obj
 refine⟨_,(ao (aK (i:=1) LD.nd rfl (Or.inl rfl) (gL (pv 0) T.d8 T.xO (CH T) (hr.mono (by decide)) T.yd .nil aL))
  (aw (bc (bf (pv 0) T.d8 T.wu (A3 T) (hr.mono (by decide)) T.wO .nil aL (aa (pv 1) ag))))),?_⟩
 refine⟨_,rfl,f,dx,_,rfl,ho,rfl,f,cA,ns,p,_,rfl,F,R.len,fun H1 F1 a9=>?_⟩
 have F1:bJ K a.aU H1 f cA ns (p+1):=F1
 obtain⟨cj,bG⟩:=F1.obj
 refine⟨_,rfl,f,cj,_,rfl,bG,rfl,_,rfl,f,cA,ns,p+1,n,t,rfl,F1,R.fits,R.row,fun rA H2 F2 eX dg aP=>?_⟩
 refine k rA _ F2 eX ?_ (a9.trans aP)
 cases hz:H rA with
 | none=>rfl
 | some o =>
  by_cases q:rA=f
  ·rw[q,bG] at dg;cases dg
  rw[a9 _ _ hz q] at dg;cases dg
theorem aW {H:Hp}{x:Addr}{o:HO} (hx:H x=none):au H (L2.upd H x o):=fun b u hb=>by rw[ai (aJ hb hx)];exact hb
def Wz (K:W.Frag):Sp:=fun vs H Q _=>∃ (z:Int) (lA:Addr) (l:List Int),vs=[.int z,.ref lA]/\H lA=some (.lst (l.map V.int))/\l.length<=1000000 /\
 ∀ (r:Addr) (H':Hp),H' r=some (.lst ((if l=[] then [z] else z::(l.length:Int)::l++[0]).map V.int))->H r=none->au H H'->Q (.ref r) H'
theorem gC {cm:Bool} (T:Txt w K mg a):aN P w K mg base bC cm 1 a.nW a.zi ["number","listed"] (Wz K):=by
 refine T.fM.ok aod (fun vs H Q E h=>?_) (fun aF A outer s H vs Q E hr h=>?_)
 ·obtain⟨_,_,_,rfl,_⟩:=h
  rfl
 obtain⟨z,lA,l,rfl,hl,hn,k⟩:=h
 refine⟨_,(ao (cn (cg fw (da fm rfl T.eu e7 (aa (pv 1) ag)) aB (bS _)) (aw (bc (cP (aa (pv 0) ag)))) cv)
  (aw (bc (bp uy (bp uy (cP (aa (pv 0) (aa (da fm rfl T.eu e7 (aa (pv 1) ag)) ag))) (pv 1)) (cP (aa aB ag)))))),?_⟩
 refine⟨_,rfl,lA,_,rfl,.inl (aq.of hl),rfl,_,rfl,?_⟩
 show if decide (V.int ((l.map V.int).length:Int)=V.int 0)=true then _ else _
 by_cases h:l=[]
 ·subst h
  refine aX ⟨_,rfl,(by show 1<=sizeLine;decide),fun r hr=>?_⟩
  exact k r _ ak hr fun b o hb=>by rw[ai (aJ hb hr)];exact hb
 rw[if_neg h] at k
 have mN:l.length≠0:=fun q=>h (List.length_eq_zero_iff.mp q)
 rw[decide_eq_false (show ¬ V.int ((l.map V.int).length:Int)=V.int 0 from fun q=>by injection q with q;rw[List.length_map] at q;omega)]
 refine aE ⟨_,rfl,_,rfl,lA,_,rfl,.inl (aq.of hl),(by show 2<=sizeLine;decide),fun q1 bF=>?_⟩
 have qQ:upd H q1 (.lst [V.int z,V.int ((l.map V.int).length:Int)]) lA=some (.lst (l.map V.int)):=by rw[ai (aJ hl bF)];exact hl
 refine⟨_,rfl,q1,lA,_,_,rfl,rfl,ak,qQ,?_,fun q2 eN=>⟨(by show 1<=sizeLine;decide),fun q3 sZ=>?_⟩⟩
 ·rw[List.length_map,sizeLine_eq]
  show 2+l.length<=16777216
  omega
 have h32:q2≠q3:=fun q=>by rw[<- q,ak] at sZ;cases sZ
 refine⟨q2,q3,_,_,rfl,rfl,by rw[ai h32];exact ak,ak,?_,fun q4 z4=>?_⟩
 ·rw[List.length_append,List.length_map,sizeLine_eq]
  show 2+l.length+1<=16777216
  omega
 refine k q4 _ ?_ ?_ fun b o hb=>?_
 ·rw[ak,List.length_map,List.map_append,List.map_cons,List.map_cons]
  rfl
 ·exact(((aW bF).trans (aW eN)).trans (aW sZ)).free z4
 exact((((aW bF).trans (aW eN)).trans (aW sZ)).trans (aW z4)) b o hb
def ed (C:Addr) (H:Hp) (E:XK):Prop:=∀ (H':Hp),au H H'->E (.ref C) none H'
def aop (K:W.Frag) (a:aC):Sp:=fun vs H Q E=>∃ (tA:Addr) (xs:List V),vs=[.ref tA]/\aq K H tA xs/\if 65536<xs.length then ed a.dE H E else Q .aH H
theorem MZ (T:Txt w K mg a):aN P w K mg base (cu P w) true 1 a.m4 a.xh ["text"] (aop K a):=by
 refine T.wZ.eh abN (fun vs H Q E h=>?_) (fun aF A outer s H vs Q E hr h=>?_)
 ·obtain⟨_,_,rfl,_⟩:=h
  rfl
 obtain⟨tA,xs,rfl,hx,k⟩:=h
 refine⟨_,(aw (cn (cg oY (da fm rfl T.eu e7 (aa (pv 0) ag)) (cC rfl T.xT) (bS _)) (aw (iZ ft rfl rfl T.BR T.Ol T.Oj T.xm)) cv)),?_⟩
 refine⟨_,rfl,tA,_,rfl,.inl hx,_,_,rfl,rfl,_,rfl,?_⟩
 show if decide ((65536:Int)<(xs.length:Int))=true then _ else _
 by_cases h:65536<xs.length
 ·rw[if_pos h] at k
  rw[decide_eq_true (show(65536:Int)<(xs.length:Int) by omega)]
  exact aX (k H fun _ _ h=>h)
 rw[if_neg h] at k
 rw[decide_eq_false (show ¬ (65536:Int)<(xs.length:Int) by omega)]
 exact aE k
end
end RF
end
section
namespace RF
open PySem PySem.Spec PyProof.Rows L2 LX LM
open Rol (Bytes Means)
def g9 (bv:V) (sl:Addr):List (Str×V):=[("bar",bv),("strips",.ref sl)]
theorem mr (bv:V) (sl:Addr):(g9 bv sl).lookup ("bar":Str)=some bv:=rfl
theorem rG (bv:V) (sl:Addr):(g9 bv sl).lookup ("strips":Str)=some (.ref sl):=rfl
theorem alv (wd:Nat) (rA:Addr):(FC wd rA).lookup ("width":Str)=some (nV wd):=rfl
inductive qB (a:aC) (N:Addr->Prop) (H:Hp):Option Rol.Bar->V->Prop
 | no:qB a N H none .aH
 | yes {b:Rol.Bar}{bA nA dA:Addr}:fc a.ba H bA nA dA b->gd b->N bA->N nA->N dA->qB a N H (some b) (.ref bA)
inductive fu (a:aC) (N:Addr->Prop) (H:Hp):List Addr->List Rol.Strip->Prop
 | nil:fu a N H [] []
 | cons {x rA:Addr}{X:Rol.Strip}{xs:List Addr}{Xs:List Rol.Strip}:gB a.cx H x rA X->iq X->N x->N rA->fu a N H xs Xs->fu a N H (x::xs) (X::Xs)
structure ck (a:aC) (N:Addr->Prop) (H:Hp) (x sl:Addr) (d:RolE.Bench):Prop where
 obj:∃ dx bv,H x=some (.ins a.bB dx (g9 bv sl))/\qB a N H d.bar bv
 strips:∃ xs,H sl=some (.lst (xs.map V.ref))/\fu a N H xs d.strips
 pB:d.strips.length<=32
theorem fu.length {a:aC}{N:Addr->Prop}{H:Hp}{xs:List Addr}{Xs:List Rol.Strip} (h:fu a N H xs Xs):xs.length=Xs.length:=by
 induction h with
 | nil=>rfl
 | cons _ _ _ _ _ ih=>rw[List.length_cons,List.length_cons,ih]
theorem fu.get {a:aC}{N:Addr->Prop}{H:Hp}{xs:List Addr}{Xs:List Rol.Strip} (h:fu a N H xs Xs):∀ {i:Nat}{X:Rol.Strip},Xs[i]?=some X->∃ x rA,xs[i]?=some x/\gB a.cx H x rA X/\iq X:=by
 induction h with
 | nil=>intro i X hx;cases hx
 | @cons x rA X xs Xs h1 h2 _ _ _ ih =>
  intro i Y hy
  cases i with
  | zero=>cases hy;exact⟨x,rA,rfl,h1,h2⟩
  | succ i=>exact ih hy
theorem fu.snoc {a:aC}{N:Addr->Prop}{H:Hp}{xs:List Addr}{Xs:List Rol.Strip}{x rA:Addr}{X:Rol.Strip} (h:fu a N H xs Xs) (h1:gB a.cx H x rA X) (h2:iq X) (n1:N x) (n2:N rA):fu a N H (xs++[x]) (Xs++[X]):=by
 induction h with
 | nil=>exact .cons h1 h2 n1 n2 .nil
 | cons g1 g2 g3 g4 _ ih=>exact .cons g1 g2 g3 g4 ih
def Other (o:HO):Prop:=∀ C dx fs,o=.ins C dx fs->fs.lookup ("calls":Str)=none/\fs.lookup ("strips":Str)=none
theorem qB.mono {a:aC}{N:Addr->Prop}{H H':Hp}{b:Option Rol.Bar}{v:V} (h:qB a N H b v) (k:∀ c o,H c=some o->N c->Other o->(∀ ys,o=.lst ys->∃ n r,ys=nV n::r)->H' c=some o):qB a N H' b v:=by
 cases h with
 | no=>exact .no
 | yes B ok m1 m2 m3 =>
  obtain⟨dx,ho⟩:=B.obj
  exact .yes ⟨⟨dx,k _ _ ho m1 (fun _ _ _ e=>by cases e;exact⟨rfl,rfl⟩) (fun _ e=>by cases e)⟩,k _ _ B.nums m2 (fun _ _ _ e=>by cases e) (fun _ e=>by cases e;exact⟨_,_,rfl⟩),k _ _ B.pG m3 (fun _ _ _ e=>by cases e) (fun _ e=>by cases e)⟩ ok m1 m2 m3
theorem fu.mono {a:aC}{N:Addr->Prop}{H H':Hp}{xs:List Addr}{Xs:List Rol.Strip} (h:fu a N H xs Xs) (k:∀ c o,H c=some o->N c->Other o->(∀ ys,o=.lst ys->∀ z zs,ys≠V.ref z::zs)->H' c=some o):fu a N H' xs Xs:=by
 induction h with
 | nil=>exact .nil
 | @cons x rA X xs Xs S ok m1 m2 _ ih =>
  obtain⟨dx,ho⟩:=S.obj
  refine .cons ⟨⟨dx,k _ _ ho m1 (fun _ _ _ e=>by cases e;exact⟨rfl,rfl⟩) (fun _ e=>by cases e)⟩,k _ _ S.rows m2 (fun _ _ _ e=>by cases e) (fun ys e z zs q=>?_)⟩ ok m1 m2 ih
  cases e
  cases hr:X.rows with
  | nil=>rw[hr] at q;cases q
  | cons n l=>rw[hr] at q;cases q
section
variable {P:Program}{w:World}{K:W.Frag}{mg:Str->Option Value}{base:Heap}{a:aC}{N:Addr->Prop}
theorem ck.same {H H':Hp}{x sl:Addr}{d:RolE.Bench} (D:ck a N H x sl d) (s:au H H'):ck a N H' x sl d:=by
 obtain⟨dx,bv,ho,hb⟩:=D.obj
 obtain⟨xs,hs,hS⟩:=D.strips
 exact⟨⟨dx,bv,s _ _ ho,hb.mono fun c o h _ _ _=>s c o h⟩,⟨xs,s _ _ hs,hS.mono fun c o h _ _ _=>s c o h⟩,D.pB⟩
theorem ck.FV {H:Hp}{x sl g:Addr}{o:HO}{d:RolE.Bench} (D:ck a (fun b=>b≠g) H x sl d) (h1:g≠x) (h2:g≠sl):ck a (fun b=>b≠g) (L2.upd H g o) x sl d:=by
 obtain⟨dx,bv,ho,hb⟩:=D.obj
 obtain⟨xs,hs,hS⟩:=D.strips
 exact⟨⟨dx,bv,by rw[ai (Ne.symm h1)];exact ho,hb.mono fun c o h n _ _=>by rw[ai n];exact h⟩,⟨xs,by rw[ai (Ne.symm h2)];exact hs,hS.mono fun c o h n _ _=>by rw[ai n];exact h⟩,D.pB⟩
theorem ck.feed {H H':Hp}{x sl f cA:Addr}{ns:List Int}{p:Nat}{d:RolE.Bench} (D:ck a N H x sl d) (F:bJ K a.aU H f cA ns p) (k:Kp f H H'):ck a N H' x sl d:=by
 obtain⟨gp,eP⟩:=F.obj
 obtain⟨dx,bv,ho,hb⟩:=D.obj
 obtain⟨xs,hs,hS⟩:=D.strips
 have kk:∀ c o,H c=some o->Other o->H' c=some o:=fun c o h br=>k c o h fun z=>by
  rw[z,eP] at h
  exact absurd (br _ _ _ (Option.some.inj h).symm).1 (by rw[yC];intro q;cases q)
 refine⟨⟨dx,bv,k _ _ ho fun z=>?_,hb.mono fun c o h _ h2 _=>kk c o h h2⟩,⟨xs,kk _ _ hs (fun _ _ _ e=>by cases e),hS.mono fun c o h _ h2 _=>kk c o h h2⟩,D.pB⟩
 rw[z,eP] at ho
 have e:=(HO.ins.inj (Option.some.inj ho)).2.2
 have:=congrArg (fun l=>List.lookup ("calls":Str) l) e
 cases this
def ajq (K:W.Frag) (a:aC):Sp:=fun vs H Q _=>∃ (N:Addr->Prop) (x dx:Addr),vs=[.ref x]/\H x=some (.ins a.bB dx [])/\∀ (sl:Addr) (H':Hp),ck a N H' x sl RolE.start->H sl=none->Kp x H H'->Q .aH H'
theorem ag9 (T:Txt w K mg a):aN P w K mg base bC true 1 a.lX a.x9 ["self"] (ajq K a):=by
 refine T.QW.ok ag4 (fun vs H Q E h=>?_) (fun aF A outer s H vs Q E hr h=>?_)
 ·obtain⟨_,_,_,rfl,_⟩:=h
  rfl
 obtain⟨N,x,dx,rfl,ho,k⟩:=h
 refine⟨_,(ao (bZ (pv 0) Wh rfl)
  (aw (bZ (pv 0) (cP ag) rfl))),?_⟩
 refine⟨_,rfl,x,_,dx,[],rfl,ho,T.cI,T.fZ,(by show 0<1000;decide),?_⟩
 refine⟨Nat.zero_le _,fun sl gk=>?_⟩
 have FW:sl≠x:=fun z=>by
  have h2:upd H x (.ins a.bB dx (bE "bar" .aH [])) sl=none:=gk
  rw[z,ak] at h2
  cases h2
 have uS:H sl=none:=by
  have h2:upd H x (.ins a.bB dx (bE "bar" .aH [])) sl=none:=gk
  rw[ai FW] at h2
  exact h2
 refine⟨_,rfl,x,_,dx,_,rfl,(by rw[ai (Ne.symm FW)];exact ak),T.cI,T.m5,(by show 1<1000;decide),?_⟩
 have fin:∀ H',Kp x H H'->(∃ dx,H' x=some (.ins a.bB dx (g9 .aH sl)))->H' sl=some (.lst [])->Q .aH H':=fun H' kp ⟨dx,o⟩ hs=>k sl _ ⟨⟨dx,.aH,o,.no⟩,⟨[],hs,.nil⟩,Nat.zero_le _⟩ uS kp
 refine fin _ (fun b o hb n=>?_) ⟨dx,ak⟩ (by rw[ai FW];exact ak)
 rw[ai n,ai (aJ hb uS),ai n]
 exact hb
def ajr (K:W.Frag) (a:aC):Sp:=fun vs H Q E=>∃ (N:Addr->Prop) (x sl:Addr) (d:RolE.Bench),vs=[.ref x]/\ck a N H x sl d/\match d.bar with
 | none=>ed a.dm H E
 | some _=>Q .aH H
theorem J8 (T:Txt w K mg a):aN P w K mg base (cu P w) true 1 a.kH a.wH ["self"] (ajr K a):=by
 refine T.JV.eh aa1 (fun vs H Q E h=>?_) (fun aF A outer s H vs Q E hr h=>?_)
 ·obtain⟨_,_,_,_,rfl,_⟩:=h
  rfl
 obtain⟨N,x,sl,d,rfl,D,k⟩:=h
 obtain⟨dx,bv,ho,hb⟩:=D.obj
 refine⟨_,(aw (cn (zd (Wi (aI (pv 0) rfl))) (aw (iZ ft rfl rfl T.DH T.Vr T.Vq T.yK)) cv)),?_⟩
 refine⟨_,rfl,x,_,dx,_,_,rfl,ho,T.cI,T.fZ,mr _ _,_,rfl,?_⟩
 cases hd:d.bar with
 | none =>
  rw[hd] at hb k
  cases hb
  exact aX (k H fun _ _ h=>h)
 | some b =>
  rw[hd] at hb k
  cases hb with
  | @yes _ bA nA dA BA dH _ _ _ =>
   show if decide (V.ref bA=V.aH)=true then _ else _
   rw[decide_eq_false (show ¬ V.ref bA=V.aH from fun z=>(nomatch z))]
   exact aE k
def aq5 (K:W.Frag) (a:aC):Sp:=fun vs H Q E=>∃ (N:Addr->Prop) (x sl:Addr) (d:RolE.Bench) (i:Nat),vs=[.ref x,nV i]/\ck a N H x sl d/\match d.bar with
 | none=>ed a.dm H E
 | some b=>match d.strips[i]? with
  | none=>ed a.dJ H E
  | some X=>if X.wide≠b.wide then ed a.dI H E else ∀ sA rA,gB a.cx H sA rA X->iq X->Q (.ref sA) H
theorem AF (T:Txt w K mg a):aN P w K mg base (cu P w) true 2 a.j7 a.wg ["self","number"] (aq5 K a):=by
 refine T.Iv.eh Ik (fun vs H Q E h=>?_) (fun aF A outer s H vs Q E hr h=>?_)
 ·obtain⟨_,_,_,_,_,rfl,_⟩:=h
  rfl
 obtain⟨N,x,sl,d,i,rfl,D,k⟩:=h
 obtain⟨dx,bv,ho,hb⟩:=D.obj
 obtain⟨xs,hs,hS⟩:=D.strips
 refine⟨_,(ao (bY (gL (pv 0) T.cI T.AZ (J8 T) (hr.mono (by decide)) T.Bw .nil bW))
  (ao (cn (cg Eg (pv 1) (da fm rfl T.eu e7 (aa (aI (pv 0) rfl) ag)) (bS _)) (aw (iZ ft rfl rfl T.C7 T.TR T.TQ T.yp)) cv)
  (ao (aK (i:=2) Ik.nd rfl (Or.inl rfl) (bR cw (aI (pv 0) rfl) (pv 1) (fun _ _=>rfl)))
  (ao (cn (cg mz (aI (pv 2) rfl) (aI (aI (pv 0) rfl) rfl) (bS _)) (aw (iZ ft rfl rfl T.Cf T.PX T.PR T.xB)) cv)
  (aw (bc (pv 2))))))),?_⟩
 refine⟨_,rfl,x,dx,_,rfl,ho,rfl,N,x,sl,d,rfl,D,?_⟩
 cases hd:d.bar with
 | none =>
  rw[hd] at k
  exact k
 | some b =>
  rw[hd] at hb k
  dsimp only at k
  cases hb with
  | @yes _ bA nA dA BA dH _ _ _ =>
   obtain⟨bw,bu⟩:=BA.obj
   refine⟨_,rfl,_,rfl,x,_,dx,_,_,rfl,ho,T.cI,T.m5,rG _ _,sl,_,rfl,.inl (aq.of hs),_,_,rfl,rfl,_,rfl,?_⟩
   show if decide (((xs.map V.ref).length:Int)<=(i:Int))=true then _ else _
   rw[List.length_map,hS.length]
   cases hX:d.strips[i]? with
   | none =>
    rw[hX] at k
    have:=List.getElem?_eq_none_iff.mp hX
    rw[decide_eq_true (show(d.strips.length:Int)<=(i:Int) by omega)]
    exact aX (k H fun _ _ h=>h)
   | some X =>
    rw[hX] at k
    dsimp only at k
    have:=(List.getElem?_eq_some_iff.mp hX).1
    rw[decide_eq_false (show ¬ (d.strips.length:Int)<=(i:Int) by omega)]
    obtain⟨sA,rA,vP,SA,fk⟩:=hS.get hX
    obtain⟨gn,g8⟩:=SA.obj
    refine aE ⟨_,rfl,x,_,dx,_,_,rfl,ho,T.cI,T.m5,rG _ _,_,rfl,sl,_,_,.ref sA,rfl,rfl,aq.of hs,il (by rw[List.getElem?_map,vP];rfl),?_⟩
    refine⟨_,rfl,sA,_,gn,_,_,rfl,g8,T.i4,T.tM,alv _ _,_,rfl,x,_,dx,_,_,rfl,ho,T.cI,T.fZ,mr _ _,bA,_,bw,_,_,rfl,bu,T.bU,T.tQ,ajm _ _ _,rfl,_,rfl,?_⟩
    show if (!decide (nV X.wide=nV b.wide))=true then _ else _
    by_cases hw:X.wide=b.wide
    ·rw[if_neg (fun z=>z hw)] at k
     rw[hw,decide_eq_true rfl]
     exact aE ⟨_,rfl,k sA rA SA fk⟩
    rw[if_pos hw] at k
    rw[decide_eq_false (show ¬ nV X.wide=nV b.wide from fun z=>hw (by unfold nV at z;injection z with z;omega))]
    exact aX (k H fun _ _ h=>h)
end
end RF
end
section
namespace RF
open PySem PySem.Spec PyProof.Rows L2 LX LM
open Rol (Bytes Means)
def n9 (z:Int) (l:List Int):List Int:=if l=[] then [z] else z::(l.length:Int)::l++[0]
def gT (l:List Nat):List Int:=l.map fun (n:Nat)=>(n:Int)
theorem yM (l:List Nat):(gT l).map V.int=l.map nV:=by
 unfold gT
 rw[List.map_map]
 rfl
section
variable {P:Program}{w:World}{K:W.Frag}{mg:Str->Option Value}{base:Heap}{a:aC}{N:Addr->Prop}
def amT (K:W.Frag) (a:aC):Sp:=fun vs H Q E=>∃ (N:Addr->Prop) (x sl tA:Addr) (d:RolE.Bench) (B:Bytes),vs=[.ref x,.ref tA]/\ck a N H x sl d/\(∀ b,H b=none->N b)/\aq K H tA (B.map bV)/\if 65536<B.length then ed a.dE H E else match Rol.readBar B with
 | .error k=>dF a H E k
 | .ok b=>∀ (r:Addr) (H':Hp),ck a N H' x sl {d with bar:=some b}->H' r=some (.lst ((n9 0 (gT (se b++[b.tracks.length]))).map V.int))->H r=none->Kp x H H'->Q (.ref r) H'
theorem abS (T:Txt w K mg a):aN P w K mg base (cu P w) true 8 a.ll a.xl ["self","text"] (amT K a):=by
 refine T.MT.eh abQ (fun vs H Q E h=>?_) (fun aF A outer s H vs Q E hr h=>?_)
 ·obtain⟨_,_,_,_,_,_,rfl,_⟩:=h
  rfl
 obtain⟨N,x,sl,tA,d,B,rfl,D,hN,ht,k⟩:=h
 obtain⟨dx,bv,ho,hb⟩:=D.obj
 obtain⟨xs,hs,hS⟩:=D.strips
 refine⟨_,(ao (bY (bQ (MZ T) (hr.mono (by decide)) rfl T.BN T.wZ.kp T.Cc .nil bW (aa (pv 1) ag)))
  (ao (bZ (pv 0) (bQ (ahH T) (hr.mono (by decide)) rfl T.R3 T.C2.kp T.TF .nil bW (aa (pv 1) ag)) rfl)
  (aw (bc (bQ (gC (cm:=false) T) (hr.mono (by decide)) rfl T.f9 T.fM.kp T.gc .nil aL (aa aB (aa (bp uy (aI (aI (pv 0) rfl) rfl) (cP (aa (da al0 rfl T.eu e7 (aa (aI (aI (pv 0) rfl) rfl) ag)) ag))) ag))))))),?_⟩
 refine⟨_,rfl,tA,_,rfl,ht,?_⟩
 rw[List.length_map]
 by_cases h1:65536<B.length
 ·rw[if_pos h1] at k ⊢
  exact k
 rw[if_neg h1] at k ⊢
 refine⟨_,rfl,tA,B,rfl,ht,by omega,?_⟩
 cases hR:Rol.readBar B with
 | error e =>
  rw[hR] at k
  exact k
 | ok b =>
  rw[hR] at k
  dsimp only at k
  intro bA nA dA H1 BA dH vO g6 pF aM
  have bG:=aM _ _ ho
  refine⟨_,rfl,x,_,dx,_,rfl,bG,T.cI,T.fZ,(by show 2<1000;decide),?_⟩
  have o2:upd H1 x (.ins a.bB dx (g9 (.ref bA) sl)) x=some (.ins a.bB dx (g9 (.ref bA) sl)):=ak
  have oC:bA≠x:=fun z=>by rw[z,ho] at vO;cases vO
  have nnx:nA≠x:=fun z=>by rw[z,ho] at g6;cases g6
  have ndx:dA≠x:=fun z=>by rw[z,ho] at pF;cases pF
  obtain⟨bw,bu⟩:=BA.obj
  have aP:Kp x H1 (upd H1 x (.ins a.bB dx (g9 (.ref bA) sl))):=Kp.upd
  have vQ:fc a.ba (upd H1 x (.ins a.bB dx (g9 (.ref bA) sl))) bA nA dA b:=⟨⟨bw,aP _ _ bu oC⟩,aP _ _ BA.nums nnx,aP _ _ BA.pG ndx⟩
  have FX:sl≠x:=fun z=>by rw[z,ho] at hs;cases hs
  have D2:ck a N (upd H1 x (.ins a.bB dx (g9 (.ref bA) sl))) x sl {d with bar:=some b}:=by
   refine⟨⟨dx,.ref bA,o2,.yes vQ dH (hN _ vO) (hN _ g6) (hN _ pF)⟩,⟨xs,aP _ _ (aM _ _ hs) FX,?_⟩,D.pB⟩
   refine(hS.mono fun c o h _ _ _=>aM c o h).mono fun c o h _ h2 _=>aP c o h fun z=>?_
   rw[z,bG] at h
   exact absurd (h2 _ _ _ (Option.some.inj h).symm).2 (by rw[rG];intro q;cases q)
  show _
  generalize hH2:upd H1 x (.ins a.bB dx (g9 (.ref bA) sl))=H2 at o2 aP vQ D2
  have hg:bE "bar" (.ref bA) (g9 bv sl)=g9 (.ref bA) sl:=rfl
  rw[hg,hH2]
  obtain⟨Xu,Xv⟩:=vQ.obj
  refine⟨_,rfl,x,_,dx,_,_,rfl,o2,T.cI,T.fZ,mr _ _,bA,_,Xu,_,_,rfl,Xv,T.bU,T.tK,ag7 _ _ _,?_⟩
  refine⟨_,rfl,x,_,dx,_,_,rfl,o2,T.cI,T.fZ,mr _ _,bA,_,Xu,_,_,rfl,Xv,T.bU,T.rm,Sh _ _ _,dA,_,rfl,vQ.pG,(by show 1<=sizeLine;decide),fun q1 bF=>?_⟩
  refine⟨nA,q1,_,_,rfl,rfl,(aW bF) _ _ vQ.nums,ak,(by show 10<=sizeLine;decide),fun q2 eN=>?_⟩
  refine⟨0,q2,gT (se b++[b.tracks.length]),rfl,?_,(by show 10<=1000000;decide),fun r H5 hr dg cU=>?_⟩
  ·rw[ak,yM,List.map_append,V9]
   rfl
  have uT:au H2 H5:=((aW bF).trans (aW eN)).trans cU
  have eX:H2 r=none:=((aW bF).trans (aW eN)).free dg
  refine k r H5 (D2.same uT) hr ?_ ((Kp.of_same aM).trans (aP.same uT))
  cases hz:H r with
  | none=>rfl
  | some o =>
   exfalso
   by_cases q:r=x
   ·rw[q,o2] at eX;cases eX
   rw[aP r o (aM _ _ hz) q] at eX;cases eX
def ajs (K:W.Frag) (a:aC):Sp:=fun vs H Q E=>∃ (N:Addr->Prop) (x sl tA:Addr) (d:RolE.Bench) (B:Bytes),vs=[.ref x,.ref tA]/\ck a N H x sl d/\(∀ b,H b=none->N b)/\aq K H tA (B.map bV)/\if 65536<B.length then ed a.dE H E else match Rol.readText B with
 | .error k=>dF a H E k
 | .ok y=>if 32<=d.strips.length then ed a.dR H E else
  ∀ (r:Addr) (H':Hp),ck a N H' x sl {d with strips:=d.strips++[y.1]}->H' r=some (.lst ((n9 (d.strips.length:Int) []).map V.int))->H r=none->Kp sl H H'->Q (.ref r) H'
theorem aa4 (T:Txt w K mg a):aN P w K mg base (cu P w) true 7 a.kG a.wG ["self","text"] (ajs K a):=by
 refine T.JT.eh JG (fun vs H Q E h=>?_) (fun aF A outer s H vs Q E hr h=>?_)
 ·obtain⟨_,_,_,_,_,_,rfl,_⟩:=h
  rfl
 obtain⟨N,x,sl,tA,d,B,rfl,D,hN,ht,k⟩:=h
 obtain⟨dx,bv,ho,hb⟩:=D.obj
 obtain⟨xs,hs,hS⟩:=D.strips
 have Xa:=D.pB
 refine⟨_,(ao (bY (bQ (MZ T) (hr.mono (by decide)) rfl T.BN T.wZ.kp T.Cc .nil bW (aa (pv 1) ag)))
  (ao (aK (i:=2) JG.nd rfl (Or.inl rfl) (bQ (aeS T) (hr.mono (by decide)) rfl T.PJ T.Cs.kp T.QP .nil bW (aa (pv 1) ag)))
  (ao (cn (cg fw (da fm rfl T.eu e7 (aa (aI (pv 0) rfl) ag)) (cC rfl T.xE) (bS _)) (aw (iZ ft rfl rfl T.CG T.Se T.Sd T.ye)) cv)
  (ao (bY (gP PySem.F.plainAttrs_list PySem.F.slot_list_append PySem.F.type_list_append mi (aI (pv 0) rfl) (aa (pv 2) ag)))
  (aw (bc (bQ (gC (cm:=false) T) (hr.mono (by decide)) rfl T.f9 T.fM.kp T.gc .nil aL (aa (bp mw (da fm rfl T.eu e7 (aa (aI (pv 0) rfl) ag)) aB) (aa (cP ag) ag))))))))),?_⟩
 refine⟨_,rfl,tA,_,rfl,ht,?_⟩
 rw[List.length_map]
 by_cases h1:65536<B.length
 ·rw[if_pos h1] at k ⊢
  exact k
 rw[if_neg h1] at k ⊢
 refine⟨_,rfl,tA,B,rfl,ht,by omega,?_⟩
 cases hR:Rol.readText B with
 | error e =>
  rw[hR] at k
  exact k
 | ok y =>
  rw[hR] at k
  dsimp only at k
  intro sA rA H1 SA vP iK aM
  have fk:iq y.1:=iq.of (n:=y.2) hR
  have bG:=aM _ _ ho
  have qR:=aM _ _ hs
  refine⟨_,rfl,x,_,dx,_,_,rfl,bG,T.cI,T.m5,rG _ _,sl,_,rfl,.inl (aq.of qR),rfl,_,rfl,?_⟩
  show if decide (V.int ((xs.map V.ref).length:Int)=V.int 32)=true then _ else _
  rw[List.length_map,hS.length]
  by_cases h2:32<=d.strips.length
  ·rw[if_pos h2] at k
   rw[decide_eq_true (show V.int (d.strips.length:Int)=V.int 32 by rw[show d.strips.length=32 by omega];rfl)]
   exact aX (k H1 aM)
  rw[if_neg h2] at k
  rw[decide_eq_false (show ¬ V.int (d.strips.length:Int)=V.int 32 from fun z=>by injection z with z;omega)]
  refine aE ⟨_,rfl,x,_,dx,_,_,rfl,bG,T.cI,T.m5,rG _ _,.inl ⟨rfl,_,aq.of qR⟩,_,rfl,sl,_,_,rfl,rfl,qR,?_,?_⟩
  ·rw[List.length_map,hS.length,sizeLine_eq]
   omega
  have FX:sl≠x:=fun z=>by rw[z,ho] at hs;cases hs
  have aP:Kp sl H1 (upd H1 sl (.lst (xs.map V.ref++[V.ref sA]))):=Kp.upd
  have eC:=aP _ _ bG (Ne.symm FX)
  have iE:upd H1 sl (.lst (xs.map V.ref++[V.ref sA])) sl=some (.lst ((xs++[sA]).map V.ref)):=by rw[ak,List.map_append];rfl
  have D2:ck a N (upd H1 sl (.lst (xs.map V.ref++[V.ref sA]))) x sl {d with strips:=d.strips++[y.1]}:=by
   refine⟨⟨dx,bv,eC,(hb.mono fun c o h _ _ _=>aM c o h).mono fun c o h _ _ h3=>aP c o h fun z=>?_⟩,⟨xs++[sA],iE,?_⟩,by show(d.strips++[y.1]).length<=32;rw[List.length_append];show d.strips.length+1<=32;omega⟩
   ·rw[z,qR] at h
    obtain⟨n,r,e⟩:=h3 _ (Option.some.inj h).symm
    cases xs with
    | nil=>cases e
    | cons u v=>cases e
   obtain⟨gn,g8⟩:=SA.obj
   have n1:sA≠sl:=fun z=>by rw[z,hs] at vP;cases vP
   have n2:rA≠sl:=fun z=>by rw[z,hs] at iK;cases iK
   refine fu.snoc ?_ ⟨⟨gn,aP _ _ g8 n1⟩,aP _ _ SA.rows n2⟩ fk (hN _ vP) (hN _ iK)
   have z5:fu a N H1 xs d.strips:=hS.mono fun c o h _ _ _=>aM c o h
   cases z6:xs with
   | nil =>
    rw[z6] at z5
    have hl:=z5.length
    cases hd:d.strips with
    | nil=>exact .nil
    | cons u v=>rw[hd] at hl;cases hl
   | cons u v =>
    rw[z6] at z5
    refine z5.mono fun c o h _ _ h3=>?_
    have h4:=aP c o h fun z=>by
     rw[z,qR,z6] at h
     exact h3 _ (Option.some.inj h).symm u (v.map V.ref) rfl
    rw[z6] at h4
    exact h4
  refine⟨_,rfl,x,_,dx,_,_,rfl,eC,T.cI,T.m5,rG _ _,sl,_,rfl,.inl (aq.of iE),_,_,rfl,rfl,Nat.zero_le _,fun q1 bF=>?_⟩
  refine⟨(d.strips.length:Int),q1,[],?_,ak,Nat.zero_le _,fun r H5 hr dg cU=>?_⟩
  ·show[V.int (((xs++[sA]).map V.ref).length-1:Int),V.ref q1]=_
   rw[List.length_map,List.length_append,hS.length]
   rw[show((d.strips.length+[sA].length:Nat):Int)-1=(d.strips.length:Int) by show((d.strips.length+1:Nat):Int)-1=_;omega]
  have uT:=(aW bF).trans cU
  have eX:=(aW bF).free dg
  refine k r H5 (D2.same uT) hr ?_ ((Kp.of_same aM).trans (aP.same uT))
  cases hz:H r with
  | none=>rfl
  | some o =>
   exfalso
   by_cases q:r=sl
   ·rw[q,iE] at eX;cases eX
   rw[aP r o (aM _ _ hz) q] at eX;cases eX
end
end RF
end
section
namespace RF
open PySem PySem.Spec PyProof.Rows L2 LX LM
open Rol (Bytes Means)
section
variable {P:Program}{w:World}{K:W.Frag}{mg:Str->Option Value}{base:Heap}{a:aC}{N:Addr->Prop}
def nO (a:aC) (H:Hp) (E:XK) (d:RolE.Bench) (s:Nat) (f:Rol.Bar->Rol.Strip->Prop):Prop:=match d.bar with
 | none=>ed a.dm H E
 | some b=>match d.strips[s]? with
  | none=>ed a.dJ H E
  | some X=>if X.wide≠b.wide then ed a.dI H E else f b X
def ajt (K:W.Frag) (a:aC):Sp:=fun vs H Q E=>∃ (N:Addr->Prop) (x sl:Addr) (d:RolE.Bench) (b:Rol.Bar) (sA rA:Addr) (X:Rol.Strip) (i:Nat),vs=[.ref x,.ref sA,nV i]/\ck a N H x sl d/\d.bar=some b/\gB a.cx H sA rA X /\
 if X.rows.length+b.tail<i then ed a.cV H E else Q .aH H
theorem J9 (T:Txt w K mg a):aN P w K mg base (cu P w) true 1 a.kI a.wI ["self","strip","row"] (ajt K a):=by
 refine T.JW.eh aa2 (fun vs H Q E h=>?_) (fun aF A outer s H vs Q E hr h=>?_)
 ·obtain⟨_,_,_,_,_,_,_,_,_,rfl,_⟩:=h
  rfl
 obtain⟨N,x,sl,d,b,sA,rA,X,i,rfl,D,hd,SA,k⟩:=h
 obtain⟨dx,bv,ho,hb⟩:=D.obj
 rw[hd] at hb
 refine⟨_,(aw (cn (cg oY (pv 2) (bp fN (da fm rfl T.eu e7 (aa (aI (pv 1) rfl) ag)) (aI (aI (pv 0) rfl) rfl)) (bS _)) (aw (iZ ft rfl rfl T.rk T.tP T.tO T.pV)) cv)),?_⟩
 cases hb with
 | @yes _ bA nA dA BA dH _ _ _ =>
  obtain⟨bw,bu⟩:=BA.obj
  obtain⟨gn,g8⟩:=SA.obj
  refine⟨_,rfl,_,rfl,sA,_,gn,_,_,rfl,g8,T.i4,T.oI,yL _ _,rA,_,rfl,.inl (aq.of SA.rows),?_⟩
  refine⟨_,rfl,x,_,dx,_,_,rfl,ho,T.cI,T.fZ,mr _ _,bA,_,bw,_,_,rfl,bu,T.bU,T.ny,ue _ _ _,_,_,rfl,rfl,_,_,rfl,rfl,_,rfl,?_⟩
  show if decide (((X.rows.map nV).length:Int)+(b.tail:Int)<(i:Int))=true then _ else _
  rw[List.length_map]
  by_cases h1:X.rows.length+b.tail<i
  ·rw[if_pos h1] at k
   rw[decide_eq_true (show(X.rows.length:Int)+(b.tail:Int)<(i:Int) by omega)]
   exact aX (k H fun _ _ h=>h)
  rw[if_neg h1] at k
  rw[decide_eq_false (show ¬ (X.rows.length:Int)+(b.tail:Int)<(i:Int) by omega)]
  exact aE k
def D5 (b:Rol.Bar) (X:Rol.Strip) (i:Nat):List Nat:=[(Rol.stateAfter b X (i+1)).bass.lock,(Rol.stateAfter b X (i+1)).treble.lock,(Rol.stateAfter b X (i+1)).bass.swell,(Rol.stateAfter b X (i+1)).treble.swell]
def aoq (K:W.Frag) (a:aC):Sp:=fun vs H Q E=>∃ (N:Addr->Prop) (x sl:Addr) (d:RolE.Bench) (s i:Nat),vs=[.ref x,nV s,nV i]/\ck a N H x sl d/\nO a H E d s fun b X=>if X.rows.length+b.tail<i then ed a.cV H E else
 ∀ (r:Addr) (H':Hp),H' r=some (.lst ((n9 0 (gT (D5 b X i))).map V.int))->H r=none->au H H'->Q (.ref r) H'
theorem Zv (T:Txt w K mg a):aN P w K mg base (cu P w) true 6 a.j8 a.wj ["self","number","row"] (aoq K a):=by
 refine T.Iw.eh pQ (fun vs H Q E h=>?_) (fun aF A outer s H vs Q E hr h=>?_)
 ·obtain⟨_,_,_,_,_,_,rfl,_⟩:=h
  rfl
 obtain⟨N,x,sl,d,s,i,rfl,D,k⟩:=h
 obtain⟨dx,bv,ho,hb⟩:=D.obj
 unfold nO at k
 refine⟨_,(ao (aK (i:=3) pQ.nd rfl (Or.inl rfl) (bf (pv 0) T.cI T.v8 (AF T) (hr.mono (by decide)) T.wt .nil bW (aa (pv 1) ag)))
  (ao (bY (bf (pv 0) T.cI T.A0 (J9 T) (hr.mono (by decide)) T.Bx .nil bW (aa (pv 3) (aa (pv 2) ag))))
  (ao (aK (i:=4) pQ.nd rfl (Or.inl rfl) (bQ (MY T) (hr.mono (by decide)) rfl T.BL T.wY.kp T.Ca .nil aL (aa (aI (pv 0) rfl) (aa (pv 3) (aa (pv 2) ag)))))
  (aw (bc (bQ (gC (cm:=false) T) (hr.mono (by decide)) rfl T.f9 T.fM.kp T.gc .nil aL (aa aB (aa (bp uy (iy (own:=[("side",5)]) rfl pQ.nd (eG (pv 4)) (gE rfl) (fun _ _ _ _ _=>by exact(bM (i:=5) pQ.nd rfl (Or.inl rfl))) (fun _ _ _ _ _=>by exact mq) (fun _ _ _ _ _=>by exact(yU (pv 5) rfl))) (iy (own:=[("side",5)]) rfl pQ.nd (eG (pv 4)) (gE rfl) (fun _ _ _ _ _=>by exact(bM (i:=5) pQ.nd rfl (Or.inl rfl))) (fun _ _ _ _ _=>by exact mq) (fun _ _ _ _ _=>by exact(yU (pv 5) rfl)))) ag)))))))),?_⟩
 refine⟨_,rfl,x,dx,_,rfl,ho,rfl,_,rfl,N,x,sl,d,s,rfl,D,?_⟩
 cases hd:d.bar with
 | none=>rw[hd] at k;exact k
 | some b =>
  rw[hd] at k hb
  dsimp only at k ⊢
  cases hX:d.strips[s]? with
  | none=>rw[hX] at k;exact k
  | some X =>
   rw[hX] at k
   dsimp only at k ⊢
   by_cases hw:X.wide≠b.wide
   ·rw[if_pos hw] at k ⊢;exact k
   rw[if_neg hw] at k ⊢
   intro sA rA SA fk
   cases hb with
   | @yes _ bA nA dA BA dH _ _ _ =>
    obtain⟨bw,bu⟩:=BA.obj
    obtain⟨gn,g8⟩:=SA.obj
    refine⟨_,rfl,x,dx,_,rfl,ho,rfl,_,rfl,_,rfl,N,x,sl,d,b,sA,rA,X,i,rfl,D,hd,SA,?_⟩
    by_cases h1:X.rows.length+b.tail<i
    ·rw[if_pos h1] at k ⊢
     exact k
    rw[if_neg h1] at k ⊢
    have hl:=fk.ln
    have htl:=dH.tl
    refine⟨_,rfl,x,_,dx,_,_,rfl,ho,T.cI,T.fZ,mr _ _,_,rfl,_,rfl,bA,nA,dA,sA,rA,b,X,i,rfl,BA,dH,SA,fk,by omega,fun lA x0 l0 x1 l1 H1 SS aM=>?_⟩
    refine⟨_,rfl,lA,rfl,⟨_,aq.of SS.lst⟩,fun D1 qS=>?_⟩
    refine jh (xs:=[.ref x0,.ref x1]) (fun t H'=>au H1 H'/\H' D1=some (.lst (([(Rol.stateAfter b X (i+1)).bass.lock,(Rol.stateAfter b X (i+1)).treble.lock].take t).map nV))) ⟨aW qS,ak⟩ (fun t H' _ hp=>aq.of (hp.1 _ _ SS.lst)) ?_ ?_
    ·rintro t v H' hv ⟨aV,hL⟩
     match t,hv with
     | 0,hv =>
      obtain rfl:V.ref x0=v:=Option.some.inj hv
      obtain⟨dz,hz⟩:=(SS.bass.same aV).obj
      refine⟨rfl,_,rfl,x0,_,dz,_,_,rfl,hz,T.bH,T.hJ,uj _ _ _ _ _ _,_,hL,(by show 0<sizeLine;decide),fun c o hc=>?_,ak⟩
      rw[ai (aJ hc qS)]
      exact aV c o hc
     | 1,hv =>
      obtain rfl:V.ref x1=v:=Option.some.inj hv
      obtain⟨dz,hz⟩:=(SS.fS.same aV).obj
      refine⟨rfl,_,rfl,x1,_,dz,_,_,rfl,hz,T.bH,T.hJ,uj _ _ _ _ _ _,_,hL,(by show 1<sizeLine;decide),fun c o hc=>?_,ak⟩
      rw[ai (aJ hc qS)]
      exact aV c o hc
    rintro H2 ⟨bg,hL1⟩
    refine⟨_,rfl,lA,rfl,⟨_,aq.of (bg _ _ SS.lst)⟩,fun D2 gI=>?_⟩
    refine jh (xs:=[.ref x0,.ref x1]) (fun t H'=>au H2 H'/\H' D2=some (.lst (([(Rol.stateAfter b X (i+1)).bass.swell,(Rol.stateAfter b X (i+1)).treble.swell].take t).map nV))) ⟨aW gI,ak⟩ (fun t H' _ hp=>aq.of (hp.1 _ _ (bg _ _ SS.lst))) ?_ ?_
    ·rintro t v H' hv ⟨aV,hL⟩
     match t,hv with
     | 0,hv =>
      obtain rfl:V.ref x0=v:=Option.some.inj hv
      obtain⟨dz,hz⟩:=((SS.bass.same bg).same aV).obj
      refine⟨rfl,_,rfl,x0,_,dz,_,_,rfl,hz,T.bH,T.iM,ud _ _ _ _ _ _,_,hL,(by show 0<sizeLine;decide),fun c o hc=>?_,ak⟩
      rw[ai (aJ hc gI)]
      exact aV c o hc
     | 1,hv =>
      obtain rfl:V.ref x1=v:=Option.some.inj hv
      obtain⟨dz,hz⟩:=((SS.fS.same bg).same aV).obj
      refine⟨rfl,_,rfl,x1,_,dz,_,_,rfl,hz,T.bH,T.iM,ud _ _ _ _ _ _,_,hL,(by show 1<sizeLine;decide),fun c o hc=>?_,ak⟩
      rw[ai (aJ hc gI)]
      exact aV c o hc
    rintro H3 ⟨bj,vG⟩
    refine⟨D1,D2,_,_,rfl,rfl,bj _ _ hL1,vG,(by show 4<=sizeLine;decide),fun q2 eN=>?_⟩
    refine⟨0,q2,gT (D5 b X i),rfl,by rw[ak,yM];rfl,(by show 4<=1000000;decide),fun r H5 hr dg cU=>?_⟩
    have fY:au H (upd H3 q2 (.lst ([(Rol.stateAfter b X (i+1)).bass.lock,(Rol.stateAfter b X (i+1)).treble.lock].map nV++[(Rol.stateAfter b X (i+1)).bass.swell,(Rol.stateAfter b X (i+1)).treble.swell].map nV))):=((aM.trans bg).trans bj).trans (aW eN)
    exact k r H5 hr (fY.free dg) (fY.trans cU)
def aor (K:W.Frag) (a:aC):Sp:=fun vs H Q E=>∃ (N:Addr->Prop) (x sl:Addr) (d:RolE.Bench) (s i k:Nat),vs=[.ref x,nV s,nV i,nV k]/\ck a N H x sl d/\nO a H E d s fun b X=>if X.rows.length+b.tail<i\/1<k then ed a.cV H E else
 ∀ (r:Addr) (H':Hp),H' r=some (.lst ([V.int (Rol.force b (X.soundRow b.tail i) k ((Rol.stateAfter b X (i+1)).side k):Int)]))->H r=none->au H H'->Q (.ref r) H'
theorem Zw (T:Txt w K mg a):aN P w K mg base (cu P w) true 6 a.j9 a.wk ["self","number","row","which"] (aor K a):=by
 refine T.Iz.eh AB (fun vs H Q E h=>?_) (fun aF A outer s H vs Q E hr h=>?_)
 ·obtain⟨_,_,_,_,_,_,_,rfl,_⟩:=h
  rfl
 obtain⟨N,x,sl,d,s,i,k,rfl,D,kq⟩:=h
 obtain⟨dx,bv,ho,hb⟩:=D.obj
 unfold nO at kq
 refine⟨_,(ao (aK (i:=4) AB.nd rfl (Or.inl rfl) (bf (pv 0) T.cI T.v8 (AF T) (hr.mono (by decide)) T.wt .nil bW (aa (pv 1) ag)))
  (ao (bY (bf (pv 0) T.cI T.A0 (J9 T) (hr.mono (by decide)) T.Bx .nil bW (aa (pv 4) (aa (pv 2) ag))))
  (ao (cn (cg oY (pv 3) aB (bS _)) (aw (iZ ft rfl rfl T.rk T.tP T.tO T.pV)) cv)
  (ao (aK (i:=5) AB.nd rfl (Or.inl rfl) (bR cw (bQ (MY T) (hr.mono (by decide)) rfl T.BL T.wY.kp T.Ca .nil aL (aa (aI (pv 0) rfl) (aa (pv 4) (aa (pv 2) ag)))) (pv 3) (fun _ _=>rfl)))
  (aw (bc (bQ (gC (cm:=false) T) (hr.mono (by decide)) rfl T.f9 T.fM.kp T.gc .nil aL (aa (bf (pv 5) T.bH T.Bv (LW T) (hr.mono (by decide)) T.BQ .nil aL (aa (bf (pv 4) T.i4 T.wq (A2 T) (hr.mono (by decide)) T.wN .nil aL (aa (pv 2) (aa (aI (aI (pv 0) rfl) rfl) ag))) ag)) (aa (cP ag) ag))))))))),?_⟩
 refine⟨_,rfl,x,dx,_,rfl,ho,rfl,_,rfl,N,x,sl,d,s,rfl,D,?_⟩
 cases hd:d.bar with
 | none=>rw[hd] at kq;exact kq
 | some b =>
  rw[hd] at kq hb
  dsimp only at kq ⊢
  cases hX:d.strips[s]? with
  | none=>rw[hX] at kq;exact kq
  | some X =>
   rw[hX] at kq
   dsimp only at kq ⊢
   by_cases hw:X.wide≠b.wide
   ·rw[if_pos hw] at kq ⊢;exact kq
   rw[if_neg hw] at kq ⊢
   intro sA rA SA fk
   cases hb with
   | @yes _ bA nA dA BA dH _ _ _ =>
    obtain⟨bw,bu⟩:=BA.obj
    obtain⟨gn,g8⟩:=SA.obj
    refine⟨_,rfl,x,dx,_,rfl,ho,rfl,_,rfl,_,rfl,N,x,sl,d,b,sA,rA,X,i,rfl,D,hd,SA,?_⟩
    by_cases h1:X.rows.length+b.tail<i
    ·rw[if_pos (Or.inl h1)] at kq
     rw[if_pos h1]
     exact kq
    rw[if_neg h1]
    have hl:=fk.ln
    have htl:=dH.tl
    refine⟨_,rfl,_,_,rfl,rfl,_,rfl,?_⟩
    show if decide ((1:Int)<(k:Int))=true then _ else _
    by_cases h2:1<k
    ·rw[if_pos (Or.inr h2)] at kq
     rw[decide_eq_true (show(1:Int)<(k:Int) by omega)]
     exact aX (kq H fun _ _ h=>h)
    rw[if_neg (fun z=>z.elim h1 h2)] at kq
    rw[decide_eq_false (show ¬ (1:Int)<(k:Int) by omega)]
    refine aE ⟨_,rfl,x,_,dx,_,_,rfl,ho,T.cI,T.fZ,mr _ _,_,rfl,_,rfl,bA,nA,dA,sA,rA,b,X,i,rfl,BA,dH,SA,fk,by omega,fun lA x0 l0 x1 l1 H1 SS aM=>?_⟩
    have hk:=V4 b X (i+1)
    have pick:∃ xk lk,[V.ref x0,V.ref x1][k]?=some (.ref xk)/\dW a H1 xk lk bA b k ((Rol.stateAfter b X (i+1)).side k)/\((Rol.stateAfter b X (i+1)).side k).lock<=1000:=by
     match k,h2 with
     | 0,_=>exact⟨x0,l0,rfl,SS.bass,by show(Rol.stateAfter b X (i+1)).bass.lock<=1000;omega⟩
     | 1,_=>exact⟨x1,l1,rfl,SS.fS,by show(Rol.stateAfter b X (i+1)).treble.lock<=1000;omega⟩
     | k+2,h=>exact absurd (by omega) h
    obtain⟨xk,lk,hxk,Sk,vt⟩:=pick
    refine⟨_,rfl,lA,_,_,.ref xk,rfl,rfl,aq.of SS.lst,il hxk,?_⟩
    obtain⟨dxk,az⟩:=Sk.obj
    obtain⟨as9,asa⟩:=(SA.same aM).obj
    obtain⟨asb,asd⟩:=(BA.same aM).obj
    have bG:=aM _ _ ho
    refine⟨_,rfl,xk,dxk,_,rfl,az,rfl,_,rfl,sA,as9,_,rfl,asa,rfl,_,rfl,_,rfl,x,_,dx,_,_,rfl,bG,T.cI,T.fZ,mr _ _,bA,_,asb,_,_,rfl,asd,T.bU,T.ny,ue _ _ _,sA,rA,X,i,b.tail,rfl,SA.same aM,fk,by omega,dH.tl,?_⟩
    refine⟨xk,lk,bA,b,k,_,X.soundRow b.tail i,rfl,Sk,vt,Nat.zero_le _,fun q1 bF=>?_⟩
    refine⟨(Rol.force b (X.soundRow b.tail i) k ((Rol.stateAfter b X (i+1)).side k):Int),q1,[],rfl,ak,Nat.zero_le _,fun r H5 vR dg cU=>?_⟩
    have fY:=aM.trans (aW (o:=.lst []) bF)
    exact kq r H5 vR (fY.free dg) (fY.trans cU)
end
end RF
end
section
namespace RF
open PySem PySem.Spec PyProof.Rows L2 LX LM
open Rol (Bytes Means)
inductive dh (H:Hp):List Addr->List (Nat×Nat)->Prop
 | nil:dh H [] []
 | cons {t:Addr}{p:Nat×Nat}{ts:List Addr}{ps:List (Nat×Nat)}:H t=some (.tup [nV p.1,nV p.2])->dh H ts ps->dh H (t::ts) (p::ps)
theorem dh.len {H:Hp}{ts:List Addr}{ps:List (Nat×Nat)} (h:dh H ts ps):ts.length=ps.length:=by
 induction h with
 | nil=>rfl
 | cons _ _ ih=>rw[List.length_cons,List.length_cons,ih]
theorem dh.same {H H':Hp}{ts:List Addr}{ps:List (Nat×Nat)} (h:dh H ts ps) (s:au H H'):dh H' ts ps:=by
 induction h with
 | nil=>exact .nil
 | cons h _ ih=>exact .cons (s _ _ h) ih
theorem dh.kp {a:Addr}{o:HO}{H H':Hp}{ts:List Addr}{ps:List (Nat×Nat)} (h:dh H ts ps) (hl:H a=some o) (no:∀ xs,o≠.tup xs) (s:Kp a H H'):dh H' ts ps:=by
 induction h with
 | nil=>exact .nil
 | cons h _ ih=>exact .cons (s _ _ h fun z=>by rw[z,hl] at h;exact no _ (Option.some.inj h)) ih
theorem dh.get {H:Hp}{ts:List Addr}{ps:List (Nat×Nat)} (h:dh H ts ps):∀ {i:Nat}{t:Addr},ts[i]?=some t->∃ p,ps[i]?=some p/\H t=some (.tup [nV p.1,nV p.2]):=by
 induction h with
 | nil=>intro i t e;cases e
 | @cons t p ts ps h _ ih =>
  intro i u e
  cases i with
  | zero=>cases e;exact⟨p,rfl,h⟩
  | succ i=>exact ih e
theorem dh.snoc {H:Hp}{ts:List Addr}{ps:List (Nat×Nat)}{t:Addr}{p:Nat×Nat} (h:dh H ts ps) (k:H t=some (.tup [nV p.1,nV p.2])):dh H (ts++[t]) (ps++[p]):=by
 induction h with
 | nil=>exact .cons k .nil
 | cons g _ ih=>exact .cons g ih
def mE (b:Rol.Bar):List (Nat×Nat):=(List.range 128).map fun k=>(k,aY b (.key k))
def keysOf (b:Rol.Bar):List (Nat×Nat):=(mE b).filter fun p=>decide (p.2≠0)
theorem aos (b:Rol.Bar) {i:Nat} (h:i<128):(mE b)[i]?=some (i,aY b (.key i)):=by
 unfold mE
 rw[List.getElem?_map,List.getElem?_range h]
 rfl
theorem alw (b:Rol.Bar) (y:Nat):((keysOf b).filter fun p=>decide (y&&&p.2≠0)).map (fun p=>p.1)=(List.range 128).filter fun k=>b.has y (.key k):=by
 unfold keysOf mE
 rw[List.filter_filter,List.filter_map,List.map_map]
 have e:(fun (p:Nat×Nat)=>p.1)∘(fun k=>(k,aY b (.key k)))=id:=rfl
 rw[e,List.map_id]
 refine List.filter_congr fun k _=>?_
 show(decide (y&&&aY b (.key k)≠0)&&decide (aY b (.key k)≠0))=b.has y (.key k)
 rw[<- oP]
 by_cases q:aY b (.key k)=0
 ·rw[q];simp
 simp[q]
section
variable {P:Program}{w:World}{K:W.Frag}{mg:Str->Option Value}{base:Heap}{a:aC}{N:Addr->Prop}
theorem eQ {H H':Hp}{D:Addr}{o:HO} (s:au H H') (hD:H D=none):au H (L2.upd H' D o):=fun b u hb=>by rw[ai (aJ hb hD)];exact s b u hb
def alx (K:W.Frag) (a:aC):Sp:=fun vs H Q _=>∃ (bA nA dA:Addr) (b:Rol.Bar),vs=[.ref bA]/\fc a.ba H bA nA dA b/\gd b/\∀ (L:Addr) (ts:List Addr) (H':Hp),H' L=some (.lst (ts.map V.ref))->dh H' ts (keysOf b)->au H H'->Q (.ref L) H'
theorem ahK (T:Txt w K mg a):aN P w K mg base bC true 2 a.nG a.yn ["bar"] (alx K a):=by
 refine T.C4.ok tU (fun vs H Q E h=>?_) (fun aF A outer s H vs Q E hr h=>?_)
 ·obtain⟨_,_,_,_,rfl,_⟩:=h
  rfl
 obtain⟨bA,nA,dA,b,rfl,BA,ok,k⟩:=h
 refine⟨_,(ao (U4 (i:=1) (own:=[("key",2)]) rfl tU.nd rfl rfl (VN rfl rfl rfl rfl) (rJ rfl T.je (aa (cC rfl T.yg) ag)) (gE rfl) (fun _ _ _ _ _=>by exact(bM (i:=2) tU.nd rfl (Or.inl rfl))) (fun _ _ _ _ _=>by exact mq) (fun _ _ _ _ _=>by exact(oS (aa (pv 2) (aa (bf (pv 0) T.bU T.kM (mS T) (hr.mono (by decide)) T.kX .nil aL (aa jk (aa (pv 2) (aa aB ag)))) ag)))))
  (aw (bc (iy (own:=[("pair",3)]) rfl tU.nd (eG (pv 1)) (gE rfl) (fun _ _ _ _ _=>by exact(bM (i:=3) tU.nd rfl (Or.inl rfl))) (fun _ _ _ _ _=>by exact(yP (cg mz (bR ao5 (pv 3) aB (fun _ _=>rfl)) aB (bS _)))) (fun _ _ _ _ _=>by exact(pv 3)))))),?_⟩
 refine⟨128,rfl,by decide,by decide,fun D hD=>?_⟩
 refine U5 (fun i H'=>∃ ts,au H H'/\dh H' ts ((mE b).take i)/\H' D=some (.lst (ts.map V.ref))) ⟨[],aW hD,.nil,ak⟩ ?_ ?_
 ·rintro i H' hi ⟨ts,aV,PV,hL⟩
  obtain⟨bw,bu⟩:=(BA.same aV).obj
  refine⟨rfl,_,rfl,_,rfl,bA,bw,_,rfl,bu,rfl,_,rfl,bA,nA,dA,b,.key i,?_,BA.same aV,ok,fun H6 eF=>⟨(by show 2<=sizeLine;decide),fun t ht=>⟨_,(aW ht) _ _ (eF _ _ hL),?_,?_⟩⟩⟩
  ·show[V.ref bA,V.str "key",V.int (0+(i:Int)),V.int 0]=_
   rw[Int.zero_add]
   rfl
  ·rw[List.length_map,PV.len,List.length_take,sizeLine_eq]
   omega
  have hp:=aos b hi
  have Fc:upd H6 t (.tup [V.int (0+(i:Int)),nV (aY b (.key i))]) D=some (.lst (ts.map V.ref)):=(aW ht) _ _ (eF _ _ hL)
  have pv2:dh (upd H6 t (.tup [V.int (0+(i:Int)),nV (aY b (.key i))])) (ts++[t]) ((mE b).take i++[(i,aY b (.key i))]):=((PV.same eF).same (aW ht)).snoc (by rw[ak,Int.zero_add];rfl)
  refine⟨ts++[t],eQ ((aV.trans eF).trans (aW ht)) hD,?_,?_⟩
  ·rw[List.take_add_one,hp]
   exact pv2.kp Fc (fun _ z=>nomatch z) Kp.upd
  rw[ak,List.map_append]
  rfl
 rintro H1 ⟨ts,aM,PV,hL⟩
 rw[List.take_of_length_le (by unfold mE;rw[List.length_map,List.length_range];exact Nat.le_refl _)] at PV
 refine⟨_,rfl,D,rfl,⟨_,aq.of hL⟩,fun D2 gI=>?_⟩
 refine jh (xs:=ts.map V.ref) (fun i H'=>∃ us,au H1 H'/\dh H' us (((mE b).take i).filter fun p=>decide (p.2≠0))/\H' D2=some (.lst (us.map V.ref))/\us.length<=i) ⟨[],aW gI,.nil,ak,Nat.le_refl _⟩ (fun t H' _ hp=>by obtain⟨_,aV,_⟩:=hp;exact aq.of (aV _ _ hL)) ?_ ?_
 ·rintro i v H' hv ⟨us,aV,PU,hU,hlen⟩
  rw[List.getElem?_map] at hv
  cases ht:ts[i]? with
  | none=>rw[ht] at hv;cases hv
  | some t =>
   rw[ht] at hv
   obtain rfl:V.ref t=v:=Option.some.inj hv
   obtain⟨p,hp,pK⟩:=PV.get ht
   have hi:i<128:=by
    have:=(List.getElem?_eq_some_iff.mp hp).1
    unfold mE at this
    simpa using this
   refine⟨rfl,_,rfl,t,_,_,nV p.2,rfl,rfl,cp.of (aV _ _ pK),rfl,rfl,_,rfl,?_⟩
   show if (!decide (nV p.2=V.int 0))=true then _ else _
   have e2:(!decide (nV p.2=V.int 0))=decide (p.2≠0):=l5 p.2
   rw[e2]
   by_cases q:p.2≠0
   ·rw[decide_eq_true q]
    refine aX ⟨_,rfl,_,hU,?_,us++[t],eQ aV gI,?_,?_,?_⟩
    ·rw[List.length_map,sizeLine_eq];omega
    ·rw[List.take_add_one,hp,List.filter_append]
     show dh _ _ (_++List.filter _ [p])
     rw[List.filter_cons_of_pos (by simpa using q),List.filter_nil]
     exact(PU.snoc (aV _ _ pK)).kp hU (fun _ z=>nomatch z) Kp.upd
    ·rw[ak,List.map_append];rfl
    rw[List.length_append];show us.length+1<=i+1;omega
   rw[decide_eq_false q]
   refine aE ⟨us,aV,?_,hU,by omega⟩
   rw[List.take_add_one,hp,List.filter_append]
   show dh _ _ (_++List.filter _ [p])
   rw[List.filter_cons_of_neg (by simpa using q),List.filter_nil,List.append_nil]
   exact PU
 rintro H2 ⟨us,bg,PU,hU,_⟩
 rw[List.length_map,PV.len,List.take_length] at PU
 exact k D2 us H2 hU PU (aM.trans bg)
def amU (K:W.Frag) (a:aC):Sp:=fun vs H Q _=>∃ (L:Addr) (ts:List Addr) (ps:List (Nat×Nat)) (y:Nat),vs=[.ref L,nV y]/\H L=some (.lst (ts.map V.ref))/\dh H ts ps/\ps.length<=1000 /\
 ∀ (R:Addr) (H':Hp),H' R=some (.lst ((((ps.filter fun p=>decide (y&&&p.2≠0)).map fun p=>p.1)).map nV))->H R=none->au H H'->Q (.ref R) H'
theorem adj (T:Txt w K mg a):aN P w K mg base bC true 1 a.ni a.xx ["keys","begun"] (amU K a):=by
 refine T.Cb.ok w9 (fun vs H Q E h=>?_) (fun aF A outer s H vs Q E hr h=>?_)
 ·obtain⟨_,_,_,_,rfl,_⟩:=h
  rfl
 obtain⟨L,ts,ps,y,rfl,hL,PV,hlen,k⟩:=h
 refine⟨_,(aw (bc (iy (own:=[("key",2),("bit",3)]) rfl w9.nd (eG (pv 0)) (gE rfl) (fun _ _ _ _ _=>by exact(V0 rfl (ig (bM (i:=2) w9.nd rfl (Or.inl rfl)) (ig (bM (i:=3) w9.nd rfl (Or.inl rfl)) rQ)))) (fun _ _ _ _ _=>by exact(yP (cg mz (bp oR (pv 1) (pv 3)) aB (bS _)))) (fun _ _ _ _ _=>by exact(pv 2))))),?_⟩
 refine⟨_,rfl,L,rfl,⟨_,aq.of hL⟩,fun D hD=>?_⟩
 refine jh (xs:=ts.map V.ref) (fun i H'=>au H H'/\H' D=some (.lst (((((ps.take i).filter fun p=>decide (y&&&p.2≠0)).map fun p=>p.1)).map nV))) ⟨aW hD,ak⟩ (fun t H' _ hp=>aq.of (hp.1 _ _ hL)) ?_ ?_
 ·rintro i v H' hv ⟨aV,hR⟩
  rw[List.getElem?_map] at hv
  cases ht:ts[i]? with
  | none=>rw[ht] at hv;cases hv
  | some t =>
   rw[ht] at hv
   obtain rfl:V.ref t=v:=Option.some.inj hv
   obtain⟨p,hp,pK⟩:=PV.get ht
   refine⟨t,_,rfl,cp.of (aV _ _ pK),rfl,_,_,rfl,_,_,rfl,rfl,rfl,_,rfl,_,rfl,_,_,rfl,rfl,rfl,_,rfl,?_⟩
   show if (!decide (V.int (Builtin.bitAnd (y:Int) (p.2:Int))=V.int 0))=true then _ else _
   rw[nI,l5]
   by_cases q:y&&&p.2≠0
   ·rw[decide_eq_true q]
    refine aX ⟨_,rfl,_,hR,?_,eQ aV hD,?_⟩
    ·have:=List.length_filter_le (fun p:Nat×Nat=>decide (y&&&p.2≠0)) (ps.take i)
     rw[List.length_map,List.length_map,sizeLine_eq]
     rw[List.length_take] at this
     omega
    rw[ak,List.take_add_one,hp,List.filter_append]
    show some (HO.lst (_++[nV p.1]))=some (HO.lst (List.map nV (List.map _ (_++List.filter _ [p]))))
    rw[List.filter_cons_of_pos (by simpa using q),List.filter_nil,List.map_append,List.map_append]
    rfl
   rw[decide_eq_false q]
   refine aE ⟨aV,?_⟩
   rw[hR,List.take_add_one,hp,List.filter_append]
   show _=some (HO.lst (List.map nV (List.map _ (_++List.filter _ [p]))))
   rw[List.filter_cons_of_neg (by simpa using q),List.filter_nil,List.append_nil]
 rintro H2 ⟨bg,hR⟩
 rw[List.length_map,PV.len,List.take_length] at hR
 exact k D H2 hR hD bg
end
end RF
end
section
namespace RF
open PySem PySem.Spec PyProof.Rows L2 LX LM
open Rol (Bytes Means)
theorem aju (m n:Nat):Builtin.bitXor (m:Int) (n:Int)=((m^^^n:Nat):Int):=by
 rw[Xf.akN (by omega) (by omega),Int.toNat_natCast,Int.toNat_natCast]
def qd (b:Rol.Bar) (X:Rol.Strip) (j k:Nat):List Nat:=[j,k,Rol.force b (X.soundRow b.tail j) (b.side k) ((Rol.stateAfter b X (j+1)).side (b.side k))]
def gM (b:Rol.Bar) (X:Rol.Strip) (j:Nat):List Nat:=(List.range 128).filter fun k=>b.has (X.newRow b.tail j) (.key k)
def fO (b:Rol.Bar) (X:Rol.Strip) (j:Nat):List Nat:=(Rol.strikesFrom b X j 0 Rol.State.start).flatMap RolE.strikeRow
theorem ajv (b:Rol.Bar) (X:Rol.Strip) (j:Nat):fO b X (j+1)=fO b X j++(gM b X j).flatMap (qd b X j):=by
 unfold fO
 rw[QJ,List.flatMap_append,QI]
 congr 1
 unfold gM
 rw[List.flatMap_map]
 rfl
theorem UL (b:Rol.Bar) (X:Rol.Strip) (j:Nat):(fO b X j).length=3*(Rol.strikesFrom b X j 0 Rol.State.start).length:=by
 unfold fO
 generalize Rol.strikesFrom b X j 0 Rol.State.start=l
 induction l with
 | nil=>rfl
 | cons x l ih =>
  rw[List.flatMap_cons,List.length_append,ih,List.length_cons]
  show 3+_=_
  omega
def p5 (b:Rol.Bar) (X:Rol.Strip) (j:Nat):Nat:=if j=0 then 0 else X.soundRow b.tail (j-1)
theorem amV (b:Rol.Bar) (X:Rol.Strip) (j:Nat):X.soundRow b.tail j^^^(X.soundRow b.tail j&&&p5 b X j)=X.newRow b.tail j:=by
 unfold p5 Rol.Strip.newRow
 by_cases h:j=0
 ·rw[if_pos h,if_pos h]
  show X.soundRow b.tail j^^^(X.soundRow b.tail j&&&(0:Nat))=_
  rw[Nat.and_zero,Nat.xor_zero]
 rw[if_neg h,if_neg h]
section
variable {P:Program}{w:World}{K:W.Frag}{mg:Str->Option Value}{base:Heap}{a:aC}{N:Addr->Prop}
theorem dW.YA {H H':Hp}{y x lA bA:Addr}{b:Rol.Bar}{k:Nat}{s:Rol.Side}{xs:List V} (S:dW a H x lA bA b k s) (hy:H y=some (.lst xs)) (kp:Kp y H H') (n1:lA≠y):dW a H' x lA bA b k s:=by
 obtain⟨dx,ho⟩:=S.obj
 obtain⟨bw,nA,dA,bu⟩:=S.bar
 exact⟨⟨dx,kp _ _ ho fun z=>(by rw[z,hy] at ho;cases ho)⟩,kp _ _ S.bits n1,bw,nA,dA,kp _ _ bu fun z=>(by rw[z,hy] at bu;cases bu)⟩
def aly (K:W.Frag) (a:aC):Sp:=fun vs H Q _=>∃ (bA nA dA sA rA:Addr) (b:Rol.Bar) (X:Rol.Strip),vs=[.ref bA,.ref sA]/\fc a.ba H bA nA dA b/\gd b/\gB a.cx H sA rA X/\iq X /\
 ∀ (L:Addr) (H':Hp),H' L=some (.lst ((fO b X X.rows.length).map nV))->au H H'->Q (.ref L) H'
structure gu (a:aC) (H0 H:Hp) (LK LS LL x0 l0 x1 l1 bA:Addr) (ts:List Addr) (b:Rol.Bar) (st:Rol.State) (ns:List Nat):Prop where
 same:au H0 H
 keys:H LK=some (.lst (ts.map V.ref))
 z7:dh H ts (keysOf b)
 cX:nR a H LS x0 l0 x1 l1 bA b st
 lst:H LL=some (.lst (ns.map nV))
theorem gu.grow {H0 H H':Hp}{LK LS LL x0 l0 x1 l1 bA:Addr}{ts:List Addr}{b:Rol.Bar}{st:Rol.State}{ns:List Nat} (S:gu a H0 H LK LS LL x0 l0 x1 l1 bA ts b st ns) (k:au H H'):gu a H0 H' LK LS LL x0 l0 x1 l1 bA ts b st ns :=
 ⟨S.same.trans k,k _ _ S.keys,S.z7.same k,S.cX.same k,k _ _ S.lst⟩
theorem gu.listed {H0 H:Hp}{LK LS LL x0 l0 x1 l1 bA:Addr}{ts:List Addr}{b:Rol.Bar}{st:Rol.State}{ns:List Nat} (S:gu a H0 H LK LS LL x0 l0 x1 l1 bA ts b st ns) (hn:H0 LL=none) (n1:LK≠LL) (n2:LS≠LL) (n3:l0≠LL) (n4:l1≠LL) (ms:List Nat):gu a H0 (L2.upd H LL (.lst (ms.map nV))) LK LS LL x0 l0 x1 l1 bA ts b st ms:=by
 have kp:Kp LL H (L2.upd H LL (.lst (ms.map nV))):=Kp.upd
 exact⟨au.kp S.same hn kp,kp _ _ S.keys n1,S.z7.kp S.lst (fun _ z=>nomatch z) kp,⟨kp _ _ S.cX.lst n2,S.cX.bass.YA S.lst kp n3,S.cX.fS.YA S.lst kp n4,S.cX.ne⟩,ak⟩
theorem gu.WA {H0 H H':Hp}{LK LS LL x0 l0 x1 l1 bA y:Addr}{ts:List Addr}{b:Rol.Bar}{st dq:Rol.State}{ns:List Nat}{C dx:Addr}{fs:List (Str×V)} (S:gu a H0 H LK LS LL x0 l0 x1 l1 bA ts b st ns) (hn:H0 y=none) (hy:H y=some (.ins C dx fs)) (kp:Kp y H H') (SS:nR a H' LS x0 l0 x1 l1 bA b dq):gu a H0 H' LK LS LL x0 l0 x1 l1 bA ts b dq ns :=
 ⟨au.kp S.same hn kp,kp _ _ S.keys fun z=>(by have:=S.keys;rw[z,hy] at this;cases this),S.z7.kp hy (fun _ z=>nomatch z) kp,SS,kp _ _ S.lst fun z=>(by have:=S.lst;rw[z,hy] at this;cases this)⟩
theorem abT (T:Txt w K mg a):aN P w K mg base bC true 5 a.mZ a.xg ["bar","strip"] (aly K a):=by
 refine T.BM.ok gK (fun vs H Q E h=>?_) (fun aF A outer s H vs Q E hr h=>?_)
 ·obtain⟨_,_,_,_,_,_,_,rfl,_⟩:=h
  rfl
 obtain⟨bA,nA,dA,sA,rA,b,X,rfl,BA,dH,SA,fk,kq⟩:=h
 refine⟨_,(ao (aK (i:=2) gK.nd rfl (Or.inl rfl) (bQ (ahK T) (hr.mono (by decide)) rfl T.R5 T.C4.kp T.TJ .nil aL (aa (pv 0) ag)))
  (ao (aK (i:=3) gK.nd rfl (Or.inl rfl) (bQ (PY T) (hr.mono (by decide)) rfl T.Cr T.xA.kp T.CD .nil aL (aa (pv 0) ag)))
  (ao (aK (i:=4) gK.nd rfl (Or.inl rfl) (cP ag))
  (ao (aK (i:=5) gK.nd rfl (Or.inl rfl) aB)
  (ao (dS PassesOwn.never rfl (rJ rfl T.je (aa (da fm rfl T.eu e7 (aa (aI (pv 1) rfl) ag)) ag)) (bM (i:=6) gK.nd rfl (Or.inl rfl)) (ao (aK (i:=7) gK.nd rfl (Or.inr rfl) (bf (pv 1) T.i4 T.wq (A2 T) (hr.mono (by decide)) T.wN .nil aL (aa (pv 6) (aa (aI (pv 0) rfl) ag))))
  (ao (dS PassesOwn.never rfl (eG (pv 3)) (bM (i:=8) gK.nd rfl (Or.inl rfl)) (aw (bY (bf (pv 8) T.bH T.Bu (LU T) (hr.mono (by decide)) T.BP .nil aL (aa (pv 7) ag)))))
  (ao (aK (i:=9) gK.nd rfl (Or.inl rfl) (bp api (pv 7) (bp oR (pv 7) (pv 5))))
  (ao (U4 (i:=10) (own:=[("side",8)]) rfl gK.nd rfl rfl (VN rfl rfl rfl rfl) (eG (pv 3)) (gE rfl) (fun _ _ _ _ _=>by exact(bM (i:=8) gK.nd rfl (Or.inl rfl))) (fun _ _ _ _ _=>by exact mq) (fun _ _ _ _ _=>by exact(bf (pv 8) T.bH T.Bv (LW T) (hr.mono (by decide)) T.BQ .nil aL (aa (pv 7) ag))))
  (ao (dS PassesOwn.never rfl (eG (bQ (adj T) (hr.mono (by decide)) rfl T.Oe T.Cb.kp T.PF .nil aL (aa (pv 2) (aa (pv 9) ag)))) (bM (i:=11) gK.nd rfl (Or.inl rfl)) (aw (bY (gP PySem.F.plainAttrs_list PySem.F.slot_list_extend PySem.F.type_list_extend Ds (pv 4) (aa (cP (aa (pv 6) (aa (pv 11) (aa (bR cw (pv 10) (bf (pv 0) T.bU T.Io (Zt T) (hr.mono (by decide)) T.JN .nil aL (aa (pv 11) ag)) (fun _ _=>rfl)) ag)))) ag)))))
  (aw (aK (i:=5) gK.nd rfl (Or.inl rfl) (pv 7)))))))))
  (aw (bc (pv 4)))))))),?_⟩
 refine⟨_,rfl,bA,nA,dA,b,rfl,BA,dH,fun LK ts H1 hK PV aM=>?_⟩
 refine⟨_,rfl,bA,nA,dA,b,rfl,BA.same aM,dH,fun LS x0 l0 x1 l1 H2 z8 iI qP bg=>?_⟩
 refine⟨Nat.zero_le _,fun LL oE=>?_⟩
 have n1:LK≠LL:=aJ (bg _ _ hK) oE
 have n2:LS≠LL:=aJ z8.lst oE
 have n3:l0≠LL:=aJ z8.bass.bits oE
 have n4:l1≠LL:=aJ z8.fS.bits oE
 have ase:=aM.free iI
 have ER:=aM.free qP
 have hLH:=(aM.trans bg).free oE
 have S0:gu a H (upd H2 LL (.lst ([].map nV))) LK LS LL x0 l0 x1 l1 bA ts b Rol.State.start [] :=
  ⟨(aM.trans bg).trans (aW oE),(aW oE) _ _ (bg _ _ hK),(PV.same bg).same (aW oE),z8.same (aW oE),ak⟩
 obtain⟨gn,g8⟩:=(SA.same S0.same).obj
 have hl:=fk.ln
 refine⟨_,rfl,sA,_,gn,_,_,rfl,g8,T.i4,T.oI,yL _ _,rA,_,rfl,.inl (aq.of (SA.same S0.same).rows),?_⟩
 refine⟨_,rfl,by rw[List.length_map];omega,by rw[List.length_map];omega,?_⟩
 rw[List.length_map,Int.toNat_natCast]
 refine t9 (fun j σ' H'=>∃ c6 c7 c8 c9 z9 oF:Option V,σ'=[some (.ref bA),some (.ref sA),some (.ref LK),some (.ref LS),some (.ref LL),some (nV (p5 b X j)),c6,c7,c8,c9,z9,oF]/\gu a H H' LK LS LL x0 l0 x1 l1 bA ts b (Rol.stateAfter b X j) (fO b X j))
  ⟨none,none,none,none,none,none,rfl,S0⟩ ?_ ?_
 ·rintro j σ' H' hj ⟨c6,c7,c8,c9,z9,oF,rfl,SJ⟩
  obtain⟨gn,g8⟩:=(SA.same SJ.same).obj
  obtain⟨bw,bu⟩:=(BA.same SJ.same).obj
  refine⟨_,rfl,sA,gn,_,rfl,g8,rfl,_,rfl,_,rfl,bA,_,bw,_,_,rfl,bu,T.bU,T.ny,ue _ _ _,sA,rA,X,j,b.tail,?_,SA.same SJ.same,fk,by omega,dH.tl,?_⟩
  ·show[V.ref sA,V.int (0+(j:Int)),nV b.tail]=_
   rw[Int.zero_add]
   rfl
  refine⟨_,rfl,LS,rfl,⟨_,aq.of SJ.cX.lst⟩,nJ (xs:=[.ref x0,.ref x1]) (fun t σ' H'=>∃ c8:Option V,σ'=[some (.ref bA),some (.ref sA),some (.ref LK),some (.ref LS),some (.ref LL),some (nV (p5 b X j)),some (.int (0+(j:Int))),some (nV (X.soundRow b.tail j)),c8,c9,z9,oF] /\
   gu a H H' LK LS LL x0 l0 x1 l1 bA ts b ⟨if t=0 then (Rol.stateAfter b X j).bass else (Rol.stateAfter b X (j+1)).bass,if t<=1 then (Rol.stateAfter b X j).treble else (Rol.stateAfter b X (j+1)).treble⟩ (fO b X j)) ⟨c8,rfl,SJ⟩ (fun t σ' H' _ hp=>by obtain⟨_,_,hs⟩:=hp;exact aq.of hs.cX.lst) ?_ ?_⟩
  ·rintro t v σ2 H4 hv ⟨c8,rfl,S4⟩
   match t,hv with
   | 0,hv =>
    obtain rfl:V.ref x0=v:=Option.some.inj hv
    obtain⟨dz,hz⟩:=S4.cX.bass.obj
    refine⟨_,rfl,x0,dz,_,rfl,hz,rfl,_,rfl,x0,l0,bA,b,0,_,X.soundRow b.tail j,rfl,S4.cX.bass,fun H5 S5 cH=>?_⟩
    exact⟨_,rfl,S4.WA ase hz cH ⟨cH _ _ S4.cX.lst (fun z=>by have:=S4.cX.lst;rw[z,hz] at this;cases this),S5,S4.cX.fS.kp S4.cX.bass cH (Ne.symm S4.cX.ne),S4.cX.ne⟩⟩
   | 1,hv =>
    obtain rfl:V.ref x1=v:=Option.some.inj hv
    obtain⟨dz,hz⟩:=S4.cX.fS.obj
    refine⟨_,rfl,x1,dz,_,rfl,hz,rfl,_,rfl,x1,l1,bA,b,1,_,X.soundRow b.tail j,rfl,S4.cX.fS,fun H5 S5 cH=>?_⟩
    exact⟨_,rfl,S4.WA ER hz cH ⟨cH _ _ S4.cX.lst (fun z=>by have:=S4.cX.lst;rw[z,hz] at this;cases this),S4.cX.bass.kp S4.cX.fS cH S4.cX.ne,S5,S4.cX.ne⟩⟩
  rintro σ2 H4 ⟨c8,rfl,S4⟩
  have S4:gu a H H4 LK LS LL x0 l0 x1 l1 bA ts b (Rol.stateAfter b X (j+1)) (fO b X j):=S4
  refine⟨_,rfl,_,rfl,_,rfl,_,_,rfl,rfl,_,_,rfl,rfl,?_⟩
  refine⟨_,rfl,LS,rfl,⟨_,aq.of S4.cX.lst⟩,fun FA vS=>?_⟩
  have hk:=V4 b X (j+1)
  refine jh (xs:=[.ref x0,.ref x1]) (fun t H'=>au H4 H'/\H' FA=some (.lst (([Rol.force b (X.soundRow b.tail j) 0 (Rol.stateAfter b X (j+1)).bass,Rol.force b (X.soundRow b.tail j) 1 (Rol.stateAfter b X (j+1)).treble].take t).map nV))) ⟨aW vS,ak⟩ (fun t H' _ hp=>aq.of (hp.1 _ _ S4.cX.lst)) ?_ ?_
  ·rintro t v H' hv ⟨aV,hL⟩
   match t,hv with
   | 0,hv =>
    obtain rfl:V.ref x0=v:=Option.some.inj hv
    obtain⟨dz,hz⟩:=(S4.cX.bass.same aV).obj
    exact⟨rfl,_,rfl,x0,dz,_,rfl,hz,rfl,_,rfl,x0,l0,bA,b,0,_,X.soundRow b.tail j,rfl,S4.cX.bass.same aV,by omega,_,hL,(by show 0<sizeLine;decide),eQ aV vS,ak⟩
   | 1,hv =>
    obtain rfl:V.ref x1=v:=Option.some.inj hv
    obtain⟨dz,hz⟩:=(S4.cX.fS.same aV).obj
    exact⟨rfl,_,rfl,x1,dz,_,rfl,hz,rfl,_,rfl,x1,l1,bA,b,1,_,X.soundRow b.tail j,rfl,S4.cX.fS.same aV,by omega,_,hL,(by show 1<sizeLine;decide),eQ aV vS,ak⟩
  rintro H5 ⟨cU,hF⟩
  have S5:=S4.grow cU
  have hF:H5 FA=some (.lst ([Rol.force b (X.soundRow b.tail j) 0 (Rol.stateAfter b X (j+1)).bass,Rol.force b (X.soundRow b.tail j) 1 (Rol.stateAfter b X (j+1)).treble].map nV)):=hF
  refine⟨_,rfl,_,rfl,LK,ts,keysOf b,X.newRow b.tail j,?_,S5.keys,S5.z7,?_,fun R H6 hR vT eF=>?_⟩
  ·show[V.ref LK,V.int (Builtin.bitXor (X.soundRow b.tail j:Int) (Builtin.bitAnd (X.soundRow b.tail j:Int) (p5 b X j:Int)))]=_
   rw[nI,aju,amV]
   rfl
  ·unfold keysOf mE
   refine Nat.le_trans (List.length_filter_le _ _) ?_
   rw[List.length_map,List.length_range]
   decide
  rw[alw] at hR
  have hR:H6 R=some (.lst ((gM b X j).map nV)):=hR
  have S6:=S5.grow eF
  have nRL:R≠LL:=fun z=>by rw[z,S5.lst] at vT;cases vT
  have nFL:FA≠LL:=fun z=>by rw[z,S4.lst] at vS;cases vS
  have hF6:=eF _ _ hF
  refine⟨R,rfl,⟨_,aq.of hR⟩,nJ (xs:=(gM b X j).map nV) (fun t σ' H'=>∃ oF:Option V,σ'=[some (.ref bA),some (.ref sA),some (.ref LK),some (.ref LS),some (.ref LL),some (nV (p5 b X j)),some (.int (0+(j:Int))),some (nV (X.soundRow b.tail j)),c8,some (V.int (Builtin.bitXor (X.soundRow b.tail j:Int) (Builtin.bitAnd (X.soundRow b.tail j:Int) (p5 b X j:Int)))),some (.ref FA),oF] /\
   gu a H H' LK LS LL x0 l0 x1 l1 bA ts b (Rol.stateAfter b X (j+1)) (fO b X j++((gM b X j).take t).flatMap (qd b X j))/\H' R=some (.lst ((gM b X j).map nV))/\H' FA=some (.lst ([Rol.force b (X.soundRow b.tail j) 0 (Rol.stateAfter b X (j+1)).bass,Rol.force b (X.soundRow b.tail j) 1 (Rol.stateAfter b X (j+1)).treble].map nV)))
   ⟨oF,rfl,by rw[List.take_zero,List.flatMap_nil,List.append_nil];exact S6,hR,hF6⟩ (fun t σ' H' _ hp=>by obtain⟨_,_,_,hs,_⟩:=hp;exact aq.of hs) ?_ ?_⟩
  ·rintro t v σ2 H7 hv ⟨oF,rfl,S7,hR7,YB⟩
   rw[List.getElem?_map] at hv
   cases hy:(gM b X j)[t]? with
   | none=>rw[hy] at hv;cases hv
   | some y =>
    rw[hy] at hv
    obtain rfl:nV y=v:=Option.some.inj hv
    obtain⟨Xw,Xx⟩:=(BA.same S7.same).obj
    have hbs:[nV (Rol.force b (X.soundRow b.tail j) 0 (Rol.stateAfter b X (j+1)).bass),nV (Rol.force b (X.soundRow b.tail j) 1 (Rol.stateAfter b X (j+1)).treble)][b.side y]?=some (nV (Rol.force b (X.soundRow b.tail j) (b.side y) ((Rol.stateAfter b X (j+1)).side (b.side y)))):=by
     unfold Rol.Bar.side
     split <;> rfl
    refine⟨_,rfl,.inl ⟨rfl,_,aq.of S7.lst⟩,_,rfl,_,rfl,_,rfl,_,rfl,bA,Xw,_,rfl,Xx,rfl,_,rfl,bA,nA,dA,Xw,b,y,rfl,Xx,FA,_,_,_,rfl,rfl,aq.of YB,il hbs,(by show 3<=sizeLine;decide),fun q hq=>?_⟩
    have S8:=S7.grow (aW (o:=.lst [V.int (0+(j:Int)),nV y,nV (Rol.force b (X.soundRow b.tail j) (b.side y) ((Rol.stateAfter b X (j+1)).side (b.side y)))]) hq)
    refine⟨LL,q,_,_,rfl,rfl,S8.lst,ak,?_,?_⟩
    ·have hle:(fO b X j++((gM b X j).take t).flatMap (qd b X j)).length<=3*(128*256)+3*128:=by
      have hA:((gM b X j).take t).length<=128:=by
       rw[List.length_take]
       refine Nat.le_trans (Nat.min_le_right _ _) ?_
       unfold gM
       refine Nat.le_trans (List.length_filter_le _ _) ?_
       rw[List.length_range]
       exact Nat.le_refl _
      have hB:∀ l:List Nat,(l.flatMap (qd b X j)).length=3*l.length:=fun l=>by
       induction l with
       | nil=>rfl
       | cons x l ih=>rw[List.flatMap_cons,List.length_append,ih,List.length_cons];show 3+_=_;omega
      have hC:=C1 b X j
      rw[List.length_append,hB,UL]
      have:128*j<=128*256:=Nat.mul_le_mul_left _ (by omega)
      omega
     rw[List.length_map,sizeLine_eq]
     show _+3<=_
     omega
    have S9:=S8.listed hLH n1 n2 n3 n4 (fO b X j++((gM b X j).take (t+1)).flatMap (qd b X j))
    have e9:(fO b X j++((gM b X j).take (t+1)).flatMap (qd b X j)).map nV=(fO b X j++((gM b X j).take t).flatMap (qd b X j)).map nV++[V.int (0+(j:Int)),nV y,nV (Rol.force b (X.soundRow b.tail j) (b.side y) ((Rol.stateAfter b X (j+1)).side (b.side y)))]:=by
     rw[List.take_add_one,hy,List.flatMap_append,<- List.append_assoc,List.map_append (l₂:=List.flatMap _ _),Int.zero_add]
     rfl
    rw[e9] at S9
    exact⟨_,rfl,S9,by rw[ai nRL];exact(aW hq) _ _ hR7,by rw[ai nFL];exact(aW hq) _ _ YB⟩
  rintro σ2 H7 ⟨oF,rfl,S7,_,_⟩
  rw[List.length_map,List.take_length,<- ajv] at S7
  refine⟨_,rfl,_,_,_,_,_,_,rfl,S7⟩
 rintro σ' H' ⟨c6,c7,c8,c9,z9,oF,rfl,SJ⟩
 exact⟨_,rfl,kq LL H' SJ.lst SJ.same⟩
def aeT (K:W.Frag) (a:aC):Sp:=fun vs H Q E=>∃ (N:Addr->Prop) (x sl:Addr) (d:RolE.Bench) (s:Nat),vs=[.ref x,nV s]/\ck a N H x sl d/\nO a H E d s fun b X =>
 ∀ (r:Addr) (H':Hp),H' r=some (.lst ((n9 ((Rol.strikes b X).length:Int) (gT ((Rol.strikes b X).flatMap RolE.strikeRow))).map V.int))->H r=none->au H H'->Q (.ref r) H'
theorem Ze (T:Txt w K mg a):aN P w K mg base (cu P w) true 6 a.jS a.v7 ["self","number"] (aeT K a):=by
 refine T.Hs.eh Au (fun vs H Q E h=>?_) (fun aF A outer s H vs Q E hr h=>?_)
 ·obtain⟨_,_,_,_,_,rfl,_⟩:=h
  rfl
 obtain⟨N,x,sl,d,s,rfl,D,kq⟩:=h
 obtain⟨dx,bv,ho,hb⟩:=D.obj
 unfold nO at kq
 refine⟨_,(ao (aK (i:=2) Au.nd rfl (Or.inl rfl) (bf (pv 0) T.cI T.v8 (AF T) (hr.mono (by decide)) T.wt .nil bW (aa (pv 1) ag)))
  (ao (aK (i:=3) Au.nd rfl (Or.inl rfl) (bQ (abT T) (hr.mono (by decide)) rfl T.MQ T.BM.kp T.Of .nil aL (aa (aI (pv 0) rfl) (aa (pv 2) ag))))
  (aw (bc (bQ (gC (cm:=false) T) (hr.mono (by decide)) rfl T.f9 T.fM.kp T.gc .nil aL (aa (bp DW (da fm rfl T.eu e7 (aa (pv 3) ag)) aB) (aa (pv 3) ag))))))),?_⟩
 refine⟨_,rfl,x,dx,_,rfl,ho,rfl,_,rfl,N,x,sl,d,s,rfl,D,?_⟩
 cases hd:d.bar with
 | none=>rw[hd] at kq;exact kq
 | some b =>
  rw[hd] at kq hb
  dsimp only at kq ⊢
  cases hX:d.strips[s]? with
  | none=>rw[hX] at kq;exact kq
  | some X =>
   rw[hX] at kq
   dsimp only at kq ⊢
   by_cases hw:X.wide≠b.wide
   ·rw[if_pos hw] at kq ⊢;exact kq
   rw[if_neg hw] at kq ⊢
   intro sA rA SA fk
   cases hb with
   | @yes _ bA nA dA BA dH _ _ _ =>
    refine⟨_,rfl,x,_,dx,_,_,rfl,ho,T.cI,T.fZ,mr _ _,_,rfl,bA,nA,dA,sA,rA,b,X,rfl,BA,dH,SA,fk,fun L H1 hL aM=>?_⟩
    have hlen:=UL b X X.rows.length
    have hl:=fk.ln
    have hC:=C1 b X X.rows.length
    refine⟨_,rfl,L,_,rfl,.inl (aq.of hL),_,_,rfl,rfl,⟨by decide,by decide⟩,_,rfl,?_⟩
    refine⟨((Rol.strikes b X).length:Int),L,gT (fO b X X.rows.length),?_,by rw[yM];exact hL,?_,fun r H5 hr dg cU=>kq r H5 hr (aM.free dg) (aM.trans cU)⟩
    ·show[V.int (((fO b X X.rows.length).map nV).length / 3:Int),V.ref L]=_
     rw[List.length_map,hlen,show((3*(Rol.strikesFrom b X X.rows.length 0 Rol.State.start).length:Nat):Int) / 3=((Rol.strikesFrom b X X.rows.length 0 Rol.State.start).length:Int) by omega]
     rfl
    unfold gT
    rw[List.length_map,hlen]
    omega
end
end RF
end
section
namespace RF
open PySem PySem.Spec PyProof.Rows L2 LX LM
open Rol (Bytes Means Wish)
def oG (w:Wish):List (Str×V):=[("row",nV w.row),("side",nV w.side),("force",nV w.force)]
theorem qe (w:Wish):(oG w).lookup ("row":Str)=some (nV w.row):=rfl
theorem yN (w:Wish):(oG w).lookup ("side":Str)=some (nV w.side):=rfl
theorem UM (w:Wish):(oG w).lookup ("force":Str)=some (nV w.force):=rfl
def oW (a:aC) (H:Hp) (x:Addr) (w:Wish):Prop:=∃ dx,H x=some (.ins a.dN dx (oG w))
inductive bI (a:aC) (H:Hp):List Addr->List Wish->Prop
 | nil:bI a H [] []
 | cons {x:Addr}{w:Wish}{xs:List Addr}{ws:List Wish}:oW a H x w->bI a H xs ws->bI a H (x::xs) (w::ws)
section
variable {P:Program}{w:World}{K:W.Frag}{mg:Str->Option Value}{base:Heap}{a:aC}
theorem bI.len {H:Hp}{xs:List Addr}{ws:List Wish} (h:bI a H xs ws):xs.length=ws.length:=by
 induction h with
 | nil=>rfl
 | cons _ _ ih=>rw[List.length_cons,List.length_cons,ih]
theorem bI.mono {H H':Hp}{xs:List Addr}{ws:List Wish} (h:bI a H xs ws) (s:∀ b dx v,H b=some (.ins a.dN dx (oG v))->H' b=some (.ins a.dN dx (oG v))):bI a H' xs ws:=by
 induction h with
 | nil=>exact .nil
 | cons h _ ih=>obtain⟨dx,h⟩:=h;exact .cons ⟨dx,s _ _ _ h⟩ ih
theorem bI.same {H H':Hp}{xs:List Addr}{ws:List Wish} (h:bI a H xs ws) (s:au H H'):bI a H' xs ws:=h.mono fun b _ _ e=>s b _ e
theorem bI.kp {H H':Hp}{y:Addr}{o:HO}{xs:List Addr}{ws:List Wish} (h:bI a H xs ws) (ho:H y=some o) (no:∀ C dx v,o≠.ins C dx (oG v)) (s:Kp y H H'):bI a H' xs ws:=h.mono fun b _ _ e=>s b _ e fun z=>by
 rw[z,ho] at e
 exact no _ _ _ (Option.some.inj e)
theorem bI.get {H:Hp}{xs:List Addr}{ws:List Wish} (h:bI a H xs ws):∀ {i:Nat}{x:Addr},xs[i]?=some x->∃ v,ws[i]?=some v/\oW a H x v:=by
 induction h with
 | nil=>intro i x e;cases e
 | @cons x v xs ws h _ ih =>
  intro i u e
  cases i with
  | zero=>cases e;exact⟨v,rfl,h⟩
  | succ i=>exact ih e
theorem bI.at_ {H:Hp}{xs:List Addr}{ws:List Wish} (h:bI a H xs ws) {i:Nat}{v:V} (e:(xs.map V.ref)[i]?=some v):∃ x u,v=.ref x/\xs[i]?=some x/\ws[i]?=some u/\oW a H x u:=by
 rw[List.getElem?_map] at e
 cases hx:xs[i]? with
 | none=>rw[hx] at e;cases e
 | some x =>
  rw[hx] at e
  obtain⟨u,h1,h2⟩:=h.get hx
  exact⟨x,u,(Option.some.inj e).symm,rfl,h1,h2⟩
theorem bI.snoc {H:Hp}{xs:List Addr}{ws:List Wish}{x:Addr}{v:Wish} (h:bI a H xs ws) (k:oW a H x v):bI a H (xs++[x]) (ws++[v]):=by
 induction h with
 | nil=>exact .cons k .nil
 | cons g _ ih=>exact .cons g ih
def ajw (K:W.Frag) (a:aC):Sp:=fun vs H Q _=>∃ (x dx:Addr) (v:Wish),vs=[.ref x,nV v.row,nV v.side,nV v.force]/\H x=some (.ins a.dN dx [])/\∀ H',oW a H' x v->Kp x H H'->Q .aH H'
theorem aga (T:Txt w K mg a):aN P w K mg base bC true 1 a.lU a.x5 ["self","row","side","force"] (ajw K a):=by
 refine T.QS.ok ag2 (fun vs H Q E h=>?_) (fun aF A outer s H vs Q E hr h=>?_)
 ·obtain⟨_,_,_,rfl,_⟩:=h
  rfl
 obtain⟨x,dx,v,rfl,ho,k⟩:=h
 refine⟨_,(ao (bZ (pv 0) (pv 1) rfl)
  (ao (bZ (pv 0) (pv 2) rfl)
  (aw (bZ (pv 0) (pv 3) rfl)))),?_⟩
 refine⟨_,rfl,_,rfl,x,_,dx,[],rfl,ho,T.fq,T.iW,(by show 0<1000;decide),?_⟩
 refine⟨_,rfl,_,rfl,x,_,dx,_,rfl,ak,T.fq,T.oK,(by show 1<1000;decide),?_⟩
 refine⟨_,rfl,_,rfl,x,_,dx,_,rfl,ak,T.fq,T.rn,(by show 2<1000;decide),?_⟩
 have fin:∀ H',Kp x H H'->oW a H' x v->Q .aH H':=fun H' kp o=>k _ o kp
 exact fin _ ((Kp.upd.trans Kp.upd).trans Kp.upd) ⟨dx,ak⟩
def amW (K:W.Frag) (a:aC):Sp:=fun vs H Q E=>∃ (L:Addr) (xs:List Addr) (l:List Wish),vs=[.ref L]/\H L=some (.lst (xs.map V.ref))/\bI a H xs l/\if RolE.WISHES<l.length\/l.all RolE.wishOk=false then ed a.cV H E else Q .aH H
theorem abU (T:Txt w K mg a):aN P w K mg base (cu P w) true 1 a.mX a.xc ["wishes"] (amW K a):=by
 refine T.BK.eh MM (fun vs H Q E h=>?_) (fun aF A outer s H vs Q E hr h=>?_)
 ·obtain⟨_,_,_,rfl,_⟩:=h
  rfl
 obtain⟨L,xs,l,rfl,hL,WV,k⟩:=h
 refine⟨_,(ao (cn (cg oY (da fm rfl T.eu e7 (aa (pv 0) ag)) (cC rfl T.xC) (bS _)) (aw (iZ ft rfl rfl T.rk T.tP T.tO T.pV)) cv)
  (aw (dS jx rfl (eG (pv 0)) (bM (i:=1) MM.nd rfl (Or.inl rfl)) (aw (cn (PW.pt (zq (cg oY (aI (pv 1) rfl) (cC rfl T.yr) (bS _)) (zq (cg oY (aI (pv 1) rfl) aB (bS _)) (D8 (cg oY (aI (pv 1) rfl) (cC rfl T.rE) (bS _)))))) (aw (iZ ft rfl rfl T.rk T.tP T.tO T.pV)) cv))))),?_⟩
 refine⟨_,rfl,L,_,rfl,.inl (aq.of hL),_,_,rfl,rfl,_,rfl,?_⟩
 show if decide ((256:Int)<((xs.map V.ref).length:Int))=true then _ else _
 rw[List.length_map,WV.len]
 by_cases h1:256<l.length
 ·rw[if_pos (show RolE.WISHES<l.length\/l.all RolE.wishOk=false from Or.inl h1)] at k
  rw[decide_eq_true (show(256:Int)<(l.length:Int) by omega)]
  exact aX (k H fun _ _ h=>h)
 rw[decide_eq_false (show ¬ (256:Int)<(l.length:Int) by omega)]
 refine aE ⟨_,rfl,L,rfl,⟨_,aq.of hL⟩,nJ (xs:=xs.map V.ref) (fun i σ' H'=>∃ c1:Option V,σ'=[some (.ref L),c1]/\H'=H/\(l.take i).all RolE.wishOk=true) ⟨none,rfl,rfl,rfl⟩ (fun i σ' H' _ hp=>by obtain⟨_,_,rfl,_⟩:=hp;exact aq.of hL) ?_ ?_⟩
 ·rintro i v σ' H' hv ⟨c1,rfl,rfl,eI⟩
  obtain⟨x,u,rfl,hx,hu,dx,ho⟩:=WV.at_ hv
  have bad:RolE.wishOk u=false->ed a.cV H' E:=fun hb=>by
   have:l.all RolE.wishOk=false:=List.all_eq_false.mpr ⟨u,List.mem_of_getElem? hu,by rw[hb];simp⟩
   rw[if_pos (Or.inr this)] at k
   exact k
  have az:RolE.wishOk u=(decide (u.row<65536)&&(decide (u.side<2)&&decide (u.force<=127))):=rfl
  refine⟨_,rfl,x,_,dx,_,_,rfl,ho,T.fq,T.iW,qe _,_,_,rfl,rfl,_,rfl,?_⟩
  show if decide ((65535:Int)<(u.row:Int))=true then _ else _
  by_cases q1:u.row<65536
  ·rw[decide_eq_false (show ¬ (65535:Int)<(u.row:Int) by omega)]
   refine aE ⟨_,rfl,x,_,dx,_,_,rfl,ho,T.fq,T.oK,yN _,_,_,rfl,rfl,_,rfl,?_⟩
   show if decide ((1:Int)<(u.side:Int))=true then _ else _
   by_cases q2:u.side<2
   ·rw[decide_eq_false (show ¬ (1:Int)<(u.side:Int) by omega)]
    refine aE ⟨_,rfl,x,_,dx,_,_,rfl,ho,T.fq,T.rn,UM _,_,_,rfl,rfl,_,rfl,?_⟩
    show if decide ((127:Int)<(u.force:Int))=true then _ else _
    by_cases q3:u.force<=127
    ·rw[decide_eq_false (show ¬ (127:Int)<(u.force:Int) by omega)]
     refine aE ⟨_,rfl,rfl,?_⟩
     rw[List.take_add_one,hu,List.all_append,eI]
     show(true&&(RolE.wishOk u&&true))=true
     rw[az,decide_eq_true q1,decide_eq_true q2,decide_eq_true q3]
     rfl
    rw[decide_eq_true (show(127:Int)<(u.force:Int) by omega)]
    exact aX (bad (by rw[az,decide_eq_false q3,Bool.and_false,Bool.and_false]) H' fun _ _ h=>h)
   rw[decide_eq_true (show(1:Int)<(u.side:Int) by omega)]
   exact aX (bad (by rw[az,decide_eq_false q2,Bool.false_and,Bool.and_false]) H' fun _ _ h=>h)
  rw[decide_eq_true (show(65535:Int)<(u.row:Int) by omega)]
  exact aX (bad (by rw[az,decide_eq_false q1,Bool.false_and]) H' fun _ _ h=>h)
 rintro σ' H' ⟨c1,rfl,rfl,eI⟩
 rw[List.length_map,WV.len,List.take_length] at eI
 rw[if_neg (fun z=>z.elim h1 (fun y=>by rw[eI] at y;cases y))] at k
 exact k
def aot (K:W.Frag) (a:aC):Sp:=fun vs H Q E=>∃ (L:Addr) (xs:List Addr) (l:List Wish),vs=[.ref L]/\H L=some (.lst (xs.map V.ref))/\bI a H xs l/\if RolE.inOrder l=false then ed a.dD H E else Q .aH H
theorem adk (T:Txt w K mg a):aN P w K mg base (cu P w) true 1 a.m9 a.xr ["wishes"] (aot K a):=by
 refine T.B6.eh w8 (fun vs H Q E h=>?_) (fun aF A outer s H vs Q E hr h=>?_)
 ·obtain⟨_,_,_,rfl,_⟩:=h
  rfl
 obtain⟨L,xs,l,rfl,hL,WV,k⟩:=h
 rw[UE] at k
 refine⟨_,(ao (aK (i:=1) w8.nd rfl (Or.inl rfl) aB)
  (aw (dS jx rfl (eG (pv 0)) (bM (i:=2) w8.nd rfl (Or.inl rfl)) (ao (cn (cg WH (aI (pv 2) rfl) (pv 1) (bS _)) (aw (iZ ft rfl rfl T.AE T.J5 T.J4 T.wx)) cv)
  (aw (aK (i:=1) w8.nd rfl (Or.inl rfl) (aI (pv 2) rfl))))))),?_⟩
 refine⟨_,rfl,L,rfl,⟨_,aq.of hL⟩,nJ (xs:=xs.map V.ref) (fun i σ' H'=>∃ (r:Nat) (c2:Option V),σ'=[some (.ref L),some (nV r),c2]/\H'=H/\mB 0 l=mB r (l.drop i)) ⟨0,none,rfl,rfl,rfl⟩ (fun i σ' H' _ hp=>by obtain⟨_,_,_,rfl,_⟩:=hp;exact aq.of hL) ?_ ?_⟩
 ·rintro i v σ' H' hv ⟨r,c2,rfl,rfl,uU⟩
  obtain⟨x,u,rfl,hx,hu,dx,ho⟩:=WV.at_ hv
  have hd:l.drop i=u::l.drop (i+1):=by
   obtain⟨hi,e⟩:=List.getElem?_eq_some_iff.mp hu
   rw[List.drop_eq_getElem_cons hi,e]
  rw[hd] at uU
  have zw:mB 0 l=(decide (r<=u.row)&&mB u.row (l.drop (i+1))):=uU
  refine⟨_,rfl,x,_,dx,_,_,rfl,ho,T.fq,T.iW,qe _,_,rfl,_,_,rfl,rfl,_,rfl,?_⟩
  show if decide ((u.row:Int)<(r:Int))=true then _ else _
  by_cases q:r<=u.row
  ·rw[decide_eq_false (show ¬ (u.row:Int)<(r:Int) by omega)]
   rw[decide_eq_true q,Bool.true_and] at zw
   exact aE ⟨_,rfl,x,_,dx,_,_,rfl,ho,T.fq,T.iW,qe _,u.row,_,rfl,rfl,zw⟩
  rw[decide_eq_true (show(u.row:Int)<(r:Int) by omega)]
  rw[decide_eq_false q,Bool.false_and] at zw
  rw[if_pos zw] at k
  exact aX (k H' fun _ _ h=>h)
 rintro σ' H' ⟨r,c2,rfl,rfl,uU⟩
 rw[List.length_map,WV.len,List.drop_length] at uU
 rw[if_neg (by rw[uU];simp[mB])] at k
 exact k
theorem WU (n:Nat):Builtin.Range.rangeSize 0 ((3*n:Nat):Int) 3=(n:Int):=by
 unfold Builtin.Range.rangeSize
 rw[if_pos (by decide)]
 split <;> omega
theorem aq6 {n:Nat} (hn:n<100000):X0 0 ((3*n:Nat):Int) 3 n:=by
 refine⟨by decide,by decide,?_,WU n⟩
 unfold Builtin.Range.small
 rw[WU,if_pos (by decide)]
 simp only [Builtin.Range.rangeFitsLong,Bool.and_eq_true,Bool.or_eq_true,decide_eq_true_eq,beq_iff_eq]
 omega
def agb (K:W.Frag) (a:aC):Sp:=fun vs H Q E=>∃ (tA:Addr) (t:List Int),vs=[.ref tA]/\H tA=some (.lst (t.map V.int))/\(t.length<=3000/\(∀ y∈t,0<=y)/\t.length % 3=0) /\
 if RolE.WISHES<(bP t).length\/(bP t).all RolE.wishOk=false then ed a.cV H E else if RolE.inOrder (bP t)=false then ed a.dD H E else
  ∀ (L:Addr) (xs:List Addr) (H':Hp),H' L=some (.lst (xs.map V.ref))->bI a H' xs (bP t)->au H H'->Q (.ref L) H'
theorem adl (T:Txt w K mg a):aN P w K mg base (cu P w) true 3 a.m8 a.xq ["numbers"] (agb K a):=by
 refine T.B5.eh B3 (fun vs H Q E h=>?_) (fun aF A outer s H vs Q E hr h=>?_)
 ·obtain⟨_,_,rfl,_⟩:=h
  rfl
 obtain⟨tA,t,rfl,ht,⟨h1,h2,h3⟩,k⟩:=h
 obtain⟨n,hn⟩:∃ n,t.length=3*n:=⟨t.length / 3,by omega⟩
 have hlen:=aje h3
 refine⟨_,(ao (aK (i:=1) B3.nd rfl (Or.inl rfl) (cP ag))
  (ao (dS jx rfl (akL rfl T.je (aa aB (aa (da fm rfl T.eu e7 (aa (pv 0) ag)) (aa aB ag)))) (bM (i:=2) B3.nd rfl (Or.inl rfl)) (aw (bY (gP PySem.F.plainAttrs_list PySem.F.slot_list_append PySem.F.type_list_append mi (pv 1) (aa (oM T.yX (aga T) (hr.mono (by decide)) rfl T.Vm T.R8 .nil aL (aa (bR cw (pv 0) (pv 2) (fun _ _=>rfl)) (aa (bR cw (pv 0) (bp fN (pv 2) aB) (fun _ _=>rfl)) (aa (bR cw (pv 0) (bp fN (pv 2) aB) (fun _ _=>rfl)) ag)))) ag)))))
  (ao (bY (bQ (abU T) (hr.mono (by decide)) rfl T.MO T.BK.kp T.N9 .nil bW (aa (pv 1) ag)))
  (ao (bY (bQ (adk T) (hr.mono (by decide)) rfl T.Oa T.B6.kp T.Py .nil bW (aa (pv 1) ag)))
  (aw (bc (pv 1))))))),?_⟩
 refine⟨Nat.zero_le _,fun L hL=>?_⟩
 have hA:∀ {H'},au H H'->H' tA=some (.lst (t.map V.int)):=fun s=>s _ _ ht
 refine⟨_,rfl,tA,_,rfl,.inl (aq.of (hA (aW hL))),0,((3*n:Nat):Int),3,n,?_,aq6 (by omega),?_⟩
 ·rw[List.length_map,hn]
 refine aiZ (fun i σ' H'=>∃ (c2:Option V) (xs:List Addr),σ'=[some (.ref tA),some (.ref L),c2]/\au H H'/\H' L=some (.lst (xs.map V.ref))/\bI a H' xs ((bP t).take i)) ⟨none,[],rfl,aW hL,ak,.nil⟩ ?_ ?_
 ·rintro i σ' H' hi ⟨c2,xs,rfl,sm,hl,WV⟩
  have hg:∀ j:Nat,j<3*n->(t.map V.int)[j]?=some (nV (t.getD j 0).toNat):=fun j hj=>by
   have FY:j<t.length:=by omega
   rw[List.getElem?_map,List.getElem?_eq_getElem FY,List.getD_eq_getElem?_getD,List.getElem?_eq_getElem FY]
   show some (V.int t[j])=some (V.int ((t[j].toNat:Nat):Int))
   rw[Int.toNat_of_nonneg (h2 _ (List.getElem_mem FY))]
  have hw:=ajf (t:=t) (i:=i) (by omega)
  have e0:(0:Int)+(i:Int)*3=((3*i:Nat):Int):=by omega
  refine⟨_,rfl,.inl ⟨rfl,_,aq.of hl⟩,_,rfl,_,rfl,tA,_,_,_,rfl,rfl,aq.of (hA sm),(by rw[e0];exact il (hg (3*i) (by omega))),_,rfl,_,rfl,_,_,rfl,rfl,tA,_,_,_,rfl,rfl,aq.of (hA sm),(by rw[show(0:Int)+(i:Int)*3+1=((3*i+1:Nat):Int) by omega];exact il (hg (3*i+1) (by omega))),_,rfl,_,rfl,_,_,rfl,rfl,tA,_,_,_,rfl,rfl,aq.of (hA sm),(by rw[show(0:Int)+(i:Int)*3+2=((3*i+2:Nat):Int) by omega];exact il (hg (3*i+2) (by omega))),fun x dx hx gm _=>?_⟩
  refine⟨x,dx,⟨(t.getD (3*i) 0).toNat,(t.getD (3*i+1) 0).toNat,(t.getD (3*i+2) 0).toNat⟩,rfl,ak,fun H1 W1 a9=>⟨rfl,?_⟩⟩
  have aM:au H' H1:=au.kp (jg hx gm) hx a9
  have qQ:=aM _ _ hl
  refine⟨L,_,_,rfl,rfl,qQ,?_,?_⟩
  ·rw[List.length_map,WV.len,List.length_take,sizeLine_eq]
   omega
  refine⟨_,xs++[x],rfl,eQ (sm.trans aM) hL,by rw[ak,List.map_append];rfl,?_⟩
  rw[List.take_add_one,hw]
  exact((WV.same aM).snoc W1).kp qQ (fun _ _ _ z=>nomatch z) Kp.upd
 rintro σ' H' ⟨c2,xs,rfl,sm,hl,WV⟩
 rw[List.take_of_length_le (by rw[hlen];omega)] at WV
 refine⟨_,rfl,L,xs,bP t,rfl,hl,WV,?_⟩
 by_cases q1:RolE.WISHES<(bP t).length\/(bP t).all RolE.wishOk=false
 ·rw[if_pos q1] at k ⊢
  exact fun H2 bg=>k H2 (sm.trans bg)
 rw[if_neg q1] at k ⊢
 refine⟨_,rfl,L,xs,bP t,rfl,hl,WV,?_⟩
 by_cases q2:RolE.inOrder (bP t)=false
 ·rw[if_pos q2] at k ⊢
  exact fun H2 bg=>k H2 (sm.trans bg)
 rw[if_neg q2] at k ⊢
 exact⟨_,rfl,k L xs H' hl WV sm⟩
end
end RF
end
section
namespace RF
open PySem PySem.Spec PyProof.Rows L2 LX LM
open Rol (Bytes Means Wish)
def dictOf (r:List (Nat×Nat)):List (Key×V):=r.map fun p=>(Sum.inl (p.1:Int),nV p.2)
theorem TY {r:List (Nat×Nat)}{i:Nat}{k:Key}{v:V} (h:(dictOf r)[i]?=some (k,v)):∃ p,r[i]?=some p/\k=Sum.inl (p.1:Int)/\v=nV p.2:=by
 unfold dictOf at h
 rw[List.getElem?_map] at h
 cases e:r[i]? with
 | none=>rw[e] at h;cases h
 | some p=>rw[e] at h;cases h;exact⟨p,rfl,rfl,rfl⟩
theorem amX (p q:Nat×Nat):HT.lexLt [(p.1:Int),(p.2:Int)] [(q.1:Int),(q.2:Int)]=decide (fB p q):=by
 rw[Bool.eq_iff_iff,decide_eq_true_eq]
 show _↔(p.1<q.1\/p.1=q.1/\p.2<q.2)
 rw[HT.t5,HT.t5,HT.Pu]
 by_cases h:p.1=q.1
 ·rw[if_pos (by omega)]
  by_cases h2:p.2=q.2
  ·rw[if_pos (by omega)]
   exact⟨fun z=>absurd z (by simp),fun z=>by omega⟩
  rw[if_neg (by omega),decide_eq_true_eq]
  omega
 rw[if_neg (by omega),decide_eq_true_eq]
 omega
section
variable {P:Program}{w:World}{K:W.Frag}{mg:Str->Option Value}{base:Heap}{a:aC}
def aqT (K:W.Frag):Sp:=fun vs H Q _=>∃ (x:Nat) (d:Addr) (r:List (Nat×Nat)),vs=[nV x,.ref d]/\H d=some (.dK (dictOf r))/\r.length<=1000 /\
 ∀ (t:Addr) (H':Hp),H' t=some (.tup [nV (bT x r).1,nV (bT x r).2])->au H H'->Q (.ref t) H'
theorem Si (T:Txt w K mg a):aN P w K mg base bC true 1 a.nF a.ym ["before","rest"] (aqT K):=by
 refine T.yc.ok xZ (fun vs H Q E h=>?_) (fun aF A outer s H vs Q E hr h=>?_)
 ·obtain⟨_,_,_,rfl,_⟩:=h
  rfl
 obtain⟨x,d,r,rfl,hd,hlen,k⟩:=h
 refine⟨_,(ao (aK (i:=2) xZ.nd rfl (Or.inl rfl) (cP ag))
  (ao (anL (dS PassesOwn.never rfl (U9 (pv 1)) (uu rfl (ig (bM (i:=3) xZ.nd rfl (Or.inl rfl)) (ig (bM (i:=4) xZ.nd rfl (Or.inl rfl)) rQ))) (aw (cn (cg fw (pv 3) (pv 0) (bS _)) (aw (bY (gP PySem.F.plainAttrs_list PySem.F.slot_list_append PySem.F.type_list_append mi (pv 2) (aa (oS (aa (pv 4) (aa (pv 3) ag))) ag)))) (aw (bY (gP PySem.F.plainAttrs_list PySem.F.slot_list_append PySem.F.type_list_append mi (pv 2) (aa (oS (aa (bp fN (pv 4) aB) (aa (pv 3) ag))) ag))))))))
  (aw (bc (ao4 (n6 hr) rfl rfl T.nX (pv 2) (oS (aa aB (aa aB ag)))))))),?_⟩
 refine⟨Nat.zero_le _,fun L hL=>?_⟩
 have Ab:d≠L:=aJ hd hL
 have sV:upd H L (.lst []) d=some (.dK (dictOf r)):=by rw[ai Ab];exact hd
 refine⟨d,.dK (dictOf r),sV,trivial,fun od=>?_⟩
 refine⟨_,rfl,d,od,dictOf r,rfl,ak,?_⟩
 have zU:∀ b o,H b=some o->b≠d->upd (upd H L (.lst [])) d (.bK od (.dK (dictOf r))) b=some o:=fun b o hb n=>by rw[ai n,ai (aJ hb hL)];exact hb
 refine Ww (n:=r.length) (fun i σ' H'=>∃ (c3 c4:Option V) (ts:List Addr),σ'=[some (nV x),some (.ref d),some (.ref L),c3,c4]/\Kp d H H'/\H' d=some (.bK od (.dK (dictOf r)))/\H' L=some (.lst (ts.map V.ref))/\dh H' ts ((r.take i).map (way x)))
  ⟨none,none,[],rfl,zU,ak,by rw[ai (Ne.symm Ab)];exact ak,.nil⟩ (fun i σ' H' hi hp=>?_) (fun σ' H' hp=>?_) ?_ ?_
 ·obtain⟨_,_,_,_,_,h,_⟩:=hp
  exact⟨h,by unfold dictOf;rw[List.length_map];exact hi⟩
 ·obtain⟨_,_,_,_,_,h,_⟩:=hp
  exact⟨h,by unfold dictOf;rw[List.length_map];exact Nat.le_refl _⟩
 ·rintro i v σ' H' H2 hi ⟨c3,c4,ts,rfl,kp,hf,hl,PV⟩ ⟨t0,key,val,sS,rfl,FZ,rfl⟩
  obtain⟨p,hp,rfl,rfl⟩:=TY sS
  have cT:=aW (o:=.tup [kV (Sum.inl (p.1:Int)),nV p.2]) FZ
  have aO:=(List.getElem?_eq_some_iff.mp hp).1
  have fin:∀ (n:Nat) (H3:Hp),au H' H3->(way x p).1=n->∀ t,H3 t=none->ts.length<sizeLine/\(∃ (c3 c4:Option V) (YC:List Addr),[some (nV x),some (V.ref d),some (V.ref L),some (nV p.1),some (nV p.2)]=[some (nV x),some (V.ref d),some (V.ref L),c3,c4]/\Kp d H (upd (upd H3 t (.tup [nV n,nV p.1])) L (.lst (ts.map V.ref++[V.ref t])))/\upd (upd H3 t (.tup [nV n,nV p.1])) L (.lst (ts.map V.ref++[V.ref t])) d=some (.bK od (.dK (dictOf r))) /\
    upd (upd H3 t (.tup [nV n,nV p.1])) L (.lst (ts.map V.ref++[V.ref t])) L=some (.lst (YC.map V.ref))/\dh (upd (upd H3 t (.tup [nV n,nV p.1])) L (.lst (ts.map V.ref++[V.ref t]))) YC ((r.take (i+1)).map (way x))):=fun n H3 bj hn t ht=>by
   have jI:=aW (o:=.tup [nV n,nV p.1]) ht
   have fY:=bj.trans jI
   refine⟨?_,_,_,ts++[t],rfl,fun b o hb n2=>?_,?_,?_,?_⟩
   ·rw[PV.len,List.length_map,List.length_take,sizeLine_eq]
    omega
   ·rw[ai (aJ hb hL)]
    exact fY _ _ (kp b o hb n2)
   ·rw[ai Ab]
    exact fY _ _ hf
   ·rw[ak,List.map_append]
    rfl
   rw[List.take_add_one,hp,List.map_append]
   refine((PV.same fY).snoc (p:=way x p) ?_).kp (fY _ _ hl) (fun _ z=>nomatch z) Kp.upd
   rw[ak,<- hn]
   rfl
  refine⟨t0,_,rfl,cp.of ak,rfl,_,_,rfl,_,_,rfl,rfl,?_⟩
  refine⟨_,rfl,_,rfl,rfl,_,rfl,?_⟩
  show if decide (nV p.1=nV x)=true then _ else _
  have mN:=cT _ _ hl
  by_cases q:p.1=x
  ·rw[decide_eq_true (show nV p.1=nV x by rw[q])]
   have hn:(way x p).1=p.2:=if_pos q
   refine aX ⟨_,rfl,.inl ⟨rfl,_,aq.of mN⟩,_,rfl,_,rfl,(by show 2<=sizeLine;decide),fun t ht=>?_⟩
   obtain⟨f1,f2⟩:=fin p.2 _ cT hn t ht
   exact⟨L,_,_,rfl,rfl,(aW ht) _ _ mN,by rw[List.length_map];exact f1,f2⟩
  rw[decide_eq_false (show ¬ nV p.1=nV x from fun z=>q (by unfold nV at z;injection z with z;omega))]
  have hn:(way x p).1=p.2+1:=if_neg q
  refine aE ⟨_,rfl,.inl ⟨rfl,_,aq.of mN⟩,_,rfl,_,_,rfl,rfl,_,rfl,(by show 2<=sizeLine;decide),fun t ht=>?_⟩
  obtain⟨f1,f2⟩:=fin (p.2+1) _ cT hn t ht
  exact⟨L,_,_,rfl,rfl,(aW ht) _ _ mN,by rw[List.length_map];exact f1,f2⟩
 rintro σ' H' ⟨c3,c4,ts,rfl,kp,hf,hl,PV⟩
 refine⟨hf,?_⟩
 rw[List.take_length] at PV
 have aM:au H (upd H' d (.dK (dictOf r))):=fun b o hb=>by
  by_cases q:b=d
  ·rw[q,ak,<- hd,<- q,hb]
  rw[ai q];exact kp b o hb q
 have qQ:upd H' d (.dK (dictOf r)) L=some (.lst (ts.map V.ref)):=by rw[ai (Ne.symm Ab)];exact hl
 have PV1:dh (upd H' d (.dK (dictOf r))) ts (r.map (way x)):=PV.kp hf (fun _ z=>nomatch z) Kp.upd
 refine⟨_,rfl,(by show 2<=sizeLine;decide),fun t ht=>?_⟩
 have bg:=aW (o:=.tup [V.int 0,V.int 0]) ht
 have YD:=PV1.same bg
 refine⟨L,ts,(r.map (way x)).map fun p=>[(p.1:Int),(p.2:Int)],.ref t,rfl,rfl,aq.of (bg _ _ qQ),by rw[PV.len,List.length_map,List.length_map,List.length_map],fun i u m hu hm=>?_,fun sY=>?_,fun i u m hu hm aqU=>?_⟩
 ·obtain⟨p,hp,pK⟩:=YD.get hu
  rw[List.getElem?_map,hp] at hm
  cases hm
  exact cp.of pK
 ·have hr0:r=[]:=by
   have:=PV.len
   rw[sY,List.length_map] at this
   exact List.length_eq_zero_iff.mp this.symm
  subst hr0
  exact k t _ ak (aM.trans bg)
 obtain⟨p,hp,pK⟩:=YD.get hu
 rw[List.getElem?_map,hp] at hm
 cases hm
 have e:bT x r=p:=ajd (List.mem_of_getElem? hp) fun c hc z=>by
  have:=aqU [(c.1:Int),(c.2:Int)] (List.mem_map.mpr ⟨c,hc,rfl⟩)
  rw[amX,decide_eq_false_iff_not] at this
  exact this z
 refine k u _ ?_ (aM.trans bg)
 rw[e]
 exact pK
inductive eR (H:Hp):List Addr->List (List Nat)->Prop
 | nil:eR H [] []
 | cons {x:Addr}{c:List Nat}{xs:List Addr}{cs:List (List Nat)}:H x=some (.lst (c.map nV))->eR H xs cs->eR H (x::xs) (c::cs)
inductive dO (H:Hp):List Addr->List (List (Nat×Nat))->Prop
 | nil:dO H [] []
 | cons {x:Addr}{c:List (Nat×Nat)}{xs:List Addr}{cs:List (List (Nat×Nat))}:H x=some (.dK (dictOf c))->dO H xs cs->dO H (x::xs) (c::cs)
theorem eR.len {H:Hp}{xs:List Addr}{cs:List (List Nat)} (h:eR H xs cs):xs.length=cs.length:=by
 induction h with
 | nil=>rfl
 | cons _ _ ih=>rw[List.length_cons,List.length_cons,ih]
theorem eR.same {H H':Hp}{xs:List Addr}{cs:List (List Nat)} (h:eR H xs cs) (s:au H H'):eR H' xs cs:=by
 induction h with
 | nil=>exact .nil
 | cons h _ ih=>exact .cons (s _ _ h) ih
theorem eR.get {H:Hp}{xs:List Addr}{cs:List (List Nat)} (h:eR H xs cs):∀ {i:Nat}{x:Addr},xs[i]?=some x->∃ c,cs[i]?=some c/\H x=some (.lst (c.map nV)):=by
 induction h with
 | nil=>intro i x e;cases e
 | @cons x c xs cs h _ ih =>
  intro i u e
  cases i with
  | zero=>cases e;exact⟨c,rfl,h⟩
  | succ i=>exact ih e
theorem eR.snoc {H:Hp}{xs:List Addr}{cs:List (List Nat)}{x:Addr}{c:List Nat} (h:eR H xs cs) (k:H x=some (.lst (c.map nV))):eR H (xs++[x]) (cs++[c]):=by
 induction h with
 | nil=>exact .cons k .nil
 | cons g _ ih=>exact .cons g ih
theorem eR.kp {H H':Hp}{y:Addr}{xs:List Addr}{cs:List (List Nat)} (h:eR H xs cs) (n:y∉xs) (s:Kp y H H'):eR H' xs cs:=by
 induction h with
 | nil=>exact .nil
 | cons h _ ih=>exact .cons (s _ _ h fun z=>n (by rw[z];exact List.mem_cons_self)) (ih fun z=>n (List.mem_cons_of_mem _ z))
theorem dO.len {H:Hp}{xs:List Addr}{cs:List (List (Nat×Nat))} (h:dO H xs cs):xs.length=cs.length:=by
 induction h with
 | nil=>rfl
 | cons _ _ ih=>rw[List.length_cons,List.length_cons,ih]
theorem dO.kp {H H':Hp}{y:Addr}{o:HO}{xs:List Addr}{cs:List (List (Nat×Nat))} (h:dO H xs cs) (ho:H y=some o) (no:∀ l,o≠.dK l) (s:Kp y H H'):dO H' xs cs:=by
 induction h with
 | nil=>exact .nil
 | cons h _ ih=>exact .cons (s _ _ h fun z=>by rw[z,ho] at h;exact no _ (Option.some.inj h)) ih
theorem dO.same {H H':Hp}{xs:List Addr}{cs:List (List (Nat×Nat))} (h:dO H xs cs) (s:au H H'):dO H' xs cs:=by
 induction h with
 | nil=>exact .nil
 | cons h _ ih=>exact .cons (s _ _ h) ih
theorem dO.get {H:Hp}{xs:List Addr}{cs:List (List (Nat×Nat))} (h:dO H xs cs):∀ {i:Nat}{x:Addr},xs[i]?=some x->∃ c,cs[i]?=some c/\H x=some (.dK (dictOf c)):=by
 induction h with
 | nil=>intro i x e;cases e
 | @cons x c xs cs h _ ih =>
  intro i u e
  cases i with
  | zero=>cases e;exact⟨c,rfl,h⟩
  | succ i=>exact ih e
theorem dO.snoc {H:Hp}{xs:List Addr}{cs:List (List (Nat×Nat))}{x:Addr}{c:List (Nat×Nat)} (h:dO H xs cs) (k:H x=some (.dK (dictOf c))):dO H (xs++[x]) (cs++[c]):=by
 induction h with
 | nil=>exact .cons k .nil
 | cons g _ ih=>exact .cons g ih
theorem Vw {r:List (Nat×Nat)}{k v:Nat} (h:k∉r.map fun p=>p.1):putK (dictOf r) (Sum.inl (k:Int)) (nV v)=dictOf (r++[(k,v)]):=by
 have e:((dictOf r).any fun kv=>decide (kv.1=Sum.inl (k:Int)))=false:=by
  rw[List.any_eq_false]
  intro p hp
  obtain⟨q,hq,rfl⟩:=List.mem_map.mp hp
  rw[decide_eq_true_eq]
  intro z
  injection z with z
  exact h (List.mem_map.mpr ⟨q,hq,by omega⟩)
 unfold putK
 rw[if_neg (by rw[e];simp)]
 unfold dictOf
 rw[List.map_append]
 rfl
theorem alz (c:List Nat) (later:List (Nat×Nat)):(restOf c later).map (fun p=>p.1)=c:=by
 unfold restOf
 rw[List.map_map]
 exact List.map_id _
def amY (K:W.Frag):Sp:=fun vs H Q _=>∃ (C:Addr) (xs:List Addr) (cs:List (List Nat)),vs=[.ref C]/\H C=some (.lst (xs.map V.ref))/\eR H xs cs/\(∀ c∈cs,c.Nodup/\c.length<=1000)/\cs.length<=1000 /\
 ∀ (R:Addr) (ds:List Addr) (H':Hp),H' R=some (.lst (ds.map V.ref))->dO H' ds (aT cs)->au H H'->Q (.ref R) H'
theorem aa5 (T:Txt w K mg a):aN P w K mg base bC true 2 a.mR a.wy ["choices"] (amY K):=by
 refine T.AX.ok pR (fun vs H Q E h=>?_) (fun aF A outer s H vs Q E hr h=>?_)
 ·obtain⟨_,_,_,rfl,_⟩:=h
  rfl
 obtain⟨C,xs,cs,rfl,hC,LV,qI,hlen,k⟩:=h
 refine⟨_,(ao (aK (i:=1) pR.nd rfl (Or.inl rfl) (cP ag))
  (ao (aK (i:=2) pR.nd rfl (Or.inl rfl) DN)
  (ao (dS PassesOwn.never rfl (ahw rfl T.yf (aa (pv 0) ag)) (bM (i:=3) pR.nd rfl (Or.inl rfl)) (ao (aK (i:=4) pR.nd rfl (Or.inl rfl) DN)
  (ao (dS PassesOwn.never rfl (eG (pv 3)) (bM (i:=5) pR.nd rfl (Or.inl rfl)) (aw (yQ (n6 hr) (pv 4) (pv 5) (bR qg (bQ (Si T) (hr.mono (by decide)) rfl T.C3 T.yc.kp T.Dl .nil aL (aa (pv 5) (aa (pv 2) ag))) aB (fun _ _=>rfl)) rfl)))
  (ao (bY (gP PySem.F.plainAttrs_list PySem.F.slot_list_append PySem.F.type_list_append mi (pv 1) (aa (pv 4) ag)))
  (aw (aK (i:=2) pR.nd rfl (Or.inl rfl) (pv 4)))))))
  (ao (bY (apn PySem.F.plainAttrs_list PySem.F.slot_list_reverse PySem.F.type_list_reverse aiX (pv 1)))
  (aw (bc (pv 1))))))),?_⟩
 refine⟨Nat.zero_le _,fun R hR=>?_⟩
 intro d0 qT
 have cT:au H (upd (upd H R (.lst [])) d0 (.dK [])):=(aW hR).trans (aW qT)
 have hRd:R≠d0:=fun z=>by rw[<- z,ak] at qT;cases qT
 refine⟨_,rfl,C,xs.map V.ref,rfl,aq.of (cT _ _ hC),?_⟩
 refine Ww (n:=cs.length) (fun i σ' H'=>∃ (c3 c4 c5:Option V) (ds:List Addr) (dl:Addr),σ'=[some (.ref C),some (.ref R),some (.ref dl),c3,c4,c5]/\au H H'/\H' R=some (.lst (ds.reverse.map V.ref))/\dO H' ds (aT (cs.drop (cs.length-i)))/\H' dl=some (.dK (dictOf ((aT (cs.drop (cs.length-i))).headD [])))/\i<=cs.length)
  ⟨none,none,none,[],d0,rfl,cT,by rw[ai hRd];exact ak,by rw[Nat.sub_zero,List.drop_length];exact .nil,by rw[Nat.sub_zero,List.drop_length];exact ak,Nat.zero_le _⟩ (fun i σ' H' hi hp=>?_) (fun σ' H' hp=>?_) ?_ ?_
 ·obtain⟨_,_,_,_,_,_,sm,_⟩:=hp
  have g7:xs.length=cs.length:=LV.len
  obtain⟨x,hx⟩:∃ x,(xs.map V.ref)[(xs.map V.ref).length-1-i]?=some x:=⟨_,List.getElem?_eq_getElem (by rw[List.length_map];omega)⟩
  exact⟨by rw[List.length_map,LV.len];exact hi,_,x,aq.of (sm _ _ hC),hx⟩
 ·show(xs.map V.ref).length<=cs.length
  rw[List.length_map,LV.len]
  exact Nat.le_refl _
 ·rintro i v σ' H2 H' hi ⟨c3,c4,c5,ds,dl,rfl,sm,pL,DV,ow,hle⟩ ⟨rfl,hv⟩
  have iF:=hv _ (aq.of (sm _ _ hC))
  rw[List.length_map,LV.len,List.getElem?_map] at iF
  cases hx:xs[cs.length-1-i]? with
  | none=>rw[hx] at iF;cases iF
  | some x =>
   rw[hx] at iF
   obtain rfl:V.ref x=v:=Option.some.inj iF
   obtain⟨c,hc,YE⟩:=LV.get hx
   obtain⟨cnd,av6⟩:=qI c (List.mem_of_getElem? hc)
   have WW:cs.drop (cs.length-(i+1))=c::cs.drop (cs.length-i):=by
    obtain⟨aO,e⟩:=List.getElem?_eq_some_iff.mp hc
    rw[show cs.length-(i+1)=cs.length-1-i by omega,List.drop_eq_getElem_cons aO,e,show cs.length-1-i+1=cs.length-i by omega]
   have El:((aT (cs.drop (cs.length-i))).headD []).length<=1000:=by
    cases hcs:cs.drop (cs.length-i) with
    | nil=>exact Nat.zero_le _
    | cons c' l =>
     show(restOf c' _).length<=1000
     unfold restOf
     rw[List.length_map]
     exact(qI c' (List.mem_of_mem_drop (by rw[hcs];exact List.mem_cons_self))).2
   intro dr qU
   have YF:=aW (o:=.dK []) qU
   have asf:dr≠R:=fun z=>by rw[z,pL] at qU;cases qU
   have av7:H dr=none:=sm.free qU
   refine⟨_,rfl,x,rfl,⟨_,aq.of (YF _ _ (sm _ _ YE))⟩,nJ (xs:=c.map nV) (fun t σ' H3=>∃ c5:Option V,σ'=[some (.ref C),some (.ref R),some (.ref dl),some (.ref x),some (.ref dr),c5]/\au H' H3/\H3 dr=some (.dK (dictOf (restOf (c.take t) ((aT (cs.drop (cs.length-i))).headD []))))) ⟨c5,rfl,YF,ak⟩ (fun t σ' H3 _ hp=>by obtain⟨_,_,s3,_⟩:=hp;exact aq.of (s3 _ _ (sm _ _ YE))) ?_ ?_⟩
   ·rintro t v σ2 H3 hv ⟨c5,rfl,bj,fC⟩
    rw[List.getElem?_map] at hv
    cases hy:c[t]? with
    | none=>rw[hy] at hv;cases hv
    | some y =>
     rw[hy] at hv
     obtain rfl:nV y=v:=Option.some.inj hv
     refine⟨_,rfl,_,rfl,y,dl,_,rfl,bj _ _ ow,El,fun tp H4 F0 bh=>?_⟩
     refine⟨tp,_,_,_,rfl,rfl,cp.of F0,rfl,_,rfl,_,rfl,dr,_,rfl,mC.k (k:=Sum.inl (y:Int)) (bh _ _ fC) ?_,?_⟩
     ·unfold dictOf restOf
      rw[List.length_map,List.length_map,List.length_take,sizeLine_eq]
      omega
     refine⟨_,rfl,eQ (bj.trans bh) qU,?_⟩
     rw[ak,Vw ?_,List.take_add_one,hy]
     ·unfold restOf
      rw[List.map_append]
      rfl
     rw[alz]
     intro z
     obtain⟨j,hj,ej⟩:=List.getElem_of_mem z
     have F5:j<t:=by rw[List.length_take] at hj;omega
     rw[List.getElem_take] at ej
     obtain⟨aO,e⟩:=List.getElem?_eq_some_iff.mp hy
     exact(List.pairwise_iff_getElem.mp cnd) j t (by omega) aO F5 (ej.trans e.symm)
   rintro σ2 H3 ⟨c5,rfl,bj,fC⟩
   rw[List.length_map,List.take_length] at fC
   refine⟨_,rfl,.inl ⟨rfl,_,aq.of (bj _ _ pL)⟩,_,rfl,R,_,_,rfl,rfl,bj _ _ pL,?_,?_⟩
   ·rw[List.length_map,List.length_reverse,DV.len,sizeLine_eq]
    have:(aT (cs.drop (cs.length-i))).length<=1000:=by
     have hf:∀ l:List (List Nat),(aT l).length=l.length:=fun l=>by
      induction l with
      | nil=>rfl
      | cons c l ih=>show(aT l).length+1=_;rw[ih];rfl
     rw[hf,List.length_drop]
     omega
    omega
   have YG:Kp R H3 (upd H3 R (.lst (ds.reverse.map V.ref++[V.ref dr]))):=Kp.upd
   have Xy:=YG _ _ fC asf
   refine⟨_,rfl,_,_,_,dr::ds,dr,rfl,eQ (sm.trans bj) hR,?_,?_,?_,by omega⟩
   ·rw[ak,List.reverse_cons,List.map_append]
    rfl
   ·rw[WW]
    exact .cons Xy ((DV.same bj).kp (bj _ _ pL) (fun _ z=>nomatch z) YG)
   rw[WW]
   exact Xy
 rintro σ' H' ⟨c3,c4,c5,ds,dl,rfl,sm,pL,DV,ow,_⟩
 refine⟨_,rfl,.inl ⟨rfl,_,aq.of pL⟩,R,_,rfl,rfl,pL,?_⟩
 rw[Nat.sub_self,List.drop_zero] at DV
 refine⟨_,rfl,k R ds _ ?_ (DV.kp pL (fun _ z=>nomatch z) Kp.upd) (eQ sm hR)⟩
 rw[ak,<- List.map_reverse,List.reverse_reverse]
end
end RF
end
section
namespace RF
open PySem PySem.Spec PyProof.Rows L2 LX LM
open Rol (Bytes Means Wish)
theorem Vx {b:Rol.Bar}{m:Means}:decide (aY b m≠0)=(b.find m).isSome:=by
 unfold aY
 cases b.find m with
 | none=>rfl
 | some t =>
  have:2 ^ t≠0:=Nat.pos_iff_ne_zero.mp (Nat.two_pow_pos t)
  simp[this]
section
variable {P:Program}{w:World}{K:W.Frag}{mg:Str->Option Value}{base:Heap}{a:aC}
def ajx (K:W.Frag):Sp:=fun vs H Q _=>∃ (d:Addr) (r:List (Nat×Nat)),vs=[.ref d]/\H d=some (.dK (dictOf r))/\r≠[]/\r.length<=1000 /\
 ∀ (R:Addr) (M:Nat) (H':Hp),M∈r.map (fun p=>p.2)->(∀ y∈r.map (fun p=>p.2),M<=y)->H' R=some (.lst (((r.filter fun p=>p.2==M).map fun p=>p.1).map nV))->H R=none->au H H'->Q (.ref R) H'
theorem Zx (T:Txt w K mg a):aN P w K mg base bC true 1 a.mP a.wa ["costs"] (ajx K):=by
 refine T.AD.ok tq (fun vs H Q E h=>?_) (fun aF A outer s H vs Q E hr h=>?_)
 ·obtain⟨_,_,rfl,_⟩:=h
  rfl
 obtain⟨d,r,rfl,hd,cq,hlen,k⟩:=h
 refine⟨_,(ao (aK (i:=1) tq.nd rfl (Or.inr rfl) (da (al1 rfl) rfl T.nX rV (aa (ao3 (pv 0)) ag)))
  (aw (bc (anM (iy (own:=[("value",2),("cost",3)]) rfl tq.nd (U9 (pv 0)) (gE rfl) (fun _ _ _ _ _=>by exact(V0 rfl (ig (bM (i:=2) tq.nd rfl (Or.inl rfl)) (ig (bM (i:=3) tq.nd rfl (Or.inl rfl)) rQ)))) (fun _ _ _ _ _=>by exact(yP (cg fw (pv 3) (pv 1) (bS _)))) (fun _ _ _ _ _=>by exact(pv 2))))))),?_⟩
 refine⟨_,rfl,d,_,rfl,hd,fun va hva=>?_⟩
 have aM:=aW (o:=XO va (zg d)) hva
 have sV:=aM _ _ hd
 refine⟨va,d,dictOf r,(r.map fun p=>p.2).map fun (n:Nat)=>(n:Int),rfl,ak,sV,?_,?_,fun m hm ES=>?_⟩
 ·unfold dictOf
  rw[List.map_map,List.map_map,List.map_map]
  rfl
 ·rw[List.length_map,List.length_map]
  exact List.length_pos_iff.mpr cq
 obtain⟨M,hM,rfl⟩:=List.mem_map.mp hm
 have aqV:∀ y∈r.map (fun p=>p.2),M<=y:=fun y hy=>by
  have:=ES (y:Int) (List.mem_map.mpr ⟨y,hy,rfl⟩)
  omega
 refine⟨d,.dK (dictOf r),sV,trivial,fun od=>?_⟩
 refine⟨_,rfl,d,od,dictOf r,rfl,ak,fun D hD=>?_⟩
 have Ac:D≠d:=fun z=>by rw[z,ak] at hD;cases hD
 have qS:upd H va (XO va (zg d)) D=none:=by rw[ai Ac] at hD;exact hD
 refine aqK (n:=r.length) (fun i H'=>Kp d H H'/\H' d=some (.bK od (.dK (dictOf r)))/\H' D=some (.lst ((((r.take i).filter fun p=>p.2==M).map fun p=>p.1).map nV))) ⟨fun b o hb n=>?_,?_,ak⟩ (fun i H' hi hp=>⟨hp.2.1,by unfold dictOf;rw[List.length_map];exact hi⟩) (fun H' hp=>⟨hp.2.1,by unfold dictOf;rw[List.length_map];exact Nat.le_refl _⟩) ?_ ?_
 ·rw[ai (aJ (aM _ _ hb) qS),ai n]
  exact aM _ _ hb
 ·rw[ai (Ne.symm Ac)]
  exact ak
 ·rintro i v H' H2 hi ⟨kp,hf,hl⟩ ⟨t0,key,val,sS,rfl,FZ,rfl⟩
  obtain⟨p,hp,rfl,rfl⟩:=TY sS
  have cT:=aW (o:=.tup [kV (Sum.inl (p.1:Int)),nV p.2]) FZ
  have hDH:H D=none:=aM.free qS
  refine⟨t0,_,rfl,cp.of ak,rfl,_,_,rfl,_,_,rfl,rfl,rfl,_,rfl,_,rfl,rfl,_,rfl,?_⟩
  show if decide (nV p.2=nV M)=true then _ else _
  have aO:=(List.getElem?_eq_some_iff.mp hp).1
  by_cases q:p.2=M
  ·rw[decide_eq_true (show nV p.2=nV M by rw[q])]
   refine aX ⟨_,rfl,_,cT _ _ hl,?_,fun b o hb n=>?_,?_,?_⟩
   ·have:=List.length_filter_le (fun p:Nat×Nat=>p.2==M) (r.take i)
    rw[List.length_map,List.length_map,sizeLine_eq]
    rw[List.length_take] at this
    omega
   ·rw[ai (aJ hb hDH)]
    exact cT _ _ (kp b o hb n)
   ·rw[ai (Ne.symm Ac)]
    exact cT _ _ hf
   rw[ak,List.take_add_one,hp,List.filter_append]
   show some (HO.lst (_++[nV p.1]))=some (HO.lst (List.map nV (List.map _ (_++List.filter _ [p]))))
   rw[List.filter_cons_of_pos (by simpa using q),List.filter_nil,List.map_append,List.map_append]
   rfl
  rw[decide_eq_false (show ¬ nV p.2=nV M from fun z=>q (by unfold nV at z;injection z with z;omega))]
  refine aE ⟨fun b o hb n=>cT _ _ (kp b o hb n),cT _ _ hf,?_⟩
  rw[cT _ _ hl,List.take_add_one,hp,List.filter_append]
  show _=some (HO.lst (List.map nV (List.map _ (_++List.filter _ [p]))))
  rw[List.filter_cons_of_neg (by simpa using q),List.filter_nil,List.append_nil]
 rintro H' ⟨kp,hf,hl⟩
 rw[List.take_length] at hl
 refine⟨hf,k D M _ hM aqV (by rw[ai Ac];exact hl) (aM.free qS) fun b o hb=>?_⟩
 by_cases q:b=d
 ·rw[q,ak,<- hd,<- q,hb]
 rw[ai q]
 exact kp b o hb q
def ee (b:Rol.Bar) (vs:List Nat) (s:List Wish):List (Nat×Nat):=vs.map fun v=>(v,bX b v s)
theorem ajy (b:Rol.Bar) (vs:List Nat) (s:List Wish):(ee b vs s).map (fun p=>p.1)=vs:=by
 unfold ee
 rw[List.map_map]
 exact List.map_id _
def aou (K:W.Frag) (a:aC):Sp:=fun vs H Q _=>∃ (bA nA dA VA SA:Addr) (b:Rol.Bar) (l:List Nat) (xs:List Addr) (s:List Wish),vs=[.ref bA,.ref VA,.ref SA]/\fc a.ba H bA nA dA b/\H VA=some (.lst (l.map nV))/\l.Nodup/\(∀ v∈l,v<8)/\l.length<=1000/\H SA=some (.lst (xs.map V.ref))/\bI a H xs s/\s.length<=1000 /\
 ∀ (d:Addr) (H':Hp),H' d=some (.dK (dictOf (ee b l s)))->H d=none->au H H'->Q (.ref d) H'
theorem adm (T:Txt w K mg a):aN P w K mg base bC true 2 a.ng a.xu ["bar","values","span"] (aou K a):=by
 refine T.B8.ok rh (fun vs H Q E h=>?_) (fun aF A outer s H vs Q E hr h=>?_)
 ·obtain⟨_,_,_,_,_,_,_,_,_,rfl,_⟩:=h
  rfl
 obtain⟨bA,nA,dA,VA,SA,b,l,xs,s,rfl,BA,hV,F6,lv,sx,hS,WV,Xz,k⟩:=h
 refine⟨_,(ao (aK (i:=3) rh.nd rfl (Or.inl rfl) DN)
  (ao (dS PassesOwn.never rfl (eG (pv 1)) (bM (i:=4) rh.nd rfl (Or.inl rfl)) (ao (aK (i:=5) rh.nd rfl (Or.inr rfl) (da (yx rfl) rfl T.nX rV (aa (bf (pv 0) T.bU T.AY (J7 T) (hr.mono (by decide)) T.Bt .nil aL (aa (pv 4) ag)) (aa (cC rfl T.rE) ag))))
  (aw (yQ (n6 hr) (pv 3) (pv 4) (da (apr rfl) rfl T.zm apN (aa (iy (own:=[("wish",6)]) rfl rh.nd (eG (pv 2)) (gE rfl) (fun _ _ _ _ _=>by exact(bM (i:=6) rh.nd rfl (Or.inl rfl))) (fun _ _ _ _ _=>by exact mq) (fun _ _ _ _ _=>by exact(da am8 rfl T.zl apM (aa (bp mw (pv 5) (yU (pv 6) rfl)) ag)))) ag)) rfl))))
  (aw (bc (pv 3))))),?_⟩
 intro d0 qT
 have cT:=aW (o:=.dK []) qT
 refine⟨_,rfl,VA,rfl,⟨_,aq.of (cT _ _ hV)⟩,nJ (xs:=l.map nV) (fun t σ' H'=>∃ c4 c5 c6:Option V,σ'=[some (.ref bA),some (.ref VA),some (.ref SA),some (.ref d0),c4,c5,c6]/\au H H'/\H' d0=some (.dK (dictOf (ee b (l.take t) s)))) ⟨none,none,none,rfl,cT,ak⟩ (fun t σ' H' _ hp=>by obtain⟨_,_,_,_,s',_⟩:=hp;exact aq.of (s' _ _ hV)) ?_ ?_⟩
 ·rintro t v σ2 H3 hv ⟨c4,c5,c6,rfl,bj,hd3⟩
  rw[List.getElem?_map] at hv
  cases hy:l[t]? with
  | none=>rw[hy] at hv;cases hv
  | some y =>
   rw[hy] at hv
   obtain rfl:nV y=v:=Option.some.inj hv
   have hy8:=lv y (List.mem_of_getElem? hy)
   obtain⟨bw,bu⟩:=(BA.same bj).obj
   refine⟨_,rfl,bA,bw,_,rfl,bu,rfl,_,rfl,bA,nA,dA,bw,b,y,rfl,bu,by omega,_,_,rfl,?_⟩
   have ef:(if (127:Int)<((b.base+b.step*y:Nat):Int) then (127:Int) else ((b.base+b.step*y:Nat):Int))=((min 127 (b.base+b.step*y):Nat):Int):=by split <;> omega
   refine⟨_,rfl,SA,rfl,⟨_,aq.of (bj _ _ hS)⟩,fun D hD=>?_⟩
   refine jh (xs:=xs.map V.ref) (fun i H'=>au H3 H'/\H' D=some (.lst (((s.take i).map fun (u:Wish)=>((Rol.apartBy (min 127 (b.base+b.step*y)) u.force:Nat):Int)).map V.int))) ⟨aW hD,ak⟩ (fun i H' _ hp=>aq.of (hp.1 _ _ (bj _ _ hS))) ?_ ?_
   ·rintro i v H' hv ⟨aV,hL⟩
    obtain⟨x,u,rfl,hx,hu,dx,ho⟩:=((WV.same bj).same aV).at_ hv
    have aO:=(List.getElem?_eq_some_iff.mp hu).1
    refine⟨rfl,_,rfl,_,rfl,x,_,dx,_,_,rfl,ho,T.fq,T.rn,UM _,_,_,rfl,rfl,_,rfl,_,hL,?_,eQ aV hD,?_⟩
    ·rw[List.length_map,List.length_map,List.length_take,sizeLine_eq]
     omega
    rw[ak,List.take_add_one,hu,List.map_append,List.map_append]
    show some (HO.lst (_++[V.int (if (if (127:Int)<((b.base+b.step*y:Nat):Int) then (127:Int) else ((b.base+b.step*y:Nat):Int))-(u.force:Int)<0 then -((if (127:Int)<((b.base+b.step*y:Nat):Int) then (127:Int) else ((b.base+b.step*y:Nat):Int))-(u.force:Int)) else (if (127:Int)<((b.base+b.step*y:Nat):Int) then (127:Int) else ((b.base+b.step*y:Nat):Int))-(u.force:Int))]))=some (HO.lst (_++[V.int ((Rol.apartBy (min 127 (b.base+b.step*y)) u.force:Nat):Int)]))
    rw[ef,al9]
    congr 5
    split <;> omega
   rintro H4 ⟨bh,hL⟩
   rw[List.length_map,WV.len,List.take_length] at hL
   refine⟨D,_,rfl,aq.of hL,?_⟩
   rw[amE]
   refine⟨_,rfl,_,rfl,d0,_,rfl,mC.k (k:=Sum.inl (y:Int)) (bh _ _ hd3) ?_,?_⟩
   ·unfold dictOf ee
    rw[List.length_map,List.length_map,List.length_take,sizeLine_eq]
    omega
   refine⟨_,_,_,rfl,eQ (bj.trans bh) qT,?_⟩
   have hp:=Vw (r:=ee b (l.take t) s) (k:=y) (v:=bX b y s) (by
    rw[ajy]
    intro z
    obtain⟨j,hj,ej⟩:=List.getElem_of_mem z
    have F5:j<t:=by rw[List.length_take] at hj;omega
    rw[List.getElem_take] at ej
    obtain⟨aO,e⟩:=List.getElem?_eq_some_iff.mp hy
    exact(List.pairwise_iff_getElem.mp F6) j t (by omega) aO F5 (ej.trans e.symm))
   rw[ak]
   show some (HO.dK (putK (dictOf (ee b (l.take t) s)) (Sum.inl (y:Int)) (nV (bX b y s))))=_
   rw[hp,List.take_add_one,hy]
   unfold ee
   rw[List.map_append]
   rfl
 rintro σ' H' ⟨c4,c5,c6,rfl,aV,sG⟩
 rw[List.length_map,List.take_length] at sG
 exact⟨_,rfl,k d0 H' sG qT aV⟩
def amZ (K:W.Frag) (a:aC):Sp:=fun vs H Q _=>∃ (bA nA dA:Addr) (b:Rol.Bar) (k:Nat),vs=[.ref bA,nV k]/\fc a.ba H bA nA dA b/\gd b /\
 ∀ (R:Addr) (H':Hp),H' R=some (.lst ((Rol.values b k).map nV))->au H H'->Q (.ref R) H'
theorem adn (T:Txt w K mg a):aN P w K mg base bC true 2 a.nc a.xt ["bar","side"] (amZ K a):=by
 refine T.B7.ok rg (fun vs H Q E h=>?_) (fun aF A outer s H vs Q E hr h=>?_)
 ·obtain⟨_,_,_,_,_,rfl,_⟩:=h
  rfl
 obtain⟨bA,nA,dA,b,k,rfl,BA,ok,kq⟩:=h
 rw[al7] at kq
 refine⟨_,(ao (aK (i:=2) rg.nd rfl (Or.inl rfl) (cP (aa aB ag)))
  (ao (cn (cg fw (bf (pv 0) T.bU T.kM (mS T) (hr.mono (by decide)) T.kX .nil aL (aa jk (aa (pv 1) (aa aB ag)))) aB (bS _)) (aw (bc (pv 2))) cv)
  (ao (dS PassesOwn.never rfl (rJ rfl T.je (aa aB ag)) (bM (i:=3) rg.nd rfl (Or.inr rfl)) (aw (cn (cg mz (bf (pv 0) T.bU T.kM (mS T) (hr.mono (by decide)) T.kX .nil aL (aa jk (aa (pv 3) (aa (pv 1) ag)))) aB (bS _)) (aw (aK (i:=2) rg.nd rfl (Or.inl rfl) (bp uy (pv 2) (iy (own:=[("value",4)]) rfl rg.nd (eG (pv 2)) (gE rfl) (fun _ _ _ _ _=>by exact(bM (i:=4) rg.nd rfl (Or.inl rfl))) (fun _ _ _ _ _=>by exact mq) (fun _ _ _ _ _=>by exact(bp fN (pv 4) (bp ze aB (pv 3)))))))) cv)))
  (aw (bc (pv 2)))))),?_⟩
 refine⟨(by show 1<=sizeLine;decide),fun L0 hL0=>?_⟩
 have cT:=aW (o:=.lst [V.int 0]) hL0
 obtain⟨bw,bu⟩:=(BA.same cT).obj
 refine⟨_,rfl,bA,bw,_,rfl,bu,rfl,_,rfl,bA,nA,dA,b,.cancel k,rfl,BA.same cT,ok,fun H1 aM=>⟨rfl,_,rfl,?_⟩⟩
 show if decide (nV (aY b (.cancel k))=V.int 0)=true then _ else _
 have fY:=cT.trans aM
 have hb:=Vx (b:=b) (m:=.cancel k)
 by_cases q:aY b (.cancel k)=0
 ·rw[decide_eq_true (show nV (aY b (.cancel k))=V.int 0 by rw[q];rfl)]
  rw[decide_eq_false (fun z=>z q)] at hb
  rw[if_neg (by rw[<- hb];simp)] at kq
  exact aX ⟨_,rfl,kq L0 H1 (aM _ _ ak) fY⟩
 rw[decide_eq_false (show ¬ nV (aY b (.cancel k))=V.int 0 from fun z=>q (by unfold nV at z;injection z with z;omega))]
 rw[decide_eq_true q] at hb
 rw[if_pos hb.symm] at kq
 refine aE ⟨3,rfl,by decide,by decide,t9 (fun i σ' H'=>∃ (R:Addr) (c3 c4:Option V),σ'=[some (.ref bA),some (nV k),some (.ref R),c3,c4]/\au H H'/\H' R=some (.lst ((gb (fun i=>(b.find (.lock i k)).isSome) i).map nV))/\(gb (fun i=>(b.find (.lock i k)).isSome) i).length<=2 ^ i) ⟨L0,none,none,rfl,fY,aM _ _ ak,Nat.le_refl _⟩ ?_ ?_⟩
 ·rintro i σ' H' hi ⟨R,c3,c4,rfl,aV,hR,hle⟩
  obtain⟨ash,asi⟩:=(BA.same aV).obj
  refine⟨_,rfl,bA,ash,_,rfl,asi,rfl,_,rfl,_,rfl,bA,nA,dA,b,.lock i k,?_,BA.same aV,ok,fun H2 bg=>⟨rfl,_,rfl,?_⟩⟩
  ·show[V.ref bA,V.str "lock",V.int (0+(i:Int)),nV k]=_
   rw[Int.zero_add]
   rfl
  show if (!decide (nV (aY b (.lock i k))=V.int 0))=true then _ else _
  have e2:(!decide (nV (aY b (.lock i k))=V.int 0))=(b.find (.lock i k)).isSome:=by
   rw[show(!decide (nV (aY b (.lock i k))=V.int 0))=decide (aY b (.lock i k)≠0) from l5 _,Vx]
  rw[e2]
  have av8:(2:Nat) ^ i<=2 ^ 3:=Nat.pow_le_pow_right (by decide) (by omega)
  cases hf:(b.find (.lock i k)).isSome with
  | false =>
   refine aE ⟨R,_,_,rfl,aV.trans bg,?_,?_⟩
   ·show H2 R=some (.lst ((if (b.find (.lock i k)).isSome=true then _ else gb (fun i=>(b.find (.lock i k)).isSome) i).map nV))
    rw[hf,if_neg (by simp)]
    exact bg _ _ hR
   show(if (b.find (.lock i k)).isSome=true then _ else gb (fun i=>(b.find (.lock i k)).isSome) i).length<=_
   rw[hf,if_neg (by simp),Nat.pow_succ]
   omega
  | true =>
   have F7:=bg _ _ hR
   refine aX ⟨_,rfl,_,rfl,R,rfl,⟨_,aq.of F7⟩,fun D hD=>?_⟩
   refine jh (xs:=(gb (fun i=>(b.find (.lock i k)).isSome) i).map nV) (fun t H'=>au H2 H'/\H' D=some (.lst ((((gb (fun i=>(b.find (.lock i k)).isSome) i).take t).map fun v=>v+2 ^ i).map nV))) ⟨aW hD,ak⟩ (fun t H' _ hp=>aq.of (hp.1 _ _ F7)) ?_ ?_
   ·rintro t v H' hv ⟨bj,hL⟩
    rw[List.getElem?_map] at hv
    cases hy:(gb (fun i=>(b.find (.lock i k)).isSome) i)[t]? with
    | none=>rw[hy] at hv;cases hv
    | some y =>
     rw[hy] at hv
     obtain rfl:nV y=v:=Option.some.inj hv
     have aO:=(List.getElem?_eq_some_iff.mp hy).1
     refine⟨rfl,_,rfl,_,rfl,_,_,rfl,rfl,⟨by omega,by omega,by decide⟩,_,_,rfl,rfl,_,hL,?_,eQ bj hD,?_⟩
     ·rw[List.length_map,List.length_map,List.length_take,sizeLine_eq]
      omega
     rw[ak,List.take_add_one,hy,List.map_append,List.map_append]
     show some (HO.lst (_++[V.int ((y:Int)+1*2 ^ ((0:Int)+(i:Int)).toNat)]))=_
     rw[Int.zero_add,uq]
     rfl
   rintro H3 ⟨bj,hL⟩
   rw[List.length_map,List.take_length] at hL
   refine⟨R,D,_,_,rfl,rfl,bj _ _ F7,hL,?_,fun q2 eN=>?_⟩
   ·rw[List.length_map,List.length_map,List.length_map,sizeLine_eq]
    omega
   refine⟨q2,_,_,rfl,((aV.trans bg).trans bj).trans (aW eN),?_,?_⟩
   ·show _=some (HO.lst ((if (b.find (.lock i k)).isSome=true then gb (fun i=>(b.find (.lock i k)).isSome) i++(gb (fun i=>(b.find (.lock i k)).isSome) i).map (fun v=>v+2 ^ i) else _).map nV))
    rw[hf,if_pos rfl,ak,List.map_append]
   show(if (b.find (.lock i k)).isSome=true then gb (fun i=>(b.find (.lock i k)).isSome) i++(gb (fun i=>(b.find (.lock i k)).isSome) i).map (fun v=>v+2 ^ i) else _).length<=_
   rw[hf,if_pos rfl,List.length_append,List.length_map,Nat.pow_succ]
   omega
 rintro σ' H' ⟨R,c3,c4,rfl,aV,hR,_⟩
 exact⟨_,rfl,kq R H' hR aV⟩
end
end RF
end
section
namespace RF
open PySem PySem.Spec PyProof.Rows L2 LX LM
open Rol (Bytes Means Wish)
inductive cW (a:aC) (H:Hp):List Addr->List (List Wish)->Prop
 | nil:cW a H [] []
 | cons {x:Addr}{ys:List Addr}{s:List Wish}{xs:List Addr}{ss:List (List Wish)}:H x=some (.lst (ys.map V.ref))->bI a H ys s->cW a H xs ss->cW a H (x::xs) (s::ss)
section
variable {P:Program}{w:World}{K:W.Frag}{mg:Str->Option Value}{base:Heap}{a:aC}
theorem cW.len {H:Hp}{xs:List Addr}{ss:List (List Wish)} (h:cW a H xs ss):xs.length=ss.length:=by
 induction h with
 | nil=>rfl
 | cons _ _ _ ih=>rw[List.length_cons,List.length_cons,ih]
theorem cW.same {H H':Hp}{xs:List Addr}{ss:List (List Wish)} (h:cW a H xs ss) (s:au H H'):cW a H' xs ss:=by
 induction h with
 | nil=>exact .nil
 | cons h k _ ih=>exact .cons (s _ _ h) (k.same s) ih
theorem cW.kp {H H':Hp}{y:Addr}{o:HO}{xs:List Addr}{ss:List (List Wish)} (h:cW a H xs ss) (ho:H y=some o) (no:∀ C dx v,o≠.ins C dx (oG v)) (n:y∉xs) (s:Kp y H H'):cW a H' xs ss:=by
 induction h with
 | nil=>exact .nil
 | cons h k _ ih=>exact .cons (s _ _ h fun z=>n (by rw[z];exact List.mem_cons_self)) (k.kp ho no s) (ih fun z=>n (List.mem_cons_of_mem _ z))
theorem cW.get {H:Hp}{xs:List Addr}{ss:List (List Wish)} (h:cW a H xs ss):∀ {i:Nat}{x:Addr},xs[i]?=some x->∃ s ys,ss[i]?=some s/\H x=some (.lst (ys.map V.ref))/\bI a H ys s:=by
 induction h with
 | nil=>intro i x e;cases e
 | @cons x ys s xs ss h k _ ih =>
  intro i u e
  cases i with
  | zero=>cases e;exact⟨s,ys,rfl,h,k⟩
  | succ i=>exact ih e
theorem cW.mem {H:Hp}{xs:List Addr}{ss:List (List Wish)} (h:cW a H xs ss) {x:Addr} (e:x∈xs):∃ o,H x=some o:=by
 induction h with
 | nil=>cases e
 | cons h _ _ ih =>
  rcases List.mem_cons.mp e with rfl | e
  ·exact⟨_,h⟩
  exact ih e
theorem cW.snoc {H:Hp}{xs:List Addr}{ss:List (List Wish)}{x:Addr}{ys:List Addr}{s:List Wish} (h:cW a H xs ss) (k:H x=some (.lst (ys.map V.ref))) (g:bI a H ys s):cW a H (xs++[x]) (ss++[s]):=by
 induction h with
 | nil=>exact .cons k g .nil
 | cons g1 g2 _ ih=>exact .cons g1 g2 ih
theorem cW.WB {H:Hp}{s:List Wish}:∀ {ss:List (List Wish)}{xs:List Addr},cW a H xs (ss++[s])->∃ ix x ys,xs=ix++[x]/\cW a H ix ss/\H x=some (.lst (ys.map V.ref))/\bI a H ys s
 | [],xs,h=>by
  cases h with
  | cons h k r=>cases r;exact⟨[],_,_,rfl,.nil,h,k⟩
 | s0::ss,xs,h=>by
  cases h with
  | @cons x0 ys0 _ xs0 _ h k r =>
   obtain⟨ix,x,ys,rfl,r1,r2,r3⟩:=cW.WB (ss:=ss) r
   exact⟨x0::ix,x,ys,rfl,.cons h k r1,r2,r3⟩
theorem bI.last {H:Hp}:∀ {xs:List Addr}{ws:List Wish}{v:Wish},bI a H xs ws->ws.getLast?=some v->∃ ix x,xs=ix++[x]/\oW a H x v
 | _,_,v,.nil,e=>by cases e
 | _,_,v,@bI.cons _ _ x u xs ws h r,e=>by
  cases r with
  | nil=>cases e;exact⟨[],x,rfl,h⟩
  | @cons x2 u2 xs2 ws2 h2 r2 =>
   rw[List.getLast?_cons_cons] at e
   obtain⟨ix,y,e1,e2⟩:=bI.last (bI.cons h2 r2) e
   exact⟨x::ix,y,by rw[e1];rfl,e2⟩
def aov (K:W.Frag) (a:aC):Sp:=fun vs H Q _=>∃ (L:Addr) (xs:List Addr) (ws:List Wish) (gap:Nat),vs=[.ref L,nV gap]/\H L=some (.lst (xs.map V.ref))/\bI a H xs ws/\ws.length<=1000 /\
 ∀ (S:Addr) (ys:List Addr) (H':Hp),H' S=some (.lst (ys.map V.ref))->cW a H' ys (aZ gap ws)->au H H'->Q (.ref S) H'
theorem y9 (gap:Nat):∀ l:List Wish,(aZ gap l).length<=l.length
 | []=>Nat.le_refl _
 | [w]=>Nat.le_refl _
 | w::v::l=>by
  obtain⟨s,t,e1,e2⟩:=nL gap w v l
  have ih:=y9 gap (v::l)
  rw[e1] at ih
  rw[e2]
  split
  ·simp only [List.length_cons] at ih ⊢;omega
  simp only [List.length_cons] at ih ⊢;omega
theorem Sj {gap:Nat}{l s:List Wish} (h:s∈aZ gap l):s.length<=l.length:=by
 have e:=congrArg List.length (DQ gap l)
 rw[List.length_flatten] at e
 have:s.length<=((aZ gap l).map List.length).sum:=by
  generalize aZ gap l=g at h
  induction g with
  | nil=>cases h
  | cons x g ih =>
   rw[List.map_cons,List.sum_cons]
   rcases List.mem_cons.mp h with rfl | h
   ·omega
   have:=ih h
   omega
 omega
theorem abd (T:Txt w K mg a):aN P w K mg base bC true 1 a.mT a.wR ["wishes","gap"] (aov K a):=by
 refine T.Bs.ok Br (fun vs H Q E h=>?_) (fun aF A outer s H vs Q E hr h=>?_)
 ·obtain⟨_,_,_,_,rfl,_⟩:=h
  rfl
 obtain⟨L,xs,ws,gap,rfl,hL,WV,hlen,k⟩:=h
 refine⟨_,(ao (aK (i:=2) Br.nd rfl (Or.inl rfl) (cP ag))
  (ao (dS PassesOwn.never rfl (eG (pv 0)) (bM (i:=3) Br.nd rfl (Or.inl rfl)) (ao (cn (PW.pt (zq (cg fw (da fm rfl T.eu e7 (aa (pv 2) ag)) aB (bS _)) (D8 (cg Eg (aI (pv 3) rfl) (bp fN (aI (bR cw (bR cw (pv 2) (jr jm aB) (fun _ _=>rfl)) (jr jm aB) (fun _ _=>rfl)) rfl) (pv 1)) (bS _))))) (aw (bY (gP PySem.F.plainAttrs_list PySem.F.slot_list_append PySem.F.type_list_append mi (pv 2) (aa (cP ag) ag)))) cv)
  (aw (bY (gP PySem.F.plainAttrs_list PySem.F.slot_list_append PySem.F.type_list_append mi (bR cw (pv 2) (jr jm aB) (fun _ _=>rfl)) (aa (pv 3) ag))))))
  (aw (bc (pv 2))))),?_⟩
 refine⟨Nat.zero_le _,fun S hS=>?_⟩
 refine⟨_,rfl,L,rfl,⟨_,aq.of ((aW hS) _ _ hL)⟩,nJ (xs:=xs.map V.ref) (fun i σ' H'=>∃ (c3:Option V) (ys:List Addr),σ'=[some (.ref L),some (nV gap),some (.ref S),c3]/\au H H'/\H' S=some (.lst (ys.map V.ref))/\cW a H' ys (aZ gap (ws.take i))/\ys.Nodup/\S∉ys/\∀ y∈ys,H y=none)
  ⟨none,[],rfl,aW hS,ak,.nil,List.nodup_nil,fun z=>(nomatch z),fun y hy=>(nomatch hy)⟩ (fun i σ' H' _ hp=>by obtain⟨_,_,_,s',_⟩:=hp;exact aq.of (s' _ _ hL)) ?_ ?_⟩
 ·rintro i v σ' H' hv ⟨c3,ys,rfl,sm,gq,SV,nd,nS,nH⟩
  obtain⟨x,u,rfl,hx,hu,hW⟩:=(WV.same sm).at_ hv
  obtain⟨dx,ho⟩:=hW
  have aO:=(List.getElem?_eq_some_iff.mp hu).1
  have hg:aZ gap (ws.take (i+1))=fL gap (aZ gap (ws.take i)) u:=by
   rw[List.take_add_one,hu]
   exact Vj gap u _
  have auX:ys.length<=1000:=by
   have:=y9 gap (ws.take i)
   rw[SV.len]
   rw[List.length_take] at this
   omega
  have more:fL gap (aZ gap (ws.take i)) u=aZ gap (ws.take i)++[[u]]->∀ q,H' q=none->∀ H2,H2=upd (upd (upd H' q (.lst [])) S (.lst (ys.map V.ref++[V.ref q]))) q (.lst [V.ref x]) ->
    ∃ (c3:Option V) (vU:List Addr),[some (V.ref L),some (nV gap),some (V.ref S),some (V.ref x)]=[some (V.ref L),some (nV gap),some (V.ref S),c3]/\au H H2/\H2 S=some (.lst (vU.map V.ref))/\cW a H2 vU (aZ gap (ws.take (i+1)))/\vU.Nodup/\S∉vU/\∀ y∈vU,H y=none:=fun qC q hq H2 e2=>by
   subst e2
   have YH:=sm.free hq
   have qV:q≠S:=fun z=>by rw[z,gq] at hq;cases hq
   have YI:q∉ys:=fun z=>by obtain⟨o,h⟩:=SV.mem z;rw[hq] at h;cases h
   have aM:=aW (o:=.lst []) hq
   refine⟨_,ys++[q],rfl,eQ (eQ (sm.trans aM) hS) YH,?_,?_,?_,?_,?_⟩
   ·rw[ai (Ne.symm qV),ak,List.map_append]
    rfl
   ·rw[hg,qC]
    have F8:=(SV.same aM).kp (aM _ _ gq) (fun _ _ _ z=>nomatch z) nS (Kp.upd (o:=.lst (ys.map V.ref++[V.ref q])))
    have bF:upd (upd H' q (.lst [])) S (.lst (ys.map V.ref++[V.ref q])) q=some (.lst []):=by rw[ai qV];exact ak
    have F9:=F8.kp bF (fun _ _ _ z=>nomatch z) YI (Kp.upd (o:=.lst [V.ref x]))
    refine F9.snoc (ys:=[x]) ak (.cons ⟨dx,?_⟩ .nil)
    have YJ:x≠q:=fun z=>by rw[z,hq] at ho;cases ho
    have hxS:x≠S:=fun z=>by rw[z,gq] at ho;cases ho
    rw[ai YJ,ai hxS,ai YJ]
    exact ho
   ·exact List.nodup_append.mpr ⟨nd,by simp,fun y hy z hz=>by rw[List.mem_singleton.mp hz];exact fun e=>YI (by rw[<- e];exact hy)⟩
   ·intro z
    rcases List.mem_append.mp z with z | z
    ·exact nS z
    exact qV (List.mem_singleton.mp z).symm
   intro y hy
   rcases List.mem_append.mp hy with z | z
   ·exact nH y z
   rw[List.mem_singleton.mp z];exact YH
  refine⟨_,rfl,S,_,rfl,.inl (aq.of gq),rfl,_,rfl,?_⟩
  show if decide (V.int ((ys.map V.ref).length:Int)=V.int 0)=true then _ else _
  rw[List.length_map]
  rcases List.eq_nil_or_concat (aZ gap (ws.take i)) with hz | ⟨init,s,hz⟩
  ·have FU:ys=[]:=List.length_eq_zero_iff.mp (by rw[SV.len,hz];rfl)
   subst FU
   refine aX ⟨_,rfl,.inl ⟨rfl,_,aq.of gq⟩,Nat.zero_le _,fun q hq=>?_⟩
   have aM:=aW (o:=.lst []) hq
   have qV:q≠S:=fun z=>by rw[z,gq] at hq;cases hq
   refine⟨S,_,_,rfl,rfl,aM _ _ gq,(by show 0<sizeLine;decide),?_⟩
   have bF:upd (upd H' q (.lst [])) S (.lst ([]++[V.ref q])) q=some (.lst []):=by rw[ai qV];exact ak
   refine⟨_,rfl,_,rfl,S,_,_,.ref q,rfl,rfl,aq.of ak,rfl,.inl ⟨rfl,_,aq.of bF⟩,_,rfl,q,_,_,rfl,rfl,bF,(by show 0<sizeLine;decide),?_⟩
   exact more (by rw[hz];rfl) q hq _ rfl
  rw[List.concat_eq_append] at hz
  have YK:=SV
  rw[hz] at YK
  obtain⟨ix,sl,zs,rfl,F8,gk,WZ⟩:=YK.WB
  have asj:s≠[]:=fun z=>Ec gap (ws.take i) (by rw[hz,z];simp)
  obtain⟨v,iF⟩:∃ v,s.getLast?=some v:=by
   cases h:s.getLast? with
   | none=>exact absurd (List.getLast?_eq_none_iff.mp h) asj
   | some v=>exact⟨v,rfl⟩
  have qC:=QL (gap:=gap) (w:=u) iF init
  rw[<- hz] at qC
  obtain⟨iz,lz,rfl,dz,hoz⟩:=WZ.last iF
  have eS:(ix++[sl]).map V.ref=ix.map V.ref++[V.ref sl]:=by rw[List.map_append];rfl
  have eZ:(iz++[lz]).map V.ref=iz.map V.ref++[V.ref lz]:=by rw[List.map_append];rfl
  rw[decide_eq_false (show ¬ V.int ((ix++[sl]).length:Int)=V.int 0 from fun z=>by injection z with z;rw[List.length_append] at z;simp at z;omega)]
  refine aE ⟨_,rfl,x,_,dx,_,_,rfl,ho,T.fq,T.iW,qe _,_,rfl,_,rfl,S,_,_,.ref sl,rfl,rfl,aq.of gq,(by rw[eS];exact yF _ _),_,rfl,sl,_,_,.ref lz,rfl,rfl,aq.of gk,(by rw[eZ];exact yF _ _),lz,_,dz,_,_,rfl,hoz,T.fq,T.iW,qe _,_,rfl,_,_,rfl,rfl,_,_,rfl,rfl,_,rfl,?_⟩
  show if decide ((v.row:Int)+(gap:Int)<=(u.row:Int))=true then _ else _
  by_cases q0:v.row+gap<=u.row
  ·rw[if_pos q0] at qC
   rw[decide_eq_true (show(v.row:Int)+(gap:Int)<=(u.row:Int) by omega)]
   refine aX ⟨_,rfl,.inl ⟨rfl,_,aq.of gq⟩,Nat.zero_le _,fun q hq=>?_⟩
   have aM:=aW (o:=.lst []) hq
   have qV:q≠S:=fun z=>by rw[z,gq] at hq;cases hq
   refine⟨S,_,_,rfl,rfl,aM _ _ gq,?_,?_⟩
   ·rw[List.length_map,sizeLine_eq]
    omega
   have bF:upd (upd H' q (.lst [])) S (.lst ((ix++[sl]).map V.ref++[V.ref q])) q=some (.lst []):=by rw[ai qV];exact ak
   refine⟨_,rfl,_,rfl,S,_,_,.ref q,rfl,rfl,aq.of ak,yF _ _,.inl ⟨rfl,_,aq.of bF⟩,_,rfl,q,_,_,rfl,rfl,bF,(by show 0<sizeLine;decide),?_⟩
   exact more (by rw[qC,hz];simp) q hq _ rfl
  rw[if_neg q0] at qC
  rw[decide_eq_false (show ¬ (v.row:Int)+(gap:Int)<=(u.row:Int) by omega)]
  refine aE ⟨_,rfl,_,rfl,S,_,_,.ref sl,rfl,rfl,aq.of gq,(by rw[eS];exact yF _ _),.inl ⟨rfl,_,aq.of gk⟩,_,rfl,sl,_,_,rfl,rfl,gk,?_,?_⟩
  ·have h1:s∈aZ gap (ws.take i):=by rw[hz];simp
   have h2:=Sj h1
   rw[List.length_map,WZ.len,sizeLine_eq]
   rw[List.length_take] at h2
   omega
  have XA:sl∈ix++[sl]:=by simp
  have asl:S≠sl:=fun z=>nS (by rw[z];exact XA)
  have aqW:sl∉ix:=fun z=>by
   have:=(List.nodup_append.mp nd).2.2 sl z sl (by simp)
   exact this rfl
  have Ga:Kp sl H' (upd H' sl (.lst ((iz++[lz]).map V.ref++[V.ref x]))):=Kp.upd
  refine⟨_,ix++[sl],rfl,eQ sm (nH sl XA),Ga _ _ gq asl,?_,nd,nS,nH⟩
  rw[hg,qC]
  refine(F8.kp gk (fun _ _ _ z=>nomatch z) aqW Ga).snoc (ys:=(iz++[lz])++[x]) (by rw[ak,List.map_append (l₁:=iz++[lz])];rfl) ?_
  exact(WZ.snoc ⟨dx,ho⟩).kp gk (fun _ _ _ z=>nomatch z) Ga
 rintro σ' H' ⟨c3,ys,rfl,sm,gq,SV,_,_,_⟩
 rw[List.length_map,WV.len,List.take_length] at SV
 exact⟨_,rfl,k S ys H' gq SV sm⟩
end
end RF
end
section
namespace RF
open PySem PySem.Spec PyProof.Rows L2 LX LM
open Rol (Bytes Means Wish)
abbrev Ent:=List Key×V
def jz (v:Wish):List Key:=[Sum.inl (v.side:Int),Sum.inl (v.row:Int)]
def entries (z:Nat) (s:List Wish):List Ent:=s.map fun v=>(jz v,nV z)
def assign:List (List Wish)->List Nat->List Ent
 | s::ss,z::zs=>entries z s++assign ss zs
 | _,_=>[]
def putAll (ae:List Ent) (L:List Ent):List Ent:=L.foldl (fun m p=>putK m p.1 p.2) ae
theorem Dm (ae A B:List Ent):putAll ae (A++B)=putAll (putAll ae A) B:=List.foldl_append
theorem Dn (L:List Ent):∀ ae:List Ent,(putAll ae L).length<=ae.length+L.length:=by
 induction L with
 | nil=>intro ae;exact Nat.le_refl _
 | cons p L ih =>
  intro ae
  have:=ih (putK ae p.1 p.2)
  have h2:=CY ae p.1 p.2
  show(putAll (putK ae p.1 p.2) L).length<=_
  rw[List.length_cons]
  omega
theorem ajz {key:List Key}{v:V} (L:List Ent):∀ ae:List Ent,(∀ p∈L,p.1=key->p.2=v)->(cM ae key=some v\/∃ p∈L,p.1=key)->cM (putAll ae L) key=some v:=by
 induction L with
 | nil =>
  intro ae _ h
  rcases h with h | ⟨p,hp,_⟩
  ·exact h
  cases hp
 | cons p L ih =>
  intro ae h1 h2
  refine ih (putK ae p.1 p.2) (fun q hq=>h1 q (List.mem_cons_of_mem _ hq)) ?_
  rw[amg]
  by_cases q:key=p.1
  ·rw[if_pos q,h1 p List.mem_cons_self q.symm]
   exact .inl rfl
  rw[if_neg q]
  rcases h2 with h2 | ⟨u,hu,e⟩
  ·exact .inl h2
  rcases List.mem_cons.mp hu with rfl | hu
  ·exact absurd e.symm q
  exact .inr ⟨u,hu,e⟩
theorem Sl (s:List Wish) (z:Nat):∀ (ss:List (List Wish)) (zs:List Nat),ss.length=zs.length->assign (ss++[s]) (zs++[z])=assign ss zs++entries z s
 | [],[],_=>by show entries z s++[]=[]++entries z s;rw[List.append_nil];rfl
 | s0::ss,z0::zs,h=>by
  show entries z0 s0++assign (ss++[s]) (zs++[z])=_
  rw[Sl s z ss zs (by simpa using h),<- List.append_assoc]
  rfl
theorem TZ (b:Rol.Bar) (s:List Wish) (z:Nat):∀ (ss:List (List Wish)) (zs:List Nat),ss.length=zs.length->dG b (ss++[s]) (zs++[z])=dG b ss zs+bX b z s
 | [],[],_=>by show bX b z s+0=0+bX b z s;omega
 | s0::ss,z0::zs,h=>by
  show bX b z0 s0+dG b (ss++[s]) (zs++[z])=bX b z0 s0+dG b ss zs+bX b z s
  rw[TZ b s z ss zs (by simpa using h)]
  omega
theorem Dp:∀ (ss:List (List Wish)) (zs:List Nat),(assign ss zs).length<=ss.flatten.length
 | [],_=>Nat.zero_le _
 | _::_,[]=>Nat.zero_le _
 | s::ss,z::zs=>by
  show(entries z s++assign ss zs).length<=(s++ss.flatten).length
  have:=Dp ss zs
  unfold entries
  rw[List.length_append,List.length_append,List.length_map]
  omega
theorem T1:∀ {ss:List (List Wish)}{zs:List Nat}{p:Ent},p∈assign ss zs->∃ (i:Nat) (s:List Wish) (z:Nat) (v:Wish),ss[i]?=some s/\zs[i]?=some z/\v∈s/\p=(jz v,nV z)
 | [],_,p,h=>by cases h
 | _::_,[],p,h=>by cases h
 | s::ss,z::zs,p,h=>by
  have h':p∈entries z s++assign ss zs:=h
  rcases List.mem_append.mp h' with h' | h'
  ·obtain⟨v,hv,rfl⟩:=List.mem_map.mp h'
   exact⟨0,s,z,v,rfl,rfl,hv,rfl⟩
  obtain⟨i,s',z',v,e1,e2,e3,e4⟩:=T1 h'
  exact⟨i+1,s',z',v,e1,e2,e3,e4⟩
theorem T2:∀ {ss:List (List Wish)}{zs:List Nat}{v:Wish},zs.length=ss.length->v∈ss.flatten->∃ p∈assign ss zs,p.1=jz v
 | [],_,v,_,h=>by cases h
 | s::ss,[],v,hl,h=>by cases hl
 | s::ss,z::zs,v,hl,h=>by
  have h':v∈s++ss.flatten:=h
  rcases List.mem_append.mp h' with h' | h'
  ·exact⟨(jz v,nV z),List.mem_append.mpr (.inl (List.mem_map.mpr ⟨v,h',rfl⟩)),rfl⟩
  obtain⟨p,hp,e⟩:=T2 (zs:=zs) (by simpa using hl) h'
  exact⟨p,List.mem_append.mpr (.inr hp),e⟩
def eJ (b:Rol.Bar) (l:List Wish) (k:Nat):List (List Wish):=aZ (b.tail+2) (bq k l)
def gF (b:Rol.Bar) (l:List Wish) (k:Nat):List Nat:=dM b (Rol.values b k) (eJ b l k)
def sf (b:Rol.Bar) (l:List Wish):Nat->Nat
 | 0=>0
 | k+1=>sf b l k+dG b (eJ b l k) (gF b l k)
def o6 (b:Rol.Bar) (l:List Wish):Nat->List Ent
 | 0=>[]
 | k+1=>o6 b l k++assign (eJ b l k) (gF b l k)
theorem za (b:Rol.Bar) (l:List Wish) (k:Nat):(eJ b l k).flatten=bq k l:=DQ _ _
theorem aq7 (b:Rol.Bar) (l:List Wish) (k:Nat):(gF b l k).length=(eJ b l k).length:=by
 unfold gF
 rw[(tS (uc b k) _).len]
 unfold dU
 rw[List.length_map]
theorem DS (k:Nat) (l:List Wish):(bq k l).length<=l.length:=List.length_filter_le _ _
theorem UN (b:Rol.Bar) (l:List Wish):∀ k,(o6 b l k).length<=k*l.length
 | 0=>Nat.zero_le _
 | k+1=>by
  have h1:=UN b l k
  have h2:=Dp (eJ b l k) (gF b l k)
  have h3:=DS k l
  rw[za] at h2
  show(o6 b l k++assign (eJ b l k) (gF b l k)).length<=_
  rw[List.length_append,Nat.succ_mul]
  omega
theorem ajA {b:Rol.Bar}{l:List Wish} (ho:RolE.inOrder l=true) {v:Wish} (hv:v∈l) (hk:v.side<2):cM (putAll [] (o6 b l 2)) (jz v)=some (nV (nQ b l v)):=by
 have one:∀ k p,p∈assign (eJ b l k) (gF b l k)->p.1=jz v->p.2=nV (nQ b l v):=fun k p hp e=>by
  obtain⟨i,s,z,u,e1,e2,e3,rfl⟩:=T1 hp
  have hu:u∈bq k l:=by
   rw[<- za b l k]
   exact List.mem_flatten.mpr ⟨s,List.mem_of_getElem? e1,e3⟩
  have huk:u.side=k:=by have:=(List.mem_filter.mp hu).2;simpa using this
  have hw:=al5 ho (b:=b) (k:=k) e1 e3 huk e2
  have e':([Sum.inl (u.side:Int),Sum.inl (u.row:Int)]:List Key)=[Sum.inl (v.side:Int),Sum.inl (v.row:Int)]:=e
  injection e' with a1 a2
  injection a1 with a1
  injection a2 with a2 _
  injection a2 with a2
  have s1:u.side=v.side:=by omega
  have s2:u.row=v.row:=by omega
  show nV z=nV (nQ b l v)
  rw[<- hw]
  unfold nQ
  rw[s1,s2]
 refine ajz _ _ (fun p hp e=>?_) (.inr ?_)
 ·have ou:p∈([]++assign (eJ b l 0) (gF b l 0))++assign (eJ b l 1) (gF b l 1):=hp
  rw[List.nil_append] at ou
  rcases List.mem_append.mp ou with h | h
  ·exact one 0 p h e
  exact one 1 p h e
 have hm:∀ k,v.side=k->∃ p∈assign (eJ b l k) (gF b l k),p.1=jz v:=fun k hk=>T2 (aq7 b l k) (by rw[za];exact List.mem_filter.mpr ⟨hv,by simpa using hk⟩)
 show ∃ p∈([]++assign (eJ b l 0) (gF b l 0))++assign (eJ b l 1) (gF b l 1),_
 rw[List.nil_append]
 by_cases h0:v.side=0
 ·obtain⟨p,hp,e⟩:=hm 0 h0
  exact⟨p,List.mem_append.mpr (.inl hp),e⟩
 obtain⟨p,hp,e⟩:=hm 1 (by omega)
 exact⟨p,List.mem_append.mpr (.inr hp),e⟩
theorem an0 {b:Rol.Bar}{l:List Wish} (ho:RolE.inOrder l=true):Rol.planCost b l=sf b l 2:=by
 rw[al6 ho]
 show _=0+_+_
 rw[Nat.zero_add]
 rfl
def tf (c:Nat) (dC:Addr):List (Str×V):=[("cost",nV c),("chosen",.ref dC)]
structure eV (a:aC) (H:Hp) (pA dC:Addr) (c:Nat) (ae:List Ent):Prop where
 obj:∃ dx,H pA=some (.ins a.df dx (tf c dC))
 tj:H dC=some (.dT ae)
def ek (p d:Addr) (H H':Hp):Prop:=∀ b o,H b=some o->b≠p->b≠d->H' b=some o
theorem ek.trans {p d:Addr}{H H1 H2:Hp} (x:ek p d H H1) (y:ek p d H1 H2):ek p d H H2:=fun b o h n m=>y b o (x b o h n m) n m
theorem ek.of {p d:Addr}{H H1:Hp} (x:au H H1):ek p d H H1:=fun b o h _ _=>x b o h
section
variable {P:Program}{w:World}{K:W.Frag}{mg:Str->Option Value}{base:Heap}{a:aC}
theorem eV.same {H H':Hp}{pA dC:Addr}{c:Nat}{ae:List Ent} (h:eV a H pA dC c ae) (s:au H H'):eV a H' pA dC c ae:=by
 obtain⟨dx,ho⟩:=h.obj
 exact⟨⟨dx,s _ _ ho⟩,s _ _ h.tj⟩
theorem ek.keep {p d:Addr}{H H':Hp}{c:Nat}{ae:List Ent} (k:ek p d H H') (h:eV a H p d c ae) {b:Addr}{o:HO} (hb:H b=some o) (n1:∀ C dx n e,o≠.ins C dx (tf n e)) (n2:∀ l,o≠.dT l):H' b=some o:=by
 obtain⟨dx,ho⟩:=h.obj
 refine k b o hb (fun z=>?_) (fun z=>?_)
 ·rw[z,ho] at hb;exact n1 _ _ _ _ (Option.some.inj hb).symm
 rw[z,h.tj] at hb;exact n2 _ (Option.some.inj hb).symm
theorem aqX (C dx C' bL e:Addr) (v:Wish) (n:Nat):HO.ins C dx (oG v)≠HO.ins C' bL (tf n e):=fun z=>by
 have:=congrArg (fun l=>List.lookup ("cost":Str) l) (HO.ins.inj z).2.2
 cases this
theorem bI.aP {p d:Addr}{H H':Hp}{c:Nat}{ae:List Ent}{xs:List Addr}{ws:List Wish} (h:bI a H xs ws) (P0:eV a H p d c ae) (k:ek p d H H'):bI a H' xs ws:=h.mono fun b dx v e=>k.keep P0 e (fun _ _ _ _=>aqX _ _ _ _ _ _ _) (fun _ z=>nomatch z)
theorem cW.aP {p d:Addr}{H H':Hp}{c:Nat}{ae:List Ent}{xs:List Addr}{ss:List (List Wish)} (h:cW a H xs ss) (P0:eV a H p d c ae) (k:ek p d H H'):cW a H' xs ss:=by
 induction h with
 | nil=>exact .nil
 | cons h g _ ih=>exact .cons (k.keep P0 h (fun _ _ _ _ z=>nomatch z) (fun _ z=>nomatch z)) (g.aP P0 k) ih
theorem dO.aP {p d:Addr}{H H':Hp}{c:Nat}{ae:List Ent}{xs:List Addr}{ss:List (List (Nat×Nat))} (h:dO H xs ss) (P0:eV a H p d c ae) (k:ek p d H H'):dO H' xs ss:=by
 induction h with
 | nil=>exact .nil
 | cons h _ ih=>exact .cons (k.keep P0 h (fun _ _ _ _ z=>nomatch z) (fun _ z=>nomatch z)) ih
def ajB (K:W.Frag) (a:aC):Sp:=fun vs H Q _=>∃ (x dx:Addr),vs=[.ref x]/\H x=some (.ins a.df dx [])/\∀ (dC:Addr) (H':Hp),eV a H' x dC 0 []->H dC=none->Kp x H H'->Q .aH H'
theorem agc (T:Txt w K mg a):aN P w K mg base bC true 1 a.lV a.x6 ["self"] (ajB K a):=by
 refine T.QT.ok ag3 (fun vs H Q E h=>?_) (fun aF A outer s H vs Q E hr h=>?_)
 ·obtain⟨_,_,rfl,_⟩:=h
  rfl
 obtain⟨x,dx,rfl,ho,k⟩:=h
 refine⟨_,(ao (bZ (pv 0) aB rfl)
  (aw (bZ (pv 0) U7 rfl))),?_⟩
 refine⟨_,rfl,x,_,dx,[],rfl,ho,T.nN,T.rB,(by show 0<1000;decide),?_⟩
 intro dC Gb
 have zA:upd H x (.ins a.df dx (bE "cost" (.int 0) [])) dC=none:=Gb
 have Gd:dC≠x:=fun z=>by rw[z,ak] at zA;cases zA
 have YL:H dC=none:=by rw[ai Gd] at zA;exact zA
 refine⟨_,rfl,x,_,dx,_,rfl,(by rw[ai (Ne.symm Gd)];exact ak),T.nN,T.rj,(by show 1<1000;decide),?_⟩
 have fin:∀ H',Kp x H H'->(∃ dx,H' x=some (.ins a.df dx (tf 0 dC)))->H' dC=some (.dT [])->Q .aH H':=fun H' kp o hs=>k dC _ ⟨o,hs⟩ YL kp
 refine fin _ (fun b o hb n=>?_) ⟨dx,ak⟩ (by rw[ai Gd];exact ak)
 rw[ai n,ai (aJ hb YL),ai n]
 exact hb
def an1 (K:W.Frag) (a:aC):Sp:=fun vs H Q _=>∃ (pA dC SA:Addr) (c n z:Nat) (ae:List Ent) (xs:List Addr) (s:List Wish),vs=[.ref pA,.ref SA,nV z,nV n]/\eV a H pA dC c ae/\H SA=some (.lst (xs.map V.ref))/\bI a H xs s/\ae.length+s.length<=100000 /\
 ∀ H',eV a H' pA dC (c+n) (putAll ae (entries z s))->ek pA dC H H'->Q .aH H'
theorem ado (T:Txt w K mg a):aN P w K mg base bC true 1 a.lD a.xy ["self","span","value","cost"] (an1 K a):=by
 refine T.Og.ok N5 (fun vs H Q E h=>?_) (fun aF A outer s H vs Q E hr h=>?_)
 ·obtain⟨_,_,_,_,_,_,_,_,_,rfl,_⟩:=h
  rfl
 obtain⟨pA,dC,SA,c,n,z,ae,xs,s,rfl,PA,hS,WV,hlen,k⟩:=h
 obtain⟨dx,ho⟩:=PA.obj
 refine⟨_,(ao (rK (pv 0) (pv 3) rT)
  (aw (dS PassesOwn.never rfl (eG (pv 1)) (bM (i:=4) N5.nd rfl (Or.inl rfl)) (aw (yQ (n6 hr) (aI (pv 0) rfl) (oS (aa (aI (pv 4) rfl) (aa (aI (pv 4) rfl) ag))) (pv 2) rfl))))),?_⟩
 have YM:dC≠pA:=fun z=>by have:=PA.tj;rw[z,ho] at this;cases this
 refine⟨_,rfl,pA,_,dx,_,_,rfl,ho,T.nN,T.rB,rfl,_,rfl,_,_,rfl,rfl,dx,_,ho,(by show 2<1000;decide),?_⟩
 have e:(c:Int)+(n:Int)=((c+n:Nat):Int):=by omega
 show _
 have P1:eV a (upd H pA (.ins a.df dx (bE "cost" (V.int ((c:Int)+(n:Int))) (tf c dC)))) pA dC (c+n) ae:=⟨⟨dx,by rw[ak,e];rfl⟩,by rw[ai YM];exact PA.tj⟩
 have k1:ek pA dC H (upd H pA (.ins a.df dx (bE "cost" (V.int ((c:Int)+(n:Int))) (tf c dC)))):=fun b o hb n1 _=>by rw[ai n1];exact hb
 refine⟨_,rfl,SA,rfl,⟨_,aq.of (k1.keep PA hS (fun _ _ _ _ z=>nomatch z) (fun _ z=>nomatch z))⟩,nJ (xs:=xs.map V.ref) (fun i σ' H'=>∃ c4:Option V,σ'=[some (.ref pA),some (.ref SA),some (nV z),some (nV n),c4]/\ek pA dC H H'/\eV a H' pA dC (c+n) (putAll ae (entries z (s.take i)))) ⟨none,rfl,k1,P1⟩ (fun i σ' H' _ hp=>by obtain⟨_,_,k',_⟩:=hp;exact aq.of (k'.keep PA hS (fun _ _ _ _ z=>nomatch z) (fun _ z=>nomatch z))) ?_ ?_⟩
 ·rintro i v σ' H' hv ⟨c4,rfl,k2,P2⟩
  obtain⟨x,u,rfl,hx,hu,dw,how⟩:=(WV.aP PA k2).at_ hv
  obtain⟨eO,eC⟩:=P2.obj
  have aO:=(List.getElem?_eq_some_iff.mp hu).1
  refine⟨_,rfl,_,rfl,pA,_,eO,_,_,rfl,eC,T.nN,T.rj,rfl,_,rfl,x,_,dw,_,_,rfl,how,T.fq,T.oK,yN _,_,rfl,x,_,dw,_,_,rfl,how,T.fq,T.iW,qe _,(by show 2<=sizeLine;decide),fun t ht=>?_⟩
  have jI:=aW (o:=.tup [nV u.side,nV u.row]) ht
  have gG:=jI _ _ P2.tj
  refine⟨dC,_,rfl,mC.t (k:=jz u) gG ak ?_,?_⟩
  ·have:=Dn (entries z (s.take i)) ae
   unfold entries at this ⊢
   rw[List.length_map,List.length_take] at this
   rw[sizeLine_eq]
   omega
  refine⟨_,rfl,fun b o hb n1 n2=>?_,⟨eO,?_⟩,?_⟩
  ·rw[ai n2]
   exact jI _ _ (k2 b o hb n1 n2)
  ·rw[ai (Ne.symm YM)]
   exact jI _ _ eC
  rw[ak,List.take_add_one,hu]
  show some (HO.dT (putK (putAll ae (entries z (s.take i))) (jz u) (nV z)))=some (HO.dT (putAll ae (entries z (s.take i++[u]))))
  unfold entries
  rw[List.map_append,Dm]
  rfl
 rintro σ' H' ⟨c4,rfl,k2,P2⟩
 rw[List.length_map,WV.len,List.take_length] at P2
 exact k H' P2 k2
def ajC (K:W.Frag) (a:aC):Sp:=fun vs H Q _=>∃ (pA dC x:Addr) (c:Nat) (ae:List Ent) (u:Wish) (v:V),vs=[.ref pA,.ref x]/\eV a H pA dC c ae/\oW a H x u/\cM ae (jz u)=some v/\∀ H',au H H'->Q v H'
theorem aa6 (T:Txt w K mg a):aN P w K mg base bC true 1 a.kD a.wD ["self","wish"] (ajC K a):=by
 refine T.JO.ok aa0 (fun vs H Q E h=>?_) (fun aF A outer s H vs Q E hr h=>?_)
 ·obtain⟨_,_,_,_,_,_,_,rfl,_⟩:=h
  rfl
 obtain⟨pA,dC,x,c,ae,u,v,rfl,PA,⟨dw,how⟩,hv,k⟩:=h
 obtain⟨dx,ho⟩:=PA.obj
 refine⟨_,(aw (bc (VQ (n6 hr) (aI (pv 0) rfl) (oS (aa (aI (pv 1) rfl) (aa (aI (pv 1) rfl) ag))) (fun _ _=>rfl)))),?_⟩
 refine⟨_,rfl,pA,_,dx,_,_,rfl,ho,T.nN,T.rj,rfl,_,rfl,x,_,dw,_,_,rfl,how,T.fq,T.oK,yN _,_,rfl,x,_,dw,_,_,rfl,how,T.fq,T.iW,qe _,(by show 2<=sizeLine;decide),fun t ht=>?_⟩
 have jI:=aW (o:=.tup [nV u.side,nV u.row]) ht
 exact⟨dC,v,rfl,by rw[<- hv];exact gh.t (k:=jz u) (jI _ _ PA.tj) ak,k _ jI⟩
end
end RF
end
section
namespace RF
open PySem PySem.Spec PyProof.Rows L2 LX LM
open Rol (Bytes Means Wish)
theorem T3:∀ l:List (List Nat),(aT l).length=l.length
 | []=>rfl
 | c::l=>by show(aT l).length+1=_;rw[T3 l];rfl
theorem UO:∀ {l:List (List Nat)}{i:Nat}{r:List (Nat×Nat)},(aT l)[i]?=some r->∃ c,l[i]?=some c/\r.length=c.length
 | [],i,r,h=>by cases h
 | c::l,0,r,h=>by
  have h':some (restOf c ((aT l).headD []))=some r:=h
  cases h'
  exact⟨c,rfl,by unfold restOf;rw[List.length_map]⟩
 | c::l,i+1,r,h=>by
  have h':(aT l)[i]?=some r:=h
  exact UO (l:=l) (i:=i) h'
theorem UP {b:Rol.Bar}{s:List Wish}{z:Nat}:∀ {vs:List Nat},z∈vs->cM (dictOf (ee b vs s)) (Sum.inl (z:Int))=some (nV (bX b z s))
 | [],h=>by cases h
 | v::vs,h=>by
  show cM ((Sum.inl (v:Int),nV (bX b v s))::dictOf (ee b vs s)) (Sum.inl (z:Int))=_
  by_cases q:v=z
  ·rw[ij (by rw[q]),q]
  rw[ik (fun e=>q (by injection e with e;omega))]
  rcases List.mem_cons.mp h with rfl | h
  ·exact absurd rfl q
  exact UP h
theorem ahL {b:Rol.Bar}{vs:List Nat}{s:List Wish}{M:Nat} (h1:M∈(ee b vs s).map (fun p=>p.2)) (h2:∀ y∈(ee b vs s).map (fun p=>p.2),M<=y):((ee b vs s).filter fun p=>p.2==M).map (fun p=>p.1)=ju b vs s:=by
 have e:(ee b vs s).map (fun p=>p.2)=vs.map fun v=>bX b v s:=by
  unfold ee
  rw[List.map_map]
  rfl
 rw[e] at h1 h2
 rw[<- amC h1 h2]
 unfold ee
 rw[List.filter_map,List.map_map]
 exact List.map_id _
section
variable {P:Program}{w:World}{K:W.Frag}{mg:Str->Option Value}{base:Heap}{a:aC}
def agd (K:W.Frag) (a:aC):Sp:=fun vs H Q _=>∃ (pA dC S CA:Addr) (c:Nat) (ae:List Ent) (ys gJ:List Addr) (ss:List (List Wish)) (b:Rol.Bar) (l:List Nat),vs=[.ref pA,.ref S,.ref CA]/\eV a H pA dC c ae/\H S=some (.lst (ys.map V.ref))/\cW a H ys ss/\H CA=some (.lst (gJ.map V.ref))/\dO H gJ (ss.map (ee b l)) /\
 l≠[]/\l.Nodup/\l.length<=1000/\ss.length<=1000/\ae.length+ss.flatten.length<=100000 /\
 ∀ H',eV a H' pA dC (c+dG b ss (dM b l ss)) (putAll ae (assign ss (dM b l ss)))->ek pA dC H H'->Q .aH H'
theorem adp (T:Txt w K mg a):aN P w K mg base bC true 3 a.nh a.xw ["plan","spans","costs"] (agd K a):=by
 refine T.B9.ok mV (fun vs H Q E h=>?_) (fun aF A outer s H vs Q E hr h=>?_)
 ·obtain⟨_,_,_,_,_,_,_,_,_,_,_,rfl,_⟩:=h
  rfl
 obtain⟨pA,dC,S,CA,c,ae,ys,gJ,ss,b,l,rfl,PA,hS,SV,hC,CV,Ge,F6,sx,Xz,av9,k⟩:=h
 refine⟨_,(ao (aK (i:=3) mV.nd rfl (Or.inl rfl) (bQ (aa5 T) (hr.mono (by decide)) rfl T.JJ T.AX.kp T.LG .nil aL (aa (iy (own:=[("span_costs",4)]) rfl mV.nd (eG (pv 2)) (gE rfl) (fun _ _ _ _ _=>by exact(bM (i:=4) mV.nd rfl (Or.inl rfl))) (fun _ _ _ _ _=>by exact mq) (fun _ _ _ _ _=>by exact(bQ (Zx T) (hr.mono (by decide)) rfl T.Il T.AD.kp T.JI .nil aL (aa (pv 4) ag)))) ag)))
  (ao (aK (i:=5) mV.nd rfl (Or.inl rfl) aB)
  (aw (dS PassesOwn.never rfl (VS rfl T.rC (aa (pv 1) ag)) (uu rfl (ig (bM (i:=6) mV.nd rfl (Or.inl rfl)) (ig (bM (i:=7) mV.nd rfl (Or.inl rfl)) rQ))) (ao (aK (i:=8) mV.nd rfl (Or.inl rfl) (bR qg (bQ (Si T) (hr.mono (by decide)) rfl T.C3 T.yc.kp T.Dl .nil aL (aa (pv 5) (aa (bR cw (pv 3) (pv 6) (fun _ _=>rfl)) ag))) aB (fun _ _=>rfl)))
  (ao (bY (bf (pv 0) T.nN T.Oh (ado T) (hr.mono (by decide)) T.PN .nil aL (aa (pv 7) (aa (pv 8) (aa (VQ (n6 hr) (bR cw (pv 2) (pv 6) (fun _ _=>rfl)) (pv 8) (fun _ _=>rfl)) ag)))))
  (aw (aK (i:=5) mV.nd rfl (Or.inl rfl) (pv 8))))))))),?_⟩
 refine⟨_,rfl,CA,rfl,⟨_,aq.of hC⟩,fun D hD=>?_⟩
 refine jh (xs:=gJ.map V.ref) (fun i H'=>∃ ls,au H H'/\H' D=some (.lst (ls.map V.ref))/\eR H' ls (dU b l (ss.take i))/\D∉ls) ⟨[],aW hD,ak,.nil,fun z=>(nomatch z)⟩ (fun t H' _ hp=>by obtain⟨_,s',_⟩:=hp;exact aq.of (s' _ _ hC)) ?_ ?_
 ·rintro i v H' hv ⟨ls,sm,hl,LV,nD⟩
  rw[List.getElem?_map] at hv
  cases hx:gJ[i]? with
  | none=>rw[hx] at hv;cases hv
  | some cd =>
   rw[hx] at hv
   obtain rfl:V.ref cd=v:=Option.some.inj hv
   obtain⟨r,vV,eX⟩:=CV.get hx
   rw[List.getElem?_map] at vV
   cases hs:ss[i]? with
   | none=>rw[hs] at vV;cases vV
   | some sp =>
    rw[hs] at vV
    cases vV
    have aO:=(List.getElem?_eq_some_iff.mp hs).1
    refine⟨rfl,_,rfl,cd,ee b l sp,rfl,sm _ _ eX,?_,?_,fun R M H2 hM ES hR vT bg=>?_⟩
    ·unfold ee
     intro z
     exact Ge (List.map_eq_nil_iff.mp z)
    ·unfold ee
     rw[List.length_map]
     exact sx
    rw[ahL hM ES] at hR
    have YN:R≠D:=fun z=>by rw[z,hl] at vT;cases vT
    refine⟨_,bg _ _ hl,?_,ls++[R],eQ (sm.trans bg) hD,by rw[ak,List.map_append];rfl,?_,?_⟩
    ·rw[List.length_map,LV.len,sizeLine_eq]
     unfold dU
     rw[List.length_map,List.length_take]
     omega
    ·rw[List.take_add_one,hs]
     unfold dU
     rw[List.map_append]
     refine eR.kp ((LV.same bg).snoc hR) (fun z=>?_) Kp.upd
     rcases List.mem_append.mp z with z | z
     ·exact nD z
     exact YN (List.mem_singleton.mp z).symm
    intro z
    rcases List.mem_append.mp z with z | z
    ·exact nD z
    exact YN (List.mem_singleton.mp z).symm
 rintro H1 ⟨ls,aM,hl,LV,_⟩
 rw[List.length_map,CV.len,List.length_map,List.take_length] at LV
 refine⟨D,ls,dU b l ss,rfl,hl,LV,fun cc sH=>?_,?_,fun R ds H2 hR DV bg=>?_⟩
 ·obtain⟨sp,_,rfl⟩:=List.mem_map.mp sH
  refine⟨List.Pairwise.filter _ F6,?_⟩
  unfold ju
  exact Nat.le_trans (List.length_filter_le _ _) sx
 ·unfold dU
  rw[List.length_map]
  exact Xz
 have sm:=aM.trans bg
 have P2:=PA.same sm
 have FG:(dM b l ss).length=ss.length:=by
  rw[(tS Ge ss).len]
  unfold dU
  rw[List.length_map]
 have asm:=(tS (b:=b) Ge ss).sub
 have YO:=sm _ _ hS
 have F9:=SV.same sm
 refine⟨_,rfl,S,_,rfl,aq.of YO,DI (fun i σ' H'=>∃ (c4 c6 c7 c8:Option V) (xb:Nat),σ'=[some (.ref pA),some (.ref S),some (.ref CA),some (.ref R),c4,some (nV xb),c6,c7,c8]/\ek pA dC H2 H'/\pick xb ((aT (dU b l ss)).drop i)=(dM b l ss).drop i/\eV a H' pA dC (c+dG b (ss.take i) ((dM b l ss).take i)) (putAll ae (assign (ss.take i) ((dM b l ss).take i))))
  ⟨_,none,none,none,0,rfl,ek.of fun _ _ h=>h,rfl,P2⟩ (fun i σ' H' _ hp=>by obtain⟨_,_,_,_,_,_,k',_⟩:=hp;exact aq.of (k'.keep P2 YO (fun _ _ _ _ z=>nomatch z) (fun _ z=>nomatch z))) ?_ ?_⟩
 ·rintro i v σ' H' hv ⟨c4,c6,c7,c8,xb,rfl,k2,WX,P3⟩ t ht
  rw[List.getElem?_map] at hv
  cases hx:ys[i]? with
  | none=>rw[hx] at hv;cases hv
  | some y =>
   rw[hx] at hv
   obtain rfl:V.ref y=v:=Option.some.inj hv
   have jI:=aW (o:=.tup [V.int (i:Nat),V.ref y]) ht
   have k3:ek pA dC H2 (upd H' t (.tup [V.int (i:Nat),V.ref y])):=k2.trans (ek.of jI)
   have P4:=P3.same jI
   obtain⟨sp,zs,eB,hy,WY⟩:=(F9.aP P2 k3).get hx
   have aO:=(List.getElem?_eq_some_iff.mp eB).1
   obtain⟨r,hr⟩:∃ r,(aT (dU b l ss))[i]?=some r:=⟨_,List.getElem?_eq_getElem (by rw[T3];unfold dU;rw[List.length_map];exact aO)⟩
   obtain⟨d,hd⟩:∃ d,ds[i]?=some d:=⟨_,List.getElem?_eq_getElem (by rw[DV.len];exact(List.getElem?_eq_some_iff.mp hr).1)⟩
   obtain⟨r',mL,hdd⟩:=(DV.aP P2 k3).get hd
   rw[hr] at mL
   cases mL
   have El:r.length<=1000:=by
    obtain⟨cc,sH,e⟩:=UO hr
    rw[e]
    obtain⟨sp',_,rfl⟩:=List.mem_map.mp (List.mem_of_getElem? sH)
    unfold ju
    exact Nat.le_trans (List.length_filter_le _ _) sx
   have qU:(aT (dU b l ss)).drop i=r::(aT (dU b l ss)).drop (i+1):=by
    obtain⟨h1,e⟩:=List.getElem?_eq_some_iff.mp hr
    rw[List.drop_eq_getElem_cons h1,e]
   rw[qU] at WX
   have WC:(bT xb r).2::pick (bT xb r).2 ((aT (dU b l ss)).drop (i+1))=(dM b l ss).drop i:=WX
   have hz:(dM b l ss)[i]?=some (bT xb r).2:=by
    have:=congrArg List.head? WC
    rw[List.head?_drop] at this
    exact this.symm
   have hzm:=asm _ (List.mem_of_getElem? hz)
   obtain⟨cd,dY⟩:∃ cd,gJ[i]?=some cd:=⟨_,List.getElem?_eq_getElem (by rw[CV.len,List.length_map];exact aO)⟩
   have hR3:=k3.keep P2 hR (fun _ _ _ _ z=>nomatch z) (fun _ z=>nomatch z)
   refine⟨t,_,rfl,cp.of ak,rfl,_,_,rfl,_,_,rfl,rfl,?_⟩
   refine⟨_,rfl,_,rfl,_,rfl,R,_,_,.ref d,rfl,rfl,aq.of hR3,il (by rw[List.getElem?_map,hd];rfl),xb,d,r,rfl,hdd,El,fun tp H4 F0 bh=>?_⟩
   refine⟨tp,_,_,nV (bT xb r).2,rfl,rfl,cp.of F0,rfl,?_⟩
   have k4:ek pA dC H2 H4:=k3.trans (ek.of bh)
   have P5:=P4.same bh
   obtain⟨Gf,u6⟩:=P5.obj
   have hC4:=k4.keep P2 (sm _ _ hC) (fun _ _ _ _ z=>nomatch z) (fun _ z=>nomatch z)
   obtain⟨rc,YQ,asn⟩:=((CV.same sm).aP P2 k4).get dY
   rw[List.getElem?_map,eB] at YQ
   cases YQ
   have hcv:=UP (b:=b) (s:=sp) hzm
   have htk:(assign (ss.take i) ((dM b l ss).take i)).length+sp.length<=ss.flatten.length:=by
    have h1:=Dp (ss.take i) ((dM b l ss).take i)
    have h2:(ss.take i).flatten.length+sp.length<=ss.flatten.length:=by
     have e:ss=ss.take i++sp::ss.drop (i+1):=by
      obtain⟨h1,e⟩:=List.getElem?_eq_some_iff.mp eB
      rw[<- e,<- List.drop_eq_getElem_cons h1,List.take_append_drop]
     have:=congrArg (fun (l:List (List Wish))=>l.flatten.length) e
     simp only [List.flatten_append,List.flatten_cons,List.length_append] at this
     omega
    omega
   have eK:=Dn (assign (ss.take i) ((dM b l ss).take i)) ae
   refine⟨_,rfl,pA,Gf,_,rfl,u6,rfl,_,rfl,_,rfl,_,rfl,_,rfl,CA,_,_,.ref cd,rfl,rfl,aq.of hC4,il (by rw[List.getElem?_map,dY];rfl),_,rfl,cd,_,rfl,(by rw[<- hcv];exact gh.k (k:=Sum.inl ((bT xb r).2:Int)) asn),?_⟩
   refine⟨pA,dC,y,_,bX b (bT xb r).2 sp,(bT xb r).2,_,zs,sp,rfl,P5,bh _ _ hy,WY.same bh,by omega,fun H5 P6 k5=>?_⟩
   refine⟨_,rfl,_,_,_,_,(bT xb r).2,rfl,k4.trans k5,?_,?_⟩
   ·have:=congrArg List.tail WC
    rw[List.tail_drop] at this
    exact this
   have e1:ss.take (i+1)=ss.take i++[sp]:=by rw[List.take_add_one,eB];rfl
   have e2:(dM b l ss).take (i+1)=(dM b l ss).take i++[(bT xb r).2]:=by rw[List.take_add_one,hz];rfl
   have el:(ss.take i).length=((dM b l ss).take i).length:=by rw[List.length_take,List.length_take,FG]
   rw[e1,e2,TZ b sp _ _ _ el,Sl sp _ _ _ el,Dm,<- Nat.add_assoc]
   exact P6
 rintro σ' H' ⟨c4,c6,c7,c8,xb,rfl,k2,_,P3⟩
 rw[List.length_map,SV.len,List.take_length,<- FG,List.take_length] at P3
 exact k H' P3 ((ek.of sm).trans k2)
def ajD (K:W.Frag) (a:aC):Sp:=fun vs H Q _=>∃ (bA nA dA L:Addr) (b:Rol.Bar) (xs:List Addr) (l:List Wish),vs=[.ref bA,.ref L]/\fc a.ba H bA nA dA b/\gd b/\H L=some (.lst (xs.map V.ref))/\bI a H xs l/\l.length<=1000 /\
 ∀ (pA dC:Addr) (H':Hp),eV a H' pA dC (sf b l 2) (putAll [] (o6 b l 2))->au H H'->Q (.ref pA) H'
theorem age (T:Txt w K mg a):aN P w K mg base bC true 4 a.nu a.x3 ["bar","wishes"] (ajD K a):=by
 refine T.CC.ok nj (fun vs H Q E h=>?_) (fun aF A outer s H vs Q E hr h=>?_)
 ·obtain⟨_,_,_,_,_,_,_,rfl,_⟩:=h
  rfl
 obtain⟨bA,nA,dA,L,b,xs,l,rfl,BA,ok,hL,WV,sx,k⟩:=h
 refine⟨_,(ao (aK (i:=2) nj.nd rfl (Or.inl rfl) (U1 T.yY (agc T) (hr.mono (by decide)) rfl T.Vn T.R9 .nil aL))
  (ao (dS PassesOwn.never rfl (rJ rfl T.je (aa aB ag)) (bM (i:=3) nj.nd rfl (Or.inr rfl)) (ao (aK (i:=4) nj.nd rfl (Or.inr rfl) (bQ (adn T) (hr.mono (by decide)) rfl T.Ob T.B7.kp T.Pz .nil aL (aa (pv 0) (aa (pv 3) ag))))
  (ao (aK (i:=5) nj.nd rfl (Or.inl rfl) (bQ (abd T) (hr.mono (by decide)) rfl T.LF T.Bs.kp T.MP .nil aL (aa (iy (own:=[("wish",6)]) rfl nj.nd (eG (pv 1)) (gE rfl) (fun _ _ _ _ _=>by exact(bM (i:=6) nj.nd rfl (Or.inl rfl))) (fun _ _ _ _ _=>by exact(yP (cg fw (yU (pv 6) rfl) (pv 3) (bS _)))) (fun _ _ _ _ _=>by exact(pv 6))) (aa (bp fN (aI (pv 0) rfl) aB) ag))))
  (aw (bY (bQ (adp T) (hr.mono (by decide)) rfl T.Od T.B9.kp T.PD .nil aL (aa (pv 2) (aa (pv 5) (aa (iy (own:=[("span",7)]) rfl nj.nd (eG (pv 5)) (gE rfl) (fun _ _ _ _ _=>by exact(bM (i:=7) nj.nd rfl (Or.inl rfl))) (fun _ _ _ _ _=>by exact mq) (fun _ _ _ _ _=>by exact(bQ (adm T) (hr.mono (by decide)) rfl T.Oc T.B8.kp T.PB .nil aL (aa (pv 0) (aa (pv 4) (aa (pv 7) ag)))))) ag)))))))))
  (aw (bc (pv 2))))),?_⟩
 intro pA dx Ad gm _
 refine⟨pA,dx,rfl,ak,fun dC H1 P1 Gb a9=>⟨rfl,?_⟩⟩
 have aM:au H H1:=au.kp (jg Ad gm) Ad a9
 have aso:H dC=none:=(jg Ad gm).free Gb
 refine⟨2,rfl,by decide,by decide,t9 (fun i σ' H'=>∃ c3 c4 c5 c6 c7:Option V,σ'=[some (.ref bA),some (.ref L),some (.ref pA),c3,c4,c5,c6,c7]/\au H H'/\eV a H' pA dC (sf b l i) (putAll [] (o6 b l i))) ⟨none,none,none,none,none,rfl,aM,P1⟩ ?_ ?_⟩
 ·rintro i σ' H' hi ⟨c3,c4,c5,c6,c7,rfl,sm,PL⟩
  refine⟨_,rfl,_,rfl,bA,nA,dA,b,i,?_,BA.same sm,ok,fun VA H2 hV bg=>?_⟩
  ·show[V.ref bA,V.int (0+(i:Int))]=_
   rw[Int.zero_add]
   rfl
  have Ae:=sm.trans bg
  refine⟨_,rfl,L,rfl,⟨_,aq.of (Ae _ _ hL)⟩,fun D hD=>?_⟩
  refine jh (xs:=xs.map V.ref) (fun j H'=>∃ ys,au H2 H'/\H' D=some (.lst (ys.map V.ref))/\bI a H' ys (bq i (l.take j))) ⟨[],aW hD,ak,.nil⟩ (fun j H' _ hp=>by obtain⟨_,s',_⟩:=hp;exact aq.of (s' _ _ (Ae _ _ hL))) ?_ ?_
  ·rintro j v H3 hv ⟨ys,bj,hl,WY⟩
   obtain⟨x,u,rfl,hx,hu,dw,how⟩:=((WV.same Ae).same bj).at_ hv
   have aO:=(List.getElem?_eq_some_iff.mp hu).1
   refine⟨rfl,_,rfl,x,_,dw,_,_,rfl,how,T.fq,T.oK,yN _,_,rfl,rfl,_,rfl,?_⟩
   show if decide (nV u.side=V.int (0+(i:Int)))=true then _ else _
   rw[Int.zero_add]
   by_cases q:u.side=i
   ·rw[decide_eq_true (show nV u.side=V.int (i:Int) by rw[q];rfl)]
    refine aX ⟨_,rfl,_,hl,?_,ys++[x],eQ bj hD,by rw[ak,List.map_append];rfl,?_⟩
    ·have:=DS i (l.take j)
     rw[List.length_map,WY.len,sizeLine_eq]
     rw[List.length_take] at this
     omega
    rw[List.take_add_one,hu]
    show bI a _ _ (bq i (l.take j++[u]))
    rw[amB q]
    exact(WY.snoc ⟨dw,how⟩).kp hl (fun _ _ _ z=>nomatch z) Kp.upd
   rw[decide_eq_false (show ¬ nV u.side=V.int (i:Int) from fun z=>q (by unfold nV at z;injection z with z;omega))]
   refine aE ⟨ys,bj,hl,?_⟩
   rw[List.take_add_one,hu]
   show bI a _ _ (bq i (l.take j++[u]))
   rw[ajc q]
   exact WY
  rintro H3 ⟨ys,bj,hl,WY⟩
  rw[List.length_map,WV.len,List.take_length] at WY
  have YR:=Ae.trans bj
  obtain⟨bw,bu⟩:=(BA.same YR).obj
  have Ya:=DS i l
  refine⟨_,rfl,bA,_,bw,_,_,rfl,bu,T.bU,T.ny,ue _ _ _,_,_,rfl,rfl,D,ys,bq i l,b.tail+2,?_,hl,WY,by omega,fun S Gg H4 hS SV bh=>?_⟩
  ·show[V.ref D,V.int ((b.tail:Int)+2)]=[V.ref D,V.int ((b.tail+2:Nat):Int)]
   rw[Int.natCast_add]
   rfl
  have YS:=YR.trans bh
  refine⟨_,rfl,_,rfl,_,rfl,S,rfl,⟨_,aq.of hS⟩,fun D2 gI=>?_⟩
  have hV4:=bh _ _ (bj _ _ hV)
  refine jh (xs:=Gg.map V.ref) (fun j H'=>∃ gJ,au H4 H'/\H' D2=some (.lst (gJ.map V.ref))/\dO H' gJ ((eJ b l i).take j |>.map (ee b (Rol.values b i)))) ⟨[],aW gI,ak,.nil⟩ (fun j H' _ hp=>by obtain⟨_,s',_⟩:=hp;exact aq.of (s' _ _ hS)) ?_ ?_
  ·rintro j v H5 hv ⟨gJ,cU,Af,CV⟩
   rw[List.getElem?_map] at hv
   cases hx:Gg[j]? with
   | none=>rw[hx] at hv;cases hv
   | some sl =>
    rw[hx] at hv
    obtain rfl:V.ref sl=v:=Option.some.inj hv
    obtain⟨sp,zs,eB,gk,WS⟩:=(SV.same cU).get hx
    have ava:=Sj (List.mem_of_getElem? eB)
    have aO:=(List.getElem?_eq_some_iff.mp eB).1
    have hgl:=y9 (b.tail+2) (bq i l)
    refine⟨rfl,_,rfl,_,rfl,_,rfl,bA,nA,dA,VA,sl,b,Rol.values b i,zs,sp,rfl,(BA.same YS).same cU,cU _ _ hV4,QM b i,al8 b i,?_,gk,WS,by omega,fun d H6 hd Yv eF=>?_⟩
    ·unfold Rol.values
     refine Nat.le_trans (List.length_filter_le _ _) ?_
     rw[List.length_range]
     decide
    refine⟨_,eF _ _ Af,?_,gJ++[d],eQ (cU.trans eF) gI,by rw[ak,List.map_append];rfl,?_⟩
    ·rw[List.length_map,CV.len,List.length_map,List.length_take,sizeLine_eq]
     show min j (aZ (b.tail+2) (bq i l)).length<_
     omega
    rw[List.take_add_one,show(eJ b l i)[j]?=some sp from eB,List.map_append]
    exact((CV.same eF).snoc hd).kp (eF _ _ Af) (fun _ z=>nomatch z) Kp.upd
  rintro H5 ⟨gJ,cU,Af,CV⟩
  rw[List.length_map,SV.len] at CV
  have CV:dO H5 gJ ((eJ b l i).map (ee b (Rol.values b i))):=by
   have:=CV
   rw[show(aZ (b.tail+2) (bq i l)).length=(eJ b l i).length from rfl,List.take_length] at this
   exact this
  have smE:=YS.trans cU
  have PL5:=PL.same (((bg.trans bj).trans bh).trans cU)
  have hgl:=y9 (b.tail+2) (bq i l)
  have Yn:=UN b l i
  have eK:=Dn (o6 b l i) []
  refine⟨pA,dC,S,D2,_,_,Gg,gJ,eJ b l i,b,Rol.values b i,rfl,PL5,cU _ _ hS,SV.same cU,Af,CV,uc b i,QM b i,?_,?_,?_,fun H6 P6 k6=>?_⟩
  ·unfold Rol.values
   refine Nat.le_trans (List.length_filter_le _ _) ?_
   rw[List.length_range]
   decide
  ·show(aZ (b.tail+2) (bq i l)).length<=1000
   omega
  ·rw[za]
   have:i*l.length<=2*1000:=Nat.mul_le_mul (by omega) sx
   rw[List.length_nil] at eK
   omega
  refine⟨_,_,_,_,_,rfl,fun b' o hb=>k6 b' o (smE _ _ hb) (aJ hb Ad) (aJ hb aso),?_⟩
  show eV a H6 pA dC (sf b l i+dG b (eJ b l i) (gF b l i)) (putAll [] (o6 b l i++assign (eJ b l i) (gF b l i)))
  rw[Dm]
  exact P6
 rintro σ' H' ⟨c3,c4,c5,c6,c7,rfl,sm,PL⟩
 exact⟨_,rfl,k pA dC H' PL sm⟩
def ajE (K:W.Frag) (a:aC):Sp:=fun vs H Q E=>∃ (N:Addr->Prop) (x sl tA:Addr) (d:RolE.Bench) (t:List Int),vs=[.ref x,.ref tA]/\ck a N H x sl d/\H tA=some (.lst (t.map V.int))/\(t.length<=3000/\(∀ y∈t,0<=y)/\t.length % 3=0)/\match d.bar with
 | none=>ed a.dm H E
 | some b=>if RolE.WISHES<(bP t).length\/(bP t).all RolE.wishOk=false then ed a.cV H E else if RolE.inOrder (bP t)=false then ed a.dD H E else
  ∀ (r:Addr) (H':Hp),H' r=some (.lst ((n9 (Rol.planCost b (bP t):Int) (gT (Rol.planned b (bP t)))).map V.int))->H r=none->au H H'->Q (.ref r) H'
theorem aa7 (T:Txt w K mg a):aN P w K mg base (cu P w) true 5 a.kJ a.wJ ["self","numbers"] (ajE K a):=by
 refine T.JZ.eh tE (fun vs H Q E h=>?_) (fun aF A outer s H vs Q E hr h=>?_)
 ·obtain⟨_,_,_,_,_,_,rfl,_⟩:=h
  rfl
 obtain⟨N,x,sl,tA,d,t,rfl,D,ht,hw,k⟩:=h
 obtain⟨dx,bv,ho,hb⟩:=D.obj
 refine⟨_,(ao (bY (gL (pv 0) T.cI T.AZ (J8 T) (hr.mono (by decide)) T.Bw .nil bW))
  (ao (aK (i:=2) tE.nd rfl (Or.inl rfl) (bQ (adl T) (hr.mono (by decide)) rfl T.N8 T.B5.kp T.Px .nil bW (aa (pv 1) ag)))
  (ao (aK (i:=3) tE.nd rfl (Or.inr rfl) (bQ (age T) (hr.mono (by decide)) rfl T.QO T.CC.kp T.R4 .nil aL (aa (aI (pv 0) rfl) (aa (pv 2) ag))))
  (aw (bc (bQ (gC (cm:=false) T) (hr.mono (by decide)) rfl T.f9 T.fM.kp T.gc .nil aL (aa (aI (pv 3) rfl) (aa (iy (own:=[("wish",4)]) rfl tE.nd (eG (pv 2)) (gE rfl) (fun _ _ _ _ _=>by exact(bM (i:=4) tE.nd rfl (Or.inl rfl))) (fun _ _ _ _ _=>by exact mq) (fun _ _ _ _ _=>by exact(bf (pv 3) T.nN T.JP (aa6 T) (hr.mono (by decide)) T.LI .nil aL (aa (pv 4) ag)))) ag)))))))),?_⟩
 refine⟨_,rfl,x,dx,_,rfl,ho,rfl,N,x,sl,d,rfl,D,?_⟩
 cases hd:d.bar with
 | none=>rw[hd] at k;exact k
 | some b =>
  rw[hd] at k hb
  dsimp only at k ⊢
  cases hb with
  | @yes _ bA nA dA BA dH _ _ _ =>
   refine⟨_,rfl,tA,t,rfl,ht,hw,?_⟩
   by_cases q1:RolE.WISHES<(bP t).length\/(bP t).all RolE.wishOk=false
   ·rw[if_pos q1] at k ⊢;exact k
   rw[if_neg q1] at k ⊢
   by_cases q2:RolE.inOrder (bP t)=false
   ·rw[if_pos q2] at k ⊢;exact k
   rw[if_neg q2] at k ⊢
   intro L xs H1 hL WV aM
   have XB:RolE.inOrder (bP t)=true:=by
    cases h:RolE.inOrder (bP t) with
    | true=>rfl
    | false=>exact absurd h q2
   have eI:(bP t).all RolE.wishOk=true:=by
    cases h:(bP t).all RolE.wishOk with
    | true=>rfl
    | false=>exact absurd (Or.inr h) q1
   have avb:(bP t).length<=256:=Nat.le_of_not_lt fun z=>q1 (Or.inl z)
   have bG:=aM _ _ ho
   refine⟨_,rfl,x,_,dx,_,_,rfl,bG,T.cI,T.fZ,mr _ _,_,rfl,bA,nA,dA,L,b,xs,bP t,rfl,BA.same aM,dH,hL,WV,by omega,fun pA dC H2 PL bg=>?_⟩
   have fY:=aM.trans bg
   obtain⟨Gf,u6⟩:=PL.obj
   refine⟨_,rfl,pA,_,Gf,_,_,rfl,u6,T.nN,T.rB,rfl,_,rfl,L,rfl,⟨_,aq.of (bg _ _ hL)⟩,fun DD YT=>?_⟩
   refine jh (xs:=xs.map V.ref) (fun j H'=>au H2 H'/\H' DD=some (.lst ((((bP t).take j).map (nQ b (bP t))).map nV))) ⟨aW YT,ak⟩ (fun j H' _ hp=>aq.of (hp.1 _ _ (bg _ _ hL))) ?_ ?_
   ·rintro j v H3 hv ⟨bj,hl⟩
    have WV3:=(WV.same bg).same bj
    obtain⟨y,u,rfl,hy,hu,hW⟩:=WV3.at_ hv
    have aO:=(List.getElem?_eq_some_iff.mp hu).1
    have W0:=List.mem_of_getElem? hu
    have aqY:u.side<2:=by
     have h1:(decide (u.row<65536)&&(decide (u.side<2)&&decide (u.force<=127)))=true:=List.all_eq_true.mp eI u W0
     rw[Bool.and_eq_true,Bool.and_eq_true,decide_eq_true_eq,decide_eq_true_eq] at h1
     exact h1.2.1
    have asp:=ajA (b:=b) XB W0 aqY
    obtain⟨asq,asr⟩:=(PL.same bj).obj
    refine⟨rfl,_,rfl,pA,asq,_,rfl,asr,rfl,_,rfl,pA,dC,y,_,_,u,_,rfl,PL.same bj,hW,asp,fun H4 bh=>⟨_,bh _ _ hl,?_,eQ (bj.trans bh) YT,?_⟩⟩
    ·rw[List.length_map,List.length_map,List.length_take,sizeLine_eq]
     omega
    rw[ak,List.take_add_one,hu,List.map_append,List.map_append]
    rfl
   rintro H3 ⟨bj,hl⟩
   rw[List.length_map,WV.len,List.take_length,<- Tz] at hl
   refine⟨(sf b (bP t) 2:Int),DD,gT (Rol.planned b (bP t)),rfl,by rw[yM];exact hl,?_,fun r H5 vR dg cU=>?_⟩
   ·unfold gT
    rw[List.length_map,Tz,List.length_map]
    omega
   rw[an0 XB] at k
   exact k r H5 vR ((fY.trans bj).free dg) ((fY.trans bj).trans cU)
end
end RF
end
section
namespace RF
open PySem PySem.Spec PyProof.Rows L2 LX LM
open Rol (Bytes Means)
theorem alA (z:Int) (l:List Int):NLines.flat z l []=n9 z l:=by
 unfold NLines.flat n9
 by_cases h:l=[]
 ·rw[if_pos ⟨h,rfl⟩,if_pos h]
 rw[if_neg (fun q=>h q.1),if_neg h]
 rfl
theorem Vy {t:List Int}{n:Nat} (h:RolENeutral.long t n 0 255=true):t.map V.int=(NLines.bytesOf t).map bV:=by
 unfold RolENeutral.long at h
 rw[Bool.and_eq_true,List.all_eq_true] at h
 unfold NLines.bytesOf
 rw[List.map_map]
 refine List.map_congr_left fun z hz=>?_
 have:=h.2 z hz
 rw[Bool.and_eq_true,decide_eq_true_eq,decide_eq_true_eq] at this
 show V.int z=V.int ((UInt8.ofNat z.toNat).toNat:Int)
 rw[show(UInt8.ofNat z.toNat).toNat=z.toNat by rw[UInt8.toNat_ofNat'];omega]
 congr 1
 omega
def nP (d:RolE.Bench) (r:RolE.Bench×Rol.Ans):RolE.Bench×List Int:=(r.1,NLines.flat r.2.ret r.2.nums (r.2.text.map fun (b:UInt8)=>(b.toNat:Int)))
theorem uf (d e:RolE.Bench) (z:Int):nP d (e,Rol.says z)=(e,[z]):=rfl
theorem rH (d e:RolE.Bench) (z:Int) (l:List Nat):nP d (e,Rol.tells z l)=(e,n9 z (gT l)):=by
 unfold nP Rol.tells
 dsimp only
 rw[List.map_nil,alA]
 rfl
theorem an2 (d:RolE.Bench) (t:List Int):RolENeutral.step d [[1],t]=nP d (RolE.step d (.bar (NLines.bytesOf t))):=rfl
theorem alB (d:RolE.Bench) (t:List Int):RolENeutral.step d [[2],t]=nP d (RolE.step d (.read (NLines.bytesOf t))):=rfl
theorem ajF (d:RolE.Bench) (s i:Int):RolENeutral.step d [[3,s,i]]=nP d (RolE.step d (.state s.toNat i.toNat)):=rfl
theorem ajG (d:RolE.Bench) (s i k:Int):RolENeutral.step d [[4,s,i,k]]=nP d (RolE.step d (.force s.toNat i.toNat k.toNat)):=rfl
theorem agf (d:RolE.Bench) (s:Int):RolENeutral.step d [[5,s]]=nP d (RolE.step d (.strikes s.toNat)):=rfl
theorem alC (d:RolE.Bench) (t:List Int):RolENeutral.step d [[6],t]=nP d (RolE.step d (.plan (bP t))):=rfl
theorem an3 {ns:List Int}{p:Nat}{x y:Int} (h1:ns[p]?=some x) (h2:ns[p+1]?=some y):(ns.drop p).take 2=[x,y]:=by
 obtain⟨l1,rfl⟩:=List.getElem?_eq_some_iff.mp h1
 obtain⟨l2,rfl⟩:=List.getElem?_eq_some_iff.mp h2
 rw[List.drop_eq_getElem_cons l1,List.drop_eq_getElem_cons l2]
 rfl
theorem an4 {ns:List Int}{p:Nat}{x y z:Int} (h1:ns[p]?=some x) (h2:ns[p+1]?=some y) (h3:ns[p+2]?=some z):(ns.drop p).take 3=[x,y,z]:=by
 obtain⟨l1,rfl⟩:=List.getElem?_eq_some_iff.mp h1
 obtain⟨l2,rfl⟩:=List.getElem?_eq_some_iff.mp h2
 obtain⟨l3,rfl⟩:=List.getElem?_eq_some_iff.mp h3
 rw[List.drop_eq_getElem_cons l1,List.drop_eq_getElem_cons l2,List.drop_eq_getElem_cons l3]
 rfl
theorem an5 {d:RolE.Bench}{B:Bytes} (h:65536<B.length):RolE.step d (.bar B)=(d,Rol.says (-2)):=by
 have e:RolE.barIn B=.error (Rol.says (-2)):=by unfold RolE.barIn;exact if_pos h
 show(match RolE.barIn B with | .error a=>(d,a) | .ok b=>_)=_
 rw[e]
theorem alD {d:RolE.Bench}{B:Bytes}{k:Nat} (h:¬ 65536<B.length) (hr:Rol.readBar B=.error k):RolE.step d (.bar B)=(d,Rol.tells (-6) [k]):=by
 have e:RolE.barIn B=.error (Rol.tells (-6) [k]):=by unfold RolE.barIn;rw[if_neg (show ¬ Rol.TEXT<B.length from h),hr]
 show(match RolE.barIn B with | .error a=>(d,a) | .ok b=>_)=_
 rw[e]
theorem aq8 {d:RolE.Bench}{B:Bytes}{b:Rol.Bar} (h:¬ 65536<B.length) (hr:Rol.readBar B=.ok b):RolE.step d (.bar B)=({d with bar:=some b},Rol.tells 0 (se b++[b.tracks.length])):=by
 have e:RolE.barIn B=.ok b:=by unfold RolE.barIn;rw[if_neg (show ¬ Rol.TEXT<B.length from h),hr]
 show(match RolE.barIn B with | .error a=>(d,a) | .ok b=>({d with bar:=some b},Rol.tells 0 [b.wide,b.split,b.tail,b.base,b.step,b.accent,b.most,b.up,b.down,b.tracks.length]))=_
 rw[e]
 rfl
theorem alE {d:RolE.Bench}{B:Bytes} (h:65536<B.length):RolE.step d (.read B)=(d,Rol.says (-2)):=by
 have e:Rol.readIn d.strips B=(d.strips,Rol.says (-2)):=by unfold Rol.readIn;exact if_pos h
 show({d with strips:=(Rol.readIn d.strips B).1},(Rol.readIn d.strips B).2)=_
 rw[e]
theorem ajH {d:RolE.Bench}{B:Bytes}{k:Nat} (h:¬ 65536<B.length) (hr:Rol.readText B=.error k):RolE.step d (.read B)=(d,Rol.tells (-6) [k]):=by
 have e:Rol.readIn d.strips B=(d.strips,Rol.tells (-6) [k]):=by unfold Rol.readIn;rw[if_neg (show ¬ Rol.TEXT<B.length from h),hr]
 show({d with strips:=(Rol.readIn d.strips B).1},(Rol.readIn d.strips B).2)=_
 rw[e]
theorem alF {d:RolE.Bench}{B:Bytes}{y:Rol.Strip×Nat} (h:¬ 65536<B.length) (hr:Rol.readText B=.ok y) (hf:32<=d.strips.length):RolE.step d (.read B)=(d,Rol.says (-10)):=by
 have e:Rol.readIn d.strips B=(d.strips,Rol.says (-10)):=by
  unfold Rol.readIn
  rw[if_neg (show ¬ Rol.TEXT<B.length from h),hr]
  exact if_pos hf
 show({d with strips:=(Rol.readIn d.strips B).1},(Rol.readIn d.strips B).2)=_
 rw[e]
theorem aow {d:RolE.Bench}{B:Bytes}{y:Rol.Strip×Nat} (h:¬ 65536<B.length) (hr:Rol.readText B=.ok y) (hf:¬ 32<=d.strips.length):RolE.step d (.read B)=({d with strips:=d.strips++[y.1]},Rol.says (d.strips.length:Int)):=by
 have e:Rol.readIn d.strips B=(d.strips++[y.1],Rol.says (d.strips.length:Int)):=by
  unfold Rol.readIn
  rw[if_neg (show ¬ Rol.TEXT<B.length from h),hr]
  exact if_neg hf
 show({d with strips:=(Rol.readIn d.strips B).1},(Rol.readIn d.strips B).2)=_
 rw[e]
theorem ir {f r:Addr}{H H':Hp} (k:Kp f H H') (hf:∃ o,H' f=some o) (h:H' r=none):H r=none:=by
 cases hz:H r with
 | none=>rfl
 | some o =>
  by_cases q:r=f
  ·obtain⟨u,hu⟩:=hf
   rw[q,hu] at h
   cases h
  rw[k r o hz q] at h
  cases h
def Fr (x f sl:Addr) (H H':Hp):Prop:=∀ b o,H b=some o->b≠x->b≠f->b≠sl->H' b=some o
theorem Fr.same {x f sl:Addr}{H H':Hp} (s:au H H'):Fr x f sl H H':=fun b o h _ _ _=>s b o h
theorem Fr.f {x f sl:Addr}{H H':Hp} (s:Kp f H H'):Fr x f sl H H':=fun b o h _ n _=>s b o h n
theorem Fr.x {x f sl:Addr}{H H':Hp} (s:Kp x H H'):Fr x f sl H H':=fun b o h n _ _=>s b o h n
theorem Fr.sl {x f sl:Addr}{H H':Hp} (s:Kp sl H H'):Fr x f sl H H':=fun b o h _ _ n=>s b o h n
theorem Fr.trans {x f sl:Addr}{H H1 H2:Hp} (s:Fr x f sl H H1) (t:Fr x f sl H1 H2):Fr x f sl H H2:=fun b o h n1 n2 n3=>t b o (s b o h n1 n2 n3) n1 n2 n3
inductive nY (a:aC):Value->Option Addr->Hp->List Int->Prop
 | outOfRange {d:Option Addr}{H:Hp}:nY a (.ref a.cV) d H [-1]
 | tooLong {d:Option Addr}{H:Hp}:nY a (.ref a.dE) d H [-2]
 | yw {d:Option Addr}{H:Hp}:nY a (.ref a.dI) d H [-3]
 | order {d:Option Addr}{H:Hp}:nY a (.ref a.dD) d H [-3]
 | zb {d:Option Addr}{H:Hp}:nY a (.ref a.dJ) d H [-4]
 | fault {d:Addr}{H:Hp}{k:Nat}:H d=some (.xd [("place",.int (k:Int))])->nY a (.ref a.cf) (some d) H [-6,1,(k:Int),0]
 | uM {d:Option Addr}{H:Hp}:nY a (.ref a.dm) d H [-8]
 | full {d:Option Addr}{H:Hp}:nY a (.ref a.dR) d H [-10]
section
variable {P:Program}{w:World}{K:W.Frag}{mg:Str->Option Value}{base:Heap}{a:aC}{N:Addr->Prop}
theorem agg {H:Hp}{x f cA sl:Addr}{ns:List Int}{p:Nat}{dx:Addr}{bv:V} (F:bJ K a.aU H f cA ns p) (ho:H x=some (.ins a.bB dx (g9 bv sl))):f≠x:=fun z=>by
 obtain⟨gp,eP⟩:=F.obj
 rw[z,ho] at eP
 have e:=(HO.ins.inj (Option.some.inj eP)).2.2
 have:=congrArg (fun l=>List.lookup ("calls":Str) l) e
 cases this
theorem bJ.same {H H':Hp}{f cA:Addr}{ns:List Int}{p:Nat} (F:bJ K a.aU H f cA ns p) (s:au H H'):bJ K a.aU H' f cA ns p:=by
 obtain⟨dx,ho⟩:=F.obj
 exact⟨⟨dx,s _ _ ho⟩,s.seq F.lst⟩
theorem bJ.ass {H H':Hp}{x sl f cA:Addr}{ns:List Int}{p:Nat}{d:RolE.Bench} (F:bJ K a.aU H f cA ns p) (D:ck a N H x sl d) (k:Kp x H H'):bJ K a.aU H' f cA ns p:=by
 obtain⟨dx,bv,ho,_⟩:=D.obj
 obtain⟨gp,eP⟩:=F.obj
 exact⟨⟨gp,k _ _ eP (agg F ho)⟩,rS k F.lst ho⟩
theorem bJ.strips {H H':Hp}{x sl f cA:Addr}{ns:List Int}{p:Nat}{d:RolE.Bench} (F:bJ K a.aU H f cA ns p) (hn:ns≠[]) (D:ck a N H x sl d) (k:Kp sl H H'):bJ K a.aU H' f cA ns p:=by
 obtain⟨xs,hs,_⟩:=D.strips
 obtain⟨gp,eP⟩:=F.obj
 refine⟨⟨gp,k _ _ eP fun z=>by rw[z,hs] at eP;cases eP⟩,?_⟩
 rcases F.lst with (h | ⟨o,h⟩) | h
 ·refine .inl (.inl (k _ _ h fun z=>?_))
  rw[z,hs] at h
  cases ns with
  | nil=>exact hn rfl
  | cons n r =>
   have e:=HO.lst.inj (Option.some.inj h)
   cases xs with
   | nil=>cases e
   | cons u v=>cases e
 ·refine .inl (.inr ⟨o,k _ _ h fun z=>?_⟩)
  rw[z,hs] at h
  cases h
 exact .inr h
def aox (K:W.Frag) (a:aC):Sp:=fun vs H Q E=>∃ (N:Addr->Prop) (x sl f cA:Addr) (d:RolE.Bench) (ns:List Int) (p q:Nat) (c:List (List Int)),vs=[.ref x,.ref f]/\ck a N H x sl d/\(∀ b,H b=none->N b)/\bJ K a.aU H f cA ns p/\jo ns p c q/\RolENeutral.asked1 c=true /\
 (∀ (r:Addr) (H':Hp),ck a N H' x sl (RolENeutral.step d c).1->bJ K a.aU H' f cA ns q->H' r=some (.lst ((RolENeutral.step d c).2.map V.int))->H r=none->Fr x f sl H H'->Q (.ref r) H') /\
 ∀ (cls:Value) (e:Option Addr) (H':Hp),nY a cls e H' (RolENeutral.step d c).2->ck a N H' x sl (RolENeutral.step d c).1->bJ K a.aU H' f cA ns q->Fr x f sl H H'->E cls e H'
theorem agh (T:Txt w K mg a):aN P w K mg base (cu P w) true 9 a.nv a.x4 ["desk","feed"] (aox K a):=by
 refine T.CF.eh xI (fun vs H Q E h=>?_) (fun aF A outer s H vs Q E hr h=>?_)
 ·obtain⟨_,_,_,_,_,_,_,_,_,_,rfl,_⟩:=h
  rfl
 obtain⟨N,x,sl,f,cA,d,ns,p,q,c,rfl,D,hN,F,hc,gU,k,kE⟩:=h
 obtain⟨dx,bv,ho,hb⟩:=D.obj
 obtain⟨gp,eP⟩:=F.obj
 refine⟨_,(ao (aK (i:=2) xI.nd rfl (Or.inl rfl) (gL (pv 1) T.d8 T.xO (CH T) (hr.mono (by decide)) T.yd .nil aL))
  (ao (cn (cg fw (pv 2) (cC rfl T.yt) (bS _)) (aw (bc (bf (pv 0) T.cI T.MU (abS T) (hr.mono (by decide)) T.Oi .nil bW (aa (gL (pv 1) T.d8 T.wQ (By T) (hr.mono (by decide)) T.w6 .nil aL) ag)))) cv)
  (ao (cn (cg fw (pv 2) (cC rfl T.yi) (bS _)) (aw (bc (bf (pv 0) T.cI T.JU (aa4 T) (hr.mono (by decide)) T.LO .nil bW (aa (gL (pv 1) T.d8 T.wQ (By T) (hr.mono (by decide)) T.w6 .nil aL) ag)))) cv)
  (ao (cn (cg fw (pv 2) (cC rfl T.xU) (bS _)) (ao (aK (i:=3) xI.nd rfl (Or.inl rfl) (bf (pv 1) T.d8 T.wu (A3 T) (hr.mono (by decide)) T.wO .nil aL (aa aB ag)))
  (aw (bc (bf (pv 0) T.cI T.Iy (Zv T) (hr.mono (by decide)) T.JX .nil bW (aa (bR cw (pv 3) aB (fun _ _=>rfl)) (aa (bR cw (pv 3) aB (fun _ _=>rfl)) ag)))))) cv)
  (ao (cn (cg fw (pv 2) (cC rfl T.xV) (bS _)) (ao (aK (i:=3) xI.nd rfl (Or.inl rfl) (bf (pv 1) T.d8 T.wu (A3 T) (hr.mono (by decide)) T.wO .nil aL (aa aB ag)))
  (aw (bc (bf (pv 0) T.cI T.IA (Zw T) (hr.mono (by decide)) T.JY .nil bW (aa (bR cw (pv 3) aB (fun _ _=>rfl)) (aa (bR cw (pv 3) aB (fun _ _=>rfl)) (aa (bR cw (pv 3) aB (fun _ _=>rfl)) ag))))))) cv)
  (ao (cn (cg fw (pv 2) (cC rfl T.xo) (bS _)) (aw (bc (bf (pv 0) T.cI T.Ht (Ze T) (hr.mono (by decide)) T.HW .nil bW (aa (gL (pv 1) T.d8 T.xO (CH T) (hr.mono (by decide)) T.yd .nil aL) ag)))) cv)
  (ao (cn (cg fw (pv 2) (cC rfl T.yj) (bS _)) (aw (bc (bf (pv 0) T.cI T.J0 (aa7 T) (hr.mono (by decide)) T.LP .nil bW (aa (gL (pv 1) T.d8 T.wQ (By T) (hr.mono (by decide)) T.w6 .nil aL) ag)))) cv)
  (aw (iZ ft rfl rfl T.MV T.Oo T.Om T.xn))))))))),?_⟩
 cases hc with
 | @bar n t h1 R =>
  have hB:=Vy (show RolENeutral.long t 66000 0 255=true from gU)
  refine⟨_,rfl,f,gp,_,rfl,eP,rfl,f,cA,ns,p,1,rfl,F,h1,fun H1 F1 a9=>?_⟩
  have F1:bJ K a.aU H1 f cA ns (p+1):=F1
  have D1:=D.feed F a9
  refine⟨_,rfl,rfl,_,rfl,aX ?_⟩
  obtain⟨cj,Gh,bG,_⟩:=D1.obj
  obtain⟨jA,fx⟩:=F1.obj
  refine⟨_,rfl,x,cj,_,rfl,bG,rfl,_,rfl,f,jA,_,rfl,fx,rfl,f,cA,ns,p+1,n,t,rfl,F1,R,fun rA H2 F2 eX dg aP=>?_⟩
  have F2:bJ K a.aU H2 f cA ns (p+2+n):=by have:=F2;rw[show p+1+1+n=p+2+n by omega] at this;exact this
  have D2:=D1.feed F1 aP
  have pM:Fr x f sl H H2:=(Fr.f a9).trans (Fr.f aP)
  have free:∀ r,H2 r=none->H r=none:=fun r h=>ir a9 ⟨_,fx⟩ (ir aP (by obtain⟨_,h⟩:=F2.obj;exact⟨_,h⟩) h)
  refine⟨N,x,sl,rA,d,NLines.bytesOf t,rfl,D2,fun b hb=>hN b (free b hb),aq.of (by rw[<- hB];exact eX),?_⟩
  rw[an2] at k kE
  by_cases hl:65536<(NLines.bytesOf t).length
  ·rw[if_pos hl]
   rw[an5 hl,uf] at kE
   exact fun H' sm=>kE _ _ H' .tooLong (D2.same sm) (F2.same sm) (pM.trans (Fr.same sm))
  rw[if_neg hl]
  cases hR:Rol.readBar (NLines.bytesOf t) with
  | error e =>
   rw[alD hl hR,rH] at kE
   exact fun dA H' hd sm=>kE _ _ H' (.fault hd) (D2.same sm) (F2.same sm) (pM.trans (Fr.same sm))
  | ok b =>
   rw[aq8 hl hR,rH] at k
   exact fun r H3 D3 fC sy bD=>k r H3 D3 (F2.ass D2 bD) fC (free r sy) (pM.trans (Fr.x bD))
 | @read n t h1 R =>
  have hB:=Vy (show RolENeutral.long t 66000 0 255=true from gU)
  have gj:ns≠[]:=fun z=>by rw[z] at h1;cases h1
  refine⟨_,rfl,f,gp,_,rfl,eP,rfl,f,cA,ns,p,2,rfl,F,h1,fun H1 F1 a9=>?_⟩
  have F1:bJ K a.aU H1 f cA ns (p+1):=F1
  have D1:=D.feed F a9
  refine⟨_,rfl,rfl,_,rfl,aE ⟨_,rfl,rfl,_,rfl,aX ?_⟩⟩
  obtain⟨cj,Gh,bG,_⟩:=D1.obj
  obtain⟨jA,fx⟩:=F1.obj
  refine⟨_,rfl,x,cj,_,rfl,bG,rfl,_,rfl,f,jA,_,rfl,fx,rfl,f,cA,ns,p+1,n,t,rfl,F1,R,fun rA H2 F2 eX dg aP=>?_⟩
  have F2:bJ K a.aU H2 f cA ns (p+2+n):=by have:=F2;rw[show p+1+1+n=p+2+n by omega] at this;exact this
  have D2:=D1.feed F1 aP
  have pM:Fr x f sl H H2:=(Fr.f a9).trans (Fr.f aP)
  have free:∀ r,H2 r=none->H r=none:=fun r h=>ir a9 ⟨_,fx⟩ (ir aP (by obtain⟨_,h⟩:=F2.obj;exact⟨_,h⟩) h)
  refine⟨N,x,sl,rA,d,NLines.bytesOf t,rfl,D2,fun b hb=>hN b (free b hb),aq.of (by rw[<- hB];exact eX),?_⟩
  rw[alB] at k kE
  by_cases hl:65536<(NLines.bytesOf t).length
  ·rw[if_pos hl]
   rw[alE hl,uf] at kE
   exact fun H' sm=>kE _ _ H' .tooLong (D2.same sm) (F2.same sm) (pM.trans (Fr.same sm))
  rw[if_neg hl]
  cases hR:Rol.readText (NLines.bytesOf t) with
  | error e =>
   rw[ajH hl hR,rH] at kE
   exact fun dA H' hd sm=>kE _ _ H' (.fault hd) (D2.same sm) (F2.same sm) (pM.trans (Fr.same sm))
  | ok y =>
   dsimp only
   by_cases hf:32<=d.strips.length
   ·rw[if_pos hf]
    rw[alF hl hR hf,uf] at kE
    exact fun H' sm=>kE _ _ H' .full (D2.same sm) (F2.same sm) (pM.trans (Fr.same sm))
   rw[if_neg hf]
   rw[aow hl hR hf,uf] at k
   exact fun r H3 D3 fC sy bD=>k r H3 D3 (F2.strips gj D2 bD) fC (free r sy) (pM.trans (Fr.sl bD))
 | @state z i h1 h2 h3 =>
  have hw:0<=z/\0<=i:=by
   have h:(RolENeutral.whole32 z&&RolENeutral.whole32 i)=true:=gU
   unfold RolENeutral.whole32 at h
   simp only [Bool.and_eq_true,decide_eq_true_eq] at h
   omega
  refine⟨_,rfl,f,gp,_,rfl,eP,rfl,f,cA,ns,p,3,rfl,F,h1,fun H1 F1 a9=>?_⟩
  have F1:bJ K a.aU H1 f cA ns (p+1):=F1
  have D1:=D.feed F a9
  refine⟨_,rfl,rfl,_,rfl,aE ⟨_,rfl,rfl,_,rfl,aE ⟨_,rfl,rfl,_,rfl,aX ?_⟩⟩⟩
  obtain⟨jA,fx⟩:=F1.obj
  have FD:=(List.getElem?_eq_some_iff.mp h3).1
  have ht:[z,i]=(ns.drop (p+1)).take 2:=(an3 h2 h3).symm
  refine⟨_,rfl,f,jA,_,rfl,fx,rfl,f,cA,ns,p+1,2,[z,i],rfl,F1,by omega,ht,fun rA H3 F3 fC sy bD=>?_⟩
  have F3:bJ K a.aU H3 f cA ns (p+3):=F3
  have D3:=D1.feed F1 bD
  obtain⟨ET,qD⟩:=F3.obj
  obtain⟨oy,bv3,fi,_⟩:=D3.obj
  have dQ:Fr x f sl H H3:=(Fr.f a9).trans (Fr.f bD)
  have free:∀ r,H3 r=none->H r=none:=fun r h=>ir a9 ⟨_,fx⟩ (ir bD ⟨_,qD⟩ h)
  refine⟨_,rfl,x,oy,_,rfl,fi,rfl,_,rfl,rA,_,_,.int z,rfl,rfl,aq.of fC,rfl,_,rfl,rA,_,_,.int i,rfl,rfl,aq.of fC,rfl,N,x,sl,d,z.toNat,i.toNat,?_,D3,?_⟩
  ·show[V.ref x,V.int z,V.int i]=[V.ref x,V.int (z.toNat:Int),V.int (i.toNat:Int)]
   rw[Int.toNat_of_nonneg hw.1,Int.toNat_of_nonneg hw.2]
  rw[ajF] at k kE
  have es:RolE.step d (.state z.toNat i.toNat)=(d,RolE.ofBoth d z.toNat fun b x=>if x.rows.length+b.tail<i.toNat then Rol.says (-1) else Rol.tells 0 (D5 b x i.toNat)):=rfl
  rw[es] at k kE
  unfold nO
  unfold RolE.ofBoth at k kE
  cases hd:d.bar with
  | none =>
   rw[hd] at kE
   exact fun H' sm=>kE _ _ H' .uM (D3.same sm) (F3.same sm) (dQ.trans (Fr.same sm))
  | some b =>
   rw[hd] at k kE
   dsimp only at k kE ⊢
   cases hX:d.strips[z.toNat]? with
   | none =>
    rw[hX] at kE
    exact fun H' sm=>kE _ _ H' .zb (D3.same sm) (F3.same sm) (dQ.trans (Fr.same sm))
   | some X =>
    rw[hX] at k kE
    dsimp only at k kE ⊢
    by_cases pN:X.wide≠b.wide
    ·rw[if_pos pN] at kE ⊢
     exact fun H' sm=>kE _ _ H' .yw (D3.same sm) (F3.same sm) (dQ.trans (Fr.same sm))
    rw[if_neg pN] at k kE ⊢
    by_cases hi:X.rows.length+b.tail<i.toNat
    ·rw[if_pos hi] at kE ⊢
     exact fun H' sm=>kE _ _ H' .outOfRange (D3.same sm) (F3.same sm) (dQ.trans (Fr.same sm))
    rw[if_neg hi] at k ⊢
    rw[rH] at k
    exact fun r H4 mO dg bh=>k r H4 (D3.same bh) (F3.same bh) mO (free r dg) (dQ.trans (Fr.same bh))
 | @force z i j h1 h2 h3 h4 =>
  have hw:0<=z/\0<=i/\0<=j:=by
   have h:(RolENeutral.whole32 z&&RolENeutral.whole32 i&&RolENeutral.whole32 j)=true:=gU
   unfold RolENeutral.whole32 at h
   simp only [Bool.and_eq_true,decide_eq_true_eq] at h
   omega
  refine⟨_,rfl,f,gp,_,rfl,eP,rfl,f,cA,ns,p,4,rfl,F,h1,fun H1 F1 a9=>?_⟩
  have F1:bJ K a.aU H1 f cA ns (p+1):=F1
  have D1:=D.feed F a9
  refine⟨_,rfl,rfl,_,rfl,aE ⟨_,rfl,rfl,_,rfl,aE ⟨_,rfl,rfl,_,rfl,aE ⟨_,rfl,rfl,_,rfl,aX ?_⟩⟩⟩⟩
  obtain⟨jA,fx⟩:=F1.obj
  have FD:=(List.getElem?_eq_some_iff.mp h4).1
  have ht:[z,i,j]=(ns.drop (p+1)).take 3:=(an4 h2 h3 h4).symm
  refine⟨_,rfl,f,jA,_,rfl,fx,rfl,f,cA,ns,p+1,3,[z,i,j],rfl,F1,by omega,ht,fun rA H3 F3 fC sy bD=>?_⟩
  have F3:bJ K a.aU H3 f cA ns (p+4):=F3
  have D3:=D1.feed F1 bD
  obtain⟨ET,qD⟩:=F3.obj
  obtain⟨oy,bv3,fi,_⟩:=D3.obj
  have dQ:Fr x f sl H H3:=(Fr.f a9).trans (Fr.f bD)
  have free:∀ r,H3 r=none->H r=none:=fun r h=>ir a9 ⟨_,fx⟩ (ir bD ⟨_,qD⟩ h)
  refine⟨_,rfl,x,oy,_,rfl,fi,rfl,_,rfl,rA,_,_,.int z,rfl,rfl,aq.of fC,rfl,_,rfl,rA,_,_,.int i,rfl,rfl,aq.of fC,rfl,_,rfl,rA,_,_,.int j,rfl,rfl,aq.of fC,rfl,N,x,sl,d,z.toNat,i.toNat,j.toNat,?_,D3,?_⟩
  ·show[V.ref x,V.int z,V.int i,V.int j]=[V.ref x,V.int (z.toNat:Int),V.int (i.toNat:Int),V.int (j.toNat:Int)]
   rw[Int.toNat_of_nonneg hw.1,Int.toNat_of_nonneg hw.2.1,Int.toNat_of_nonneg hw.2.2]
  rw[ajG] at k kE
  have es:RolE.step d (.force z.toNat i.toNat j.toNat)=(d,RolE.ofBoth d z.toNat fun b x=>if x.rows.length+b.tail<i.toNat\/1<j.toNat then Rol.says (-1) else Rol.says (Rol.force b (x.soundRow b.tail i.toNat) j.toNat ((Rol.stateAfter b x (i.toNat+1)).side j.toNat):Int)):=rfl
  rw[es] at k kE
  unfold nO
  unfold RolE.ofBoth at k kE
  cases hd:d.bar with
  | none =>
   rw[hd] at kE
   exact fun H' sm=>kE _ _ H' .uM (D3.same sm) (F3.same sm) (dQ.trans (Fr.same sm))
  | some b =>
   rw[hd] at k kE
   dsimp only at k kE ⊢
   cases hX:d.strips[z.toNat]? with
   | none =>
    rw[hX] at kE
    exact fun H' sm=>kE _ _ H' .zb (D3.same sm) (F3.same sm) (dQ.trans (Fr.same sm))
   | some X =>
    rw[hX] at k kE
    dsimp only at k kE ⊢
    by_cases pN:X.wide≠b.wide
    ·rw[if_pos pN] at kE ⊢
     exact fun H' sm=>kE _ _ H' .yw (D3.same sm) (F3.same sm) (dQ.trans (Fr.same sm))
    rw[if_neg pN] at k kE ⊢
    by_cases hi:X.rows.length+b.tail<i.toNat\/1<j.toNat
    ·rw[if_pos hi] at kE ⊢
     exact fun H' sm=>kE _ _ H' .outOfRange (D3.same sm) (F3.same sm) (dQ.trans (Fr.same sm))
    rw[if_neg hi] at k ⊢
    rw[uf] at k
    exact fun r H4 mO dg bh=>k r H4 (D3.same bh) (F3.same bh) mO (free r dg) (dQ.trans (Fr.same bh))
 | @strikes z h1 h2 =>
  have hw:0<=z:=by
   have h:RolENeutral.whole32 z=true:=gU
   unfold RolENeutral.whole32 at h
   simp only [Bool.and_eq_true,decide_eq_true_eq] at h
   omega
  refine⟨_,rfl,f,gp,_,rfl,eP,rfl,f,cA,ns,p,5,rfl,F,h1,fun H1 F1 a9=>?_⟩
  have F1:bJ K a.aU H1 f cA ns (p+1):=F1
  have D1:=D.feed F a9
  refine⟨_,rfl,rfl,_,rfl,aE ⟨_,rfl,rfl,_,rfl,aE ⟨_,rfl,rfl,_,rfl,aE ⟨_,rfl,rfl,_,rfl,aE ⟨_,rfl,rfl,_,rfl,aX ?_⟩⟩⟩⟩⟩
  obtain⟨jA,fx⟩:=F1.obj
  obtain⟨cj,Gh,bG,_⟩:=D1.obj
  refine⟨_,rfl,x,cj,_,rfl,bG,rfl,_,rfl,f,jA,_,rfl,fx,rfl,f,cA,ns,p+1,z,rfl,F1,h2,fun H3 F3 bD=>?_⟩
  have F3:bJ K a.aU H3 f cA ns (p+2):=F3
  have D3:=D1.feed F1 bD
  obtain⟨ET,qD⟩:=F3.obj
  have dQ:Fr x f sl H H3:=(Fr.f a9).trans (Fr.f bD)
  have free:∀ r,H3 r=none->H r=none:=fun r h=>ir a9 ⟨_,fx⟩ (ir bD ⟨_,qD⟩ h)
  refine⟨N,x,sl,d,z.toNat,?_,D3,?_⟩
  ·show[V.ref x,V.int z]=[V.ref x,V.int (z.toNat:Int)]
   rw[Int.toNat_of_nonneg hw]
  rw[agf] at k kE
  have es:RolE.step d (.strikes z.toNat)=(d,RolE.ofBoth d z.toNat fun b x=>Rol.tells ((Rol.strikes b x).length:Int) ((Rol.strikes b x).flatMap RolE.strikeRow)):=rfl
  rw[es] at k kE
  unfold nO
  unfold RolE.ofBoth at k kE
  cases hd:d.bar with
  | none =>
   rw[hd] at kE
   exact fun H' sm=>kE _ _ H' .uM (D3.same sm) (F3.same sm) (dQ.trans (Fr.same sm))
  | some b =>
   rw[hd] at k kE
   dsimp only at k kE ⊢
   cases hX:d.strips[z.toNat]? with
   | none =>
    rw[hX] at kE
    exact fun H' sm=>kE _ _ H' .zb (D3.same sm) (F3.same sm) (dQ.trans (Fr.same sm))
   | some X =>
    rw[hX] at k kE
    dsimp only at k kE ⊢
    by_cases pN:X.wide≠b.wide
    ·rw[if_pos pN] at kE ⊢
     exact fun H' sm=>kE _ _ H' .yw (D3.same sm) (F3.same sm) (dQ.trans (Fr.same sm))
    rw[if_neg pN] at k kE ⊢
    rw[rH] at k
    exact fun r H4 mO dg bh=>k r H4 (D3.same bh) (F3.same bh) mO (free r dg) (dQ.trans (Fr.same bh))
 | @plan n t h1 R =>
  have hw:t.length<=3000/\(∀ y∈t,0<=y)/\t.length % 3=0:=by
   have h:(decide (t.length<=3000)&&t.all RolENeutral.whole32&&decide (t.length % 3=0))=true:=gU
   rw[Bool.and_eq_true,Bool.and_eq_true,decide_eq_true_eq,decide_eq_true_eq,List.all_eq_true] at h
   refine⟨h.1.1,fun y hy=>?_,h.2⟩
   have:=h.1.2 y hy
   unfold RolENeutral.whole32 at this
   simp only [Bool.and_eq_true,decide_eq_true_eq] at this
   omega
  refine⟨_,rfl,f,gp,_,rfl,eP,rfl,f,cA,ns,p,6,rfl,F,h1,fun H1 F1 a9=>?_⟩
  have F1:bJ K a.aU H1 f cA ns (p+1):=F1
  have D1:=D.feed F a9
  refine⟨_,rfl,rfl,_,rfl,aE ⟨_,rfl,rfl,_,rfl,aE ⟨_,rfl,rfl,_,rfl,aE ⟨_,rfl,rfl,_,rfl,aE ⟨_,rfl,rfl,_,rfl,aE ⟨_,rfl,rfl,_,rfl,aX ?_⟩⟩⟩⟩⟩⟩
  obtain⟨jA,fx⟩:=F1.obj
  obtain⟨cj,Gh,bG,_⟩:=D1.obj
  refine⟨_,rfl,x,cj,_,rfl,bG,rfl,_,rfl,f,jA,_,rfl,fx,rfl,f,cA,ns,p+1,n,t,rfl,F1,R,fun rA H3 F3 fC sy bD=>?_⟩
  have F3:bJ K a.aU H3 f cA ns (p+2+n):=by have:=F3;rw[show p+1+1+n=p+2+n by omega] at this;exact this
  have D3:=D1.feed F1 bD
  obtain⟨ET,qD⟩:=F3.obj
  have dQ:Fr x f sl H H3:=(Fr.f a9).trans (Fr.f bD)
  have free:∀ r,H3 r=none->H r=none:=fun r h=>ir a9 ⟨_,fx⟩ (ir bD ⟨_,qD⟩ h)
  refine⟨N,x,sl,rA,d,t,rfl,D3,fC,hw,?_⟩
  rw[alC] at k kE
  have es:RolE.step d (.plan (bP t))=(d,match d.bar with
   | none=>Rol.says (-8)
   | some b=>if RolE.WISHES<(bP t).length\/((bP t).all RolE.wishOk)=false then Rol.says (-1) else if RolE.inOrder (bP t)=false then Rol.says (-3) else Rol.tells (Rol.planCost b (bP t):Int) (Rol.planned b (bP t))):=rfl
  rw[es] at k kE
  cases hd:d.bar with
  | none =>
   rw[hd] at kE
   exact fun H' sm=>kE _ _ H' .uM (D3.same sm) (F3.same sm) (dQ.trans (Fr.same sm))
  | some b =>
   rw[hd] at k kE
   dsimp only at k kE ⊢
   by_cases hi:RolE.WISHES<(bP t).length\/((bP t).all RolE.wishOk)=false
   ·rw[if_pos hi] at kE ⊢
    exact fun H' sm=>kE _ _ H' .outOfRange (D3.same sm) (F3.same sm) (dQ.trans (Fr.same sm))
   rw[if_neg hi] at k kE ⊢
   by_cases hj:RolE.inOrder (bP t)=false
   ·rw[if_pos hj] at kE ⊢
    exact fun H' sm=>kE _ _ H' .order (D3.same sm) (F3.same sm) (dQ.trans (Fr.same sm))
   rw[if_neg hj] at k ⊢
   rw[rH] at k
   exact fun r H4 mO dg bh=>k r H4 (D3.same bh) (F3.same bh) mO (free r dg) (dQ.trans (Fr.same bh))
end
end RF
end
section
namespace L2
open PySem
theorem cK.as {j k:Nat}{A B:Around} (r:cK k A) (h:j<=k) (hd:B.depth=A.depth) (hu:B.units=A.units):cK j B:=⟨by rw[hd];exact(r.mono h).dp,by rw[hu];exact(r.mono h).un⟩
end L2
namespace RF
open PySem PySem.Spec PyProof.Rows L2 LX LM
open Rol (Bytes Means)
section
variable {P:Program}{w:World}{K:W.Frag}{mg:Str->Option Value}{base:Heap}{a:aC}{N:Addr->Prop}
theorem aoy {H H':Hp}{x f sl cA r:Addr}{d:RolE.Bench}{ns:List Int}{p:Nat} (fr:Fr x f sl H H') (D:ck a N H' x sl d) (F:bJ K a.aU H' f cA ns p) (h:H' r=none):H r=none:=by
 cases hz:H r with
 | none=>rfl
 | some o =>
  exfalso
  obtain⟨dx,bv,ho,_⟩:=D.obj
  obtain⟨xs,hs,_⟩:=D.strips
  obtain⟨gp,eP⟩:=F.obj
  by_cases q1:r=x
  ·rw[q1,ho] at h;cases h
  by_cases q2:r=f
  ·rw[q2,eP] at h;cases h
  by_cases q3:r=sl
  ·rw[q3,hs] at h;cases h
  rw[fr r o hz q1 q2 q3] at h
  cases h
def an6 (K:W.Frag) (a:aC):Sp:=fun vs H Q _=>∃ (N:Addr->Prop) (x sl f cA:Addr) (d:RolE.Bench) (ns:List Int) (p q:Nat) (c:List (List Int)),vs=[.ref x,.ref f]/\ck a N H x sl d/\(∀ b,H b=none->N b)/\bJ K a.aU H f cA ns p/\jo ns p c q/\RolENeutral.asked1 c=true /\
 ∀ (r:Addr) (H':Hp),ck a N H' x sl (RolENeutral.step d c).1->bJ K a.aU H' f cA ns q->H' r=some (.lst ((RolENeutral.step d c).2.map V.int))->H r=none->Fr x f sl H H'->Q (.ref r) H'
theorem alG (T:Txt w K mg a):aN P w K mg base bC true 10 a.nM a.yI ["desk","feed"] (an6 K a):=by
 refine T.DG.ok UG (fun vs H Q E h=>?_) (fun aF A outer s H vs Q E hr h=>?_)
 ·obtain⟨_,_,_,_,_,_,_,_,_,_,rfl,_⟩:=h
  rfl
 obtain⟨N,x,sl,f,cA,d,ns,p,q,c,rfl,D,hN,F,hc,gU,k⟩:=h
 refine⟨_,(aw (apK rfl (fun _ _=>by exact(aw (bc (bQ (agh T) (hr.as (by decide) rfl rfl) rfl T.QR T.CF.kp T.R6 .nil aqH (aa (pv 0) (aa (pv 1) ag))))))
  (p9 rfl T.rk (fun _ _=>by exact(aw (bc (bQ (gC (cm:=false) T) (hr.as (by decide) rfl rfl) rfl T.f9 T.fM.kp T.gc .nil aL (aa (jr jm aB) (aa (cP ag) ag))))))
  (p9 rfl T.BR (fun _ _=>by exact(aw (bc (bQ (gC (cm:=false) T) (hr.as (by decide) rfl rfl) rfl T.f9 T.fM.kp T.gc .nil aL (aa (jr jm aB) (aa (cP ag) ag))))))
  (p9 rfl T.Cf (fun _ _=>by exact(aw (bc (bQ (gC (cm:=false) T) (hr.as (by decide) rfl rfl) rfl T.f9 T.fM.kp T.gc .nil aL (aa (jr jm aB) (aa (cP ag) ag))))))
  (p9 rfl T.AE (fun _ _=>by exact(aw (bc (bQ (gC (cm:=false) T) (hr.as (by decide) rfl rfl) rfl T.f9 T.fM.kp T.gc .nil aL (aa (jr jm aB) (aa (cP ag) ag))))))
  (p9 rfl T.C7 (fun _ _=>by exact(aw (bc (bQ (gC (cm:=false) T) (hr.as (by decide) rfl rfl) rfl T.f9 T.fM.kp T.gc .nil aL (aa (jr jm aB) (aa (cP ag) ag))))))
  (amr (i:=2) rfl T.oJ UG.nd rfl rfl (fun _ _=>by exact(aw (bc (bQ (gC (cm:=false) T) (hr.as (by decide) rfl rfl) rfl T.f9 T.fM.kp T.gc .nil aL (aa (jr jm aB) (aa (cP (aa (anW (List.Mem.head _) (pv 2) rfl) ag)) ag))))))
  (p9 rfl T.DH (fun _ _=>by exact(aw (bc (bQ (gC (cm:=false) T) (hr.as (by decide) rfl rfl) rfl T.f9 T.fM.kp T.gc .nil aL (aa (jr jm aB) (aa (cP ag) ag))))))
  (p9 rfl T.CG (fun _ _=>by exact(aw (bc (bQ (gC (cm:=false) T) (hr.as (by decide) rfl rfl) rfl T.f9 T.fM.kp T.gc .nil aL (aa (jr jm aB) (aa (cP ag) ag))))))
  apJ)) rfl)))))))),?_⟩
 refine⟨_,rfl,_,rfl,N,x,sl,f,cA,d,ns,p,q,c,rfl,D,hN,F,hc,gU,k,fun cls e H' ex D' F' fr σ hσ=>?_⟩
 have hσ3:σ.length=3:=hσ
 have fin:∀ (z:Int) (l:List Int) (q1:Addr),(RolENeutral.step d c).2=n9 z l->H' q1=none->l.length<=1000000->Wz K [.int z,.ref q1] (upd H' q1 (.lst (l.map V.int))) Q E0:=fun z l q1 hz bF hl=>by
  refine⟨z,q1,l,rfl,ak,hl,fun r H5 vR dg cU=>?_⟩
  have sm:=(aW (o:=.lst (l.map V.int)) bF).trans cU
  refine k r H5 (D'.same sm) (F'.same sm) ?_ (aoy fr D' F' ((aW bF).free dg)) (fr.trans (Fr.same sm))
  rw[hz]
  exact vR
 generalize avc:(RolENeutral.step d c).2=ans at ex fin
 cases ex with
 | outOfRange=>exact⟨_,T.GL,aX ⟨_,rfl,Nat.zero_le _,fun q1 bF=>fin (-1) [] q1 rfl bF (Nat.zero_le _)⟩⟩
 | tooLong=>exact⟨_,T.Gx,aE ⟨_,T.Gr,aX ⟨_,rfl,Nat.zero_le _,fun q1 bF=>fin (-2) [] q1 rfl bF (Nat.zero_le _)⟩⟩⟩
 | yw=>exact⟨_,T.GJ,aE ⟨_,T.Gz,aE ⟨_,T.GK,aX ⟨_,rfl,Nat.zero_le _,fun q1 bF=>fin (-3) [] q1 rfl bF (Nat.zero_le _)⟩⟩⟩⟩
 | order=>exact⟨_,T.Gm,aE ⟨_,T.Gk,aE ⟨_,T.Gn,aE ⟨_,T.Gj,aX ⟨_,rfl,Nat.zero_le _,fun q1 bF=>fin (-3) [] q1 rfl bF (Nat.zero_le _)⟩⟩⟩⟩⟩
 | zb=>exact⟨_,T.Hd,aE ⟨_,T.G5,aE ⟨_,T.He,aE ⟨_,T.Gy,aE ⟨_,T.IE,aX ⟨_,rfl,Nat.zero_le _,fun q1 bF=>fin (-4) [] q1 rfl bF (Nat.zero_le _)⟩⟩⟩⟩⟩⟩
 | @fault dA _ n hd =>
  refine⟨_,T.GP,aE ⟨_,T.GI,aE ⟨_,T.GQ,aE ⟨_,T.Gq,aE ⟨_,T.Hu,aE ⟨_,T.G2,aX fun e oe jE vo jF Fv=>?_⟩⟩⟩⟩⟩⟩
  refine⟨_,rfl,_,by rw[List.getElem?_set_self (by omega)],rfl,_,dA,_,.int (n:Int),jE,vo,hd,T.nt,T.xQ,T.xR,T.tD,jF,rfl,(by show 1<=sizeLine;decide),fun q1 bF=>?_⟩
  exact fin (-6) [(n:Int)] q1 rfl bF (by show 1<=1000000;decide)
 | uM=>exact⟨_,T.HY,aE ⟨_,T.Hw,aE ⟨_,T.HZ,aE ⟨_,T.GS,aE ⟨_,T.LR,aE ⟨_,T.ID,aE ⟨_,T.Oq,aX ⟨_,rfl,Nat.zero_le _,fun q1 bF=>fin (-8) [] q1 rfl bF (Nat.zero_le _)⟩⟩⟩⟩⟩⟩⟩⟩
 | full=>exact⟨_,T.G3,aE ⟨_,T.GR,aE ⟨_,T.G4,aE ⟨_,T.Gs,aE ⟨_,T.HX,aE ⟨_,T.Hc,aE ⟨_,T.J6,aE ⟨_,T.Hv,aX ⟨_,rfl,Nat.zero_le _,fun q1 bF=>fin (-10) [] q1 rfl bF (Nat.zero_le _)⟩⟩⟩⟩⟩⟩⟩⟩⟩
end
end RF
end
section
namespace RF
open PySem PySem.Spec PyProof.Rows L2 LX LM
open Rol (Bytes Means)
section
variable {P:Program}{w:World}{K:W.Frag}{mg:Str->Option Value}{base:Heap}{a:aC}
theorem alH {N M:Addr->Prop}{H:Hp}{x sl:Addr} (D:ck a N H x sl RolE.start):ck a M H x sl RolE.start:=by
 obtain⟨dx,bv,ho,hb⟩:=D.obj
 obtain⟨xs,hs,hS⟩:=D.strips
 refine⟨⟨dx,bv,ho,?_⟩,⟨xs,hs,?_⟩,D.pB⟩
 ·have hb:qB a N H none bv:=hb
  cases hb
  exact .no
 have hS:fu a N H xs []:=hS
 cases hS
 exact .nil
def UQ (K:W.Frag):Sp:=fun vs H Q _=>∃ (cA:Addr) (ns:List Int),vs=[.ref cA]/\aq K H cA (ns.map V.int)/\PyWqazbu.answers_asked ns=true /\
 ∀ (r:Addr) (H':Hp),H' r=some (.lst ((PyWqazbu.answers ns).map V.int))->au H H'->Q (.ref r) H'
theorem ajI (T:Txt w K mg a):aN P w K mg base bC true 11 a.ml a.p7 ["calls"] (UQ K):=by
 refine T.TK.ok t6 (fun vs H Q E h=>?_) (fun aF A outer s H vs Q E hr h=>?_)
 ·obtain⟨_,_,rfl,_⟩:=h
  rfl
 obtain⟨cA,ns,rfl,hc,gU,k⟩:=h
 have hlen:=ahB gU
 refine⟨_,(ao (aK (i:=1) t6.nd rfl (Or.inl rfl) (U1 T.yZ (ag9 T) (hr.mono (by decide)) rfl T.Vo T.Sa .nil aL))
  (ao (aK (i:=2) t6.nd rfl (Or.inl rfl) (oM T.y0 (ag8 T) (hr.mono (by decide)) rfl T.Vp T.Sb .nil aL (aa (pv 0) ag)))
  (ao (aK (i:=3) t6.nd rfl (Or.inl rfl) (cP ag))
  (ao (rN PassesOwn.never (qf (jl (gL (pv 2) T.d8 T.IC (Zu T) (hr.mono (by decide)) T.J1 .nil aL))) (ao (aK (i:=4) t6.nd rfl (Or.inl rfl) (bQ (alG T) (hr.mono (by decide)) rfl T.UH T.DG.kp T.Vl .nil aL (aa (pv 1) (aa (pv 2) ag))))
  (ao (bY (gP PySem.F.plainAttrs_list PySem.F.slot_list_append PySem.F.type_list_append mi (pv 3) (aa (da fm rfl T.eu e7 (aa (pv 4) ag)) ag)))
  (aw (bY (gP PySem.F.plainAttrs_list PySem.F.slot_list_extend PySem.F.type_list_extend Ds (pv 3) (aa (pv 4) ag)))))))
  (aw (bc (pv 3))))))),?_⟩
 refine fun x dx hx gm cq=>⟨fun _=>True,x,dx,rfl,ak,fun sl H1 D1 gk a9=>⟨rfl,?_⟩⟩
 have aM:au H H1:=au.kp (jg hx gm) hx a9
 obtain⟨dxd,bvd,zN,_⟩:=D1.obj
 obtain⟨xs1,qR,_⟩:=D1.strips
 refine⟨_,rfl,fun f gp hf XC avd=>⟨f,cA,gp,ns,rfl,ak,(aM.trans (jg hf XC)).seq hc,fun H2 F2 aP=>⟨rfl,?_⟩⟩⟩
 have jy:au H1 H2:=au.kp (jg hf XC) hf aP
 have bg:au H H2:=aM.trans jy
 have F2:bJ K a.aU H2 f cA ns 0:=F2
 obtain⟨asu,XD⟩:=F2.obj
 refine⟨Nat.zero_le _,fun g hg=>?_⟩
 have Ag:g≠x:=fun z=>by rw[z,jy _ _ zN] at hg;cases hg
 have Ah:g≠sl:=fun z=>by rw[z,jy _ _ qR] at hg;cases hg
 have Ai:g≠f:=fun z=>by rw[z,XD] at hg;cases hg
 have Gi:H g=none:=bg.free hg
 have YU:H x=none:=hx
 have YV:H f=none:=aM.free hf
 have uS:H sl=none:=by
  cases hz:H sl with
  | none=>rfl
  | some o=>rw[jg hx gm _ _ hz] at gk;cases gk
 have smF:∀ H',Fr x f sl H2 H'->au H H':=fun H' fr b o hb=>fr b o (bg b o hb) (aJ hb YU) (aJ hb YV) (aJ hb uS)
 have bj:au H (upd H2 g (.lst (([]:List Int).map V.int))):=bg.trans (aW hg)
 have D3:ck a (fun b=>b≠g) (upd H2 g (.lst (([]:List Int).map V.int))) x sl RolE.start:=(alH (D1.same jy)).FV Ag Ah
 refine⟨fun m σ' H'=>∃ (p:Nat) (d:RolE.Bench) (given:List Int) (c4:Option V),σ'=[some (.ref cA),some (.ref x),some (.ref f),some (.ref g),c4]/\ck a (fun b=>b≠g) H' x sl d/\bJ K a.aU H' f cA ns p /\
  H' g=some (.lst (given.map V.int))/\au H H'/\Left ns p d given/\m=ns.length-p,⟨_,0,RolE.start,[],none,rfl,D3,⟨⟨asu,by rw[ai (Ne.symm Ai)];exact XD⟩,bj.seq hc⟩,ak,bj,Left.start gU,rfl⟩,?_⟩
 rintro m σ' H' ⟨p,d,given,c4,rfl,D',F',hG,aV,L,rfl⟩
 obtain⟨asv,asw⟩:=F'.obj
 refine⟨_,rfl,f,asv,_,rfl,asw,rfl,f,cA,ns,p,rfl,F',_,rfl,?_⟩
 by_cases hp:ns.length<=p
 ·rw[decide_eq_true hp]
  refine aE ⟨_,rfl,?_⟩
  have e:=L.done (by have:=L.le;omega)
  rw[e] at k
  exact k g H' hG aV
 rw[decide_eq_false hp]
 obtain⟨c,q,aqZ,hq,Yo,ar0,L2⟩:=L.turn (by omega)
 refine aX ⟨fun σ2 H2=>∃ (d:RolE.Bench) (given:List Int) (c4:Option V),σ2=[some (.ref cA),some (.ref x),some (.ref f),some (.ref g),c4]/\ck a (fun b=>b≠g) H2 x sl d/\bJ K a.aU H2 f cA ns q/\H2 g=some (.lst (given.map V.int))/\au H H2/\Left ns q d given,?_,?_⟩
 ·rintro σ2 H4 ⟨d4,aq9,c44,rfl,D4,F4,Aj,bh,L4⟩
  exact⟨ns.length-q,by omega,q,d4,aq9,c44,rfl,D4,F4,Aj,bh,L4,rfl⟩
 refine⟨_,rfl,_,rfl,fun b=>b≠g,x,sl,f,cA,d,ns,p,q,c,rfl,D',fun b hb z=>?_,F',aqZ,ar0,fun r H4 D4 F4 mO XE YW=>?_⟩
 ·rw[z,hG] at hb
  cases hb
 have bh:au H H4:=fun b o hb=>YW b o (aV b o hb) (aJ hb YU) (aJ hb YV) (aJ hb uS)
 have Aj:H4 g=some (.lst (given.map V.int)):=YW _ _ hG Ag Ai Ah
 have nrg:r≠g:=fun z=>by rw[z,hG] at XE;cases XE
 obtain⟨asx,asy⟩:=F4.obj
 have ar1:=L2.part
 rw[List.length_append,List.length_cons] at ar1
 refine⟨_,rfl,.inl ⟨rfl,_,aq.of Aj⟩,_,rfl,r,_,rfl,.inl (aq.of mO),g,_,_,rfl,rfl,Aj,by rw[List.length_map,sizeLine_eq];omega,?_⟩
 refine⟨_,rfl,.inl ⟨rfl,_,aq.of ak⟩,_,rfl,g,r,_,_,rfl,rfl,ak,by rw[ai nrg];exact mO,?_,?_⟩
 ·rw[List.length_append,List.length_map,List.length_map,sizeLine_eq]
  show given.length+1+_<=16777216
  omega
 have smu:∀ o,au H (upd H4 g o):=fun o b u hb=>by rw[ai (aJ hb Gi)];exact bh b u hb
 have XF:∀ o o',au H (upd (upd H4 g o) g o'):=fun o o' b u hb=>by rw[ai (aJ hb Gi),ai (aJ hb Gi)];exact bh b u hb
 refine⟨_,_,_,rfl,(D4.FV Ag Ah).FV Ag Ah,⟨⟨asx,by rw[ai (Ne.symm Ai),ai (Ne.symm Ai)];exact asy⟩,(XF _ _).seq hc⟩,?_,XF _ _,L2⟩
 rw[ak,List.map_append,List.length_map,List.map_cons,List.append_assoc]
 rfl
end
end RF
end
section
namespace RF
open PySem PySem.Spec PyProof.Rows L2 LX
theorem aqa {w:World}{K:W.Frag}{h:Heap}{mg:Str->Option Value}{nE:Addr}{ahM Sm:Option Addr}{ahN:Array (Option Value)}{ahO Sn So Sq C9 Sr:Value}{m7:Addr}{adq Ot:Option Addr}{ads:Array (Option Value)}{adt Ou Ov Ow Cg Ox:Value}{mW:Addr}{abV M0:Option Addr}{abW:Array (Option Value)}{abX M3 M4 M5 BS M6:Value}{m8:Addr}{adu Oy:Option Addr}{adv:Array (Option Value)}{adw Oz OA OB Ci OC:Value}{mX:Addr}{abY M7:Option Addr}{abZ:Array (Option Value)}{ac0 M8 M9 Na BU Nb:Value}{m9:Addr}{adx OD:Option Addr}{ady:Array (Option Value)}{adz OE OF OG Cj OH:Value}{nu:Addr}{agi Q0:Option Addr}{agj:Array (Option Value)}{agk Q1 Q2 Q3 CI Q4:Value}{mT:Addr}{abe LY:Option Addr}{abf:Array (Option Value)}{abg LZ L5 L6 Bz L7:Value}{nc:Addr}{adA OI:Option Addr}{adB:Array (Option Value)}{adC OJ OK OL Ck OM:Value}{ng:Addr}{adD ON:Option Addr}{adE:Array (Option Value)}{adF OO OP OQ Cm OR:Value}{mP:Addr}{Zy IF:Option Addr}{Zz:Array (Option Value)}{ZA IG II IJ AG IK:Value}{nh:Addr}{adG OS:Option Addr}{adH:Array (Option Value)}{adI OT OU OV Cn OW:Value}{mR:Addr}{aa8 Ka:Option Addr}{aa9:Array (Option Value)}{aaa Kb Kc Kd A4 Ke:Value}{nF:Addr}{ahP Ss:Option Addr}{ahQ:Array (Option Value)}{ahR Su Sv Sw Dc Sx:Value}{nk:Addr}{aeU PZ:Option Addr}{aeV:Array (Option Value)}{aeW P7 P8 P9 Cu Qa:Value}{mY:Addr}{ac1 Nc:Option Addr}{ac2:Array (Option Value)}{ac3 Nd Nf Ng BV Nh:Value}{nG:Addr}{ahS Sy:Option Addr}{ahT:Array (Option Value)}{ahU Sz SD SE De SG:Value}{ni:Addr}{adJ OX:Option Addr}{adK:Array (Option Value)}{adL OY OZ O0 Co O1:Value}{mZ:Addr}{ac4 Ni:Option Addr}{ac5:Array (Option Value)}{ac6 Nj Nk Nl BW Nm:Value}{nq:Addr}{aeX Qb:Option Addr}{aeY:Array (Option Value)}{aeZ Qc Qe Qg Cv Qh:Value}{nr:Addr}{af0 Qi:Option Addr}{af1:Array (Option Value)}{af2 Qj Qk Ql Cw Qm:Value}{m4:Addr}{ac7 Nn:Option Addr}{ac8:Array (Option Value)}{ac9 Np Nq Nr BX Nt:Value}{nW:Addr}{aoz Wb:Option Addr}{aoA:Array (Option Value)}{aoB Wc Wd We D6 Wf:Value}{nv:Addr}{agl Q5:Option Addr}{agm:Array (Option Value)}{agn Q6 Q7 Q8 CJ Q9:Value}{nM:Addr}{alI UR:Option Addr}{alJ:Array (Option Value)}{alK US UT UU DJ UW:Value}{ml:Addr}{ajJ T4:Option Addr}{ajK:Array (Option Value)}{ajL T5 T6 T7 Dq T8:Value}{aG:Addr}{lh:Addr}{aca Nu:Option Addr}{acb:Array (Option Value)}{acd Nv Nw Ny BY Nz:Value}{kx:Addr}{aab Kf:Option Addr}{aac:Array (Option Value)}{aad Kg Kh Ki A5 Kj:Value}{jM:Addr}{Y3 GU:Option Addr}{Y4:Array (Option Value)}{Y5 GV GW GX Ap GY:Value}{lj:Addr}{ace NA:Option Addr}{acf:Array (Option Value)}{acg NB NC ND BZ NF:Value}{kz:Addr}{aae Kk:Option Addr}{aaf:Array (Option Value)}{aag Kl Km Kn A6 Ko:Value}{jK:Addr}{YX GB:Option Addr}{YY:Array (Option Value)}{YZ GC GD GF Al GG:Value}{jO:Addr}{Y7 G6:Option Addr}{Y8:Array (Option Value)}{Y9 G7 G8 G9 Ar Ha:Value}{jR:Addr}{Zf Hx:Option Addr}{Zg:Array (Option Value)}{Zh Hy Hz HA Av HB:Value}{ba:Addr}{ma:Addr}{ahV SH:Option Addr}{ahW:Array (Option Value)}{ahX SI SK SM Df SN:Value}{kS:Addr}{abh L8:Option Addr}{abi:Array (Option Value)}{abj L9 Ma Mb BB Mc:Value}{kC:Addr}{aah Kq:Option Addr}{aai:Array (Option Value)}{aaj Kr Ks Kt A7 Ku:Value}{j4:Addr}{ZC IL:Option Addr}{ZD:Array (Option Value)}{ZE IM IP IQ AH IS:Value}{dN:Addr}{lU:Addr}{ago Ra:Option Addr}{agp:Array (Option Value)}{agq Rb Rc Rf CK Rg:Value}{df:Addr}{lV:Addr}{agr Rh:Option Addr}{ags:Array (Option Value)}{agt Ri Rj Rk CL Rl:Value}{lD:Addr}{adM O2:Option Addr}{adN:Array (Option Value)}{adO O3 O4 O5 Cp O6:Value}{kD:Addr}{aak Kv:Option Addr}{aal:Array (Option Value)}{aam Kw Kx Ky A8 Kz:Value}{bb:Addr}{lW:Addr}{agu Rm:Option Addr}{agv:Array (Option Value)}{agw Rn Ro Rp CM Rq:Value}{kT:Addr}{abk Md:Option Addr}{abl:Array (Option Value)}{abm Me Mf Mg BC Mh:Value}{j5:Addr}{ZF IT:Option Addr}{ZG:Array (Option Value)}{ZH IU IV IW AI IX:Value}{j6:Addr}{ZI IY:Option Addr}{ZJ:Array (Option Value)}{ZK IZ Ja Jb AJ Jc:Value}{kU:Addr}{abn Mi:Option Addr}{abo:Array (Option Value)}{abp Mj Ml Mm BD Mn:Value}{cx:Addr}{lK:Addr}{af3 Qn:Option Addr}{af4:Array (Option Value)}{af5 Qo Qp Qq Cy Qr:Value}{kF:Addr}{aan KA:Option Addr}{aao:Array (Option Value)}{aap KC KG KH A9 KI:Value}{bB:Addr}{lX:Addr}{agx Rr:Option Addr}{agy:Array (Option Value)}{agz Rt Ru Rv CN Rw:Value}{ll:Addr}{ach NG:Option Addr}{aci:Array (Option Value)}{acj NH NI NJ B0 NK:Value}{kG:Addr}{aaq KJ:Option Addr}{aar:Array (Option Value)}{aas KL KN KO Ba KP:Value}{kH:Addr}{aat KQ:Option Addr}{aau:Array (Option Value)}{aav KR KS KU Bc KW:Value}{j7:Addr}{ZL Jd:Option Addr}{ZM:Array (Option Value)}{ZN Je Jf Jg AK Jh:Value}{kI:Addr}{aaw KY:Option Addr}{aax:Array (Option Value)}{aay KZ K0 K1 Bd K2:Value}{j8:Addr}{ZO Ji:Option Addr}{ZP:Array (Option Value)}{ZQ Jj Jk Jl AL Jm:Value}{j9:Addr}{ZR Jn:Option Addr}{ZS:Array (Option Value)}{ZT Jo Jp Jq AM Jr:Value}{jS:Addr}{Zi HC:Option Addr}{Zj:Array (Option Value)}{Zk HD HE HF Aw HG:Value}{kJ:Addr}{aaz K3:Option Addr}{aaA:Array (Option Value)}{aaB K4 K5 K6 Be K7:Value}{aU:Addr}{lY:Addr}{agA Rx:Option Addr}{agB:Array (Option Value)}{agC Ry Rz RA CO RB:Value}{ka:Addr}{ZU Js:Option Addr}{ZV:Array (Option Value)}{ZW Jt Ju Jv AN Jw:Value}{lZ:Addr}{agD RC:Option Addr}{agE:Array (Option Value)}{agF RD RE RG CP RH:Value}{kK:Addr}{aaC K8:Option Addr}{aaD:Array (Option Value)}{aaE K9 La Lb Bf Lc:Value}{kW:Addr}{abq Mo:Option Addr}{abr:Array (Option Value)}{abt Mp Mq Mr BE Ms:Value}{dE:Addr}{adP:Str}{af6:Addr}{adQ:List Value}{adR:List Str}{ack:List Value}{adS:Bool}{acm:Option Bool}{adT:Option Addr}{adU adV adW adX adY:Option Value}{cf:Addr}{agG:Str}{ahY:Addr}{agH:List Value}{agI:List Str}{af7:List Value}{agJ:Bool}{af8:Option Bool}{agK:Option Addr}{agL agM agN agO agP:Option Value}{iL:Addr}{aaF Ld:Option Addr}{aaG:Array (Option Value)}{aaH Lf Lg Lh Bg Li:Value}{dR:Addr}{ahZ:Str}{ajM:Addr}{ai0:List Value}{ai1:List Str}{agQ:List Value}{ai2:Bool}{agR:Option Bool}{ai3:Option Addr}{ai4 ai5 ai6 ai7 ai8:Option Value}{dm:Addr}{an7:Str}{aoC:Addr}{an8:List Value}{an9:List Str}{alL:List Value}{ana:Bool}{alM:Option Bool}{anb:Option Addr}{anc ane anf ang anh:Option Value}{dJ:Addr}{ajN:Str}{alN:Addr}{ajO:List Value}{ajP:List Str}{ai9:List Value}{ajQ:Bool}{aia:Option Bool}{ajR:Option Addr}{ajS ajT ajU ajV ajW:Option Value}{dI:Addr}{af9:Str}{agS:Addr}{afa:List Value}{afb:List Str}{adZ:List Value}{afc:Bool}{ae0:Option Bool}{afd:Option Addr}{afe aff afg afh afi:Option Value}{cV:Addr}{afj:Str}{agT:Addr}{afk:List Value}{afl:List Str}{ae1:List Value}{afm:Bool}{ae2:Option Bool}{afn:Option Addr}{afo afp afq afr afs:Option Value}{dD:Addr}{aaI:Str}{abu:Addr}{aaJ:List Value}{aaK:List Str}{ZX:List Value}{aaL:Bool}{ZY:Option Bool}{aaM:Option Addr}{aaN aaO aaP aaQ aaR:Option Value}{ic:Addr}{ae3:Str}{aft:Addr}{ae4:List Value}{ae5:List Str}{acn:List Value}{ae6:Bool}{aco:Option Bool}{ae7:Option Addr}{ae8 ae9 aea aeb aec:Option Value}{ajX:Tok}{aoD:Tok}{agU:Tok}{agV:Tok}{ajY:Tok}{ajZ:Tok}{alO:Tok}{agW:Tok}{afu:Tok}{ak0:Tok}{aib:Tok}{afv:Tok}{aic:Tok}{agX:Tok}{afw:Tok}{ak1:Tok}{aid:Tok}{agY:Tok}{agZ:Tok}{aed:Tok}{aie:Tok}{iw:Addr}{alP:Option Addr}{ani:Nat}{alQ:Array (Option Value)}{i6:Addr}{aif:Option Addr}{ak2:Nat}{aih:Array (Option Value)}{aii:Tok}{md:Addr}{afx:Option Addr}{ah0:Nat}{afy:Array (Option Value)}{iN:Addr}{acp:Option Addr}{aee:Nat}{acq:Array (Option Value)}{acr:Tok}{acs:Tok}{iO:Addr}{acu:Option Addr}{aef:Nat}{acv:Array (Option Value)}{acw:Tok}{acx:Tok}{i7:Addr}{aij:Option Addr}{ak3:Nat}{aik:Array (Option Value)}{ail:Tok}{me:Addr}{afz:Option Addr}{ah1:Nat}{afA:Array (Option Value)}{iP:Addr}{acy:Option Addr}{aeg:Nat}{acz:Array (Option Value)}{acA:Tok}{acB:Tok}{i8:Addr}{aim:Option Addr}{ak4:Nat}{ain:Array (Option Value)}{aio:Tok}{mf:Addr}{afB:Option Addr}{ah2:Nat}{afC:Array (Option Value)}{iQ:Addr}{acC:Option Addr}{aeh:Nat}{acD:Array (Option Value)}{acE:Tok}{acF:Tok}{iR:Addr}{acG:Option Addr}{aei:Nat}{acH:Array (Option Value)}{acI:Tok}{acJ:Tok}{iS:Addr}{acK:Option Addr}{aej:Nat}{acL:Array (Option Value)}{acM:Tok}{acN:Tok}{i9:Addr}{aip:Option Addr}{ak5:Nat}{aiq:Array (Option Value)}{air:Tok}{mh:Addr}{afD:Option Addr}{ah3:Nat}{afE:Array (Option Value)}{iT:Addr}{acO:Option Addr}{aek:Nat}{acP:Array (Option Value)}{acQ:Tok}{acR:Tok}{iU:Addr}{acS:Option Addr}{ael:Nat}{acT:Array (Option Value)}{acU:Tok}{acV:Tok}{iV:Addr}{acW:Option Addr}{aem:Nat}{acX:Array (Option Value)}{acY:Tok}{acZ:Tok}{ie:Addr}{asz:Nat}{alR:Tok}{ak6:Tok}{ak7:Tok}{ak8:Tok}{ah4:Tok}{anj:Tok}{ak9:Tok}{ah5:Tok}{alS:Tok}{ji:Addr}{aka:Option Addr}{alT:Nat}{akb:Array (Option Value)}{akc:Tok}{ja:Addr}{ais:Option Addr}{akd:Nat}{ait:Array (Option Value)}{jb:Addr}{aiu:Option Addr}{ake:Nat}{aiv:Array (Option Value)}{jc:Addr}{aiw:Option Addr}{akf:Nat}{aix:Array (Option Value)}{aiy:Tok}{aiz:Tok}{iX:Addr}{afF:Option Addr}{ah6:Nat}{afG:Array (Option Value)}{afH:Tok}{jq:Addr}{alU:Option Addr}{ank:Nat}{alV:Array (Option Value)}{alW:Tok}{jd:Addr}{aiA:Option Addr}{akg:Nat}{aiB:Array (Option Value)}{aiC:Tok}{iY:Addr}{afI:Option Addr}{ah7:Nat}{afJ:Array (Option Value)}{afK:Tok}{jj:Addr}{akh:Option Addr}{alX:Nat}{aki:Array (Option Value)} (X:K.In h) (G:h.Ns mainGlobals mg)
  (akj:W.nsIn K mainGlobals "read_bar"=some (some (.ref nE)))
  (T9:K.lookup nE=some ⟨ahO,ahM,.func (W.fnOf "read_bar" "read_bar" (ay l6) (ax l6) (ah l6) .none Sn So Sq Sm C9 Sr),ahN⟩)
  (O7:W.codeIn K C9 "read_bar"=true)
  (SO:W.keepIn K (.ref nE)=true)
  (afL:W.nsIn K mainGlobals "read_tracks"=some (some (.ref m7)))
  (Qs:K.lookup m7=some ⟨adt,adq,.func (W.fnOf "read_tracks" "read_tracks" (ay lp) (ax lp) (ah lp) .none Ou Ov Ow Ot Cg Ox),ads⟩)
  (Lj:W.codeIn K Cg "read_tracks"=true)
  (O8:W.keepIn K (.ref m7)=true)
  (aen:W.nsIn K mainGlobals "read_meaning"=some (some (.ref mW)))
  (O9:K.lookup mW=some ⟨abX,abV,.func (W.fnOf "read_meaning" "read_meaning" (ay kY) (ax kY) (ah kY) .none M3 M4 M5 M0 BS M6),abW⟩)
  (Jx:W.codeIn K BS "read_meaning"=true)
  (NL:W.keepIn K (.ref mW)=true)
  (afM:W.nsIn K mainGlobals "read_wishes"=some (some (.ref m8)))
  (Qt:K.lookup m8=some ⟨adw,adu,.func (W.fnOf "read_wishes" "read_wishes" (ay lq) (ax lq) (ah lq) .none Oz OA OB Oy Ci OC),adv⟩)
  (Lk:W.codeIn K Ci "read_wishes"=true)
  (Pa:W.keepIn K (.ref m8)=true)
  (aeo:W.nsIn K mainGlobals "check_ranges"=some (some (.ref mX)))
  (Pb:K.lookup mX=some ⟨ac0,abY,.func (W.fnOf "check_ranges" "check_ranges" (ay kZ) (ax kZ) (ah kZ) .none M8 M9 Na M7 BU Nb),abZ⟩)
  (Jy:W.codeIn K BU "check_ranges"=true)
  (NM:W.keepIn K (.ref mX)=true)
  (afN:W.nsIn K mainGlobals "check_order"=some (some (.ref m9)))
  (Qu:K.lookup m9=some ⟨adz,adx,.func (W.fnOf "check_order" "check_order" (ay lr) (ax lr) (ah lr) .none OE OF OG OD Cj OH),ady⟩)
  (Ll:W.codeIn K Cj "check_order"=true)
  (Pc:W.keepIn K (.ref m9)=true)
  (aiD:W.nsIn K mainGlobals "best_plan"=some (some (.ref nu)))
  (SQ:K.lookup nu=some ⟨agk,agi,.func (W.fnOf "best_plan" "best_plan" (ay lM) (ax lM) (ah lM) .none Q1 Q2 Q3 Q0 CI Q4),agj⟩)
  (NN:W.codeIn K CI "best_plan"=true)
  (RI:W.keepIn K (.ref nu)=true)
  (ad0:W.nsIn K mainGlobals "part_in_spans"=some (some (.ref mT)))
  (NO:K.lookup mT=some ⟨abg,abe,.func (W.fnOf "part_in_spans" "part_in_spans" (ay kN) (ax kN) (ah kN) .none LZ L5 L6 LY Bz L7),abf⟩)
  (Ib:W.codeIn K Bz "part_in_spans"=true)
  (Mt:W.keepIn K (.ref mT)=true)
  (afO:W.nsIn K mainGlobals "side_values"=some (some (.ref nc)))
  (Qv:K.lookup nc=some ⟨adC,adA,.func (W.fnOf "side_values" "side_values" (ay lu) (ax lu) (ah lu) .none OJ OK OL OI Ck OM),adB⟩)
  (Lm:W.codeIn K Ck "side_values"=true)
  (Pd:W.keepIn K (.ref nc)=true)
  (afP:W.nsIn K mainGlobals "value_costs"=some (some (.ref ng)))
  (Qw:K.lookup ng=some ⟨adF,adD,.func (W.fnOf "value_costs" "value_costs" (ay lx) (ax lx) (ah lx) .none OO OP OQ ON Cm OR),adE⟩)
  (Ln:W.codeIn K Cm "value_costs"=true)
  (Pe:W.keepIn K (.ref ng)=true)
  (aaS:W.nsIn K mainGlobals "cheapest_values"=some (some (.ref mP)))
  (Lo:K.lookup mP=some ⟨ZA,Zy,.func (W.fnOf "cheapest_values" "cheapest_values" (ay jT) (ax jT) (ah jT) .none IG II IJ IF AG IK),Zz⟩)
  (Hf:W.codeIn K AG "cheapest_values"=true)
  (Jz:W.keepIn K (.ref mP)=true)
  (afQ:W.nsIn K mainGlobals "choose_best"=some (some (.ref nh)))
  (Qx:K.lookup nh=some ⟨adI,adG,.func (W.fnOf "choose_best" "choose_best" (ay ly) (ax ly) (ah ly) .none OT OU OV OS Cn OW),adH⟩)
  (Lp:W.codeIn K Cn "choose_best"=true)
  (Pf:W.keepIn K (.ref nh)=true)
  (abv:W.nsIn K mainGlobals "fewest_changes"=some (some (.ref mR)))
  (Mu:K.lookup mR=some ⟨aaa,aa8,.func (W.fnOf "fewest_changes" "fewest_changes" (ay kc) (ax kc) (ah kc) .none Kb Kc Kd Ka A4 Ke),aa9⟩)
  (HH:W.codeIn K A4 "fewest_changes"=true)
  (Lq:W.keepIn K (.ref mR)=true)
  (akk:W.nsIn K mainGlobals "best_way"=some (some (.ref nF)))
  (Ua:K.lookup nF=some ⟨ahR,ahP,.func (W.fnOf "best_way" "best_way" (ay l7) (ax l7) (ah l7) .none Su Sv Sw Ss Dc Sx),ahQ⟩)
  (Pg:W.codeIn K Dc "best_way"=true)
  (SR:W.keepIn K (.ref nF)=true)
  (ah8:W.nsIn K mainGlobals "both_sides"=some (some (.ref nk)))
  (RJ:K.lookup nk=some ⟨aeW,aeU,.func (W.fnOf "both_sides" "both_sides" (ay lG) (ax lG) (ah lG) .none P7 P8 P9 PZ Cu Qa),aeV⟩)
  (Mv:W.codeIn K Cu "both_sides"=true)
  (Qy:W.keepIn K (.ref nk)=true)
  (aep:W.nsIn K mainGlobals "sides_behind"=some (some (.ref mY)))
  (Ph:K.lookup mY=some ⟨ac3,ac1,.func (W.fnOf "sides_behind" "sides_behind" (ay k7) (ax k7) (ah k7) .none Nd Nf Ng Nc BV Nh),ac2⟩)
  (JA:W.codeIn K BV "sides_behind"=true)
  (NP:W.keepIn K (.ref mY)=true)
  (akl:W.nsIn K mainGlobals "key_bits"=some (some (.ref nG)))
  (Ub:K.lookup nG=some ⟨ahU,ahS,.func (W.fnOf "key_bits" "key_bits" (ay l8) (ax l8) (ah l8) .none Sz SD SE Sy De SG),ahT⟩)
  (Pj:W.codeIn K De "key_bits"=true)
  (SU:W.keepIn K (.ref nG)=true)
  (afR:W.nsIn K mainGlobals "struck_keys"=some (some (.ref ni)))
  (Qz:K.lookup ni=some ⟨adL,adJ,.func (W.fnOf "struck_keys" "struck_keys" (ay lB) (ax lB) (ah lB) .none OY OZ O0 OX Co O1),adK⟩)
  (Lr:W.codeIn K Co "struck_keys"=true)
  (Pk:W.keepIn K (.ref ni)=true)
  (aeq:W.nsIn K mainGlobals "list_strikes"=some (some (.ref mZ)))
  (Pl:K.lookup mZ=some ⟨ac6,ac4,.func (W.fnOf "list_strikes" "list_strikes" (ay k8) (ax k8) (ah k8) .none Nj Nk Nl Ni BW Nm),ac5⟩)
  (JB:W.codeIn K BW "list_strikes"=true)
  (NQ:W.keepIn K (.ref mZ)=true)
  (ah9:W.nsIn K mainGlobals "read_strip"=some (some (.ref nq)))
  (RK:K.lookup nq=some ⟨aeZ,aeX,.func (W.fnOf "read_strip" "read_strip" (ay lH) (ax lH) (ah lH) .none Qc Qe Qg Qb Cv Qh),aeY⟩)
  (Mw:W.codeIn K Cv "read_strip"=true)
  (QA:W.keepIn K (.ref nq)=true)
  (aha:W.nsIn K mainGlobals "read_holes"=some (some (.ref nr)))
  (RL:K.lookup nr=some ⟨af2,af0,.func (W.fnOf "read_holes" "read_holes" (ay lI) (ax lI) (ah lI) .none Qj Qk Ql Qi Cw Qm),af1⟩)
  (Mx:W.codeIn K Cw "read_holes"=true)
  (QB:W.keepIn K (.ref nr)=true)
  (aer:W.nsIn K mainGlobals "check_length"=some (some (.ref m4)))
  (Pn:K.lookup m4=some ⟨ac9,ac7,.func (W.fnOf "check_length" "check_length" (ay k9) (ax k9) (ah k9) .none Np Nq Nr Nn BX Nt),ac8⟩)
  (JC:W.codeIn K BX "check_length"=true)
  (NR:W.keepIn K (.ref m4)=true)
  (aqb:W.nsIn K mainGlobals "told"=some (some (.ref nW)))
  (WD:K.lookup nW=some ⟨aoB,aoz,.func (W.fnOf "told" "told" (ay my) (ax my) (ah my) .none Wc Wd We Wb D6 Wf),aoA⟩)
  (Uc:W.codeIn K D6 "told"=true)
  (Wg:W.keepIn K (.ref nW)=true)
  (aiE:W.nsIn K mainGlobals "carry_out"=some (some (.ref nv)))
  (SW:K.lookup nv=some ⟨agn,agl,.func (W.fnOf "carry_out" "carry_out" (ay lN) (ax lN) (ah lN) .none Q6 Q7 Q8 Q5 CJ Q9),agm⟩)
  (NS:W.codeIn K CJ "carry_out"=true)
  (RM:W.keepIn K (.ref nv)=true)
  (anl:W.nsIn K mainGlobals "answer"=some (some (.ref nM)))
  (Vz:K.lookup nM=some ⟨alK,alI,.func (W.fnOf "answer" "answer" (ay mm) (ax mm) (ah mm) .none US UT UU UR DJ UW),alJ⟩)
  (RN:W.codeIn K DJ "answer"=true)
  (UX:W.keepIn K (.ref nM)=true)
  (alY:W.nsIn K mainGlobals "answers"=some (some (.ref ml)))
  (UY:K.lookup ml=some ⟨ajL,ajJ,.func (W.fnOf "answers" "answers" (ay mj) (ax mj) (ah mj) .none T5 T6 T7 T4 Dq T8),ajK⟩)
  (QC:W.codeIn K Dq "answers"=true)
  (Ud:W.keepIn K (.ref ml)=true)
  (akm:W.nsIn K mainGlobals "Scanner"=some (some (.ref aG)))
  (akn:W.plainGet K aG Str.empty=true)
  (ako:W.hasDictIn K aG=true)
  (akp:W.plainOver K aG=true)
  (akq:W.findIn K (.ref aG) "__setattr__"=some (some (.builtin "object.__setattr__")))
  (aes:W.findIn K (.ref aG) "__init__"=some (some (.ref lh)))
  (Po:K.lookup lh=some ⟨acd,aca,.func (W.fnOf "__init__" "Scanner.__init__" (ay la) (ax la) (ah la) .none Nv Nw Ny Nu BY Nz),acb⟩)
  (JD:W.codeIn K BY "Scanner.__init__"=true)
  (NT:W.keepIn K (.ref lh)=true)
  (ad1:W.isFn K (.ref lh)=true)
  (abw:W.findIn K (.ref aG) "at_end"=some (some (.ref kx)))
  (My:K.lookup kx=some ⟨aad,aab,.func (W.fnOf "at_end" "Scanner.at_end" (ay ke) (ax ke) (ah ke) .none Kg Kh Ki Kf A5 Kj),aac⟩)
  (HI:W.codeIn K A5 "Scanner.at_end"=true)
  (Bh:W.keepIn K (.ref kx)=true)
  (aaT:W.isFn K (.ref kx)=true)
  (Za:W.findIn K (.ref aG) "sees_between"=some (some (.ref jM)))
  (Hb:K.lookup jM=some ⟨Y5,Y3,.func (W.fnOf "sees_between" "Scanner.sees_between" (ay jL) (ax jL) (ah jL) .none GV GW GX GU Ap GY),Y4⟩)
  (Gu:W.codeIn K Ap "Scanner.sees_between"=true)
  (Aq:W.keepIn K (.ref jM)=true)
  (Y6:W.isFn K (.ref jM)=true)
  (aet:W.findIn K (.ref aG) "sees"=some (some (.ref lj)))
  (Pq:K.lookup lj=some ⟨acg,ace,.func (W.fnOf "sees" "Scanner.sees" (ay lb) (ax lb) (ah lb) .none NB NC ND NA BZ NF),acf⟩)
  (JE:W.codeIn K BZ "Scanner.sees"=true)
  (B1:W.keepIn K (.ref lj)=true)
  (ad2:W.isFn K (.ref lj)=true)
  (abx:W.findIn K (.ref aG) "expect"=some (some (.ref kz)))
  (Mz:K.lookup kz=some ⟨aag,aae,.func (W.fnOf "expect" "Scanner.expect" (ay kf) (ax kf) (ah kf) .none Kl Km Kn Kk A6 Ko),aaf⟩)
  (HJ:W.codeIn K A6 "Scanner.expect"=true)
  (Bi:W.keepIn K (.ref kz)=true)
  (aaU:W.isFn K (.ref kz)=true)
  (Y1:W.findIn K (.ref aG) "expect_letters"=some (some (.ref jK)))
  (GN:K.lookup jK=some ⟨YZ,YX,.func (W.fnOf "expect_letters" "Scanner.expect_letters" (ay jJ) (ax jJ) (ah jJ) .none GC GD GF GB Al GG),YY⟩)
  (Gp:W.codeIn K Al "Scanner.expect_letters"=true)
  (Am:W.keepIn K (.ref jK)=true)
  (Y0:W.isFn K (.ref jK)=true)
  (Zc:W.findIn K (.ref aG) "take_number"=some (some (.ref jO)))
  (Hg:K.lookup jO=some ⟨Y9,Y7,.func (W.fnOf "take_number" "Scanner.take_number" (ay jN) (ax jN) (ah jN) .none G7 G8 G9 G6 Ar Ha),Y8⟩)
  (GH:W.codeIn K Ar "Scanner.take_number"=true)
  (As:W.keepIn K (.ref jO)=true)
  (Zb:W.isFn K (.ref jO)=true)
  (Zn:W.findIn K (.ref aG) "take_word"=some (some (.ref jR)))
  (Ic:K.lookup jR=some ⟨Zh,Zf,.func (W.fnOf "take_word" "Scanner.take_word" (ay jP) (ax jP) (ah jP) .none Hy Hz HA Hx Av HB),Zg⟩)
  (GZ:W.codeIn K Av "Scanner.take_word"=true)
  (Ax:W.keepIn K (.ref jR)=true)
  (Zl:W.isFn K (.ref jR)=true)
  (t7:W.makesIn K aG=true)
  (aiF:W.keepIn K (.ref aG)=true)
  (mU:W.findIn K (.ref aG) "text"=some none)
  (eY:W.findIn K (.ref aG) "place"=some none)
  (aqc:W.nsIn K mainGlobals "Bar"=some (some (.ref ba)))
  (aqd:W.plainGet K ba Str.empty=true)
  (aqe:W.hasDictIn K ba=true)
  (aqf:W.plainOver K ba=true)
  (aqg:W.findIn K (.ref ba) "__setattr__"=some (some (.builtin "object.__setattr__")))
  (akr:W.findIn K (.ref ba) "__init__"=some (some (.ref ma)))
  (Ue:K.lookup ma=some ⟨ahX,ahV,.func (W.fnOf "__init__" "Bar.__init__" (ay l9) (ax l9) (ah l9) .none SI SK SM SH Df SN),ahW⟩)
  (Pr:W.codeIn K Df "Bar.__init__"=true)
  (SX:W.keepIn K (.ref ma)=true)
  (aiG:W.isFn K (.ref ma)=true)
  (ad3:W.findIn K (.ref ba) "track_bit"=some (some (.ref kS)))
  (NU:K.lookup kS=some ⟨abj,abh,.func (W.fnOf "track_bit" "Bar.track_bit" (ay kO) (ax kO) (ah kO) .none L9 Ma Mb L8 BB Mc),abi⟩)
  (Ie:W.codeIn K BB "Bar.track_bit"=true)
  (BF:W.keepIn K (.ref kS)=true)
  (aby:W.isFn K (.ref kS)=true)
  (abz:W.findIn K (.ref ba) "lock_force"=some (some (.ref kC)))
  (MA:K.lookup kC=some ⟨aaj,aah,.func (W.fnOf "lock_force" "Bar.lock_force" (ay kg) (ax kg) (ah kg) .none Kr Ks Kt Kq A7 Ku),aai⟩)
  (HK:W.codeIn K A7 "Bar.lock_force"=true)
  (Bj:W.keepIn K (.ref kC)=true)
  (aaV:W.isFn K (.ref kC)=true)
  (aaW:W.findIn K (.ref ba) "side_of_key"=some (some (.ref j4)))
  (Ls:K.lookup j4=some ⟨ZE,ZC,.func (W.fnOf "side_of_key" "Bar.side_of_key" (ay jU) (ax jU) (ah jU) .none IM IP IQ IL AH IS),ZD⟩)
  (Hh:W.codeIn K AH "Bar.side_of_key"=true)
  (AO:W.keepIn K (.ref j4)=true)
  (ZZ:W.isFn K (.ref j4)=true)
  (zj:W.makesIn K ba=true)
  (aoE:W.keepIn K (.ref ba)=true)
  (tK:W.findIn K (.ref ba) "numbers"=some none)
  (tQ:W.findIn K (.ref ba) "width"=some none)
  (tG:W.findIn K (.ref ba) "split_key"=some none)
  (ny:W.findIn K (.ref ba) "tail"=some none)
  (tV:W.findIn K (.ref ba) "base"=some none)
  (tX:W.findIn K (.ref ba) "step"=some none)
  (tN:W.findIn K (.ref ba) "accent"=some none)
  (tY:W.findIn K (.ref ba) "most"=some none)
  (tZ:W.findIn K (.ref ba) "rise"=some none)
  (t4:W.findIn K (.ref ba) "fall"=some none)
  (rm:W.findIn K (.ref ba) "tracks"=some none)
  (aoF:W.nsIn K mainGlobals "Wish"=some (some (.ref dN)))
  (aoG:W.plainGet K dN Str.empty=true)
  (aoH:W.hasDictIn K dN=true)
  (aoI:W.plainOver K dN=true)
  (aoJ:W.findIn K (.ref dN) "__setattr__"=some (some (.builtin "object.__setattr__")))
  (aiH:W.findIn K (.ref dN) "__init__"=some (some (.ref lU)))
  (SY:K.lookup lU=some ⟨agq,ago,.func (W.fnOf "__init__" "Wish.__init__" (ay lO) (ax lO) (ah lO) .none Rb Rc Rf Ra CK Rg),agp⟩)
  (NV:W.codeIn K CK "Wish.__init__"=true)
  (RO:W.keepIn K (.ref lU)=true)
  (ahb:W.isFn K (.ref lU)=true)
  (yX:W.makesIn K dN=true)
  (anm:W.keepIn K (.ref dN)=true)
  (iW:W.findIn K (.ref dN) "row"=some none)
  (oK:W.findIn K (.ref dN) "side"=some none)
  (rn:W.findIn K (.ref dN) "force"=some none)
  (aoK:W.nsIn K mainGlobals "Plan"=some (some (.ref df)))
  (aoL:W.plainGet K df Str.empty=true)
  (aoM:W.hasDictIn K df=true)
  (aoN:W.plainOver K df=true)
  (aoO:W.findIn K (.ref df) "__setattr__"=some (some (.builtin "object.__setattr__")))
  (aiI:W.findIn K (.ref df) "__init__"=some (some (.ref lV)))
  (Ta:K.lookup lV=some ⟨agt,agr,.func (W.fnOf "__init__" "Plan.__init__" (ay lP) (ax lP) (ah lP) .none Ri Rj Rk Rh CL Rl),ags⟩)
  (NW:W.codeIn K CL "Plan.__init__"=true)
  (RP:W.keepIn K (.ref lV)=true)
  (ahc:W.isFn K (.ref lV)=true)
  (afS:W.findIn K (.ref df) "choose"=some (some (.ref lD)))
  (QD:K.lookup lD=some ⟨adO,adM,.func (W.fnOf "choose" "Plan.choose" (ay lC) (ax lC) (ah lC) .none O3 O4 O5 O2 Cp O6),adN⟩)
  (Lu:W.codeIn K Cp "Plan.choose"=true)
  (Cq:W.keepIn K (.ref lD)=true)
  (aeu:W.isFn K (.ref lD)=true)
  (abA:W.findIn K (.ref df) "value_for"=some (some (.ref kD)))
  (MB:K.lookup kD=some ⟨aam,aak,.func (W.fnOf "value_for" "Plan.value_for" (ay kh) (ax kh) (ah kh) .none Kw Kx Ky Kv A8 Kz),aal⟩)
  (HL:W.codeIn K A8 "Plan.value_for"=true)
  (Bk:W.keepIn K (.ref kD)=true)
  (aaX:W.isFn K (.ref kD)=true)
  (yY:W.makesIn K df=true)
  (ano:W.keepIn K (.ref df)=true)
  (rB:W.findIn K (.ref df) "cost"=some none)
  (rj:W.findIn K (.ref df) "chosen"=some none)
  (aoP:W.nsIn K mainGlobals "Side"=some (some (.ref bb)))
  (aoQ:W.plainGet K bb Str.empty=true)
  (aoR:W.hasDictIn K bb=true)
  (aoS:W.plainOver K bb=true)
  (aoT:W.findIn K (.ref bb) "__setattr__"=some (some (.builtin "object.__setattr__")))
  (aiJ:W.findIn K (.ref bb) "__init__"=some (some (.ref lW)))
  (Tb:K.lookup lW=some ⟨agw,agu,.func (W.fnOf "__init__" "Side.__init__" (ay lQ) (ax lQ) (ah lQ) .none Rn Ro Rp Rm CM Rq),agv⟩)
  (NX:W.codeIn K CM "Side.__init__"=true)
  (RQ:W.keepIn K (.ref lW)=true)
  (ahd:W.isFn K (.ref lW)=true)
  (ad4:W.findIn K (.ref bb) "pass_row"=some (some (.ref kT)))
  (NY:K.lookup kT=some ⟨abm,abk,.func (W.fnOf "pass_row" "Side.pass_row" (ay kP) (ax kP) (ah kP) .none Me Mf Mg Md BC Mh),abl⟩)
  (Ig:W.codeIn K BC "Side.pass_row"=true)
  (BG:W.keepIn K (.ref kT)=true)
  (abB:W.isFn K (.ref kT)=true)
  (aaY:W.findIn K (.ref bb) "pass_locks"=some (some (.ref j5)))
  (Lv:K.lookup j5=some ⟨ZH,ZF,.func (W.fnOf "pass_locks" "Side.pass_locks" (ay jV) (ax jV) (ah jV) .none IU IV IW IT AI IX),ZG⟩)
  (Hi:W.codeIn K AI "Side.pass_locks"=true)
  (AQ:W.keepIn K (.ref j5)=true)
  (Z0:W.isFn K (.ref j5)=true)
  (aaZ:W.findIn K (.ref bb) "pass_swell"=some (some (.ref j6)))
  (Lw:K.lookup j6=some ⟨ZK,ZI,.func (W.fnOf "pass_swell" "Side.pass_swell" (ay jW) (ax jW) (ah jW) .none IZ Ja Jb IY AJ Jc),ZJ⟩)
  (Hj:W.codeIn K AJ "Side.pass_swell"=true)
  (AR:W.keepIn K (.ref j6)=true)
  (Z1:W.isFn K (.ref j6)=true)
  (ad5:W.findIn K (.ref bb) "force_by"=some (some (.ref kU)))
  (NZ:K.lookup kU=some ⟨abp,abn,.func (W.fnOf "force_by" "Side.force_by" (ay kQ) (ax kQ) (ah kQ) .none Mj Ml Mm Mi BD Mn),abo⟩)
  (Ih:W.codeIn K BD "Side.force_by"=true)
  (BH:W.keepIn K (.ref kU)=true)
  (abC:W.isFn K (.ref kU)=true)
  (uo:W.makesIn K bb=true)
  (anp:W.keepIn K (.ref bb)=true)
  (nz:W.findIn K (.ref bb) "bar"=some none)
  (tu:W.findIn K (.ref bb) "cancel_bit"=some none)
  (qX:W.findIn K (.ref bb) "lock_bits"=some none)
  (tL:W.findIn K (.ref bb) "up_bit"=some none)
  (tI:W.findIn K (.ref bb) "down_bit"=some none)
  (tw:W.findIn K (.ref bb) "accent_bit"=some none)
  (qZ:W.findIn K (.ref bb) "soft_bit"=some none)
  (hJ:W.findIn K (.ref bb) "lock_value"=some none)
  (iM:W.findIn K (.ref bb) "swell"=some none)
  (anq:W.nsIn K mainGlobals "Strip"=some (some (.ref cx)))
  (anr:W.plainGet K cx Str.empty=true)
  (ant:W.hasDictIn K cx=true)
  (anu:W.plainOver K cx=true)
  (anv:W.findIn K (.ref cx) "__setattr__"=some (some (.builtin "object.__setattr__")))
  (ahe:W.findIn K (.ref cx) "__init__"=some (some (.ref lK)))
  (RR:K.lookup lK=some ⟨af5,af3,.func (W.fnOf "__init__" "Strip.__init__" (ay lJ) (ax lJ) (ah lJ) .none Qo Qp Qq Qn Cy Qr),af4⟩)
  (MC:W.codeIn K Cy "Strip.__init__"=true)
  (QE:W.keepIn K (.ref lK)=true)
  (afT:W.isFn K (.ref lK)=true)
  (abD:W.findIn K (.ref cx) "sounding"=some (some (.ref kF)))
  (MD:K.lookup kF=some ⟨aap,aan,.func (W.fnOf "sounding" "Strip.sounding" (ay ki) (ax ki) (ah ki) .none KC KG KH KA A9 KI),aao⟩)
  (HM:W.codeIn K A9 "Strip.sounding"=true)
  (Bl:W.keepIn K (.ref kF)=true)
  (ab0:W.isFn K (.ref kF)=true)
  (yJ:W.makesIn K cx=true)
  (alZ:W.keepIn K (.ref cx)=true)
  (tM:W.findIn K (.ref cx) "width"=some none)
  (oI:W.findIn K (.ref cx) "rows"=some none)
  (aoU:W.nsIn K mainGlobals "Desk"=some (some (.ref bB)))
  (aoV:W.plainGet K bB Str.empty=true)
  (aoW:W.hasDictIn K bB=true)
  (aoX:W.plainOver K bB=true)
  (aoY:W.findIn K (.ref bB) "__setattr__"=some (some (.builtin "object.__setattr__")))
  (aiK:W.findIn K (.ref bB) "__init__"=some (some (.ref lX)))
  (Tc:K.lookup lX=some ⟨agz,agx,.func (W.fnOf "__init__" "Desk.__init__" (ay lR) (ax lR) (ah lR) .none Rt Ru Rv Rr CN Rw),agy⟩)
  (N0:W.codeIn K CN "Desk.__init__"=true)
  (RS:W.keepIn K (.ref lX)=true)
  (ahf:W.isFn K (.ref lX)=true)
  (aev:W.findIn K (.ref bB) "put_bar"=some (some (.ref ll)))
  (Pt:K.lookup ll=some ⟨acj,ach,.func (W.fnOf "put_bar" "Desk.put_bar" (ay lg) (ax lg) (ah lg) .none NH NI NJ NG B0 NK),aci⟩)
  (JF:W.codeIn K B0 "Desk.put_bar"=true)
  (B2:W.keepIn K (.ref ll)=true)
  (ad6:W.isFn K (.ref ll)=true)
  (abE:W.findIn K (.ref bB) "put_strip"=some (some (.ref kG)))
  (ME:K.lookup kG=some ⟨aas,aaq,.func (W.fnOf "put_strip" "Desk.put_strip" (ay kj) (ax kj) (ah kj) .none KL KN KO KJ Ba KP),aar⟩)
  (HN:W.codeIn K Ba "Desk.put_strip"=true)
  (Bm:W.keepIn K (.ref kG)=true)
  (ab1:W.isFn K (.ref kG)=true)
  (abF:W.findIn K (.ref bB) "check_bar"=some (some (.ref kH)))
  (MF:K.lookup kH=some ⟨aav,aat,.func (W.fnOf "check_bar" "Desk.check_bar" (ay km) (ax km) (ah km) .none KR KS KU KQ Bc KW),aau⟩)
  (HP:W.codeIn K Bc "Desk.check_bar"=true)
  (Bn:W.keepIn K (.ref kH)=true)
  (ab2:W.isFn K (.ref kH)=true)
  (ab3:W.findIn K (.ref bB) "find_strip"=some (some (.ref j7)))
  (Lx:K.lookup j7=some ⟨ZN,ZL,.func (W.fnOf "find_strip" "Desk.find_strip" (ay jX) (ax jX) (ah jX) .none Je Jf Jg Jd AK Jh),ZM⟩)
  (Hk:W.codeIn K AK "Desk.find_strip"=true)
  (AS:W.keepIn K (.ref j7)=true)
  (Z2:W.isFn K (.ref j7)=true)
  (abG:W.findIn K (.ref bB) "check_row"=some (some (.ref kI)))
  (MG:K.lookup kI=some ⟨aay,aaw,.func (W.fnOf "check_row" "Desk.check_row" (ay kn) (ax kn) (ah kn) .none KZ K0 K1 KY Bd K2),aax⟩)
  (HQ:W.codeIn K Bd "Desk.check_row"=true)
  (Bo:W.keepIn K (.ref kI)=true)
  (ab4:W.isFn K (.ref kI)=true)
  (ab5:W.findIn K (.ref bB) "tell_state"=some (some (.ref j8)))
  (Ly:K.lookup j8=some ⟨ZQ,ZO,.func (W.fnOf "tell_state" "Desk.tell_state" (ay jY) (ax jY) (ah jY) .none Jj Jk Jl Ji AL Jm),ZP⟩)
  (Hl:W.codeIn K AL "Desk.tell_state"=true)
  (AU:W.keepIn K (.ref j8)=true)
  (Z3:W.isFn K (.ref j8)=true)
  (ab6:W.findIn K (.ref bB) "tell_force"=some (some (.ref j9)))
  (Lz:K.lookup j9=some ⟨ZT,ZR,.func (W.fnOf "tell_force" "Desk.tell_force" (ay jZ) (ax jZ) (ah jZ) .none Jo Jp Jq Jn AM Jr),ZS⟩)
  (Hm:W.codeIn K AM "Desk.tell_force"=true)
  (AV:W.keepIn K (.ref j9)=true)
  (Z4:W.isFn K (.ref j9)=true)
  (Zo:W.findIn K (.ref bB) "tell_strikes"=some (some (.ref jS)))
  (Ii:K.lookup jS=some ⟨Zk,Zi,.func (W.fnOf "tell_strikes" "Desk.tell_strikes" (ay jQ) (ax jQ) (ah jQ) .none HD HE HF HC Aw HG),Zj⟩)
  (G0:W.codeIn K Aw "Desk.tell_strikes"=true)
  (Ay:W.keepIn K (.ref jS)=true)
  (Zm:W.isFn K (.ref jS)=true)
  (abH:W.findIn K (.ref bB) "tell_plan"=some (some (.ref kJ)))
  (MH:K.lookup kJ=some ⟨aaB,aaz,.func (W.fnOf "tell_plan" "Desk.tell_plan" (ay ko) (ax ko) (ah ko) .none K4 K5 K6 K3 Be K7),aaA⟩)
  (HR:W.codeIn K Be "Desk.tell_plan"=true)
  (Bp:W.keepIn K (.ref kJ)=true)
  (ab7:W.isFn K (.ref kJ)=true)
  (yZ:W.makesIn K bB=true)
  (anw:W.keepIn K (.ref bB)=true)
  (fZ:W.findIn K (.ref bB) "bar"=some none)
  (m5:W.findIn K (.ref bB) "strips"=some none)
  (aoZ:W.nsIn K mainGlobals "Feed"=some (some (.ref aU)))
  (ap0:W.plainGet K aU Str.empty=true)
  (ap1:W.hasDictIn K aU=true)
  (ap2:W.plainOver K aU=true)
  (ap3:W.findIn K (.ref aU) "__setattr__"=some (some (.builtin "object.__setattr__")))
  (aiL:W.findIn K (.ref aU) "__init__"=some (some (.ref lY)))
  (Td:K.lookup lY=some ⟨agC,agA,.func (W.fnOf "__init__" "Feed.__init__" (ay lS) (ax lS) (ah lS) .none Ry Rz RA Rx CO RB),agB⟩)
  (N1:W.codeIn K CO "Feed.__init__"=true)
  (RT:W.keepIn K (.ref lY)=true)
  (ahg:W.isFn K (.ref lY)=true)
  (ab8:W.findIn K (.ref aU) "is_used_up"=some (some (.ref ka)))
  (LA:K.lookup ka=some ⟨ZW,ZU,.func (W.fnOf "is_used_up" "Feed.is_used_up" (ay j0) (ax j0) (ah j0) .none Jt Ju Jv Js AN Jw),ZV⟩)
  (Hn:W.codeIn K AN "Feed.is_used_up"=true)
  (AW:W.keepIn K (.ref ka)=true)
  (Z5:W.isFn K (.ref ka)=true)
  (aiM:W.findIn K (.ref aU) "take"=some (some (.ref lZ)))
  (Te:K.lookup lZ=some ⟨agF,agD,.func (W.fnOf "take" "Feed.take" (ay lT) (ax lT) (ah lT) .none RD RE RG RC CP RH),agE⟩)
  (N2:W.codeIn K CP "Feed.take"=true)
  (CQ:W.keepIn K (.ref lZ)=true)
  (ahh:W.isFn K (.ref lZ)=true)
  (abI:W.findIn K (.ref aU) "take_some"=some (some (.ref kK)))
  (MI:K.lookup kK=some ⟨aaE,aaC,.func (W.fnOf "take_some" "Feed.take_some" (ay kr) (ax kr) (ah kr) .none K9 La Lb K8 Bf Lc),aaD⟩)
  (HS:W.codeIn K Bf "Feed.take_some"=true)
  (Bq:W.keepIn K (.ref kK)=true)
  (ab9:W.isFn K (.ref kK)=true)
  (ad7:W.findIn K (.ref aU) "take_row"=some (some (.ref kW)))
  (N3:K.lookup kW=some ⟨abt,abq,.func (W.fnOf "take_row" "Feed.take_row" (ay kR) (ax kR) (ah kR) .none Mp Mq Mr Mo BE Ms),abr⟩)
  (Ij:W.codeIn K BE "Feed.take_row"=true)
  (BI:W.keepIn K (.ref kW)=true)
  (abJ:W.isFn K (.ref kW)=true)
  (y0:W.makesIn K aU=true)
  (anx:W.keepIn K (.ref aU)=true)
  (pU:W.findIn K (.ref aU) "calls"=some none)
  (lE:W.findIn K (.ref aU) "place"=some none)
  (aew:W.nsIn K mainGlobals "TextTooLong"=some (some (.ref dE)))
  (fE:K.lookup dE=some (excClassObj "TextTooLong" adP dE af6 adQ eE true adR ack adS acm adT adU adV adW adX adY "Exception.__new__"))
  (ad8:W.keepIn K (.ref dE)=true)
  (xm:W.findIn K (.ref dE) "__init__"=some (some (.builtin "Exception.__init__")))
  (ahi:W.nsIn K mainGlobals "TextFault"=some (some (.ref cf)))
  (fH:K.lookup cf=some (excClassObj "TextFault" agG cf ahY agH eE true agI af7 agJ af8 agK agL agM agN agO agP "Exception.__new__"))
  (afU:W.keepIn K (.ref cf)=true)
  (abK:W.findIn K (.ref cf) "__init__"=some (some (.ref iL)))
  (MJ:K.lookup iL=some ⟨aaH,aaF,.func (W.fnOf "__init__" "TextFault.__init__" (ay ku) (ax ku) (ah ku) .none Lf Lg Lh Ld Bg Li),aaG⟩)
  (HU:W.codeIn K Bg "TextFault.__init__"=true)
  (LB:W.keepIn K (.ref iL)=true)
  (aba:W.isFn K (.ref iL)=true)
  (xP:W.findIn K (.ref cf) "__setattr__"=some (some (.builtin "object.__setattr__")))
  (xQ:W.findIn K (.ref cf) "__getattribute__"=some (some (.builtin "BaseException.__getattribute__")))
  (xR:W.findIn K (.ref cf) "__getattr__"=some (none))
  (tD:W.findIn K (.ref cf) "place"=some none)
  (aiN:W.nsIn K mainGlobals "DeskFull"=some (some (.ref dR)))
  (fI:K.lookup dR=some (excClassObj "DeskFull" ahZ dR ajM ai0 eE true ai1 agQ ai2 agR ai3 ai4 ai5 ai6 ai7 ai8 "Exception.__new__"))
  (ahj:W.keepIn K (.ref dR)=true)
  (ye:W.findIn K (.ref dR) "__init__"=some (some (.builtin "Exception.__init__")))
  (anz:W.nsIn K mainGlobals "NoBar"=some (some (.ref dm)))
  (fK:K.lookup dm=some (excClassObj "NoBar" an7 dm aoC an8 eE true an9 alL ana alM anb anc ane anf ang anh "Exception.__new__"))
  (am0:W.keepIn K (.ref dm)=true)
  (yK:W.findIn K (.ref dm) "__init__"=some (some (.builtin "Exception.__init__")))
  (aks:W.nsIn K mainGlobals "NoStrip"=some (some (.ref dJ)))
  (fJ:K.lookup dJ=some (excClassObj "NoStrip" ajN dJ alN ajO eE true ajP ai9 ajQ aia ajR ajS ajT ajU ajV ajW "Exception.__new__"))
  (aiO:W.keepIn K (.ref dJ)=true)
  (yp:W.findIn K (.ref dJ) "__init__"=some (some (.builtin "Exception.__init__")))
  (afV:W.nsIn K mainGlobals "OtherWidth"=some (some (.ref dI)))
  (fF:K.lookup dI=some (excClassObj "OtherWidth" af9 dI agS afa eE true afb adZ afc ae0 afd afe aff afg afh afi "Exception.__new__"))
  (aex:W.keepIn K (.ref dI)=true)
  (xB:W.findIn K (.ref dI) "__init__"=some (some (.builtin "Exception.__init__")))
  (afW:W.nsIn K mainGlobals "OutOfRange"=some (some (.ref cV)))
  (fG:K.lookup cV=some (excClassObj "OutOfRange" afj cV agT afk eE true afl ae1 afm ae2 afn afo afp afq afr afs "Exception.__new__"))
  (aey:W.keepIn K (.ref cV)=true)
  (pV:W.findIn K (.ref cV) "__init__"=some (some (.builtin "Exception.__init__")))
  (abb:W.nsIn K mainGlobals "RowsOutOfOrder"=some (some (.ref dD)))
  (fD:K.lookup dD=some (excClassObj "RowsOutOfOrder" aaI dD abu aaJ eE true aaK ZX aaL ZY aaM aaN aaO aaP aaQ aaR "Exception.__new__"))
  (Z6:W.keepIn K (.ref dD)=true)
  (wx:W.findIn K (.ref dD) "__init__"=some (some (.builtin "Exception.__init__")))
  (aez:W.nsIn K mainGlobals "UnknownCall"=some (some (.ref ic)))
  (aeA:K.lookup ic=some (excClassObj "UnknownCall" ae3 ic aft ae4 eE true ae5 acn ae6 aco ae7 ae8 ae9 aea aeb aec "Exception.__new__"))
  (ad9:W.keepIn K (.ref ic)=true)
  (xn:W.findIn K (.ref ic) "__init__"=some (some (.builtin "Exception.__init__")))
  (eu:W.nsIn K mainGlobals "len"=some none)
  (je:W.nsIn K mainGlobals "range"=some none)
  (rC:W.nsIn K mainGlobals "enumerate"=some none)
  (uB:W.nsIn K mainGlobals "max"=some none)
  (nX:W.nsIn K mainGlobals "min"=some none)
  (zk:W.nsIn K mainGlobals "ord"=some none)
  (zl:W.nsIn K mainGlobals "abs"=some none)
  (yf:W.nsIn K mainGlobals "reversed"=some none)
  (zm:W.nsIn K mainGlobals "sum"=some none)
  (p6:W.nsIn K mainGlobals "LINE_END"=some (some (Value.int 10 ajX)))
  (oO:W.nsIn K mainGlobals "BLANK"=some (some (Value.int 32 aoD)))
  (rD:W.nsIn K mainGlobals "DIGIT_ZERO"=some (some (Value.int 48 agU)))
  (xS:W.nsIn K mainGlobals "DIGIT_NINE"=some (some (Value.int 57 agV)))
  (t8:W.nsIn K mainGlobals "LETTER_A"=some (some (Value.int 97 ajY)))
  (yq:W.nsIn K mainGlobals "LETTER_Z"=some (some (Value.int 122 ajZ)))
  (yA:W.nsIn K mainGlobals "LETTERS"=some (some (Value.str "abcdefghijklmnopqrstuvwxyz" alO)))
  (rE:W.nsIn K mainGlobals "MOST_FORCE"=some (some (Value.int 127 agW)))
  (xC:W.nsIn K mainGlobals "MOST_WISHES"=some (some (Value.int 256 afu)))
  (yr:W.nsIn K mainGlobals "MOST_ROW"=some (some (Value.int 65535 ak0)))
  (yg:W.nsIn K mainGlobals "MOST_KEYS"=some (some (Value.int 128 aib)))
  (xD:W.nsIn K mainGlobals "MOST_TRACKS"=some (some (Value.int 128 afv)))
  (yh:W.nsIn K mainGlobals "MOST_ROWS"=some (some (Value.int 256 aic)))
  (xT:W.nsIn K mainGlobals "MOST_BYTES"=some (some (Value.int 65536 agX)))
  (xE:W.nsIn K mainGlobals "MOST_STRIPS"=some (some (Value.int 32 afw)))
  (yt:W.nsIn K mainGlobals "CALL_BAR"=some (some (Value.int 1 ak1)))
  (yi:W.nsIn K mainGlobals "CALL_READ"=some (some (Value.int 2 aid)))
  (xU:W.nsIn K mainGlobals "CALL_STATE"=some (some (Value.int 3 agY)))
  (xV:W.nsIn K mainGlobals "CALL_FORCE"=some (some (Value.int 4 agZ)))
  (xo:W.nsIn K mainGlobals "CALL_STRIKES"=some (some (Value.int 5 aed)))
  (yj:W.nsIn K mainGlobals "CALL_PLAN"=some (some (Value.int 6 aie)))
  (ap4:W.nsIn K mainGlobals "HEAD"=some (some (.ref iw)))
  (anA:K.lookup iw=some ⟨.type "tuple",alP,.seq #[Value.ref i6,Value.ref i7,Value.ref i8,Value.ref i9] ani,alQ⟩)
  (akt:K.lookup i6=some ⟨.type "tuple",aif,.seq #[Value.str "bar" aii,Value.ref md] ak2,aih⟩)
  (ahk:K.lookup md=some ⟨.type "tuple",afx,.seq #[Value.ref iN,Value.ref iO] ah0,afy⟩)
  (aeB:K.lookup iN=some ⟨.type "tuple",acp,.seq #[Value.int 1 acr,Value.int 128 acs] aee,acq⟩)
  (aeC:K.lookup iO=some ⟨.type "tuple",acu,.seq #[Value.int 0 acw,Value.int 128 acx] aef,acv⟩)
  (aku:K.lookup i7=some ⟨.type "tuple",aij,.seq #[Value.str "tail" ail,Value.ref me] ak3,aik⟩)
  (ahl:K.lookup me=some ⟨.type "tuple",afz,.seq #[Value.ref iP] ah1,afA⟩)
  (aeD:K.lookup iP=some ⟨.type "tuple",acy,.seq #[Value.int 0 acA,Value.int 15 acB] aeg,acz⟩)
  (akv:K.lookup i8=some ⟨.type "tuple",aim,.seq #[Value.str "force" aio,Value.ref mf] ak4,ain⟩)
  (ahm:K.lookup mf=some ⟨.type "tuple",afB,.seq #[Value.ref iQ,Value.ref iR,Value.ref iS] ah2,afC⟩)
  (aeE:K.lookup iQ=some ⟨.type "tuple",acC,.seq #[Value.int 0 acE,Value.int 127 acF] aeh,acD⟩)
  (aeF:K.lookup iR=some ⟨.type "tuple",acG,.seq #[Value.int 0 acI,Value.int 127 acJ] aei,acH⟩)
  (aeG:K.lookup iS=some ⟨.type "tuple",acK,.seq #[Value.int 0 acM,Value.int 127 acN] aej,acL⟩)
  (akw:K.lookup i9=some ⟨.type "tuple",aip,.seq #[Value.str "swell" air,Value.ref mh] ak5,aiq⟩)
  (ahn:K.lookup mh=some ⟨.type "tuple",afD,.seq #[Value.ref iT,Value.ref iU,Value.ref iV] ah3,afE⟩)
  (aeH:K.lookup iT=some ⟨.type "tuple",acO,.seq #[Value.int 0 acQ,Value.int 1023 acR] aek,acP⟩)
  (aeI:K.lookup iU=some ⟨.type "tuple",acS,.seq #[Value.int 0 acU,Value.int 1023 acV] ael,acT⟩)
  (aeJ:K.lookup iV=some ⟨.type "tuple",acW,.seq #[Value.int 0 acY,Value.int 1023 acZ] aem,acX⟩)
  (aiP:W.nsIn K mainGlobals "MEANINGS"=some (some (.ref ie)))
  (akx:K.lookup ie=some ⟨.type "dict",none,.dict #[⟨PyData.keyHash w.params "key",.str "key" alR,.ref ji⟩,⟨PyData.keyHash w.params "loud",.str "loud" ak6,.ref ja⟩,⟨PyData.keyHash w.params "soft",.str "soft" ak7,.ref jb⟩,⟨PyData.keyHash w.params "lock",.str "lock" ak8,.ref jc⟩,⟨PyData.keyHash w.params "cancel",.str "cancel" ah4,.ref iX⟩,⟨PyData.keyHash w.params "up",.str "up" anj,.ref jq⟩,⟨PyData.keyHash w.params "down",.str "down" ak9,.ref jd⟩,⟨PyData.keyHash w.params "accent",.str "accent" ah5,.ref iY⟩,⟨PyData.keyHash w.params "end",.str "end" alS,.ref jj⟩] asz,#[]⟩)
  (am1:K.lookup ji=some ⟨.type "tuple",aka,.seq #[Value.int 127 akc] alT,akb⟩)
  (aky:K.lookup ja=some ⟨.type "tuple",ais,.seq #[] akd,ait⟩)
  (akz:K.lookup jb=some ⟨.type "tuple",aiu,.seq #[] ake,aiv⟩)
  (akA:K.lookup jc=some ⟨.type "tuple",aiw,.seq #[Value.int 2 aiy,Value.int 1 aiz] akf,aix⟩)
  (aho:K.lookup iX=some ⟨.type "tuple",afF,.seq #[Value.int 1 afH] ah6,afG⟩)
  (anB:K.lookup jq=some ⟨.type "tuple",alU,.seq #[Value.int 1 alW] ank,alV⟩)
  (akB:K.lookup jd=some ⟨.type "tuple",aiA,.seq #[Value.int 1 aiC] akg,aiB⟩)
  (ahp:K.lookup iY=some ⟨.type "tuple",afI,.seq #[Value.int 1 afK] ah7,afJ⟩)
  (am2:K.lookup jj=some ⟨.type "tuple",akh,.seq #[] alX,aki⟩)
  (aiQ:(ie==sysModules)=false)
  : ∃ a:aC,Txt w K mg a/\∀ (s:Shared) (us:List Value),us.length=(["calls"]:List Str).length->BindsTo s a.p7 ⟨us,[]⟩ ((["calls"]:List Str).zip us):=by
 refine⟨{nE:=nE,yl:=W.fnOf "read_bar" "read_bar" (ay l6) (ax l6) (ah l6) .none Sn So Sq Sm C9 Sr,m7:=m7,xp:=W.fnOf "read_tracks" "read_tracks" (ay lp) (ax lp) (ah lp) .none Ou Ov Ow Ot Cg Ox,mW:=mW,xa:=W.fnOf "read_meaning" "read_meaning" (ay kY) (ax kY) (ah kY) .none M3 M4 M5 M0 BS M6,m8:=m8,xq:=W.fnOf "read_wishes" "read_wishes" (ay lq) (ax lq) (ah lq) .none Oz OA OB Oy Ci OC,mX:=mX,xc:=W.fnOf "check_ranges" "check_ranges" (ay kZ) (ax kZ) (ah kZ) .none M8 M9 Na M7 BU Nb,m9:=m9,xr:=W.fnOf "check_order" "check_order" (ay lr) (ax lr) (ah lr) .none OE OF OG OD Cj OH,nu:=nu,x3:=W.fnOf "best_plan" "best_plan" (ay lM) (ax lM) (ah lM) .none Q1 Q2 Q3 Q0 CI Q4,mT:=mT,wR:=W.fnOf "part_in_spans" "part_in_spans" (ay kN) (ax kN) (ah kN) .none LZ L5 L6 LY Bz L7,nc:=nc,xt:=W.fnOf "side_values" "side_values" (ay lu) (ax lu) (ah lu) .none OJ OK OL OI Ck OM,ng:=ng,xu:=W.fnOf "value_costs" "value_costs" (ay lx) (ax lx) (ah lx) .none OO OP OQ ON Cm OR,mP:=mP,wa:=W.fnOf "cheapest_values" "cheapest_values" (ay jT) (ax jT) (ah jT) .none IG II IJ IF AG IK,nh:=nh,xw:=W.fnOf "choose_best" "choose_best" (ay ly) (ax ly) (ah ly) .none OT OU OV OS Cn OW,mR:=mR,wy:=W.fnOf "fewest_changes" "fewest_changes" (ay kc) (ax kc) (ah kc) .none Kb Kc Kd Ka A4 Ke,nF:=nF,ym:=W.fnOf "best_way" "best_way" (ay l7) (ax l7) (ah l7) .none Su Sv Sw Ss Dc Sx,nk:=nk,xJ:=W.fnOf "both_sides" "both_sides" (ay lG) (ax lG) (ah lG) .none P7 P8 P9 PZ Cu Qa,mY:=mY,xf:=W.fnOf "sides_behind" "sides_behind" (ay k7) (ax k7) (ah k7) .none Nd Nf Ng Nc BV Nh,nG:=nG,yn:=W.fnOf "key_bits" "key_bits" (ay l8) (ax l8) (ah l8) .none Sz SD SE Sy De SG,ni:=ni,xx:=W.fnOf "struck_keys" "struck_keys" (ay lB) (ax lB) (ah lB) .none OY OZ O0 OX Co O1,mZ:=mZ,xg:=W.fnOf "list_strikes" "list_strikes" (ay k8) (ax k8) (ah k8) .none Nj Nk Nl Ni BW Nm,nq:=nq,xK:=W.fnOf "read_strip" "read_strip" (ay lH) (ax lH) (ah lH) .none Qc Qe Qg Qb Cv Qh,nr:=nr,xM:=W.fnOf "read_holes" "read_holes" (ay lI) (ax lI) (ah lI) .none Qj Qk Ql Qi Cw Qm,m4:=m4,xh:=W.fnOf "check_length" "check_length" (ay k9) (ax k9) (ah k9) .none Np Nq Nr Nn BX Nt,nW:=nW,zi:=W.fnOf "told" "told" (ay my) (ax my) (ah my) .none Wc Wd We Wb D6 Wf,nv:=nv,x4:=W.fnOf "carry_out" "carry_out" (ay lN) (ax lN) (ah lN) .none Q6 Q7 Q8 Q5 CJ Q9,nM:=nM,yI:=W.fnOf "answer" "answer" (ay mm) (ax mm) (ah mm) .none US UT UU UR DJ UW,ml:=ml,p7:=W.fnOf "answers" "answers" (ay mj) (ax mj) (ah mj) .none T5 T6 T7 T4 Dq T8,aG:=aG,lh:=lh,xi:=W.fnOf "__init__" "Scanner.__init__" (ay la) (ax la) (ah la) .none Nv Nw Ny Nu BY Nz,kx:=kx,wz:=W.fnOf "at_end" "Scanner.at_end" (ay ke) (ax ke) (ah ke) .none Kg Kh Ki Kf A5 Kj,jM:=jM,vY:=W.fnOf "sees_between" "Scanner.sees_between" (ay jL) (ax jL) (ah jL) .none GV GW GX GU Ap GY,lj:=lj,xj:=W.fnOf "sees" "Scanner.sees" (ay lb) (ax lb) (ah lb) .none NB NC ND NA BZ NF,kz:=kz,wB:=W.fnOf "expect" "Scanner.expect" (ay kf) (ax kf) (ah kf) .none Kl Km Kn Kk A6 Ko,jK:=jK,vW:=W.fnOf "expect_letters" "Scanner.expect_letters" (ay jJ) (ax jJ) (ah jJ) .none GC GD GF GB Al GG,jO:=jO,v3:=W.fnOf "take_number" "Scanner.take_number" (ay jN) (ax jN) (ah jN) .none G7 G8 G9 G6 Ar Ha,jR:=jR,v5:=W.fnOf "take_word" "Scanner.take_word" (ay jP) (ax jP) (ah jP) .none Hy Hz HA Hx Av HB,ba:=ba,ma:=ma,yo:=W.fnOf "__init__" "Bar.__init__" (ay l9) (ax l9) (ah l9) .none SI SK SM SH Df SN,kS:=kS,wU:=W.fnOf "track_bit" "Bar.track_bit" (ay kO) (ax kO) (ah kO) .none L9 Ma Mb L8 BB Mc,kC:=kC,wC:=W.fnOf "lock_force" "Bar.lock_force" (ay kg) (ax kg) (ah kg) .none Kr Ks Kt Kq A7 Ku,j4:=j4,wb:=W.fnOf "side_of_key" "Bar.side_of_key" (ay jU) (ax jU) (ah jU) .none IM IP IQ IL AH IS,dN:=dN,lU:=lU,x5:=W.fnOf "__init__" "Wish.__init__" (ay lO) (ax lO) (ah lO) .none Rb Rc Rf Ra CK Rg,df:=df,lV:=lV,x6:=W.fnOf "__init__" "Plan.__init__" (ay lP) (ax lP) (ah lP) .none Ri Rj Rk Rh CL Rl,lD:=lD,xy:=W.fnOf "choose" "Plan.choose" (ay lC) (ax lC) (ah lC) .none O3 O4 O5 O2 Cp O6,kD:=kD,wD:=W.fnOf "value_for" "Plan.value_for" (ay kh) (ax kh) (ah kh) .none Kw Kx Ky Kv A8 Kz,bb:=bb,lW:=lW,x8:=W.fnOf "__init__" "Side.__init__" (ay lQ) (ax lQ) (ah lQ) .none Rn Ro Rp Rm CM Rq,kT:=kT,wV:=W.fnOf "pass_row" "Side.pass_row" (ay kP) (ax kP) (ah kP) .none Me Mf Mg Md BC Mh,j5:=j5,wc:=W.fnOf "pass_locks" "Side.pass_locks" (ay jV) (ax jV) (ah jV) .none IU IV IW IT AI IX,j6:=j6,we:=W.fnOf "pass_swell" "Side.pass_swell" (ay jW) (ax jW) (ah jW) .none IZ Ja Jb IY AJ Jc,kU:=kU,wW:=W.fnOf "force_by" "Side.force_by" (ay kQ) (ax kQ) (ah kQ) .none Mj Ml Mm Mi BD Mn,cx:=cx,lK:=lK,xN:=W.fnOf "__init__" "Strip.__init__" (ay lJ) (ax lJ) (ah lJ) .none Qo Qp Qq Qn Cy Qr,kF:=kF,wF:=W.fnOf "sounding" "Strip.sounding" (ay ki) (ax ki) (ah ki) .none KC KG KH KA A9 KI,bB:=bB,lX:=lX,x9:=W.fnOf "__init__" "Desk.__init__" (ay lR) (ax lR) (ah lR) .none Rt Ru Rv Rr CN Rw,ll:=ll,xl:=W.fnOf "put_bar" "Desk.put_bar" (ay lg) (ax lg) (ah lg) .none NH NI NJ NG B0 NK,kG:=kG,wG:=W.fnOf "put_strip" "Desk.put_strip" (ay kj) (ax kj) (ah kj) .none KL KN KO KJ Ba KP,kH:=kH,wH:=W.fnOf "check_bar" "Desk.check_bar" (ay km) (ax km) (ah km) .none KR KS KU KQ Bc KW,j7:=j7,wg:=W.fnOf "find_strip" "Desk.find_strip" (ay jX) (ax jX) (ah jX) .none Je Jf Jg Jd AK Jh,kI:=kI,wI:=W.fnOf "check_row" "Desk.check_row" (ay kn) (ax kn) (ah kn) .none KZ K0 K1 KY Bd K2,j8:=j8,wj:=W.fnOf "tell_state" "Desk.tell_state" (ay jY) (ax jY) (ah jY) .none Jj Jk Jl Ji AL Jm,j9:=j9,wk:=W.fnOf "tell_force" "Desk.tell_force" (ay jZ) (ax jZ) (ah jZ) .none Jo Jp Jq Jn AM Jr,jS:=jS,v7:=W.fnOf "tell_strikes" "Desk.tell_strikes" (ay jQ) (ax jQ) (ah jQ) .none HD HE HF HC Aw HG,kJ:=kJ,wJ:=W.fnOf "tell_plan" "Desk.tell_plan" (ay ko) (ax ko) (ah ko) .none K4 K5 K6 K3 Be K7,aU:=aU,lY:=lY,ya:=W.fnOf "__init__" "Feed.__init__" (ay lS) (ax lS) (ah lS) .none Ry Rz RA Rx CO RB,ka:=ka,wm:=W.fnOf "is_used_up" "Feed.is_used_up" (ay j0) (ax j0) (ah j0) .none Jt Ju Jv Js AN Jw,lZ:=lZ,yb:=W.fnOf "take" "Feed.take" (ay lT) (ax lT) (ah lT) .none RD RE RG RC CP RH,kK:=kK,wK:=W.fnOf "take_some" "Feed.take_some" (ay kr) (ax kr) (ah kr) .none K9 La Lb K8 Bf Lc,kW:=kW,wX:=W.fnOf "take_row" "Feed.take_row" (ay kR) (ax kR) (ah kR) .none Mp Mq Mr Mo BE Ms,dE:=dE,cf:=cf,iL:=iL,wL:=W.fnOf "__init__" "TextFault.__init__" (ay ku) (ax ku) (ah ku) .none Lf Lg Lh Ld Bg Li,dR:=dR,dm:=dm,dJ:=dJ,dI:=dI,cV:=cV,dD:=dD,ic:=ic,iw:=iw,i6:=i6,md:=md,iN:=iN,iO:=iO,i7:=i7,me:=me,iP:=iP,i8:=i8,mf:=mf,iQ:=iQ,iR:=iR,iS:=iS,i9:=i9,mh:=mh,iT:=iT,iU:=iU,iV:=iV,ie:=ie,ji:=ji,ja:=ja,jb:=jb,jc:=jc,iX:=iX,jq:=jq,jd:=jd,iY:=iY,jj:=jj},{
  C2:=(aA (st:=l6) T9 O7 SO),
  TF:=((aA (st:=l6) T9 O7 SO).binds (ps:=["text"]) fun _ _ _ _ _ _ us hl=>match us,show us.length=1 from hl with | [_],_=>rfl),
  R3:=(W.mg_of X G akj),
  B4:=(aA (st:=lp) Qs Lj O8),
  Pw:=((aA (st:=lp) Qs Lj O8).binds (ps:=["scanner","width"]) fun _ _ _ _ _ _ us hl=>match us,show us.length=2 from hl with | [_,_],_=>rfl),
  N6:=(W.mg_of X G afL),
  BJ:=(aA (st:=kY) O9 Jx NL),
  N7:=((aA (st:=kY) O9 Jx NL).binds (ps:=["scanner","tracks"]) fun _ _ _ _ _ _ us hl=>match us,show us.length=2 from hl with | [_,_],_=>rfl),
  MN:=(W.mg_of X G aen),
  B5:=(aA (st:=lq) Qt Lk Pa),
  Px:=((aA (st:=lq) Qt Lk Pa).binds (ps:=["numbers"]) fun _ _ _ _ _ _ us hl=>match us,show us.length=1 from hl with | [_],_=>rfl),
  N8:=(W.mg_of X G afM),
  BK:=(aA (st:=kZ) Pb Jy NM),
  N9:=((aA (st:=kZ) Pb Jy NM).binds (ps:=["wishes"]) fun _ _ _ _ _ _ us hl=>match us,show us.length=1 from hl with | [_],_=>rfl),
  MO:=(W.mg_of X G aeo),
  B6:=(aA (st:=lr) Qu Ll Pc),
  Py:=((aA (st:=lr) Qu Ll Pc).binds (ps:=["wishes"]) fun _ _ _ _ _ _ us hl=>match us,show us.length=1 from hl with | [_],_=>rfl),
  Oa:=(W.mg_of X G afN),
  CC:=(aA (st:=lM) SQ NN RI),
  R4:=((aA (st:=lM) SQ NN RI).binds (ps:=["bar","wishes"]) fun _ _ _ _ _ _ us hl=>match us,show us.length=2 from hl with | [_,_],_=>rfl),
  QO:=(W.mg_of X G aiD),
  Bs:=(aA (st:=kN) NO Ib Mt),
  MP:=((aA (st:=kN) NO Ib Mt).binds (ps:=["wishes","gap"]) fun _ _ _ _ _ _ us hl=>match us,show us.length=2 from hl with | [_,_],_=>rfl),
  LF:=(W.mg_of X G ad0),
  B7:=(aA (st:=lu) Qv Lm Pd),
  Pz:=((aA (st:=lu) Qv Lm Pd).binds (ps:=["bar","side"]) fun _ _ _ _ _ _ us hl=>match us,show us.length=2 from hl with | [_,_],_=>rfl),
  Ob:=(W.mg_of X G afO),
  B8:=(aA (st:=lx) Qw Ln Pe),
  PB:=((aA (st:=lx) Qw Ln Pe).binds (ps:=["bar","values","span"]) fun _ _ _ _ _ _ us hl=>match us,show us.length=3 from hl with | [_,_,_],_=>rfl),
  Oc:=(W.mg_of X G afP),
  AD:=(aA (st:=jT) Lo Hf Jz),
  JI:=((aA (st:=jT) Lo Hf Jz).binds (ps:=["costs"]) fun _ _ _ _ _ _ us hl=>match us,show us.length=1 from hl with | [_],_=>rfl),
  Il:=(W.mg_of X G aaS),
  B9:=(aA (st:=ly) Qx Lp Pf),
  PD:=((aA (st:=ly) Qx Lp Pf).binds (ps:=["plan","spans","costs"]) fun _ _ _ _ _ _ us hl=>match us,show us.length=3 from hl with | [_,_,_],_=>rfl),
  Od:=(W.mg_of X G afQ),
  AX:=(aA (st:=kc) Mu HH Lq),
  LG:=((aA (st:=kc) Mu HH Lq).binds (ps:=["choices"]) fun _ _ _ _ _ _ us hl=>match us,show us.length=1 from hl with | [_],_=>rfl),
  JJ:=(W.mg_of X G abv),
  yc:=(aA (st:=l7) Ua Pg SR),
  Dl:=((aA (st:=l7) Ua Pg SR).binds (ps:=["before","rest"]) fun _ _ _ _ _ _ us hl=>match us,show us.length=2 from hl with | [_,_],_=>rfl),
  C3:=(W.mg_of X G akk),
  xA:=(aA (st:=lG) RJ Mv Qy),
  CD:=((aA (st:=lG) RJ Mv Qy).binds (ps:=["bar"]) fun _ _ _ _ _ _ us hl=>match us,show us.length=1 from hl with | [_],_=>rfl),
  Cr:=(W.mg_of X G ah8),
  wY:=(aA (st:=k7) Ph JA NP),
  Ca:=((aA (st:=k7) Ph JA NP).binds (ps:=["bar","strip","last"]) fun _ _ _ _ _ _ us hl=>match us,show us.length=3 from hl with | [_,_,_],_=>rfl),
  BL:=(W.mg_of X G aep),
  C4:=(aA (st:=l8) Ub Pj SU),
  TJ:=((aA (st:=l8) Ub Pj SU).binds (ps:=["bar"]) fun _ _ _ _ _ _ us hl=>match us,show us.length=1 from hl with | [_],_=>rfl),
  R5:=(W.mg_of X G akl),
  Cb:=(aA (st:=lB) Qz Lr Pk),
  PF:=((aA (st:=lB) Qz Lr Pk).binds (ps:=["keys","begun"]) fun _ _ _ _ _ _ us hl=>match us,show us.length=2 from hl with | [_,_],_=>rfl),
  Oe:=(W.mg_of X G afR),
  BM:=(aA (st:=k8) Pl JB NQ),
  Of:=((aA (st:=k8) Pl JB NQ).binds (ps:=["bar","strip"]) fun _ _ _ _ _ _ us hl=>match us,show us.length=2 from hl with | [_,_],_=>rfl),
  MQ:=(W.mg_of X G aeq),
  Cs:=(aA (st:=lH) RK Mw QA),
  QP:=((aA (st:=lH) RK Mw QA).binds (ps:=["text"]) fun _ _ _ _ _ _ us hl=>match us,show us.length=1 from hl with | [_],_=>rfl),
  PJ:=(W.mg_of X G ah9),
  Ct:=(aA (st:=lI) RL Mx QB),
  QQ:=((aA (st:=lI) RL Mx QB).binds (ps:=["scanner","width"]) fun _ _ _ _ _ _ us hl=>match us,show us.length=2 from hl with | [_,_],_=>rfl),
  PM:=(W.mg_of X G aha),
  wZ:=(aA (st:=k9) Pn JC NR),
  Cc:=((aA (st:=k9) Pn JC NR).binds (ps:=["text"]) fun _ _ _ _ _ _ us hl=>match us,show us.length=1 from hl with | [_],_=>rfl),
  BN:=(W.mg_of X G aer),
  fM:=(aA (st:=my) WD Uc Wg),
  gc:=((aA (st:=my) WD Uc Wg).binds (ps:=["number","listed"]) fun _ _ _ _ _ _ us hl=>match us,show us.length=2 from hl with | [_,_],_=>rfl),
  f9:=(W.mg_of X G aqb),
  CF:=(aA (st:=lN) SW NS RM),
  R6:=((aA (st:=lN) SW NS RM).binds (ps:=["desk","feed"]) fun _ _ _ _ _ _ us hl=>match us,show us.length=2 from hl with | [_,_],_=>rfl),
  QR:=(W.mg_of X G aiE),
  DG:=(aA (st:=mm) Vz RN UX),
  Vl:=((aA (st:=mm) Vz RN UX).binds (ps:=["desk","feed"]) fun _ _ _ _ _ _ us hl=>match us,show us.length=2 from hl with | [_,_],_=>rfl),
  UH:=(W.mg_of X G anl),
  TK:=(aA (st:=mj) UY QC Ud),
  ala:=((aA (st:=mj) UY QC Ud).binds (ps:=["calls"]) fun _ _ _ _ _ _ us hl=>match us,show us.length=1 from hl with | [_],_=>rfl),
  TM:=(W.mg_of X G alY),
  C5:=(W.mg_of X G akm),
  bz:=(⟨akn,ako,akp,akq⟩),
  MR:=(aA (st:=la) Po JD NT),
  Cd:=((aA (st:=la) Po JD NT).binds (ps:=["self","text"]) fun _ _ _ _ _ _ us hl=>match us,show us.length=2 from hl with | [_,_],_=>rfl),
  JK:=(aA (st:=ke) My HI Bh),
  wM:=((aA (st:=ke) My HI Bh).binds (ps:=["self"]) fun _ _ _ _ _ _ us hl=>match us,show us.length=1 from hl with | [_],_=>rfl),
  wo:=(⟨abw,aaT,Bh⟩),
  GO:=(aA (st:=jL) Hb Gu Aq),
  vZ:=((aA (st:=jL) Hb Gu Aq).binds (ps:=["self","low","high"]) fun _ _ _ _ _ _ us hl=>match us,show us.length=3 from hl with | [_,_,_],_=>rfl),
  vX:=(⟨Za,Y6,Aq⟩),
  MS:=(aA (st:=lb) Pq JE B1),
  Ce:=((aA (st:=lb) Pq JE B1).binds (ps:=["self","byte"]) fun _ _ _ _ _ _ us hl=>match us,show us.length=2 from hl with | [_,_],_=>rfl),
  BO:=(⟨aet,ad2,B1⟩),
  JL:=(aA (st:=kf) Mz HJ Bi),
  kL:=((aA (st:=kf) Mz HJ Bi).binds (ps:=["self","byte"]) fun _ _ _ _ _ _ us hl=>match us,show us.length=2 from hl with | [_,_],_=>rfl),
  kb:=(⟨abx,aaU,Bi⟩),
  Gw:=(aA (st:=jJ) GN Gp Am),
  An:=((aA (st:=jJ) GN Gp Am).binds (ps:=["self","letters"]) fun _ _ _ _ _ _ us hl=>match us,show us.length=2 from hl with | [_,_],_=>rfl),
  Ak:=(⟨Y1,Y0,Am⟩),
  G1:=(aA (st:=jN) Hg GH As),
  pP:=((aA (st:=jN) Hg GH As).binds (ps:=["self","low","high"]) fun _ _ _ _ _ _ us hl=>match us,show us.length=3 from hl with | [_,_,_],_=>rfl),
  pO:=(⟨Zc,Zb,As⟩),
  Hq:=(aA (st:=jP) Ic GZ Ax),
  HV:=((aA (st:=jP) Ic GZ Ax).binds (ps:=["self"]) fun _ _ _ _ _ _ us hl=>match us,show us.length=1 from hl with | [_],_=>rfl),
  Hr:=(⟨Zn,Zl,Ax⟩),
  t7:=(⟨t7,aes,ad1,aiF⟩),
  mU:=(mU),
  eY:=(eY),
  V6:=(W.mg_of X G aqc),
  bU:=(⟨aqd,aqe,aqf,aqg⟩),
  R7:=(aA (st:=l9) Ue Pr SX),
  TN:=((aA (st:=l9) Ue Pr SX).binds (ps:=["self","numbers","tracks"]) fun _ _ _ _ _ _ us hl=>match us,show us.length=3 from hl with | [_,_,_],_=>rfl),
  LH:=(aA (st:=kO) NU Ie BF),
  kX:=((aA (st:=kO) NU Ie BF).binds (ps:=["self","word","first","second"]) fun _ _ _ _ _ _ us hl=>match us,show us.length=4 from hl with | [_,_,_,_],_=>rfl),
  kM:=(⟨ad3,aby,BF⟩),
  JM:=(aA (st:=kg) MA HK Bj),
  Bt:=((aA (st:=kg) MA HK Bj).binds (ps:=["self","lock_value"]) fun _ _ _ _ _ _ us hl=>match us,show us.length=2 from hl with | [_,_],_=>rfl),
  AY:=(⟨abz,aaV,Bj⟩),
  Im:=(aA (st:=jU) Ls Hh AO),
  JN:=((aA (st:=jU) Ls Hh AO).binds (ps:=["self","key"]) fun _ _ _ _ _ _ us hl=>match us,show us.length=2 from hl with | [_,_],_=>rfl),
  Io:=(⟨aaW,ZZ,AO⟩),
  zj:=(⟨zj,akr,aiG,aoE⟩),
  tK:=(tK),
  tQ:=(tQ),
  tG:=(tG),
  ny:=(ny),
  tV:=(tV),
  tX:=(tX),
  tN:=(tN),
  tY:=(tY),
  tZ:=(tZ),
  t4:=(t4),
  rm:=(rm),
  Vm:=(W.mg_of X G aoF),
  fq:=(⟨aoG,aoH,aoI,aoJ⟩),
  QS:=(aA (st:=lO) SY NV RO),
  R8:=((aA (st:=lO) SY NV RO).binds (ps:=["self","row","side","force"]) fun _ _ _ _ _ _ us hl=>match us,show us.length=4 from hl with | [_,_,_,_],_=>rfl),
  yX:=(⟨yX,aiH,ahb,anm⟩),
  iW:=(iW),
  oK:=(oK),
  rn:=(rn),
  Vn:=(W.mg_of X G aoK),
  nN:=(⟨aoL,aoM,aoN,aoO⟩),
  QT:=(aA (st:=lP) Ta NW RP),
  R9:=((aA (st:=lP) Ta NW RP).binds (ps:=["self"]) fun _ _ _ _ _ _ us hl=>match us,show us.length=1 from hl with | [_],_=>rfl),
  Og:=(aA (st:=lC) QD Lu Cq),
  PN:=((aA (st:=lC) QD Lu Cq).binds (ps:=["self","span","value","cost"]) fun _ _ _ _ _ _ us hl=>match us,show us.length=4 from hl with | [_,_,_,_],_=>rfl),
  Oh:=(⟨afS,aeu,Cq⟩),
  JO:=(aA (st:=kh) MB HL Bk),
  LI:=((aA (st:=kh) MB HL Bk).binds (ps:=["self","wish"]) fun _ _ _ _ _ _ us hl=>match us,show us.length=2 from hl with | [_,_],_=>rfl),
  JP:=(⟨abA,aaX,Bk⟩),
  yY:=(⟨yY,aiI,ahc,ano⟩),
  rB:=(rB),
  rj:=(rj),
  DR:=(W.mg_of X G aoP),
  bH:=(⟨aoQ,aoR,aoS,aoT⟩),
  QU:=(aA (st:=lQ) Tb NX RQ),
  C6:=((aA (st:=lQ) Tb NX RQ).binds (ps:=["self","bar","number"]) fun _ _ _ _ _ _ us hl=>match us,show us.length=3 from hl with | [_,_,_],_=>rfl),
  LJ:=(aA (st:=kP) NY Ig BG),
  BP:=((aA (st:=kP) NY Ig BG).binds (ps:=["self","sounding"]) fun _ _ _ _ _ _ us hl=>match us,show us.length=2 from hl with | [_,_],_=>rfl),
  Bu:=(⟨ad4,abB,BG⟩),
  Ip:=(aA (st:=jV) Lv Hi AQ),
  JQ:=((aA (st:=jV) Lv Hi AQ).binds (ps:=["self","sounding"]) fun _ _ _ _ _ _ us hl=>match us,show us.length=2 from hl with | [_,_],_=>rfl),
  Iq:=(⟨aaY,Z0,AQ⟩),
  Ir:=(aA (st:=jW) Lw Hj AR),
  JR:=((aA (st:=jW) Lw Hj AR).binds (ps:=["self","sounding"]) fun _ _ _ _ _ _ us hl=>match us,show us.length=2 from hl with | [_,_],_=>rfl),
  Iu:=(⟨aaZ,Z1,AR⟩),
  LN:=(aA (st:=kQ) NZ Ih BH),
  BQ:=((aA (st:=kQ) NZ Ih BH).binds (ps:=["self","sounding"]) fun _ _ _ _ _ _ us hl=>match us,show us.length=2 from hl with | [_,_],_=>rfl),
  Bv:=(⟨ad5,abC,BH⟩),
  uo:=(⟨uo,aiJ,ahd,anp⟩),
  nz:=(nz),
  tu:=(tu),
  qX:=(qX),
  tL:=(tL),
  tI:=(tI),
  tw:=(tw),
  qZ:=(qZ),
  hJ:=(hJ),
  iM:=(iM),
  UI:=(W.mg_of X G anq),
  i4:=(⟨anr,ant,anu,anv⟩),
  PQ:=(aA (st:=lJ) RR MC QE),
  QV:=((aA (st:=lJ) RR MC QE).binds (ps:=["self","width","rows"]) fun _ _ _ _ _ _ us hl=>match us,show us.length=3 from hl with | [_,_,_],_=>rfl),
  JS:=(aA (st:=ki) MD HM Bl),
  wN:=((aA (st:=ki) MD HM Bl).binds (ps:=["self","row","tail"]) fun _ _ _ _ _ _ us hl=>match us,show us.length=3 from hl with | [_,_,_],_=>rfl),
  wq:=(⟨abD,ab0,Bl⟩),
  yJ:=(⟨yJ,ahe,afT,alZ⟩),
  tM:=(tM),
  oI:=(oI),
  Vo:=(W.mg_of X G aoU),
  cI:=(⟨aoV,aoW,aoX,aoY⟩),
  QW:=(aA (st:=lR) Tc N0 RS),
  Sa:=((aA (st:=lR) Tc N0 RS).binds (ps:=["self"]) fun _ _ _ _ _ _ us hl=>match us,show us.length=1 from hl with | [_],_=>rfl),
  MT:=(aA (st:=lg) Pt JF B2),
  Oi:=((aA (st:=lg) Pt JF B2).binds (ps:=["self","text"]) fun _ _ _ _ _ _ us hl=>match us,show us.length=2 from hl with | [_,_],_=>rfl),
  MU:=(⟨aev,ad6,B2⟩),
  JT:=(aA (st:=kj) ME HN Bm),
  LO:=((aA (st:=kj) ME HN Bm).binds (ps:=["self","text"]) fun _ _ _ _ _ _ us hl=>match us,show us.length=2 from hl with | [_,_],_=>rfl),
  JU:=(⟨abE,ab1,Bm⟩),
  JV:=(aA (st:=km) MF HP Bn),
  Bw:=((aA (st:=km) MF HP Bn).binds (ps:=["self"]) fun _ _ _ _ _ _ us hl=>match us,show us.length=1 from hl with | [_],_=>rfl),
  AZ:=(⟨abF,ab2,Bn⟩),
  Iv:=(aA (st:=jX) Lx Hk AS),
  wt:=((aA (st:=jX) Lx Hk AS).binds (ps:=["self","number"]) fun _ _ _ _ _ _ us hl=>match us,show us.length=2 from hl with | [_,_],_=>rfl),
  v8:=(⟨ab3,Z2,AS⟩),
  JW:=(aA (st:=kn) MG HQ Bo),
  Bx:=((aA (st:=kn) MG HQ Bo).binds (ps:=["self","strip","row"]) fun _ _ _ _ _ _ us hl=>match us,show us.length=3 from hl with | [_,_,_],_=>rfl),
  A0:=(⟨abG,ab4,Bo⟩),
  Iw:=(aA (st:=jY) Ly Hl AU),
  JX:=((aA (st:=jY) Ly Hl AU).binds (ps:=["self","number","row"]) fun _ _ _ _ _ _ us hl=>match us,show us.length=3 from hl with | [_,_,_],_=>rfl),
  Iy:=(⟨ab5,Z3,AU⟩),
  Iz:=(aA (st:=jZ) Lz Hm AV),
  JY:=((aA (st:=jZ) Lz Hm AV).binds (ps:=["self","number","row","which"]) fun _ _ _ _ _ _ us hl=>match us,show us.length=4 from hl with | [_,_,_,_],_=>rfl),
  IA:=(⟨ab6,Z4,AV⟩),
  Hs:=(aA (st:=jQ) Ii G0 Ay),
  HW:=((aA (st:=jQ) Ii G0 Ay).binds (ps:=["self","number"]) fun _ _ _ _ _ _ us hl=>match us,show us.length=2 from hl with | [_,_],_=>rfl),
  Ht:=(⟨Zo,Zm,Ay⟩),
  JZ:=(aA (st:=ko) MH HR Bp),
  LP:=((aA (st:=ko) MH HR Bp).binds (ps:=["self","numbers"]) fun _ _ _ _ _ _ us hl=>match us,show us.length=2 from hl with | [_,_],_=>rfl),
  J0:=(⟨abH,ab7,Bp⟩),
  yZ:=(⟨yZ,aiK,ahf,anw⟩),
  fZ:=(fZ),
  m5:=(m5),
  Vp:=(W.mg_of X G aoZ),
  d8:=(⟨ap0,ap1,ap2,ap3⟩),
  QX:=(aA (st:=lS) Td N1 RT),
  Sb:=((aA (st:=lS) Td N1 RT).binds (ps:=["self","calls"]) fun _ _ _ _ _ _ us hl=>match us,show us.length=2 from hl with | [_,_],_=>rfl),
  IB:=(aA (st:=j0) LA Hn AW),
  J1:=((aA (st:=j0) LA Hn AW).binds (ps:=["self"]) fun _ _ _ _ _ _ us hl=>match us,show us.length=1 from hl with | [_],_=>rfl),
  IC:=(⟨ab8,Z5,AW⟩),
  QY:=(aA (st:=lT) Te N2 CQ),
  yd:=((aA (st:=lT) Te N2 CQ).binds (ps:=["self"]) fun _ _ _ _ _ _ us hl=>match us,show us.length=1 from hl with | [_],_=>rfl),
  xO:=(⟨aiM,ahh,CQ⟩),
  J2:=(aA (st:=kr) MI HS Bq),
  wO:=((aA (st:=kr) MI HS Bq).binds (ps:=["self","count"]) fun _ _ _ _ _ _ us hl=>match us,show us.length=2 from hl with | [_,_],_=>rfl),
  wu:=(⟨abI,ab9,Bq⟩),
  LQ:=(aA (st:=kR) N3 Ij BI),
  w6:=((aA (st:=kR) N3 Ij BI).binds (ps:=["self"]) fun _ _ _ _ _ _ us hl=>match us,show us.length=1 from hl with | [_],_=>rfl),
  wQ:=(⟨ad7,abJ,BI⟩),
  y0:=(⟨y0,aiL,ahg,anx⟩),
  pU:=(pU),
  lE:=(lE),
  BR:=(W.mg_of X G aew),
  Oj:=(aQ fE),
  Ol:=(ad8),
  xm:=(xm),
  oJ:=(W.mg_of X G ahi),
  nt:=(aQ fH),
  pW:=(afU),
  J3:=(aA (st:=ku) MJ HU LB),
  pS:=((aA (st:=ku) MJ HU LB).binds (ps:=["self","place"]) fun _ _ _ _ _ _ us hl=>match us,show us.length=2 from hl with | [_,_],_=>rfl),
  pX:=(abK),
  pY:=(aba),
  xP:=(xP),
  xQ:=(xQ),
  xR:=(xR),
  tD:=(tD),
  CG:=(W.mg_of X G aiN),
  Sd:=(aQ fI),
  Se:=(ahj),
  ye:=(ye),
  DH:=(W.mg_of X G anz),
  Vq:=(aQ fK),
  Vr:=(am0),
  yK:=(yK),
  C7:=(W.mg_of X G aks),
  TQ:=(aQ fJ),
  TR:=(aiO),
  yp:=(yp),
  Cf:=(W.mg_of X G afV),
  PR:=(aQ fF),
  PX:=(aex),
  xB:=(xB),
  rk:=(W.mg_of X G afW),
  tO:=(aQ fG),
  tP:=(aey),
  pV:=(pV),
  AE:=(W.mg_of X G abb),
  J4:=(aQ fD),
  J5:=(Z6),
  wx:=(wx),
  MV:=(W.mg_of X G aez),
  Om:=(aQ aeA),
  Oo:=(ad9),
  xn:=(xn),
  Gx:=(de (aQ fE) (aQ fG) (dc fE fG (by decide))),
  Gr:=(oN (aQ fE)),
  GP:=(de (aQ fH) (aQ fG) (dc fH fG (by decide))),
  GI:=(de (aQ fH) (aQ fE) (dc fH fE (by decide))),
  GQ:=(de (aQ fH) (aQ fF) (dc fH fF (by decide))),
  Gq:=(de (aQ fH) (aQ fD) (dc fH fD (by decide))),
  Hu:=(de (aQ fH) (aQ fJ) (dc fH fJ (by decide))),
  G2:=(oN (aQ fH)),
  G3:=(de (aQ fI) (aQ fG) (dc fI fG (by decide))),
  GR:=(de (aQ fI) (aQ fE) (dc fI fE (by decide))),
  G4:=(de (aQ fI) (aQ fF) (dc fI fF (by decide))),
  Gs:=(de (aQ fI) (aQ fD) (dc fI fD (by decide))),
  HX:=(de (aQ fI) (aQ fJ) (dc fI fJ (by decide))),
  Hc:=(de (aQ fI) (aQ fH) (dc fI fH (by decide))),
  J6:=(de (aQ fI) (aQ fK) (dc fI fK (by decide))),
  Hv:=(oN (aQ fI)),
  HY:=(de (aQ fK) (aQ fG) (dc fK fG (by decide))),
  Hw:=(de (aQ fK) (aQ fE) (dc fK fE (by decide))),
  HZ:=(de (aQ fK) (aQ fF) (dc fK fF (by decide))),
  GS:=(de (aQ fK) (aQ fD) (dc fK fD (by decide))),
  LR:=(de (aQ fK) (aQ fJ) (dc fK fJ (by decide))),
  ID:=(de (aQ fK) (aQ fH) (dc fK fH (by decide))),
  Oq:=(oN (aQ fK)),
  Hd:=(de (aQ fJ) (aQ fG) (dc fJ fG (by decide))),
  G5:=(de (aQ fJ) (aQ fE) (dc fJ fE (by decide))),
  He:=(de (aQ fJ) (aQ fF) (dc fJ fF (by decide))),
  Gy:=(de (aQ fJ) (aQ fD) (dc fJ fD (by decide))),
  IE:=(oN (aQ fJ)),
  GJ:=(de (aQ fF) (aQ fG) (dc fF fG (by decide))),
  Gz:=(de (aQ fF) (aQ fE) (dc fF fE (by decide))),
  GK:=(oN (aQ fF)),
  GL:=(oN (aQ fG)),
  Gm:=(de (aQ fD) (aQ fG) (dc fD fG (by decide))),
  Gk:=(de (aQ fD) (aQ fE) (dc fD fE (by decide))),
  Gn:=(de (aQ fD) (aQ fF) (dc fD fF (by decide))),
  Gj:=(oN (aQ fD)),
  eu:=(W.ns_none_of X G eu),
  je:=(W.ns_none_of X G je),
  rC:=(W.ns_none_of X G rC),
  uB:=(W.ns_none_of X G uB),
  nX:=(W.ns_none_of X G nX),
  zk:=(W.ns_none_of X G zk),
  zl:=(W.ns_none_of X G zl),
  yf:=(W.ns_none_of X G yf),
  zm:=(W.ns_none_of X G zm),
  p6:=(⟨_,W.mg_of X G p6,_,rfl⟩),
  oO:=(⟨_,W.mg_of X G oO,_,rfl⟩),
  rD:=(⟨_,W.mg_of X G rD,_,rfl⟩),
  xS:=(⟨_,W.mg_of X G xS,_,rfl⟩),
  t8:=(⟨_,W.mg_of X G t8,_,rfl⟩),
  yq:=(⟨_,W.mg_of X G yq,_,rfl⟩),
  yA:=(⟨_,W.mg_of X G yA,_,rfl⟩),
  rE:=(⟨_,W.mg_of X G rE,_,rfl⟩),
  xC:=(⟨_,W.mg_of X G xC,_,rfl⟩),
  yr:=(⟨_,W.mg_of X G yr,_,rfl⟩),
  yg:=(⟨_,W.mg_of X G yg,_,rfl⟩),
  xD:=(⟨_,W.mg_of X G xD,_,rfl⟩),
  yh:=(⟨_,W.mg_of X G yh,_,rfl⟩),
  xT:=(⟨_,W.mg_of X G xT,_,rfl⟩),
  xE:=(⟨_,W.mg_of X G xE,_,rfl⟩),
  yt:=(⟨_,W.mg_of X G yt,_,rfl⟩),
  yi:=(⟨_,W.mg_of X G yi,_,rfl⟩),
  xU:=(⟨_,W.mg_of X G xU,_,rfl⟩),
  xV:=(⟨_,W.mg_of X G xV,_,rfl⟩),
  xo:=(⟨_,W.mg_of X G xo,_,rfl⟩),
  yj:=(⟨_,W.mg_of X G yj,_,rfl⟩),
  iw:=(⟨_,_,_,anA,rfl,rfl,(by show 4<=sizeLine;decide),(.cons rfl (.cons rfl (.cons rfl (.cons rfl .nil))))⟩),
  i6:=(⟨_,_,_,akt,rfl,rfl,(by show 2<=sizeLine;decide),(.cons ⟨_,rfl⟩ (.cons rfl .nil))⟩),
  md:=(⟨_,_,_,ahk,rfl,rfl,(by show 2<=sizeLine;decide),(.cons rfl (.cons rfl .nil))⟩),
  iN:=(⟨_,_,_,aeB,rfl,rfl,(by show 2<=sizeLine;decide),(.cons ⟨_,rfl⟩ (.cons ⟨_,rfl⟩ .nil))⟩),
  iO:=(⟨_,_,_,aeC,rfl,rfl,(by show 2<=sizeLine;decide),(.cons ⟨_,rfl⟩ (.cons ⟨_,rfl⟩ .nil))⟩),
  i7:=(⟨_,_,_,aku,rfl,rfl,(by show 2<=sizeLine;decide),(.cons ⟨_,rfl⟩ (.cons rfl .nil))⟩),
  me:=(⟨_,_,_,ahl,rfl,rfl,(by show 1<=sizeLine;decide),(.cons rfl .nil)⟩),
  iP:=(⟨_,_,_,aeD,rfl,rfl,(by show 2<=sizeLine;decide),(.cons ⟨_,rfl⟩ (.cons ⟨_,rfl⟩ .nil))⟩),
  i8:=(⟨_,_,_,akv,rfl,rfl,(by show 2<=sizeLine;decide),(.cons ⟨_,rfl⟩ (.cons rfl .nil))⟩),
  mf:=(⟨_,_,_,ahm,rfl,rfl,(by show 3<=sizeLine;decide),(.cons rfl (.cons rfl (.cons rfl .nil)))⟩),
  iQ:=(⟨_,_,_,aeE,rfl,rfl,(by show 2<=sizeLine;decide),(.cons ⟨_,rfl⟩ (.cons ⟨_,rfl⟩ .nil))⟩),
  iR:=(⟨_,_,_,aeF,rfl,rfl,(by show 2<=sizeLine;decide),(.cons ⟨_,rfl⟩ (.cons ⟨_,rfl⟩ .nil))⟩),
  iS:=(⟨_,_,_,aeG,rfl,rfl,(by show 2<=sizeLine;decide),(.cons ⟨_,rfl⟩ (.cons ⟨_,rfl⟩ .nil))⟩),
  i9:=(⟨_,_,_,akw,rfl,rfl,(by show 2<=sizeLine;decide),(.cons ⟨_,rfl⟩ (.cons rfl .nil))⟩),
  mh:=(⟨_,_,_,ahn,rfl,rfl,(by show 3<=sizeLine;decide),(.cons rfl (.cons rfl (.cons rfl .nil)))⟩),
  iT:=(⟨_,_,_,aeH,rfl,rfl,(by show 2<=sizeLine;decide),(.cons ⟨_,rfl⟩ (.cons ⟨_,rfl⟩ .nil))⟩),
  iU:=(⟨_,_,_,aeI,rfl,rfl,(by show 2<=sizeLine;decide),(.cons ⟨_,rfl⟩ (.cons ⟨_,rfl⟩ .nil))⟩),
  iV:=(⟨_,_,_,aeJ,rfl,rfl,(by show 2<=sizeLine;decide),(.cons ⟨_,rfl⟩ (.cons ⟨_,rfl⟩ .nil))⟩),
  V7:=(W.mg_of X G ap4),
  ji:=(⟨_,_,_,am1,rfl,rfl,(by show 1<=sizeLine;decide),(.cons ⟨_,rfl⟩ .nil)⟩),
  ja:=(⟨_,_,_,aky,rfl,rfl,(by show 0<=sizeLine;decide),.nil⟩),
  jb:=(⟨_,_,_,akz,rfl,rfl,(by show 0<=sizeLine;decide),.nil⟩),
  jc:=(⟨_,_,_,akA,rfl,rfl,(by show 2<=sizeLine;decide),(.cons ⟨_,rfl⟩ (.cons ⟨_,rfl⟩ .nil))⟩),
  iX:=(⟨_,_,_,aho,rfl,rfl,(by show 1<=sizeLine;decide),(.cons ⟨_,rfl⟩ .nil)⟩),
  jq:=(⟨_,_,_,anB,rfl,rfl,(by show 1<=sizeLine;decide),(.cons ⟨_,rfl⟩ .nil)⟩),
  jd:=(⟨_,_,_,akB,rfl,rfl,(by show 1<=sizeLine;decide),(.cons ⟨_,rfl⟩ .nil)⟩),
  iY:=(⟨_,_,_,ahp,rfl,rfl,(by show 1<=sizeLine;decide),(.cons ⟨_,rfl⟩ .nil)⟩),
  jj:=(⟨_,_,_,am2,rfl,rfl,(by show 0<=sizeLine;decide),.nil⟩),
  C8:=(W.mg_of X G aiP),
  ie:=(⟨aiQ,_,_,akx,(.cons rfl (.cons rfl (.cons rfl (.cons rfl (.cons rfl (.cons rfl (.cons rfl (.cons rfl (.cons rfl .nil)))))))))⟩)},fun s us hu=>match us,hu with | [_],_=>.of_eq rfl⟩
end RF
open PySem PySem.W PyProof.Rows
namespace PySem.W.Fast
def tw15271205540027176834:=0
def tw2472407106426677294:=0
def tw14898614084503096245:=0
def tw653210513240268755:=0
def tw3967749569175051836:=0
def tw4914186790648163930:=0
def tw7258353791939168651:=0
def tw12824444250620925816:=0
def tw2021688186340028208:=0
def tw13968695469050231783:=0
def tw2626474979430381248:=0
def tw4884397558978554540:=0
def tw2499614674607174632:=0
def tw1803242173999821313:=0
def tw15044927309259304578:=0
def tw13492829947335814430:=0
def tw5321247189380963231:=0
def tw10222964900618399801:=0
def tw7822482406288377379:=0
def tw18078218439047069778:=0
def tw9886368065562315417:=0
def tw18445826404525788198:=0
def tw12447922254890910730:=0
def tw17769488055651517093:=0
def tw15987268599168300333:=0
def tw5446426511001230167:=0
def tw9354941632091788908:=0
def tw2902046802429586922:=0
def tw4568679732656346376:=0
def tw10662487309917483613:=0
def tw11625546379408871919:=0
def tw13584132903745359635:=0
def tw2272941946920447969:=0
def tw11970032312582112369:=0
def tw8066848261179996928:=0
def tw6787447601762384846:=0
def tw5852474599334594695:=0
def tw6801884504372649690:=0
def tw405882986802221729:=0
def tw7685500200942537214:=0
def tw9688631812173587181:=0
def tw16847351747976067157:=0
def tw13968054460433870759:=0
def tw13086378200659060709:=0
def tw732179178925210769:=0
def tw12783560482069878793:=0
def tw2274464487888600946:=0
def tw1591110222081280630:=0
def tw14042685609698253010:=0
def tw4606109088653047665:=0
def tw17323927384031681695:=0
def tw16165582522272832793:=0
def tw12823566097182007543:=0
def tw3073647701886775113:=0
def tw17172726675326132606:=0
def tw8651921490676568653:=0
def tw6969296697563605191:=0
def tw1051742693318371719:=0
def tw8119285377490805753:=0
def tw12419918028091412905:=0
def tw18325786448332179960:=0
def tw6367135491252687662:=0
def tw15109082643950718061:=0
def tw429368976295237620:=0
def tw7285715537046940495:=0
def tw6919264992495668872:=0
def tw16838033507720095644:=0
def tw7893751310643767180:=0
def tw6733033963743022974:=0
def tw7505983043921704826:=0
def tw16740454234499612134:=0
def tw6740660925103122921:=0
def tw16994962641832644281:=0
def tw10790742110918631983:=0
def tw12177049308089973855:=0
def tw11499926822780221510:=0
def tw8302454902773136516:=0
def tw9915764597532197708:=0
def tw5809533735218364300:=0
def tw1995222676360656844:=0
def tw7340331663126843008:=0
def tw11807582930134351577:=0
def tw11480046997347003931:=0
def tw4015220772191694962:=0
def tw13557343098967249676:=0
def tw10929842935171903968:=0
def tw349960919238127740:=0
def tw1573824945567711961:=0
def tw14276719600621411684:=0
def tw13959637050838208559:=0
def tw8278841740092376115:=0
def tw5727482848882249784:=0
def tw7077364245258573196:=0
def tw5869650376906773317:=0
def tw1203359504475665621:=0
def tw11515250857569188408:=0
def tw7197195286862383210:=0
def tw15398252306954070421:=0
def tw5503739979782867863:=0
def tw6659886866106503954:=0
def tw10914411304271037470:=0
def tw8545348718734067365:=0
def tw11367473099569259694:=0
def tw15361394138492725045:=0
def tw17493007752725356673:=0
def tw11229614661714197796:=0
def tw7149417466783736112:=0
def tw6033588746692069270:=0
def tw1196083906237970120:=0
def tw6473515598794690229:=0
def tw9566107442134523362:=0
def tw8411108603252406289:=0
def tw2572596045652075493:=0
def tw15970717358263852415:=0
def tw15124719901951514020:=0
def tw1336395004682266207:=0
def tw5028458060364404352:=0
def tw5320055555502046956:=0
def tw12941779936303642701:=0
def tw15524603790938738583:=0
def tw16543989686846476527:=0
def tw14488768037244834519:=0
def tw11537595893189181220:=0
def tw679186594623253190:=0
def tw3101090779546340695:=0
def tw15055977992977230734:=0
def tw16675416169670488779:=0
def tw7563169304542142791:=0
def tw2409296741541055396:=0
def tw7262296258138302180:=0
def tw16319036319519011333:=0
def tw10681842633046611586:=0
def tw97622291353967139:=0
def tw15671154409458168381:=0
def tw6269211152075327352:=0
def tw10125747479635932382:=0
def tw3304877685784044287:=0
def tw11374899399777481319:=0
def tw16526458943412984545:=0
def tw1688330549969750984:=0
def tw17391626089613055244:=0
def tw15447284630104800823:=0
def tw3712172120741887144:=0
def tw2147317898375301982:=0
def tw8628506844676432514:=0
def tw12088089319415844798:=0
def tw2830704428611331190:=0
def tw15775132103080623819:=0
def tw9157898828352300705:=0
def tw11648781626727128739:=0
def tw10099290587363549538:=0
def tw12492672877449831726:=0
def tw7775188658510638841:=0
def tw8215102204169877155:=0
def tw10839373958944403148:=0
def tw9908103051852013126:=0
def tw3396759056447170238:=0
def tw12073682753292672744:=0
def tw5483839202215194754:=0
def tw6353665848291332380:=0
def tw1543010491315099847:=0
def tw592013374933521521:=0
def tw13206702134464657886:=0
def tw1804621888646092496:=0
def tw6614184092212637223:=0
def tw6361439036350408713:=0
def tw5889602421758040855:=0
def tw1772214654383744679:=0
def tw12030875265312610412:=0
def tw7915533276088602758:=0
def tw8257331828890417474:=0
def tw15604685947153011315:=0
def tw17722587099989183808:=0
def tw2997100504694372208:=0
def tw17724738573167652447:=0
def tw278194516966194916:=0
def tw15290900848230900149:=0
def tw15270680028748214149:=0
def tw9608162125702520247:=0
def tw5318170014551645675:=0
def tw15558522345174541504:=0
def tw12384247981378419928:=0
def tw13149000316795182328:=0
def tw18154243442025825964:=0
def tw3214908720274186428:=0
def tw11305240591755656325:=0
def tw16074594924857366228:=0
def tw1311019323943409034:=0
def tw15186105278670623564:=0
def tw1975327719882098311:=0
def tw8698758896976063620:=0
def tw17301794987931184157:=0
def tw88677218908185823:=0
def tw8367310308497712913:=0
def tw15300027298728925416:=0
def tw17887263147382300991:=0
def tw11144364377058175954:=0
def tw14767652471738011155:=0
def tw8930715971040096252:=0
def tw5991751158598305970:=0
def tw13144083393185164717:=0
def tw2028427187326932235:=0
def tw12425546475301202129:=0
def tw14311178991030651598:=0
def tw4669486185417198061:=0
def tw2971969587301303202:=0
def tw3033263707001231636:=0
def tw3515234329989479739:=0
def tw16600602525899081415:=0
def tw6245396840657644740:=0
def tw9812680836037301245:=0
def tw12096115983015404064:=0
def tw11328616254692409900:=0
def tw12590839356111504624:=0
def tw12511588907982791081:=0
def tw11840701273146486727:=0
def tw15975444518890567708:=0
def tw13235594664421912287:=0
def tw3464072918266161593:=0
def tw14123557628580733976:=0
def tw7789425743500805961:=0
def tw3137475057529020848:=0
def tw2143065253281158418:=0
def tw13378694944592266244:=0
def tw12106683412395456900:=0
def tw9051361793365424666:=0
def tw8255305358389208915:=0
def tw12177181348866996171:=0
def tw10831565154147322762:=0
def tw4664668568808173753:=0
def tw16989397592054216449:=0
def tw18279793692361816078:=0
def tw6798117563871357018:=0
def tw14117652848690337093:=0
def tw8763871016803262538:=0
def tw3787441380969579930:=0
def tw4959603601072391224:=0
def tw9357816175512900656:=0
def tw9350468660434518105:=0
def tw4115504071741147188:=0
def tw6851589787853981694:=0
def tw13951427447939181164:=0
def tw3794372983533400462:=0
def tw13229006290884992560:=0
def tw5578597619822419405:=0
def tw16541516212047771734:=0
def tw15204462431352313310:=0
def tw1759015722065693401:=0
def tw4161005650866271804:=0
def tw9173752442983827911:=0
def tw1492707082886502926:=0
def tw6949995423574950106:=0
def tw13830418146157501685:=0
def tw5873637622281757424:=0
def tw13978626915623826549:=0
def tw1531441004158490455:=0
def tw8879588720263601152:=0
def tw9999119832947588646:=0
def tw9300651153997868840:=0
def tw10783363985091228744:=0
def tw14394849776804207659:=0
def tw5447325174486356657:=0
def tw11870701701359906716:=0
def tw13493652201074560714:=0
def tw14862327040395094494:=0
def tw17685200708031612419:=0
def tw9495391492246932505:=0
def tw8784027588007851763:=0
def tw9575734699565188639:=0
def tw258719043381097736:=0
def tw11158062634249247356:=0
def tw6206299010636717305:=0
def tw17972274290472623515:=0
def tw11856892946075134063:=0
def tw1414658221903037579:=0
def tw9005958195103816377:=0
def tw9967189854649830052:=0
def tw1333380477148083413:=0
def tw6383010650592743672:=0
def tw8232636738856020411:=0
def tw5358208938093292867:=0
def tw7403133647671921970:=0
def tw3778288083003578465:=0
def tw18312884422095125610:=0
def tw9552756239670467565:=0
def tw9075596232753038544:=0
def tw11045593369997872367:=0
def tw2983645980191931998:=0
def tw15200321464043988705:=0
def tw4361969394132812682:=0
def tw9394052203192661493:=0
def tw13533183392872411896:=0
def tw7715260379488277268:=0
def tw8565023679114969588:=0
def tw8782828059114951059:=0
def tw8034195966115492454:=0
def tw3764643345544400509:=0
def tw7668364607189771180:=0
def tw12730388870368075672:=0
def tw16346519747573687338:=0
def tw11098244396633254866:=0
def tw5465273162975715978:=0
def tw15994785718992147487:=0
def tw15716665219995076076:=0
def tw15287737241243033865:=0
def tw7471828963436896000:=0
def tw3895584010303712195:=0
def tw737625979633891762:=0
def tw6118944877892801035:=0
def tw11724367003035004046:=0
def tw10574133313507141551:=0
def tw8226166459523027571:=0
def tw17588134012018970814:=0
def tw6074462622167802192:=0
def tw12311791667563979713:=0
def tw12909955514828356628:=0
def tw14798680316188743682:=0
def tw973341240123071022:=0
def tw3233858491277109321:=0
def tw17546906287350464932:=0
def tw13583659650252687217:=0
def tw8905513792108903822:=0
def tw3998708944881096559:=0
def tw2820974129706495756:=0
def tw8106778261283490693:=0
def tw17184033075645247318:=0
def tw17613081001575333925:=0
def tw545613308708324860:=0
def tw10548138291445278925:=0
def tw13718989032018957395:=0
def tw5425176616956661939:=0
def tw8074391647298927852:=0
def tw15521017755876398185:=0
def tw8064797344336296835:=0
def tw6293840746866292418:=0
def tw2878701295803877540:=0
def tw3252960189188376553:=0
def tw12584527064758051073:=0
def tw17691002659552178294:=0
def tw14924736822589677275:=0
def tw13021255502075420686:=0
def tw9630569065686360937:=0
def tw15913057677726276595:=0
def tw11524348812589390407:=0
def tw14784074977779835254:=0
def tw6595672803169760115:=0
def tw6078474374323046858:=0
def tw376318747067720944:=0
def tw8130163860975805340:=0
def tw6067286745224430060:=0
def tw9393447520457651725:=0
def tw4418499151947018258:=0
def tw6743219448103970180:=0
def tw3210940050401283499:=0
def tw14758782733661643219:=0
def tw1258260131946918706:=0
def tw9239066154866216075:=0
def tw896891721011658839:=0
def tw10469559082349608071:=0
def tw2212594325805080404:=0
def tw4422956905335801020:=0
def tw5719670679251630413:=0
def tw7199324579838485599:=0
def tw7840164622265327039:=0
def tw13278416289386774037:=0
def tw17315673438151293796:=0
def tw11229929084123829822:=0
def tw8779279611612481692:=0
def tw2679622437612800550:=0
def tw3963742347831266737:=0
def tw11399633115430485560:=0
def tw16768959235785291455:=0
def tw478360883622935123:=0
def tw14094698355539480481:=0
def tw9043373007173643894:=0
def tw16670216993599252606:=0
def tw9595392765688221776:=0
def tw10133337506040304378:=0
def tw4258671651920856728:=0
def tw8534654275152629017:=0
def tw11932346179000730586:=0
def tw16277109999302660557:=0
def tw8837484164844943425:=0
def tw2995512603779716388:=0
def tw5885755941140386590:=0
def tw11792840142584756195:=0
def tw2916018055420349091:=0
def tw18017154604512318394:=0
def tw5558668573793379873:=0
def tw17293080426708965546:=0
def tw15223410935768016842:=0
def tw17995595733198932858:=0
def tw6545368507127801648:=0
def tw856464340437759601:=0
def tw713998397073560394:=0
def tw11347764850512210840:=0
def tw15427805255496933766:=0
def tw16088234569593191972:=0
def tw14448142210186660361:=0
def tw1078180333261076059:=0
def tw3180370943960818403:=0
def tw10410877720461322193:=0
def tw15147579001597184941:=0
def tw12211073434563827719:=0
def tw12395491266989499050:=0
def tw16412590438744952448:=0
def tw11434534749788925865:=0
def tw12933322045763955902:=0
def tw10596338635170679597:=0
def tw14806299179076206201:=0
def tw12465357357168330897:=0
def tw813306551578060550:=0
def tw7486343372688639837:=0
def tw15698795573354037500:=0
def tw1087038872561850918:=0
def tw9238646639890353825:=0
def tw1511167522634788450:=0
def tw16293807695856281049:=0
def tw6726848877534964670:=0
def tw518820164262610273:=0
def tw15044639156852316032:=0
def tw2838029513176285052:=0
def tw8357212221682176297:=0
def tw10374264404763574786:=0
def tw12081067544540053528:=0
def tw13408332665224810222:=0
def tw2169326531159917639:=0
def tw13826214815885409221:=0
def tw6116499274591245848:=0
def tw13278399683718215516:=0
def tw15684608558699818988:=0
def tw5482475098317085789:=0
def tw8511732892215143923:=0
def tw5650012136755599471:=0
def tw10913364894751700808:=0
def tw15316514718828669808:=0
def tw2345375374972368476:=0
def tw9728981620819740761:=0
def tw2469839096702450565:=0
def tw11049382462798037079:=0
def tw8049536197686984881:=0
def tw6244480688378574752:=0
def tw10724131804328323646:=0
def tw13715381960499528972:=0
def tw7187864187293100765:=0
def tw16241628997791268997:=0
def tw15366414942408730477:=0
def tw8751500584481662226:=0
def tw452512961365472568:=0
def tw11078102890925978065:=0
def tw6837565136660173161:=0
def tw2611025154161746139:=0
def tw10074083845579079764:=0
def tw12290111886450897619:=0
def tw8891381852823658759:=0
def tw15971049103017715183:=0
def tw7037343352185637018:=0
def tw18223251473338775054:=0
def tw11517807920512221945:=0
def tw5670418808975009095:=0
def tw11648068782040556326:=0
def tw9975214771301592695:=0
def tw12655477219144889598:=0
def tw8956039952789428786:=0
def tw10564412182892655872:=0
def tw17630205629956117909:=0
def tw3229070177468685429:=0
def tw7050421219716563508:=0
def tw3022209789057598357:=0
def tw15660654215601286621:=0
def tw18396630974084646539:=0
def tw10829877781772609592:=0
def tw7956340181455707464:=0
def tw15565377525803263261:=0
def tw17265867900374856684:=0
def tw5335408720774312409:=0
def tw7912981789382029736:=0
def tw13813360436844539297:=0
def tw8937378015030786341:=0
def tw11092404444282033463:=0
end PySem.W.Fast
set_option maxRecDepth 100000 in
set_option maxHeartbeats 0 in
theorem PySem.Challenge.cw_rollforce_s01_answers_holds : PySem.Challenge.rw_rollforce_s01_answers.Holds := by
 w_on;k_headS;(case hw=>exact⟨[.list [.int 3,.int 0,.int 0]],by decide +kernel,by decide +kernel⟩)
 k_fillS
 refine L2.aj1 (r:=PySem.Challenge.rw_rollforce_s01_answers) (k:=11) (CX:=L2.bC) (ps:=["calls"]) (sp:=RF.UQ) (by decide +kernel) rfl rfl ⟨by decide,by decide⟩ (fun w h Y=>W.kIn_of Y) ?F ?S (fun _ _ _ _ z=>z)
 case F =>
  intro w mg fa h Y KX G Fl
  have T:∃ a:RF.aC,RF.Txt w (L2.Yf KX) mg a/\∀ (s:Shared) (us:List Value),us.length=(["calls"]:List Str).length->BindsTo s a.p7 ⟨us,[]⟩ ((["calls"]:List Str).zip us):=by
   dsimp only [L2.Yf]
   refine' RF.aqa (w:=w) KX G _ _ _ _ _ _ _ _ _ _ _ _ _ _ _ _ _ _ _ _ _ _ _ _ _ _ _ _ _ _ _ _ _ _ _ _ _ _ _ _ _ _ _ _ _ _ _ _ _ _ _ _ _ _ _ _ _ _ _ _ _ _ _ _ _ _ _ _ _ _ _ _ _ _ _ _ _ _ _ _ _ _ _ _ _ _ _ _ _ _ _ _ _ _ _ _ _ _ _ _ _ _ _ _ _ _ _ _ _ _ _ _ _ _ _ _ _ _ _ _ _ _ _ _ _ _ _ _ _ _ _ _ _ _ _ _ _ _ _ _ _ _ _ _ _ _ _ _ _ _ _ _ _ _ _ _ _ _ _ _ _ _ _ _ _ _ _ _ _ _ _ _ _ _ _ _ _ _ _ _ _ _ _ _ _ _ _ _ _ _ _ _ _ _ _ _ _ _ _ _ _ _ _ _ _ _ _ _ _ _ _ _ _ _ _ _ _ _ _ _ _ _ _ _ _ _ _ _ _ _ _ _ _ _ _ _ _ _ _ _ _ _ _ _ _ _ _ _ _ _ _ _ _ _ _ _ _ _ _ _ _ _ _ _ _ _ _ _ _ _ _ _ _ _ _ _ _ _ _ _ _ _ _ _ _ _ _ _ _ _ _ _ _ _ _ _ _ _ _ _ _ _ _ _ _ _ _ _ _ _ _ _ _ _ _ _ _ _ _ _ _ _ _ _ _ _ _ _ _ _ _ _ _ _ _ _ _ _ _ _ _ _ _ _ _ _ _ _ _ _ _ _ _ _ _ _ _ _ _ _ _ _ _ _ _ _ _ _ _ _ _ _ _ _ _ _ _ _ _ _ _ _ _ _ _ _ _ _ _ _ _ _ _ _ _ _ _ _ _ _ _ _ _ _ _ _ _ _ _ _ _ _ _ _ _ _ _ _ _ _ _ _ _ _ _ _ _ _ _ _ _ _ _ _ _ _ _ _ _ _ _ _ _ _ _ _ _ _ _ _ _ _ _ _ _ _ _ _ _ _ _ _ _ _ _ _ _ _ _ _ _ _ _ _ _ _ _ _ _ _ _ _ _ _ _ _ _ _
   any_goals k_is
   all_goals first | rfl | decide
  obtain⟨a,T,hb⟩:=T
  obtain rfl:fa=a.ml:=Value.ref.inj (Option.some.inj (Fl.symm.trans T.TM))
  exact⟨a.p7,hb,fun base _ _=>RF.ajI T⟩
 case S =>
  intro K H xs a hO px gU hx
  cases hx with
  | cons h1 h2 =>
   cases h2
   cases h1 with
   | lst hs ha =>
    have e:=L2.VV a.1 _ ha
    subst e
    exact⟨_,a.1,rfl,hs,gU,fun r H' hr _=>.lst (L2.aq.of hr) (L2.VU _)⟩
end
