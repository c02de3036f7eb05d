import PyProof.Rows.All
import Wide.All
import OpenK.AllK
import Wide.FinOn
import Lean
import PyProof.EqAt
import PyProof.EqKinds
import PyProof.TupleCall
import PySem.Challenge.RW_ringbase_k64_whole_marks_by_base
set_option Elab.async false
set_option linter.all false
set_option maxRecDepth 100000
namespace L2
open PySem PySem.Spec PyProof.Rows
abbrev Key:=Sum Int Str
def yE:Key->Value->Bool
 | .inl k,v=>Value.isInt k v
 | .inr x,v=>Value.isStrOf x v
def Vq(w:World):Key->Int
 | .inl k=>hashInt k
 | .inr x=>hashStr w x
theorem cX:∀{k:Key} {v:Value},yE k v=true->(∃ i t,k=Sum.inl i/\v=Value.int i t)\/(∃ x t,k=Sum.inr x/\v=Value.str x t)
 | .inl i,v,h=>by
   obtain⟨t,e⟩:=Value.isInt_shape (k:=i) (v:=v) h;exact .inl ⟨i,t,rfl,e⟩
 | .inr x,v,h=>by
   obtain⟨t,e⟩:=Value.isStrOf_shape (x:=x) (v:=v) h;exact .inr ⟨x,t,rfl,e⟩
theorem Gm(i:Int)(t:Tok):yE (.inl i) (.int i t)=true:=by simp[yE,Value.isInt]
theorem Gn(x:Str)(t:Tok):yE (.inr x) (.str x t)=true:=by simp[yE,Value.isStrOf]
theorem N3(a b:Int):decide ((Sum.inl a:Key)=Sum.inl b)=(a==b):=by
 by_cases e:a=b
 ·subst e;simp
 ·have h : ¬(Sum.inl a:Key)=Sum.inl b:=fun q=>e (Sum.inl.inj q)
  rw[decide_eq_false h];exact(beq_eq_false_iff_ne.mpr e).symm
theorem N4(a b:Str):decide ((Sum.inr a:Key)=Sum.inr b)=decide (a=b):=by
 by_cases e:a=b
 ·subst e;simp
 ·have h : ¬(Sum.inr a:Key)=Sum.inr b:=fun q=>e (Sum.inr.inj q)
  rw[decide_eq_false h,decide_eq_false e]
theorem N5(a:Int)(b:Str):decide ((Sum.inl a:Key)=Sum.inr b)=false:=decide_eq_false (fun q=>nomatch q)
theorem N6(a:Str)(b:Int):decide ((Sum.inr a:Key)=Sum.inl b)=false:=decide_eq_false (fun q=>nomatch q)
def dO(prog:Program)(w:World):PySem.KeyKind prog w Key where
 is:=yE
 hash:=Vq w
 inj:=fun v a b ha hb=>by
  rcases cX ha with⟨i,t,rfl,rfl⟩|⟨x,t,rfl,rfl⟩
  ·rcases cX hb with⟨j,u,rfl,e⟩|⟨y,u,rfl,e⟩
   ·injection e with e1 _;rw[e1]
   ·exact nomatch e
  ·rcases cX hb with⟨j,u,rfl,e⟩|⟨y,u,rfl,e⟩
   ·exact nomatch e
   ·injection e with e1 _;rw[e1]
 byValue:=fun k v h=>by
  rcases cX h with⟨i,t,rfl,rfl⟩|⟨x,t,rfl,rfl⟩<;>rfl
 pyHash:=fun hv h=>by
  rcases cX hv with⟨i,t,rfl,rfl⟩|⟨x,t,rfl,rfl⟩
  ·exact wpAny_pyHash_int h
  ·exact wpAny_pyHash_str h
 eqBool:=fun hu hv h=>by
  rcases cX hu with⟨i,t,rfl,rfl⟩|⟨x,t,rfl,rfl⟩
  ·rcases cX hv with⟨j,u,rfl,rfl⟩|⟨y,u,rfl,rfl⟩
   ·rw[N3]at h;exact wpAny_eqBool_int h
   ·rw[N5]at h;exact SeqAt.EqAt.int_str i t y u _ _ _ _ h
  ·rcases cX hv with⟨j,u,rfl,rfl⟩|⟨y,u,rfl,rfl⟩
   ·rw[N6]at h;exact SeqAt.EqAt.str_int x t j u _ _ _ _ h
   ·rw[N4]at h;exact wpAny_eqBool_str h
 «strs»:=fun k x t v h=>by
  rcases cX h with⟨i,u,rfl,e⟩|⟨y,u,rfl,e⟩
  ·exact nomatch e
  ·injection e with e1 _
   subst e1;cases v<;>rfl
theorem Bp(prog:Program)(w:World)(i:Int)(t:Tok):(dO prog w).is (.inl i) (.int i t)=true:=Gm i t
theorem Bq(prog:Program)(w:World)(x:Str)(t:Tok):(dO prog w).is (.inr x) (.str x t)=true:=Gn x t
end L2
namespace L2
open PySem PySem.Spec PyProof.Rows
inductive V where
 | gf | bl (b:Bool) | int (i:Int) | str (x:Str) | IT (b:Array UInt8) | Vr (b:UInt64) | ref (a:Addr) | ty (n:String)
 deriving DecidableEq
def RelV:V->Value->Prop
 | .gf,u=>u=Value.none
 | .bl b,u=>u=Value.bool b
 | .int i,u=>∃ t,u=Value.int i t
 | .str x,u=>∃ t,u=Value.str x t
 | .IT b,u=>∃ t,u=Value.bytes b t
 | .Vr b,u=>∃ t,u=Value.float b t
 | .ref a,u=>u=Value.ref a
 | .ty n,u=>u=Value.type n
abbrev Vals:List V->List Value->Prop:=Paired RelV
theorem Vals.length{xs:List V}{us:List Value}(r:Vals xs us):xs.length=us.length:=Paired.length r
theorem Vals.get:∀{xs:List V} {us:List Value} {i:Nat} {x:V},Vals xs us->xs[i]?=some x->∃ u,us[i]?=some u/\RelV x u
 | _,_,_,_,.nil,e=>by simp at e
 | _,_,0,_,.cons r _,e=>by simp at e;subst e;exact⟨_,rfl,r⟩
 | _,_,i+1,x,.cons _ t,e=>by
   obtain⟨u,h1,h2⟩:=Vals.get (i:=i) (x:=x) t (by simpa using e)
   exact⟨u,by simpa using h1,h2⟩
theorem Vals.set{x:V}{u:Value}(r:RelV x u):∀{xs:List V} {us:List Value} (i:Nat),Vals xs us->Vals (xs.set i x) (us.set i u)
 | _,_,_,.nil=>.nil
 | _,_,0,.cons _ t=>.cons r t
 | _,_,i+1,.cons q t=>.cons q (Vals.set r i t)
theorem Vals.append:∀{xs ys:List V} {us ws:List Value},Vals xs us->Vals ys ws->Vals (xs++ys) (us++ws)
 | _,_,_,_,.nil,s=>s
 | _,_,_,_,.cons r t,s=>.cons r (Vals.append t s)
theorem Vals.take:∀{xs:List V} {us:List Value} (n:Nat),Vals xs us->Vals (xs.take n) (us.take n)
 | _,_,0,_=>.nil
 | _,_,_+1,.nil=>.nil
 | _,_,n+1,.cons r t=>.cons r (Vals.take n t)
theorem Vals.drop:∀{xs:List V} {us:List Value} (n:Nat),Vals xs us->Vals (xs.drop n) (us.drop n)
 | _,_,0,r=>r
 | _,_,_+1,.nil=>.nil
 | _,_,n+1,.cons _ t=>Vals.drop n t
def sC:Option V->Option Value->Prop
 | some v,some u=>RelV v u
 | none,none=>True
 | _,_=>False
def KV{κ:Type}:List (κ×V)->List (κ×Value)->Prop:=Paired fun(p:κ×V) (q:κ×Value)=>p.1=q.1/\RelV p.2 q.2
def kV:Key->V
 | .inl i=>.int i
 | .inr x=>.str x
inductive HO where
 | lst (xs:List V)
 | tup (xs:List V)
 | dK (kvs:List (Key×V)) | dT (kvs:List (List Key×V))
 | set (S:Int->Bool) (n:Nat)
 | ins (C dx:Addr) (fs:List (Str×V))
 | own (x:Addr)
 | xd (fs:List (Str×V))
 | met (f x:Addr)
 | Gp (lo hi:Int)
 | nH (o:Obj) (u:HO)
 | jT (ps:Array Value)
 | ext (φ:Heap->Prop)
abbrev Hp:=Addr->Option HO
def upd(H:Hp)(a:Addr)(o:HO):Hp:=fun b=>if b=a then some o else H b
theorem ah{H:Hp}{a:Addr}{o:HO}:upd H a o a=some o:=by unfold upd;rw[if_pos rfl]
theorem aq{H:Hp}{a b:Addr}{o:HO}(h:b≠a):upd H a o b=H b:=by unfold upd;rw[if_neg h]
theorem aY{H:Hp}{a b:Addr}{o u:HO}(h:H a=some o)(h' : H b=some u)(d:o≠u):a≠b:=by
 intro e;subst e;rw[h]at h';exact d (Option.some.inj h')
theorem bR{H:Hp}{a b:Addr}{o:HO}(h:H a=some o)(h' : H b=none):a≠b:=by
 intro e;subst e;rw[h]at h';cases h'
def LP(qs:Array Value):Str:=match (qs[0]?:Option Value) with | some (Value.str q _)=>q | _=>""
section
variable (P:Program)(w:World)
def bI(H:Hp)(h:Heap)(a:Addr):HO->Prop
 | .lst xs=>xs.length<=sizeLine/\∃(its:List Value) (n:Nat),Vals xs its/\h.get? a=some { cls:=.type "list",data:=.seq its.toArray n}
 | .tup xs=>xs.length<=sizeLine/\∃ its:List Value,Vals xs its/\IsTup h a its.toArray
 | .dK kvs=>kvs.length<=sizeLine/\(a==sysModules)=false/\∃ vs,KV kvs vs/\h.DictOf (dO P w) a vs
 | .dT kvs=>kvs.length<=sizeLine/\(a==sysModules)=false/\∃ xs:List (List Key×Addr×Value),
  Paired (fun(p:List Key×V) (q:List Key×Addr×Value)=>p.1=q.1/\H q.2.1=some (.tup (p.1.map kV))/\RelV p.2 q.2.2) kvs xs/\
  ∃ o es ep,h.get? a=some o/\o.ExactDict/\o.data = .dict es ep/\es.toList=xs.map (entryOfKey (tupleKind (dO P w)))/\(xs.map (·.1)).Nodup
 | .set S n=>h.SetOf (intKind P w) a S n
 | .ins C dx fs=>H dx=some (.own a)/\fs.length<=1000/\dx≠a/\h.get? a=some (PySem.W.instObj C dx)/\
  ∃ mA,h.Ns1 dx mA/\(∀ f,sC (fs.lookup f) (mA f))/\PySem.Within mA (fs.map (·.1))
 | .own _=>∃ o,h.get? a=some o
 | .xd fs=>∃ mA,h.Ns1 a mA/\∀ f,sC (fs.lookup f) (mA f)
 | .Gp lo hi=>∃ t u v,h.get? a=some { cls:=.type "range",data:=.fields #[.int lo t,.int hi u,.int 1 v]}
 | .nH o u=>h.get? a=some o/\bI H h a u
 | .jT qs=>∃ ps:Array Value,h.get? a=some { cls:=.none,data:=.fields ps}/\((qs.size=3/\(ps = #[]\/∃ c,ps = #[qs.getD 1 .none,qs.getD 2 .none,.ref c]/\H c=some (.own a)/\h.CodeRec (.ref c) (LP qs)))\/∃ q l k,qs = #[q,l,k]++ps/\ps.size=3)
 | .met f x=>h.get? a=some (PySem.W.methodObj (.ref f) (.ref x))
 | .ext φ=>φ h/\(∃ o,h.get? a=some o)/\∀ h1 h2:Heap,φ h1->(∀ o,h1.get? a=some o->h2.get? a=some o)->φ h2
def oY(H:Hp)(h:Heap):Prop:=∀ a o,H a=some o->bI P w H h a o
end
section
variable {P:Program}{w:World}{H H' : Hp}{h h' : Heap}{a:Addr}{o:HO}
theorem bI.lt(x:bI P w H h a o):a<h.objs.size:=by
 cases o with
 | lst xs=>obtain⟨_,_,_,_,e⟩:=x;exact Heap.lt_size e
 | tup xs=>obtain⟨_,_,_,p⟩:=x;exact p.lt
 | dK kvs=>obtain⟨_,_,_,_,o,_,_,e,_⟩:=x;exact Heap.lt_size e
 | dT kvs=>obtain⟨_,_,_,_,o,_,_,e,_⟩:=x;exact Heap.lt_size e
 | set S n=>obtain⟨o,_,_,_,e,_⟩:=x;exact Heap.lt_size e
 | ins C dx fs=>obtain⟨_,_,_,e,_⟩:=x;exact Heap.lt_size e
 | own y=>obtain⟨_,e⟩:=x;exact Heap.lt_size e
 | xd fs=>obtain⟨_,⟨_,_,_,e,_⟩,_⟩:=x;exact Heap.lt_size e
 | Gp lo hi=>obtain⟨_,_,_,e⟩:=x;exact Heap.lt_size e
 | nH ob u=>obtain⟨e,_⟩:=x;exact Heap.lt_size e
 | jT ps=>obtain⟨_,e,_⟩:=x;exact Heap.lt_size e
 | met f y=>exact Heap.lt_size (show h.get? a=some _ from x)
 | ext φ=>obtain⟨_,⟨_,e⟩,_⟩:=x;exact Heap.lt_size e
theorem Paired.z5{α β:Type}{F G:α->β->Prop}:∀{l₁:List α} {l₂:List β},Paired F l₁ l₂->(∀ a b,F a b->G a b)->Paired G l₁ l₂
 | _,_,.nil,_=>.nil
 | _,_,.cons r t,f=>.cons (f _ _ r) (Paired.z5 t f)
theorem Paired.imp'{α β:Type}{F G:α->β->Prop}(f:∀ a b,F a b->G a b){l₁:List α}{l₂:List β}(r:Paired F l₁ l₂):Paired G l₁ l₂:=Paired.z5 r f
theorem bI.stay(x:bI P w H h a o)(k:∀ b u,(b=a\/H b=some (.own a))->h.get? b=some u->h'.get? b=some u)
 (ho:∀ b,H b=some (.own a)->H' b=some (.own a)) (ht:∀ b xs,H b=some (.tup xs)->H' b=some (.tup xs)):bI P w H' h' a o:=by
 induction o with
 | lst xs=>obtain⟨z,its,n,r,e⟩:=x;exact⟨z,its,n,r,k _ _ (.inl rfl) e⟩
 | tup xs=>obtain⟨z,its,r,ob,e,c⟩:=x;exact⟨z,its,r,ob,k _ _ (.inl rfl) e,c⟩
 | dK kvs=>obtain⟨z,y,vs,r,ob,es,ep,e,c⟩:=x;exact⟨z,y,vs,r,ob,es,ep,k _ _ (.inl rfl) e,c⟩
 | dT kvs =>
   obtain⟨z,y,xs,r,ob,es,ep,e,c⟩:=x;exact⟨z,y,xs,Paired.z5 r fun p q z=>⟨z.1,ht _ _ z.2.1,z.2.2⟩,ob,es,ep,k _ _ (.inl rfl) e,c⟩
 | set S n=>obtain⟨ob,es,ep,t,e,c⟩:=x;exact⟨ob,es,ep,t,k _ _ (.inl rfl) e,c⟩
 | ins C dx fs =>
   obtain⟨d,z,ne,e,mA,⟨od,es,ep,e2,c⟩,r⟩:=x;exact⟨ho _ d,z,ne,k _ _ (.inl rfl) e,mA,⟨od,es,ep,k _ _ (.inr d) e2,c⟩,r⟩
 | own y=>obtain⟨ob,e⟩:=x;exact⟨ob,k _ _ (.inl rfl) e⟩
 | xd fs=>obtain⟨mA,⟨od,es,ep,e,c⟩,r⟩:=x;exact⟨mA,⟨od,es,ep,k _ _ (.inl rfl) e,c⟩,r⟩
 | Gp lo hi=>obtain⟨t,u,v,e⟩:=x;exact⟨t,u,v,k _ _ (.inl rfl) e⟩
 | nH ob u ih=>obtain⟨e,q⟩:=x;exact⟨k _ _ (.inl rfl) e,ih q⟩
 | jT qs =>
   obtain⟨ps,e,f⟩:=x;refine⟨ps,k _ _ (.inl rfl) e,?_⟩;rcases f with⟨hz,f|⟨c,e1,e2,c',oc,vs,tq,hc,ho',hd,hv⟩⟩|f
   ·exact .inl ⟨hz,.inl f⟩
   ·cases hc;exact .inl ⟨hz,.inr ⟨c,e1,ho _ e2,c,oc,vs,tq,rfl,k _ _ (.inr e2) ho',hd,hv⟩⟩
   ·exact .inr f
 | met f y =>
   have e:h.get? a=some (PySem.W.methodObj (.ref f) (.ref y)):=x;show h'.get? a=some (PySem.W.methodObj (.ref f) (.ref y));exact k a _ (.inl rfl) e
 | ext φ=>obtain⟨p,⟨o,e⟩,st⟩:=x;exact⟨st _ _ p fun o q=>k _ _ (.inl rfl) q,⟨o,k _ _ (.inl rfl) e⟩,st⟩
theorem oY.lt(x:oY P w H h)(e:H a=some o):a<h.objs.size:=(x a o e).lt
theorem oY.fresh(x:oY P w H h)(e:h.objs.size<=a):H a=none:=by
 cases q:H a with
 | none=>rfl
 | some u=>exact absurd (Nat.lt_of_lt_of_le (x.lt q) e) (Nat.lt_irrefl _)
theorem oY.kept(x:oY P w H h)(k:∀ b u,h.get? b=some u->h'.get? b=some u):oY P w H h':=fun a o e =>
 (x a o e).stay (fun b u _ q=>k b u q) (fun _ q=>q) fun _ _ q=>q
theorem oY.laid(x:oY P w H h)(k:∀ b u,h.get? b=some u->h'.get? b=some u)(hp:h.objs.size<=a)(new:bI P w (upd H a o) h' a o):oY P w (upd H a o) h':=fun b u e=>by
 have hn:=x.fresh hp
 by_cases hb:b=a
 ·subst hb;rw[ah]at e;cases e;exact new
 ·rw[aq hb]at e;exact(x b u e).stay (fun c v _ q=>k c v q) (fun c q=>by rw[aq (bR q hn)];exact q) fun c xs q=>by rw[aq (bR q hn)];exact q
end
def Rd(H:Hp)(a:Addr)(u:HO):Prop:=H a=some u\/∃ o,H a=some (.nH o u)
theorem Rd.ok{P:Program}{w:World}{H:Hp}{h:Heap}{a:Addr}{u:HO}(r:Rd H a u)(x:oY P w H h):bI P w H h a u:=by
 rcases r with r|⟨o,r⟩
 ·exact x a u r
 ·obtain⟨_,q⟩:=x a _ r;exact q
def Qw:Option HO->Prop
 | some (.lst _)=>True
 | some (.dK _)=>True
 | some (.dT _)=>True
 | some (.set _ _)=>True
 | some (.ins _ _ _)=>True
 | some (.ext _)=>True
 | _=>False
section
variable {P:Program}{w:World}{H:Hp}{h h' : Heap}{x e:Addr}{o' : HO}
theorem oY.write(ok:oY P w H h)(mu:Qw (H x))(he:e=x\/H e=some (.own x))(k:∀ b u,b≠e->h.get? b=some u->h'.get? b=some u)(P1:∃ u,h'.get? e=some u)
 (new:bI P w (upd H x o') h' x o'):oY P w (upd H x o') h':=fun b u q=>by
 have Qx:∀ c y,H c=some (.own y)->c≠x:=fun c y r z=>by subst z;rw[r]at mu;exact mu
 have Vs:∀ c xs,H c=some (.tup xs)->c≠x:=fun c xs r z=>by subst z;rw[r]at mu;exact mu
 by_cases hb:b=x
 ·subst hb;rw[ah]at q;cases q;exact new
 ·rw[aq hb]at q
  by_cases N7:b=e
  ·have q' : H b=some (.own x):=by
    rcases he with z|z
    ·exact absurd (N7.trans z) hb
    ·rw[N7];exact z
   rw[q]at q';cases q';obtain⟨v,hv⟩:=P1;exact⟨v,by rw[N7];exact hv⟩
  ·refine(ok b u q).stay (fun c v hc r=>k c v ?_ r) (fun c r=>by rw[aq (Qx c b r)];exact r) fun c xs r=>by rw[aq (Vs c xs r)];exact r
   rcases hc with rfl|hc
   ·exact N7
   ·rintro rfl;rcases he with z|z
    ·exact Qx c b hc z
    ·rw[hc]at z;cases z;exact hb rfl
end
structure Un(fs ex:List Addr)(H H' : Hp)(h h' : Heap):Prop where
 keep:∀ b o,h.get? b=some o->H b=none->b∉fs->b∉ex->h'.get? b=some o
 slot:∀ b o,h.get? b=some o->H b=none->b∈fs->b∉ex->∃ sl,h'.get? b=some { o with slots:=sl}
 free:∀ b o,h.get? b=some o->H b=none->b∉ex->H' b=none
 there:∀ b o,h.get? b=some o->b∉ex->∃ o',h'.get? b=some o'
 tups:∀ b xs,H b=some (.tup xs)->H' b=some (.tup xs)
 mj:∀ b o u,H b=some (.nH o u)->H' b=some (.nH o u)
 nJ:∀ b ps,H b=some (.jT ps)->∃ more,H' b=some (.jT (ps++more))
section
variable {fs fs' ex ex' : List Addr}{H H1 H2:Hp}{h h1 h2 h' : Heap}{a x e:Addr}{o:HO}
theorem Un.any(u:Un fs ex H H1 h h1){b:Addr}{ob:Obj}(q:h.get? b=some ob)(n:H b=none)(hx:b∉ex):∃ sl,h1.get? b=some { ob with slots:=sl}:=by
 by_cases hb:b∈fs
 ·exact u.slot b ob q n hb hx
 ·exact⟨ob.slots,u.keep b ob q n hb hx⟩
theorem Un.kept(k:∀ b u,h.get? b=some u->h'.get? b=some u):Un fs ex H H h h' :=
 ⟨fun b ob q _ _ _=>k b ob q,fun b ob q _ _ _=>⟨ob.slots,k b ob q⟩,fun _ _ _ n _=>n,fun b ob q _=>⟨ob,k b ob q⟩,fun _ _ q=>q,fun _ _ _ q=>q,fun _ ps q=>⟨#[],by rw[q];simp⟩⟩
theorem Un.refl:Un fs ex H H h h:=Un.kept fun _ _ q=>q
theorem Un.laid(k:∀ b u,h.get? b=some u->h'.get? b=some u)(hp:h.objs.size<=a)(hn:H a=none):Un fs ex H (upd H a o) h h' where
 keep:=fun b u q _ _ _=>k b u q
 slot:=fun b u q _ _ _=>⟨u.slots,k b u q⟩
 free:=fun b u q n _=>by rw[aq (Nat.ne_of_lt (Nat.lt_of_lt_of_le (Heap.lt_size q) hp))];exact n
 there:=fun b u q _=>⟨u,k b u q⟩
 tups:=fun b xs q=>by rw[aq (bR q hn)];exact q
 mj:=fun b u xs q=>by rw[aq (bR q hn)];exact q
 nJ:=fun b ps q=>⟨#[],by rw[aq (bR q hn),q];simp⟩
theorem Un.write(mu:Qw (H x))(he:e=x\/H e=some (.own x))(k:∀ b u,b≠e->h.get? b=some u->h'.get? b=some u)(P1:∃ u,h'.get? e=some u):Un fs ex H (upd H x o) h h':=by
 have hx:∀ b,H b=none->b≠x:=fun b n z=>by subst z;rw[n]at mu;exact mu
 have hb:∀ b,H b=none->b≠e:=fun b n z=>by
  subst z;rcases he with r|r
  ·exact hx b n r
  ·rw[n]at r;cases r
 have hm:∀ b u,H b=some u->¬ Qw (some u)->b≠x:=fun b u q nm z=>by subst z;rw[q]at mu;exact nm mu
 refine⟨fun b u q n _ _=>k b u (hb b n) q,fun b u q n _ _=>⟨u.slots,k b u (hb b n) q⟩,fun b u q n _=>by rw[aq (hx b n)];exact n,fun b u q _=>?_,
  fun b xs q=>by rw[aq (hm b _ q fun z=>z)];exact q,fun b u xs q=>by rw[aq (hm b _ q fun z=>z)];exact q,fun b ps q=>⟨#[],by rw[aq (hm b _ q fun z=>z),q];simp⟩⟩
 by_cases N7:b=e
 ·subst N7;exact P1
 ·exact⟨u,k b u N7 q⟩
end
def P4(h:Heap)(H:Hp):List Addr:=(List.range h.objs.size).filter fun a=>(H a).isSome
def Br(h:Heap)(H:Hp):Heap:=PySem.W.hideAll h (P4 h H)
theorem Gq(h:Heap)(H:Hp):(Br h H).objs.size=h.objs.size:=PySem.W.hideAll_size _ _
theorem vA{h:Heap}{H:Hp}{b:Addr}{o:Obj}(e:h.get? b=some o)(n:H b=none):(Br h H).get? b=some o :=
 PySem.W.hideAll_get _ e fun hm=>by
  have q:(H b).isSome=true:=(List.mem_filter.mp hm).2;rw[n]at q;simp at q
theorem LQ{h:Heap}{H:Hp}{b:Addr}{o:Obj}(e:(Br h H).get? b=some o):h.get? b=some o/\H b=none:=by
 have e' : h.get? b=some o:=PySem.W.of_hideAll (P4 h H) e;refine⟨e',?_⟩;cases q:H b with
 | none=>rfl
 | some x =>
   have hm:b∈P4 h H:=List.mem_filter.mpr ⟨List.mem_range.mpr (Heap.lt_size e'),by simp[q]⟩
   have z:(Br h H).get? b=none:=PySem.W.hideAll_none (P4 h H) hm;rw[z]at e;cases e
end L2
namespace L2
open PySem PySem.Spec PyProof.Rows
structure Mod(K:PySem.W.Frag)(mg:Str->Option Value)(base:Heap):Prop where
 TU:K.In base
 glob:base.Ns mainGlobals mg
 blt:∃ mb,base.Ns builtinsNs mb/\∀ x:Str,x≠"__name__"->mb x=bootBuiltins x
 nolimit:base.NoLimit
 bmain:∃ bm ob,mg "__builtins__"=some (.ref bm)/\bm≠builtinsNs/\base.get? bm=some ob/\ob.cls = .type "module"/\ob.dict=some builtinsNs/\ob.data = .plain
structure Cx where
 prog:Program
 w:World
 K:PySem.W.Frag
 mg:Str->Option Value
 base:Heap
 A:Around
 N:List Str
 s₀:Shared
 H₀:Hp
 env:Env
 outer:List Env
 stack:List Env
 ex:List Addr
 fn:Str->Bool
 calm:Bool
 pn:List (Addr×Obj)
 xe:Value->Shared->Prop
def frs(l:List Env):List Addr:=l.filterMap (·.frame)
abbrev Cx.fs(X:Cx):List Addr:=frs X.outer
def TV(sc:Scope)(x:Str):Prop:=sc.names.lookup x=some .local\/sc.names.lookup x=some .cell\/sc.names.lookup x=some .free
def Loc(sc:Scope)(x:Str):Prop:=sc.names.lookup x=some .local\/sc.names.lookup x=some .cell
def Look(env:Env)(h:Heap)(m:Str->Option Value)(x:Str)(u:Value):Prop :=
 (env.kindOf x=some .local/\m x=some u)\/((env.kindOf x=some .cell\/env.kindOf x=some .free)/\∃ c,env.cells.lookup x=some c/\h.IsCell c (some u))
structure Cx.Ok(X:Cx):Prop where
 mod:Mod X.K X.mg X.base
 kind:X.env.scope.kind = .function
 glob:X.env.globals=mainGlobals
 blt:X.env.builtins=builtinsNs
 above:X.s₀.heap.objs.size<=X.env.locals
 inj:∀ x y c,X.env.cells.lookup x=some c->X.env.cells.lookup y=some c->x=y
 has:∀ x,(X.env.kindOf x=some .cell\/X.env.kindOf x=some .free)->∃ c,X.env.cells.lookup x=some c
 Qy:∀ x c,X.fn x=true->X.env.cells.lookup x=some c->X.s₀.heap.objs.size<=c
 hd:X.calm=true->X.A.handled=none
 frames:X.A.frames=some X.stack
 LR:X.stack=X.outer\/(X.stack=X.env::X.outer/\X.env.frame=some X.env.locals)
 exf:∀ b∈X.ex,b≠X.env.locals/\∀ x c,X.env.cells.lookup x=some c->c≠b
 bs:∀ b o,X.base.get? b=some o->X.s₀.heap.get? b=some o/\X.H₀ b=none
 Ni:X.base.objs.size<=X.s₀.heap.objs.size
 IU:∀ b o,X.base.get? b=some o->b∉X.ex
 LS:∀ b∈X.ex,b∉X.fs
 funs:X.s₀.heap.FunFrames X.base X.outer
 N8:∀ b∈X.fs,X.H₀ b=none
structure Inv(X:Cx)(pins:List (Addr×Obj))(σ:List (Option V))(H:Hp)(s:Shared):Prop where
 ok:X.Ok
 os:s.os=X.s₀.os
 bare:AllBare s.gens
 base:Un X.fs X.ex X.H₀ H X.s₀.heap s.heap
 loc:∃ m,s.heap.Ns X.env.locals m/\∀(i:Nat) (x:Str) (v:V),X.N[i]?=some x->σ[i]?=some (some v)->TV X.env.scope x->∃ u,RelV v u/\Look X.env s.heap m x u
 cell:∀ x c,X.env.cells.lookup x=some c->∃ v,s.heap.IsCell c v
 free:H X.env.locals=none
 fP:∀ x c,X.env.cells.lookup x=some c->H c=none
 pin:∀ p∈X.pn++pins,s.heap.get? p.1=some p.2/\H p.1=none/\p.1≠X.env.locals/\p.1∉X.fs/\∀ v,p.2.data≠.cell v
 hok:oY X.prog X.w H s.heap
 len:σ.length=X.N.length
section
variable {X:Cx}{pins:List (Addr×Obj)}{σ:List (Option V)}{H H' : Hp}{s:Shared}{h' : Heap}
theorem Cx.Ok.Vt(ok:X.Ok){b:Addr}{o:Obj}(e:X.base.get? b=some o):b∉X.fs:=fun hb=>by
 have:=(ok.funs.mem hb).1;rw[e]at this;cases this
theorem Inv.bs(I:Inv X pins σ H s):∀ b o,X.base.get? b=some o->s.heap.get? b=some o/\H b=none:=fun b o e =>
 ⟨I.base.keep b o (I.ok.bs b o e).1 (I.ok.bs b o e).2 (I.ok.Vt e) (I.ok.IU b o e),I.base.free b o (I.ok.bs b o e).1 (I.ok.bs b o e).2 (I.ok.IU b o e)⟩
theorem Inv.bk(I:Inv X pins σ H s):∀ b o,X.base.get? b=some o->s.heap.get? b=some o:=fun b o e=>(I.bs b o e).1
theorem Inv.mod(I:Inv X pins σ H s):Mod X.K X.mg X.base:=I.ok.mod
theorem Inv.N9(I:Inv X pins σ H s):X.K.In s.heap:=I.ok.mod.TU.keeps I.bk
theorem Inv.nolimit(I:Inv X pins σ H s):s.heap.NoLimit:=I.ok.mod.nolimit.keeps I.bk
theorem Inv.lt(I:Inv X pins σ H s):X.env.locals<s.heap.objs.size:=let⟨_,hn,_⟩:=I.loc;hn.lt
theorem Inv.sz(I:Inv X pins σ H s):X.s₀.heap.objs.size<=s.heap.objs.size:=Nat.le_trans I.ok.above (Nat.le_of_lt I.lt)
theorem Inv.Qz(I:Inv X pins σ H s){a:Addr}(h:s.heap.objs.size<=a):a∉X.fs:=fun hb=>by
 obtain⟨_,o,ho,_⟩:=I.ok.funs.mem hb;exact absurd (Nat.lt_of_lt_of_le (Heap.lt_size ho) (Nat.le_trans I.sz h)) (Nat.lt_irrefl _)
theorem Inv.Oa(I:Inv X pins σ H s):∀ x c,X.env.cells.lookup x=some c->c≠X.env.locals:=fun x c e z=>by
 obtain⟨v,o,ho,hd⟩:=I.cell x c e;obtain⟨m,⟨o',es,ep,ho',hd',_⟩,_⟩:=I.loc;rw[z,ho']at ho;cases ho;rw[hd']at hd;cases hd
theorem Inv.funs(I:Inv X pins σ H s):s.heap.FunFrames X.base X.outer:=by
 have all:∀(l:List Env),(∀ b∈frs l,b∈X.fs)->X.s₀.heap.FunFrames X.base l->s.heap.FunFrames X.base l:=by
  intro l
  induction l with
  | nil=>intro _ _;trivial
  | cons env r ih =>
    intro hs hl;obtain⟨hk,⟨L,o,hf,hn,ho,hd⟩,hr⟩:=hl;have hL:L∈X.fs:=hs L (by unfold frs;rw[List.filterMap_cons,hf];exact List.mem_cons_self)
    obtain⟨sl,e⟩:=I.base.slot L o ho (I.ok.N8 L hL) hL fun z=>I.ok.LS L z hL
    exact⟨hk,⟨L,_,hf,hn,e,hd⟩,ih (fun b hb=>hs b (by unfold frs;rw[List.filterMap_cons,hf];exact List.mem_cons_of_mem _ hb)) hr⟩
 exact all X.outer (fun _ hb=>hb) I.ok.funs
theorem Inv.stack(I:Inv X pins σ H s):s.heap.FunFrames X.base X.stack:=by
 rcases I.ok.LR with e|⟨e,hf⟩
 ·rw[e];exact I.funs
 ·rw[e];obtain⟨m,hn,_⟩:=I.loc;refine .cons (by rw[I.ok.kind];decide) hf hn ?_ I.funs
  exact Heap.get?_none_of_le (Nat.le_trans I.ok.Ni I.ok.above)
theorem Inv.vB(I:Inv X pins σ H s):∀ b∈frs X.stack,b∈X.env.locals::X.fs:=fun b hb=>by
 rcases I.ok.LR with e|⟨e,hf⟩
 ·rw[e]at hb;exact List.mem_cons_of_mem _ hb
 ·rw[e]at hb;unfold frs at hb;rw[List.filterMap_cons,hf]at hb;exact hb
theorem Inv.z6(I:Inv X pins σ H s):∀ b∈frs X.stack,H b=none:=fun b hb=>by
 rcases List.mem_cons.mp (I.vB b hb) with e|hb
 ·rw[e];exact I.free
 ·obtain⟨_,o,ho,_⟩:=I.ok.funs.mem hb;exact I.base.free b o ho (I.ok.N8 b hb) fun z=>I.ok.LS b z hb
theorem Inv.step{g' : Array GenState}{t' : Nat}{d' : Drawn}{ch:List Addr}(I:Inv X pins σ H s)
 (hch:∀ b∈ch,(b∈X.ex\/X.s₀.heap.objs.size<=b)/\b≠X.env.locals/\(∀ x c,X.env.cells.lookup x=some c->c≠b)/\∀ p∈X.pn++pins,p.1≠b)
 (keep:∀ b o,b≠X.env.locals->b∉X.fs->b∉ch->s.heap.get? b=some o->H b=none->h'.get? b=some o)
 (slot:∀ b o,b≠X.env.locals->b∈X.fs->b∉ch->s.heap.get? b=some o->H b=none->∃ sl,h'.get? b=some { o with slots:=sl}) (free:∀ b o,b∉ch->s.heap.get? b=some o->H b=none->H' b=none)
 (there:∀ b o,b∉ch->s.heap.get? b=some o->∃ o',h'.get? b=some o')
 (tups:∀ b xs,H b=some (.tup xs)->H' b=some (.tup xs)) (mj:∀ b o u,H b=some (.nH o u)->H' b=some (.nH o u)) (nJ:∀ b ps,H b=some (.jT ps)->∃ more,H' b=some (.jT (ps++more)))
 (ns:∀ m,s.heap.Ns X.env.locals m->h'.Ns X.env.locals m) (hok:oY X.prog X.w H' h') (hg:AllBare g') :
 Inv X pins σ H' { s with heap:=h',gens:=g',drawn:=d',toks:=t'}:=by
 have neL:∀ b o,X.s₀.heap.get? b=some o->b≠X.env.locals:=fun b o e=>Nat.ne_of_lt (Nat.lt_of_lt_of_le (Heap.lt_size e) I.ok.above)
 have TX:∀ b o,X.s₀.heap.get? b=some o->b∉X.ex->b∉ch:=fun b o e hx hb=>by
  rcases(hch b hb).1 with z|z
  ·exact hx z
  ·exact absurd (Nat.lt_of_lt_of_le (Heap.lt_size e) z) (Nat.lt_irrefl _)
 have cellK:∀ x c,X.env.cells.lookup x=some c->∀ v,s.heap.IsCell c v->h'.IsCell c v:=fun x c e v ⟨o,ho,hd⟩=>by
  have QA:c∉ch:=fun z=>(hch c z).2.2.1 x c e rfl
  by_cases hc:c∈X.fs
  ·obtain⟨sl,q⟩:=slot c o (I.Oa x c e) hc QA ho (I.fP x c e);exact⟨_,q,hd⟩
  ·exact⟨o,keep c o (I.Oa x c e) hc QA ho (I.fP x c e),hd⟩
 refine⟨I.ok,I.os,hg,⟨fun b o e n hb hx=>?_,fun b o e n hb hx=>?_,fun b o e n hx=>?_,fun b o e hx=>?_,fun b xs e=>tups b xs (I.base.tups b xs e),fun b o xs e=>mj b o xs (I.base.mj b o xs e),fun b ps e=>?_⟩,?_,fun x c e=>?_,?_,fun x c e=>?_,fun p hp=>?_,hok,I.len⟩
 ·exact keep b o (neL b o e) hb (TX b o e hx) (I.base.keep b o e n hb hx) (I.base.free b o e n hx)
 ·obtain⟨sl,e1⟩:=I.base.slot b o e n hb hx;obtain⟨TY,e2⟩:=slot b _ (neL b o e) hb (TX b o e hx) e1 (I.base.free b o e n hx);exact⟨TY,e2⟩
 ·obtain⟨o',e1⟩:=I.base.there b o e hx;exact free b o' (TX b o e hx) e1 (I.base.free b o e n hx)
 ·obtain⟨o',e1⟩:=I.base.there b o e hx;exact there b o' (TX b o e hx) e1
 ·obtain⟨m1,e1⟩:=I.base.nJ b ps e;obtain⟨m2,e2⟩:=nJ b _ e1;exact⟨m1++m2,by rw[e2,Array.append_assoc]⟩
 ·obtain⟨m,hn,hl⟩:=I.loc;refine⟨m,ns m hn,fun i x v e1 e2 e3=>?_⟩
  obtain⟨u,r,l⟩:=hl i x v e1 e2 e3;refine⟨u,r,?_⟩;rcases l with l|⟨k,c,e,z⟩
  ·exact .inl l
  ·exact .inr ⟨k,c,e,cellK x c e _ z⟩
 ·obtain⟨v,z⟩:=I.cell x c e;exact⟨v,cellK x c e v z⟩
 ·obtain⟨m,⟨o,_,_,ho,_⟩,_⟩:=I.loc;exact free _ o (fun z=>(hch _ z).2.1 rfl) ho I.free
 ·obtain⟨v,o,ho,hd⟩:=I.cell x c e;exact free c o (fun z=>(hch c z).2.2.1 x c e rfl) ho (I.fP x c e)
 ·obtain⟨e,n,ne,nf,d⟩:=I.pin p hp;have QA:p.1∉ch:=fun z=>(hch p.1 z).2.2.2 p hp rfl
  exact⟨keep p.1 p.2 ne nf QA e n,free p.1 p.2 QA e n,ne,nf,d⟩
theorem Inv.un{t' : Nat}(I:Inv X pins σ H s)(u:Un X.fs [] H H' s.heap h')(hok:oY X.prog X.w H' h'):Inv X pins σ H' { s with heap:=h',toks:=t'}:=by
 obtain⟨m,⟨o,es,ep,ho,r⟩,_⟩:=id I.loc;obtain⟨sl,hL⟩:=u.any ho I.free (by simp)
 exact I.step (g':=s.gens) (d':=s.drawn) (ch:=[]) (fun _ z=>nomatch z) (fun b o _ hb _ e n=>u.keep b o e n hb (by simp)) (fun b o _ hb _ e n=>u.slot b o e n hb (by simp)) (fun b o _ e n=>u.free b o e n (by simp)) (fun b o _ e=>u.there b o e (by simp)) u.tups u.mj u.nJ (fun m' hm=>by
  obtain⟨o',es',Gr,ho',r'⟩:=hm;rw[ho]at ho';cases ho';exact⟨_,es',Gr,hL,r'⟩) hok I.bare
theorem Inv.call{g' : Array GenState}{t' : Nat}{d' : Drawn}{ch:List Addr}(I:Inv X pins σ H s)(u:Un (frs X.stack) ch H H' s.heap h')(hok:oY X.prog X.w H' h')(hg:AllBare g')
 (hch:∀ b∈ch,(b∈X.ex\/X.s₀.heap.objs.size<=b)/\b≠X.env.locals/\(∀ x c,X.env.cells.lookup x=some c->c≠b)/\∀ p∈X.pn++pins,p.1≠b) :
 Inv X pins σ H' { s with heap:=h',gens:=g',drawn:=d',toks:=t'}:=by
 obtain⟨m,⟨o,es,ep,ho,r⟩,_⟩:=id I.loc;obtain⟨sl,hL⟩:=u.any ho I.free fun z=>(hch _ z).2.1 rfl
 exact I.step (ch:=ch) hch (fun b o hL hb hc e n=>u.keep b o e n (fun z=>(List.mem_cons.mp (I.vB b z)).elim hL hb) hc) (fun b o _ _ hc e n=>u.any e n hc) (fun b o hc e n=>u.free b o e n hc) (fun b o hc e=>u.there b o e hc) u.tups u.mj u.nJ (fun m' hm=>by
  obtain⟨o',es',Gr,ho',r'⟩:=hm;rw[ho]at ho';cases ho';exact⟨_,es',Gr,hL,r'⟩) hok hg
theorem Inv.turned{t' : Nat}{it:Addr}(I:Inv X pins σ H s)(k:∀ b o,b≠it->s.heap.get? b=some o->h'.get? b=some o)(hn:H it=none)(hL:it≠X.env.locals)
 (h1:it∈X.ex\/X.s₀.heap.objs.size<=it) (h2:∀ x c,X.env.cells.lookup x=some c->c≠it) (h3:∀ p∈X.pn++pins,p.1≠it):Inv X pins σ H { s with heap:=h',toks:=t'}:=by
 have nit:∀ b u,H b=some u->b≠it:=fun b u e z=>by rw[z,hn]at e;cases e
 refine I.step (g':=s.gens) (d':=s.drawn) (ch:=[it]) (fun b hb=>?_) (fun b o _ _ hc e _=>k b o (fun z=>hc (by simp[z])) e) (fun b o _ _ hc e _=>⟨o.slots,k b o (fun z=>hc (by simp[z])) e⟩) (fun _ _ _ _ n=>n)
  (fun b o hc e=>⟨o,k b o (fun z=>hc (by simp[z])) e⟩) (fun _ _ e=>e) (fun _ _ _ e=>e) (fun b ps e=>⟨#[],by rw[e];simp⟩) (fun m hm=>?_) (fun b u e=>?_) I.bare
 ·have e:b=it:=by simpa using hb
  subst e;exact⟨h1,hL,h2,h3⟩
 ·obtain⟨o,es,ep,ho,r⟩:=hm;exact⟨o,es,ep,k _ o (Ne.symm hL) ho,r⟩
 ·refine(I.hok b u e).stay (fun c v hc q=>k c v ?_ q) (fun _ q=>q) fun _ _ q=>q
  rcases hc with z|z
  ·rw[z];exact nit b u e
  ·exact nit c _ z
theorem Inv.tok(I:Inv X pins σ H s)(t:Nat):Inv X pins σ H { s with toks:=t}:=I.un (h':=s.heap) (t':=t) Un.refl I.hok
theorem Inv.kept{t' : Nat}(I:Inv X pins σ H s)(k:∀ b u,s.heap.get? b=some u->h'.get? b=some u):Inv X pins σ H { s with heap:=h',toks:=t'}:=I.un (Un.kept k) (I.hok.kept k)
theorem Inv.laid{a:Addr}{o:HO}{t' : Nat}(I:Inv X pins σ H s)(k:∀ b u,s.heap.get? b=some u->h'.get? b=some u)(hp:s.heap.objs.size<=a)(new:bI X.prog X.w (upd H a o) h' a o):
 Inv X pins σ (upd H a o) { s with heap:=h',toks:=t'}:=I.un (Un.laid k hp (I.hok.fresh hp)) (I.hok.laid k hp new)
theorem Inv.write{x e:Addr}{o:HO}{t' : Nat}(I:Inv X pins σ H s)(mu:Qw (H x))(he:e=x\/H e=some (.own x))(k:∀ b u,b≠e->s.heap.get? b=some u->h'.get? b=some u)(P1:∃ u,h'.get? e=some u)
 (new:bI X.prog X.w (upd H x o) h' x o):Inv X pins σ (upd H x o) { s with heap:=h',toks:=t'}:=I.un (Un.write mu he k P1) (I.hok.write mu he k P1 new)
theorem Inv.weak{σ' : List (Option V)}(I:Inv X pins σ H s)(hl:σ'.length=σ.length)(w:∀(i:Nat) v,σ'[i]?=some (some v)->σ[i]?=some (some v)):Inv X pins σ' H s :=
 ⟨I.ok,I.os,I.bare,I.base,let⟨m,hn,hl'⟩:=I.loc;⟨m,hn,fun i x v e1 e2 e3=>hl' i x v e1 (w i v e2) e3⟩,I.cell,I.free,I.fP,I.pin,I.hok,hl.trans I.len⟩
theorem Inv.fV{E5:List (Addr×Obj)}(I:Inv X pins σ H s)(h:∀ p∈E5,s.heap.get? p.1=some p.2/\H p.1=none/\p.1≠X.env.locals/\p.1∉X.fs/\∀ v,p.2.data≠.cell v):Inv X E5 σ H s :=
 ⟨I.ok,I.os,I.bare,I.base,I.loc,I.cell,I.free,I.fP,fun p hp=>(List.mem_append.mp hp).elim (fun z=>I.pin p (List.mem_append_left _ z)) (h p),I.hok,I.len⟩
theorem Bs{N:List Str}(hN:N.Nodup){i j:Nat}{x:Str}(a:N[i]?=some x)(b:N[j]?=some x):i=j:=by
 obtain⟨h1,e1⟩:=List.getElem?_eq_some_iff.mp a;obtain⟨h2,e2⟩:=List.getElem?_eq_some_iff.mp b;exact(List.getElem_inj hN).mp (e1.trans e2.symm)
theorem Gs{M:Model}{A:Around}{E:Value->Shared->Prop}{i:Nat}{x:Str}{v:V}{u:Value}{Q:Unit->Shared->Prop}(I:Inv X pins σ H s)(hN:X.N.Nodup)(hi:X.N[i]?=some x)(hx:Loc X.env.scope x)(r:RelV v u)
 (h:∀ s',Inv X pins (σ.set i (some v)) H s'->(∃ a,Heap.SameBut a s.heap s'.heap/\(a=X.env.locals\/X.env.cells.lookup x=some a))->Q () s') (hf:X.fn x=true\/X.env.scope.names.lookup x=some .local:=by first | exact .inl rfl | exact .inr rfl | assumption):wpAny M A (storeName X.env x u) Q E s:=by
 obtain⟨m,hn,hl⟩:=id I.loc;have hcls:(X.env.scope.kind == .class || (X.env.scope.kind == .module&&X.env.locals != X.env.globals))=false:=by rw[I.ok.kind];rfl
 have hiσ:i<σ.length:=by rw[I.len];exact(List.getElem?_eq_some_iff.mp hi).1
 have Oa:=I.Oa;have tracked:∀{a:Addr} {h' : Heap},(∃ o,s.heap.get? a=some o/\H a=none)->Heap.SameBut a s.heap h'->oY X.prog X.w H h':=fun {a h'} ha hs b ob e=>by
  obtain⟨_,_,hfree⟩:=ha;refine(I.hok b ob e).stay (fun c w' hc q=>(hs.2 c ?_).trans q) (fun _ q=>q) fun _ _ q=>q
  rintro rfl;rcases hc with rfl|hc
  ·rw[hfree]at e;cases e
  ·rw[hfree]at hc;cases hc
 rcases hx with hk|hk
 ·refine wpAny_storeName_local hk hn (fun h' hn' hs=>?_) hcls
  obtain⟨oL,_,_,LU,_⟩:=id hn;refine h _ ⟨I.ok,I.os,I.bare,⟨fun b o e n hb hx=>?_,fun b o e n hb hx=>?_,I.base.free,fun b o e hx=>?_,I.base.tups,I.base.mj,I.base.nJ⟩,⟨_,hn',fun j y v' e1 e2 e3=>?_⟩,fun y c e=>?_,I.free,I.fP,fun p hp=>?_,tracked ⟨oL,LU,I.free⟩ hs,by simpa using I.len⟩ ⟨_,hs,.inl rfl⟩
  ·exact(hs.2 b (Nat.ne_of_lt (Nat.lt_of_lt_of_le (Heap.lt_size e) I.ok.above))).trans (I.base.keep b o e n hb hx)
  ·obtain⟨sl,e1⟩:=I.base.slot b o e n hb hx;exact⟨sl,(hs.2 b (Nat.ne_of_lt (Nat.lt_of_lt_of_le (Heap.lt_size e) I.ok.above))).trans e1⟩
  ·obtain⟨o',e1⟩:=I.base.there b o e hx;exact⟨o',(hs.2 b (Nat.ne_of_lt (Nat.lt_of_lt_of_le (Heap.lt_size e) I.ok.above))).trans e1⟩
  ·by_cases hj:j=i
   ·subst hj;rw[hi]at e1;cases e1;rw[List.getElem?_set_self hiσ]at e2;cases e2;exact⟨u,r,.inl ⟨hk,by simp⟩⟩
   ·rw[List.getElem?_set_ne (Ne.symm hj)]at e2;obtain⟨u',r',q⟩:=hl j y v' e1 e2 e3;refine⟨u',r',?_⟩;rcases q with⟨k,e⟩|⟨k,c,e,z⟩
    ·refine .inl ⟨k,?_⟩;have:y≠x:=fun e=>hj (Bs hN e1 (e▸hi))
     simp[this,e]
    ·exact .inr ⟨k,c,e,z.sameBut hs (Oa y c e)⟩
  ·obtain⟨w',z⟩:=I.cell y c e;exact⟨w',z.sameBut hs (Oa y c e)⟩
  ·obtain⟨e,n,ne,nf,d⟩:=I.pin p hp;exact⟨(hs.2 p.1 ne).trans e,n,ne,nf,d⟩
 ·have hfn:X.fn x=true:=by
   rcases hf with z|z
   ·exact z
   ·rw[z]at hk;cases hk
  obtain⟨c,hc⟩:=I.ok.has x (.inl hk);obtain⟨w',z⟩:=I.cell x c hc;refine wpAny_storeName_cell I.ok.kind hk hc z (fun h' hc' hs=>?_)
  obtain⟨oc,hoc,Vu⟩:=id z;refine h { s with heap:=h'} ⟨I.ok,I.os,I.bare,⟨fun b o e n hb hx=>?_,fun b o e n hb hx=>?_,I.base.free,fun b o e hx=>?_,I.base.tups,I.base.mj,I.base.nJ⟩,⟨m,hn.sameBut hs (Ne.symm (Oa x c hc)),fun j y v' e1 e2 e3=>?_⟩,fun y c' e=>?_,I.free,I.fP,fun p hp=>?_,tracked ⟨oc,hoc,I.fP x c hc⟩ hs,by simpa using I.len⟩ ⟨c,hs,.inr hc⟩
  ·exact(hs.2 b (Nat.ne_of_lt (Nat.lt_of_lt_of_le (Heap.lt_size e) (I.ok.Qy x c hfn hc)))).trans (I.base.keep b o e n hb hx)
  ·obtain⟨sl,e1⟩:=I.base.slot b o e n hb hx;exact⟨sl,(hs.2 b (Nat.ne_of_lt (Nat.lt_of_lt_of_le (Heap.lt_size e) (I.ok.Qy x c hfn hc)))).trans e1⟩
  ·obtain⟨o',e1⟩:=I.base.there b o e hx;exact⟨o',(hs.2 b (Nat.ne_of_lt (Nat.lt_of_lt_of_le (Heap.lt_size e) (I.ok.Qy x c hfn hc)))).trans e1⟩
  ·by_cases hj:j=i
   ·subst hj;rw[hi]at e1;cases e1;rw[List.getElem?_set_self hiσ]at e2;cases e2;exact⟨u,r,.inr ⟨.inl hk,c,hc,hc'⟩⟩
   ·rw[List.getElem?_set_ne (Ne.symm hj)]at e2;obtain⟨u',r',q⟩:=hl j y v' e1 e2 e3;refine⟨u',r',?_⟩;rcases q with q|⟨k,c',e,z'⟩
    ·exact .inl q
    ·refine .inr ⟨k,c',e,z'.sameBut hs ?_⟩;rintro rfl;exact hj (Bs hN e1 (I.ok.inj _ _ _ e hc▸hi))
  ·by_cases hcc:c' = c
   ·subst hcc;exact⟨_,hc'⟩
   ·obtain⟨w2,z2⟩:=I.cell y c' e;exact⟨w2,z2.sameBut hs hcc⟩
  ·obtain⟨e,n,ne,nf,d⟩:=I.pin p hp;refine⟨(hs.2 p.1 ?_).trans e,n,ne,nf,d⟩;intro q;rw[q,hoc]at e;have q' : oc=p.2:=Option.some.inj e;exact d w' (by rw[<-q'];exact Vu)
theorem qQ{M:Model}{A:Around}{E:Value->Shared->Prop}{i:Nat}{x:Str}{v:V}{u:Value}{Q:Unit->Shared->Prop}(I:Inv X pins σ H s)(hN:X.N.Nodup)(hi:X.N[i]?=some x)(hx:Loc X.env.scope x)(r:RelV v u)
 (h:∀ s',Inv X pins (σ.set i (some v)) H s'->Q () s') (hf:X.fn x=true\/X.env.scope.names.lookup x=some .local:=by first | exact .inl rfl | exact .inr rfl | assumption):wpAny M A (storeName X.env x u) Q E s :=
 Gs I hN hi hx r (fun s' I' _=>h s' I') hf
theorem Inv.IV{s' : Shared}{ch:List Addr}(I:Inv X pins σ H s)(ho:s'.os=s.os)(u:Un (frs X.stack) ch H H' s.heap s'.heap)(hok:oY X.prog X.w H' s'.heap)(hg:AllBare s'.gens)
 (hch:∀ b∈ch,(b∈X.ex\/X.s₀.heap.objs.size<=b)/\b≠X.env.locals/\(∀ x c,X.env.cells.lookup x=some c->c≠b)/\∀ p∈X.pn++pins,p.1≠b):Inv X pins σ H' s':=by
 obtain⟨h',g',d',t',o'⟩:=s';have e:o' = s.os:=ho;subst e;exact I.call (g':=g') (t':=t') (d':=d') u hok hg hch
end
abbrev XK:=Value->Option Addr->Hp->Prop
abbrev St:=List (Option V)
abbrev VK:=V->Hp->Prop
abbrev TE:=St->Hp->VK->Prop
abbrev TT:=St->Hp->(Bool->Hp->Prop)->Prop
abbrev TA:=St->Hp->(List V->Hp->Prop)->Prop
structure Ends where
 nx:St->Hp->Prop
 rt:VK
 bk:St->Hp->Prop:=fun _ _=>False
 ct:St->Hp->Prop:=fun _ _=>False
abbrev TS:=Ends->St->Hp->Prop
def EP(X:Cx)(pins:List (Addr×Obj))(σ:St)(Q:VK)(u:Value)(s' : Shared):Prop:=∃ v H',Inv X pins σ H' s'/\RelV v u/\Q v H'
def TP(X:Cx)(pins:List (Addr×Obj))(σ:St)(Q:Bool->Hp->Prop)(b:Bool)(s' : Shared):Prop:=∃ H',Inv X pins σ H' s'/\Q b H'
def AP(X:Cx)(pins:List (Addr×Obj))(σ:St)(Q:List V->Hp->Prop)(us:List Value)(s' : Shared):Prop:=∃ vs H',Inv X pins σ H' s'/\Vals vs us/\Q vs H'
def SP(X:Cx)(pins:List (Addr×Obj))(D:Ends)(f:Flow)(s' : Shared):Prop :=
 match f with
 | .next=>∃ σ' H',Inv X pins σ' H' s'/\D.nx σ' H'
 | .brk=>∃ σ' H',Inv X pins σ' H' s'/\D.bk σ' H'
 | .cont=>∃ σ' H',Inv X pins σ' H' s'/\D.ct σ' H'
 | .ret u=>∃ v σ' H',Inv X pins σ' H' s'/\RelV v u/\D.rt v H'
def PE(X:Cx)(e:Expr)(t:TE):Prop :=
 ∀(pins:List (Addr×Obj)) (s:Shared) (σ:St) (H:Hp) (Q:VK),Inv X pins σ H s->t σ H Q->wpAny (model X.prog X.w) X.A (eval e X.env) (EP X pins σ Q) X.xe s
def PT(X:Cx)(e:Expr)(t:TT):Prop :=
 ∀(pins:List (Addr×Obj)) (s:Shared) (σ:St) (H:Hp) (Q:Bool->Hp->Prop),Inv X pins σ H s->t σ H Q->wpAny (model X.prog X.w) X.A (isTrue e X.env (eval e X.env)) (TP X pins σ Q) X.xe s
def PW(X:Cx)(e:Expr)(t:TT):Prop :=
 ∀(whole:Sem Value) (pins:List (Addr×Obj)) (s:Shared) (σ:St) (H:Hp) (Q:Bool->Hp->Prop),Inv X pins σ H s->t σ H Q->wpAny (model X.prog X.w) X.A (isTrue e X.env whole) (TP X pins σ Q) X.xe s
theorem PW.pt{X:Cx}{e:Expr}{t:TT}(h:PW X e t):PT X e t:=h _
def PA(X:Cx)(es:List Expr)(t:TA):Prop :=
 ∀(pos:Pos) (pins:List (Addr×Obj)) (s:Shared) (σ:St) (H:Hp) (Q:List V->Hp->Prop),Inv X pins σ H s->t σ H Q->wpAny (model X.prog X.w) X.A (spliced (backTo pos (starEach es X.env))) (AP X pins σ Q) X.xe s
def PS(X:Cx)(st:Stmt)(t:TS):Prop :=
 ∀(pins:List (Addr×Obj)) (s:Shared) (σ:St) (H:Hp) (D:Ends),Inv X pins σ H s->t D σ H->wpAny (model X.prog X.w) X.A (exec st X.env) (SP X pins D) X.xe s
def Bt(X:Cx)(st:List Stmt)(t:TS):Prop :=
 ∀(pins:List (Addr×Obj)) (s:Shared) (σ:St) (H:Hp) (D:Ends),Inv X pins σ H s->t D σ H->wpAny (model X.prog X.w) X.A (execs st X.env) (SP X pins D) X.xe s
theorem dP{α:Type}{t:Sem α}{Q Q' : α->Shared->Prop}{M:Model}{A:Around}{E:Value->Shared->Prop}{s:Shared}(h:wpAny M A t Q E s)(hQ:∀ a s,Q a s->Q' a s):wpAny M A t Q' E s:=wpAny_mono h hQ fun _ _ x=>x
end L2
namespace L2
open PySem PySem.Spec PyProof.Rows
section
variable {X:Cx}
def QB(i:Nat):TE:=fun σ H Q=>∃ v,σ[i]?=some (some v)/\Q v H
def tC(v:V):TE:=fun _ H Q=>Q v H
theorem Ob{i:Nat}{x:Str}{pos:Pos}(hN:X.N[i]?=some x)(hv:TV X.env.scope x)(hd:(x==("__debug__":Str))=false:=by decide)(hcd:(x==("__classdict__":Str))=false:=by decide):PE X (.Name x pos) (QB i):=by
 intro pins s σ H Q I h;obtain⟨v,e,h⟩:=h;obtain⟨m,hn,hl⟩:=I.loc;obtain⟨u,r,l⟩:=hl i x v hN e hv;have fin:EP X pins σ Q u s:=⟨v,H,I,r,h⟩;rcases l with⟨hk,hm⟩|⟨hk,c,hc,hcell⟩
 ·exact wpAny_Name (wpAny_loadName_local I.ok.kind hk hn hm fin) hd
 ·rcases hk with hk|hk
  ·exact wpAny_Name (wpAny_loadName_cell I.ok.kind hk hc hcell fin) hd
  ·exact wpAny_Name (wpAny_loadName_free I.ok.kind hk hc hcell fin hcd) hd
theorem aj{i j pos}:PE X (.Constant (.int i) j pos) (tC (.int i)):=fun _ _ _ H _ I h=>wpAny_Constant_int ⟨.int i,H,I.tok _,⟨_,rfl⟩,h⟩
theorem qR{b j pos}:PE X (.Constant (.bool b) j pos) (tC (.bl b)):=fun _ _ _ H _ I h=>Constant_bool ⟨.bl b,H,I,rfl,h⟩
theorem sD{j pos}:PE X (.Constant .none j pos) (tC .gf):=fun _ _ _ H _ I h=>Constant_none ⟨.gf,H,I,rfl,h⟩
theorem mq{x j pos}:PE X (.Constant (.str x) j pos) (tC (.str x)):=fun _ _ _ H _ I h=>Calls.Constant_str ⟨.str x,H,I.tok _,⟨_,rfl⟩,h⟩
def Gl(X:Cx)(x:Str):Prop:=X.env.kindOf x=some .globalImplicit
theorem E6{E:Value->Shared->Prop}{pins:List (Addr×Obj)}{s:Shared}{σ:St}{H:Hp}{x:Str}{u:Value}{pos:Pos}{Q:Value->Shared->Prop}(I:Inv X pins σ H s)(hg:Gl X x)(hm:X.mg x=some u)(h:Q u s)
 (hd:(x==("__debug__":Str))=false:=by decide):wpAny (model X.prog X.w) X.A (eval (.Name x pos) X.env) Q E s :=
 Calls.Name_function_global I.ok.kind hg (Calls.loadGlobal_global (by rw[I.ok.glob];exact I.mod.glob.keeps I.bk) hm h) hd
theorem nK{E:Value->Shared->Prop}{pins:List (Addr×Obj)}{s:Shared}{σ:St}{H:Hp}{x:Str}{u:Value}{pos:Pos}{Q:Value->Shared->Prop}(I:Inv X pins σ H s)(hg:Gl X x)(hm:X.mg x=none)(hv:bootBuiltins x=some u)(h:Q u s)
 (hn:x≠"__name__":=by decide) (hd:(x==("__debug__":Str))=false:=by decide):wpAny (model X.prog X.w) X.A (eval (.Name x pos) X.env) Q E s:=by
 obtain⟨mb,h1,h2⟩:=I.mod.blt;exact Calls.Name_function_global I.ok.kind hg (Calls.loadGlobal_builtin (by rw[I.ok.glob];exact I.mod.glob.keeps I.bk) hm (by rw[I.ok.blt];exact h1.keeps I.bk) ((h2 x hn).trans hv) h) hd
variable {a b:Expr}{ta tb:TE}{pos:Pos}
def tB(t:TE):TT:=fun σ H Q=>t σ H fun x H1=>∃ c,x = .bl c/\Q c H1
theorem eO{e:Expr}{t:TE}(h:PE X e t)(he:∀ whole,isTrue e X.env whole=(do let v←whole;standAt e.pos;holding [v] (truthy v)):=by intro _;rfl):PT X e (tB t):=by
 intro pins s σ H Q I hw;refine isTrue_plain (dP (h pins s σ H _ I hw) fun v s1 ⟨x,H1,I1,r1,q1⟩=>?_) (he _)
 obtain⟨d,rfl,q⟩:=q1;cases r1;exact wpAny_truthy_bool ⟨H1,I1,q⟩
variable {tA TZ:TT}{rest:List Expr}
def Vv(t u:TT):TT:=fun σ H Q=>t σ H fun c H1=>if c=true then u σ H1 Q else Q false H1
def tOr(t u:TT):TT:=fun σ H Q=>t σ H fun c H1=>if c=true then Q true H1 else u σ H1 Q
def Vw(t:TT):TT:=fun σ H Q=>t σ H fun c H1=>Q (!c) H1
theorem E7(ha:PT X a tA):PW X (.BoolOp .And [a] pos) tA:=by
 intro wh pins s σ H Q I h;refine isTrue_and (dP (ha pins s σ H Q I h) fun c s1 e=>?_)
 cases c with
 | true=>exact isTrue_and_nil e
 | false=>exact e
theorem qo(ha:PT X a tA):PW X (.BoolOp .Or [a] pos) tA:=by
 intro wh pins s σ H Q I h;refine isTrue_or (dP (ha pins s σ H Q I h) fun c s1 e=>?_)
 cases c with
 | false=>exact isTrue_or_nil e
 | true=>exact e
theorem IW(ha:PT X a tA)(hb:PW X (.BoolOp .And (b::rest) pos) TZ):PW X (.BoolOp .And (a::b::rest) pos) (Vv tA TZ):=by
 intro wh pins s σ H Q I h;refine isTrue_and (dP (ha pins s σ H _ I h) fun c s1 ⟨H1,I1,q1⟩=>?_)
 cases c with
 | true=>exact hb wh pins s1 σ H1 Q I1 q1
 | false=>exact⟨H1,I1,q1⟩
theorem uF(ha:PT X a tA)(hb:PW X (.BoolOp .Or (b::rest) pos) TZ):PW X (.BoolOp .Or (a::b::rest) pos) (tOr tA TZ):=by
 intro wh pins s σ H Q I h;refine isTrue_or (dP (ha pins s σ H _ I h) fun c s1 ⟨H1,I1,q1⟩=>?_)
 cases c with
 | true=>exact⟨H1,I1,q1⟩
 | false=>exact hb wh pins s1 σ H1 Q I1 q1
theorem nL(ha:PT X a tA):PT X (.UnaryOp .Not a pos) (Vw tA):=by
 intro pins s σ H Q I h;exact isTrue_not (ha pins s σ H (fun c H1=>Q (!c) H1) I h)
def QC(ta tb:TE):TE:=fun σ H Q=>ta σ H fun x H1=>∃ c,x = .bl c/\if c=true then tb σ H1 Q else Q (.bl false) H1
def QD(ta:TE):TE:=fun σ H Q=>ta σ H fun x H1=>∃ c,x = .bl c/\Q (.bl (!c)) H1
theorem vC{op}{t:TE}(h:PE X a t):PE X (.BoolOp op [a] pos) t:=fun pins s σ H Q I hw=>BoolOp_one (h pins s σ H Q I hw)
theorem qp(ha:PE X a ta)(hb:PE X (.BoolOp .And (b::rest) pos) tb):PE X (.BoolOp .And (a::b::rest) pos) (QC ta tb):=by
 intro pins s σ H Q I h;refine BoolOp_and (dP (ha pins s σ H _ I h) fun v s1 ⟨x,H1,I1,r1,q1⟩=>?_)
 obtain⟨c,rfl,q1⟩:=q1;cases r1;refine wpAny_truthy_bool ?_;cases c with
 | true=>exact hb pins s1 σ H1 Q I1 q1
 | false=>exact⟨.bl false,H1,I1,rfl,q1⟩
theorem Oc(ha:PE X a ta):PE X (.UnaryOp .Not a pos) (QD ta):=by
 intro pins s σ H Q I h;refine UnaryOp_ (dP (ha pins s σ H _ I h) fun v s1 ⟨x,H1,I1,r1,q1⟩=>?_)
 obtain⟨c,rfl,q1⟩:=q1;cases r1;exact not_of (wpAny_truthy_bool ⟨.bl (!c),H1,I1,rfl,q1⟩)
def tIf(t:TT)(ta tb:TE):TE:=fun σ H Q=>t σ H fun c H1=>if c=true then ta σ H1 Q else tb σ H1 Q
theorem nM{c:Expr}(hc:PT X c tA)(ha:PE X a ta)(hb:PE X b tb):PE X (.IfExp c a b pos) (tIf tA ta tb):=by
 intro pins s σ H Q I h;refine wpAny_IfExp (dP (hc pins s σ H _ I h) fun d s1 ⟨H1,I1,q1⟩=>?_)
 cases d with
 | true=>exact ha pins s1 σ H1 Q I1 q1
 | false=>exact hb pins s1 σ H1 Q I1 q1
end
end L2
namespace L2
open PySem PySem.Spec PyProof.Rows
def aS(K:PySem.W.Frag)(H:Hp)(a:Addr)(xs:List V):Prop :=
 Rd H a (.lst xs)\/
  ∃(o:Obj) (its:Array Value) (n:Nat),K.lookup a=some o/\o.cls = .type "list"/\o.dict=none/\o.data = .seq its n/\its.size<=sizeLine/\Vals xs its.toList
def aX(K:PySem.W.Frag)(H:Hp)(a:Addr)(xs:List V):Prop :=
 Rd H a (.tup xs)\/
  ∃(o:Obj) (its:Array Value) (n:Nat),K.lookup a=some o/\o.cls = .type "tuple"/\o.data = .seq its n/\its.size<=sizeLine/\Vals xs its.toList
def Vx:Value->Option V
 | .none=>some .gf
 | .bool b=>some (.bl b)
 | .int i _=>some (.int i)
 | .str x _=>some (.str x)
 | .bytes b _=>some (.IT b)
 | .float b _=>some (.Vr b)
 | .ref a=>some (.ref a)
 | .type n=>some (.ty n)
 | _=>none
theorem RelV.abs{x:V}{u:Value}(r:RelV x u):Vx u=some x:=by
 cases x with
 | gf=>cases r;rfl
 | bl _=>cases r;rfl
 | int _=>obtain⟨t,rfl⟩:=r;rfl
 | str _=>obtain⟨t,rfl⟩:=r;rfl
 | IT _=>obtain⟨t,rfl⟩:=r;rfl
 | Vr _=>obtain⟨t,rfl⟩:=r;rfl
 | ref _=>cases r;rfl
 | ty _=>cases r;rfl
theorem RelV.inj{x y:V}{u:Value}(r:RelV x u)(q:RelV y u):x=y:=Option.some.inj (r.abs.symm.trans q.abs)
theorem Vals.inj:∀{xs ys:List V} {us:List Value},Vals xs us->Vals ys us->xs=ys
 | _,_,_,.nil,.nil=>rfl
 | _,_,_,.cons r t,.cons r' t'=>by rw[r.inj r',Vals.inj t t']
section
variable {X:Cx}{pins:List (Addr×Obj)}{σ:St}{H:Hp}{s:Shared}{a:Addr}{xs ys:List V}
theorem aS.of{K:PySem.W.Frag}(h:H a=some (.lst xs)):aS K H a xs:=.inl (.inl h)
theorem aX.of{K:PySem.W.Frag}(h:H a=some (.tup xs)):aX K H a xs:=.inl (.inl h)
theorem Inv.list(I:Inv X pins σ H s)(h:aS X.K H a xs):∃ its:List Value,Vals xs its/\PlainL s.heap a its.toArray/\xs.length<=sizeLine:=by
 rcases h with h|⟨o,its,n,hk,hc,hd,hs,hz,r⟩
 ·obtain⟨z,its,n,r,e⟩:=h.ok I.hok;exact⟨its,r,⟨_,n,e,rfl,rfl,rfl⟩,z⟩
 ·refine⟨its.toList,r,⟨o,n,I.N9 a o hk,hc,hd,by simpa using hs⟩,?_⟩
  have e:=r.length;simp only[Array.length_toList]at e
  lia
theorem Inv.tuple(I:Inv X pins σ H s)(h:aX X.K H a xs):∃ its:List Value,Vals xs its/\IsTup s.heap a its.toArray/\xs.length<=sizeLine:=by
 rcases h with h|⟨o,its,n,hk,hc,hs,hz,r⟩
 ·obtain⟨z,its,r,p⟩:=h.ok I.hok;exact⟨its,r,p,z⟩
 ·refine⟨its.toList,r,⟨o,I.N9 a o hk,hc,n,by simpa using hs⟩,?_⟩
  have e:=r.length;simp only[Array.length_toList]at e
  lia
theorem Inv.qS(I:Inv X pins σ H s)(h:aS X.K H a xs)(h' : aS X.K H a ys):xs=ys:=by
 obtain⟨its,r,⟨o,n,e,_,_,d⟩,_⟩:=I.list h;obtain⟨its',r',⟨o',n',e',_,_,d'⟩,_⟩:=I.list h';rw[e]at e';cases e';rw[d]at d';injection d' with d1 _
 have:its=its':=by simpa using congrArg Array.toList d1
 subst this;exact r.inj r'
theorem Inv.yF(I:Inv X pins σ H s)(h:aX X.K H a xs)(h' : aX X.K H a ys):xs=ys:=by
 obtain⟨its,r,⟨o,e,_,n,d⟩,_⟩:=I.tuple h;obtain⟨its',r',⟨o',e',_,n',d'⟩,_⟩:=I.tuple h';rw[e]at e';cases e';rw[d]at d';injection d' with d1 _
 have:its=its':=by simpa using congrArg Array.toList d1
 subst this;exact r.inj r'
end
abbrev Cx.vD(X:Cx)(E:Value->Shared->Prop):Cx:={ X with xe:=E}
abbrev Cx.E8(X:Cx):Cx:=X.vD fun _ _=>False
theorem Cx.Ok.vD{X:Cx}(ok:X.Ok)(E:Value->Shared->Prop):(X.vD E).Ok :=
 ⟨ok.mod,ok.kind,ok.glob,ok.blt,ok.above,ok.inj,ok.has,ok.Qy,ok.hd,ok.frames,ok.LR,ok.exf,ok.bs,ok.Ni,ok.IU,ok.LS,ok.funs,ok.N8⟩
theorem Cx.Ok.jC{X:Cx}{E:Value->Shared->Prop}(ok:(X.vD E).Ok):X.Ok :=
 ⟨ok.mod,ok.kind,ok.glob,ok.blt,ok.above,ok.inj,ok.has,ok.Qy,ok.hd,ok.frames,ok.LR,ok.exf,ok.bs,ok.Ni,ok.IU,ok.LS,ok.funs,ok.N8⟩
section
variable {X:Cx}{pins:List (Addr×Obj)}{σ:St}{H:Hp}{s:Shared}{E:Value->Shared->Prop}
theorem Inv.vD(I:Inv X pins σ H s)(E:Value->Shared->Prop):Inv (X.vD E) pins σ H s:=⟨I.ok.vD E,I.os,I.bare,I.base,I.loc,I.cell,I.free,I.fP,I.pin,I.hok,I.len⟩
theorem Inv.jC(I:Inv (X.vD E) pins σ H s):Inv X pins σ H s:=⟨I.ok.jC,I.os,I.bare,I.base,I.loc,I.cell,I.free,I.fP,I.pin,I.hok,I.len⟩
theorem SP.jC{D:Ends}{f:Flow}{s' : Shared}(h:SP (X.vD E) pins D f s'):SP X pins D f s':=by
 cases f with
 | next=>obtain⟨σ',H',I,q⟩:=h;exact⟨σ',H',I.jC,q⟩
 | brk=>obtain⟨σ',H',I,q⟩:=h;exact⟨σ',H',I.jC,q⟩
 | cont=>obtain⟨σ',H',I,q⟩:=h;exact⟨σ',H',I.jC,q⟩
 | ret u=>obtain⟨v,σ',H',I,r,q⟩:=h;exact⟨v,σ',H',I.jC,r,q⟩
theorem Bt.E8{st:List Stmt}{t:TS}(h:Bt X.E8 st t):Bt X st t:=fun pins s σ H D I hw =>
 wpAny_mono (h pins s σ H D (I.vD _) hw) (fun _ _ q=>q.jC) fun _ _ z=>False.elim z
end
section
variable {X:Cx}{st:Stmt}{rest:List Stmt}{t u:TS}{e:Expr}{te:TE}{pos:Pos}
def aW:TS:=fun D σ H=>D.nx σ H
def Ends.on(D:Ends)(u:TS):Ends:={ D with nx:=u D}
def az(t u:TS):TS:=fun D σ H=>t (D.on u) σ H
theorem aZ:Bt X [] aW:=fun _ _ σ H _ I h=>wpAny_execs_nil ⟨σ,H,I,h⟩
theorem ak(h1:PS X st t)(h2:Bt X rest u):Bt X (st::rest) (az t u):=by
 intro pins s σ H D I h;refine wpAny_execs_cons (dP (h1 pins s σ H { D with nx:=u D} I h) fun f s1 q=>?_)
 cases f with
 | next =>
   obtain⟨σ',H',I',q⟩:=q;exact h2 pins s1 σ' H' D I' q
 | ret v=>exact q
 | brk=>exact q
 | cont=>exact q
theorem ay(h1:PS X st t):Bt X [st] t:=by
 intro pins s σ H D I h;refine wpAny_execs_cons (dP (h1 pins s σ H D I h) fun f s1 q=>?_)
 cases f with
 | next=>exact wpAny_execs_nil q
 | ret v=>exact q
 | brk=>exact q
 | cont=>exact q
theorem Inv.quiet{pins:List (Addr×Obj)}{σ:St}{H:Hp}{s:Shared}(I:Inv X pins σ H s):interactive X.env=false:=by simp[interactive,I.ok.kind]
def QE(te:TE):TS:=fun D σ H=>te σ H fun _ H1=>D.nx σ H1
theorem fW(he:PE X e te)(hs:swapsWith e none pos.line X.env=pure false:=by rfl):PS X (.Expr e pos) (QE te):=by
 intro pins s σ H D I h;exact wpAny_Expr_any (dP (he pins s σ H _ I h) fun v s1 ⟨x,H1,I1,r1,q1⟩=>⟨σ,H1,I1,q1⟩) I.quiet hs
def Vy(te:TE):TS:=fun D σ H=>te σ H D.rt
theorem aL(he:PE X e te):PS X (.Return (some e) pos) (Vy te):=by
 intro pins s σ H D I h;exact wpAny_Return_some (dP (he pins s σ H _ I h) fun v s1 ⟨x,H1,I1,r1,q1⟩=>⟨x,σ,H1,I1,r1,q1⟩)
def bB(c:TT)(t u:TS):TS:=fun D σ H=>c σ H fun b H1=>if b=true then t D σ H1 else u D σ H1
theorem cM{c:Expr}{a b:List Stmt}{tc:TT}(hc:PT X c tc)(ha:Bt X a t)(hb:Bt X b u):PS X (.If c a b pos) (bB tc t u):=by
 intro pins s σ H D I h;refine wpAny_If (dP (hc pins s σ H _ I h) fun d s1 ⟨H1,I1,q1⟩=>?_)
 cases d with
 | true=>exact ha pins s1 σ H1 D I1 q1
 | false=>exact hb pins s1 σ H1 D I1 q1
def Od:TS:=fun _ _ _=>False
theorem yG{sts:List Stmt}:Bt X sts Od:=fun _ _ _ _ _ _ h=>h.elim
end
abbrev TG:=V->St->Hp->(St->Hp->Prop)->Prop
abbrev LJ:=List V->St->Hp->(St->Hp->Prop)->Prop
def PG(X:Cx)(target:Expr)(t:TG):Prop :=
 ∀(pins:List (Addr×Obj)) (s:Shared) (σ:St) (H:Hp) (v:V) (u:Value) (Q:St->Hp->Prop),Inv X pins σ H s->RelV v u->t v σ H Q->
  wpAny (model X.prog X.w) X.A (assign target X.env u) (fun _ s'=>∃ σ' H',Inv X pins σ' H' s'/\Q σ' H') X.xe s
def P5(X:Cx)(ts:List Expr)(t:LJ):Prop :=
 ∀(pins:List (Addr×Obj)) (s:Shared) (σ:St) (H:Hp) (vs:List V) (us:List Value) (Q:St->Hp->Prop),Inv X pins σ H s->Vals vs us->t vs σ H Q->
  wpAny (model X.prog X.w) X.A (assignInOrder ((assignEach ts X.env).map (·.2)) us) (fun _ s'=>∃ σ' H',Inv X pins σ' H' s'/\Q σ' H') X.xe s
abbrev IX:=V->V->V->Hp->(Hp->Prop)->Prop
def Oe(X:Cx)(t:IX):Prop :=
 ∀(pins:List (Addr×Obj)) (s:Shared) (σ:St) (H:Hp) (o i v:V) (ov iv u:Value) (Q:Hp->Prop),Inv X pins σ H s->RelV o ov->RelV i iv->RelV v u->t o i v H Q->
  wpAny (model X.prog X.w) X.A (setItem ov iv u) (fun _ s'=>∃ H',Inv X pins σ H' s'/\Q H') X.xe s
abbrev QF:=V->V->Hp->VK->Prop
def PIp(X:Cx)(op:Operator)(t:QF):Prop :=
 ∀(pins:List (Addr×Obj)) (s:Shared) (σ:St) (H:Hp) (x y:V) (v u:Value) (Q:VK),Inv X pins σ H s->RelV x v->RelV y u->t x y H Q->
  wpAny (model X.prog X.w) X.A (inplaceOp op v u) (EP X pins σ Q) X.xe s
section
variable {X:Cx}{pos:Pos}
def Nj(i:Nat):TG:=fun v σ H Q=>Q (σ.set i (some v)) H
theorem aC{i:Nat}{x:Str}(hN:X.N.Nodup)(hi:X.N[i]?=some x)(hx:Loc X.env.scope x)(hf:X.fn x=true\/X.env.scope.names.lookup x=some .local:=by first | exact .inl rfl | exact .inr rfl | assumption):PG X (.Name x pos) (Nj i):=by
 intro pins s σ H v u Q I r h;exact wpAny_assign_Name (qQ I hN hi hx r (fun s' I'=>⟨_,H,I',h⟩) hf)
def Vz:LJ:=fun vs σ H Q=>vs=[]/\Q σ H
def QG(t:TG)(u:LJ):LJ:=fun vs σ H Q=>∃ v r,vs=v::r/\t v σ H fun σ' H'=>u r σ' H' Q
theorem fc:P5 X [] Vz:=by
 intro pins s σ H vs us Q I r h;obtain⟨e,h⟩:=h;subst e;cases r;exact assignInOrder_nil ⟨σ,H,I,h⟩
theorem aV{e:Expr}{es:List Expr}{t:TG}{u:LJ}(h1:PG X e t)(h2:P5 X es u)
 (hs:(assignEach (e::es) X.env).map (·.2)=assign e X.env::(assignEach es X.env).map (·.2):=by rfl):P5 X (e::es) (QG t u):=by
 intro pins s σ H vs us Q I r h;obtain⟨v,vr,e1,h⟩:=h;subst e1;cases r with
 | cons r rr =>
   rw[hs];refine assignInOrder_cons (dP (h1 pins s σ H _ _ _ I r h) fun _ s1 ⟨σ1,H1,I1,q1⟩=>?_)
   exact h2 pins s1 σ1 H1 _ _ Q I1 rr q1
def QH(K:PySem.W.Frag)(n:Nat)(t:LJ):TG:=fun v σ H Q=>∃ a xs,v = .ref a/\aX K H a xs/\xs.length=n/\t xs σ H Q
theorem Of{es:List Expr}{k:Nat}{t:LJ}{n:Nat}(hc:X.calm=true)(h:P5 X es t)
 (hn:(assignEach es X.env).length=n:=by rfl) (hst:(assignEach es X.env).findIdx? (·.1)=none:=by rfl):PG X (.Tuple es k pos) (QH X.K n t):=by
 intro pins s σ H v u Q I r hw;obtain⟨a,xs,e1,hq,hl,hw⟩:=hw;subst e1;cases r;obtain⟨its,rv,ht,hz⟩:=I.tuple hq;refine assign_Tuple_tuple (I.ok.hd hc) ht (by simp[hn,<-hl,rv.length]) hst fun h' hx=>?_
 have I1:Inv X pins σ H { s with heap:=h'}:=I.kept (t':=s.toks) fun b o e=>hx b o (Nat.ne_of_lt (Heap.lt_size e)) e
 exact h pins _ σ H xs _ Q I1 (by simpa using rv) hw
def VA(to ti:TE)(t:IX):TG:=fun v σ H Q=>to σ H fun o H1=>ti σ H1 fun i H2=>t o i v H2 fun H3=>Q σ H3
theorem DF{o i:Expr}{to ti:TE}{t:IX}(ho:PE X o to)(hi:PE X i ti)(hs:Oe X t)
 (ha:∀ v,assign (.Subscript o i pos) X.env v=(do
  let ov←holding [v] (eval o X.env)
  let iv←holding [v,ov] (eval i X.env)
  standAt pos
  holding [v,ov,iv] (setItem ov iv v)
  release [v,ov,iv] []):=by intro _;rfl):PG X (.Subscript o i pos) (VA to ti t):=by
 intro pins s σ H v u Q I r h;rw[ha];refine wpAny_bind (wpAny_holding (dP (ho pins s σ H _ I h) fun ov s1 ⟨x,H1,I1,r1,q1⟩=>?_))
 refine wpAny_bind (wpAny_holding (dP (hi pins s1 σ H1 _ I1 q1) fun iv s2 ⟨y,H2,I2,r2,q2⟩=>?_))
 refine wpAny_bind (wpAny_standAt (wpAny_bind (wpAny_holding (dP (hs pins s2 σ H2 x y v ov iv u _ I2 r1 r2 r q2) fun _ s3 ⟨H3,I3,q3⟩=>?_))))
 exact wpAny_release ⟨σ,H3,I3,q3⟩
def QI(te:TE)(g:TG):TS:=fun D σ H=>te σ H fun x H1=>g x σ H1 D.nx
theorem z7{tg e:Expr}{te:TE}{g:TG}(he:PE X e te)(hg:PG X tg g)(hs:swapsWithSole [tg] e pos.line X.env=pure false:=by rfl)(hw:swappedStores [tg] e X.env=pure none:=by rfl)
 (h1:(assignEach [tg] X.env).map (·.2)=[assign tg X.env]:=by rfl):PS X (.Assign [tg] e pos) (QI te g):=by
 intro pins s σ H D I h;refine wpAny_Assign_stores (dP (he pins s σ H _ I h) fun v s1 ⟨x,H1,I1,r1,q1⟩=>?_) hs hw
 rw[h1];exact dP (hg pins s1 σ H1 x v _ I1 r1 q1) fun _ s2 q=>q
theorem aH{i:Nat}{x:Str}{e:Expr}{te:TE}{pos' : Pos}(hN:X.N.Nodup)(hi:X.N[i]?=some x)(hx:Loc X.env.scope x)(he:PE X e te)(hs:swapsWith e (some (.Name x pos')) pos.line X.env=pure false:=by rfl)(hf:X.fn x=true\/X.env.scope.names.lookup x=some .local:=by first | exact .inl rfl | exact .inr rfl | assumption):
 PS X (.Assign [.Name x pos'] e pos) (QI te (Nj i)):=by
 intro pins s σ H D I h;refine wpAny_Assign_Name (dP (he pins s σ H _ I h) fun v s1 ⟨y,H1,I1,r1,q1⟩=>?_) hs
 exact qQ I1 hN hi hx r1 (fun s2 I2=>⟨_,H1,I2,q1⟩) hf
def VB(i:Nat)(te:TE)(ti:QF):TS:=fun D σ H=>∃ x,σ[i]?=some (some x)/\te σ H fun y H1=>ti x y H1 fun z H2=>D.nx (σ.set i (some z)) H2
theorem z8{i:Nat}{x:Str}{e:Expr}{te:TE}{op:Operator}{ti:QF}{pos' : Pos}(hN:X.N.Nodup)(hi:X.N[i]?=some x)(hx:Loc X.env.scope x)(he:PE X e te)(ho:PIp X op ti)(hf:X.fn x=true\/X.env.scope.names.lookup x=some .local:=by first | exact .inl rfl | exact .inr rfl | assumption):
 PS X (.AugAssign (.Name x pos') op e pos) (VB i te ti):=by
 intro pins s σ H D I h;obtain⟨v,e1,h⟩:=h;obtain⟨m,hn,hl⟩:=I.loc;have vis:TV X.env.scope x:=by rcases hx with k | k;exact .inl k;exact .inr (.inl k)
 obtain⟨u,r,l⟩:=hl i x v hi e1 vis;refine wpAny_AugAssign_Name ?_;have go:wpAny (model X.prog X.w) X.A (eval e X.env) (fun w s₂=>wpAny (model X.prog X.w) X.A (inplaceOp op u w) (fun r s₃=>wpAny (model X.prog X.w) X.A (storeName X.env x r) (fun _=>SP X pins D .next) X.xe s₃) X.xe s₂) X.xe s:=by
  refine dP (he pins s σ H _ I h) fun w s1 ⟨y,H1,I1,r1,q1⟩=>?_
  refine dP (ho pins s1 σ H1 v y u w _ I1 r r1 q1) fun z s2 ⟨zv,H2,I2,r2,q2⟩=>?_
  exact qQ I2 hN hi hx r2 (fun s3 I3=>⟨_,H2,I3,q2⟩) hf
 rcases l with⟨hk,hm⟩|⟨hk,c,hc,hcell⟩
 ·exact wpAny_loadName_local I.ok.kind hk hn hm go
 ·rcases hk with hk|hk
  ·exact wpAny_loadName_cell I.ok.kind hk hc hcell go
  ·rcases hx with k|k
   ·have:X.env.scope.names.lookup x=some .free:=hk;rw[k]at this;cases this
   ·have:X.env.scope.names.lookup x=some .free:=hk;rw[k]at this;cases this
def QJ(to ti te:TE)(LV:V->V->Hp->VK->Prop)(T3:QF)(LW:IX):TS:=fun D σ H=>to σ H fun o H1=>ti σ H1 fun i H2=>LV o i H2 fun x H3=>te σ H3 fun y H4=>T3 x y H4 fun z H5=>LW o i z H5 fun H6=>D.nx σ H6
def QK(X:Cx)(t:V->V->Hp->VK->Prop):Prop :=
 ∀(pins:List (Addr×Obj)) (s:Shared) (σ:St) (H:Hp) (o i:V) (ov iv:Value) (Q:VK),Inv X pins σ H s->RelV o ov->RelV i iv->t o i H Q->
  wpAny (model X.prog X.w) X.A (getItem ov iv) (EP X pins σ Q) X.xe s
theorem E9{o i e:Expr}{to ti te:TE}{LV:V->V->Hp->VK->Prop}{T3:QF}{LW:IX}{op:Operator}{tpos:Pos}(ho:PE X o to)(hi:PE X i ti)(hg:QK X LV)(he:PE X e te)(hp:PIp X op T3)(hs:Oe X LW)
 (ha:∀ ov iv new,augStore i ov iv new=(do holding [new,ov,iv] (setItem ov iv new);release [new,ov,iv] [];pure .next):=by intros;rfl):PS X (.AugAssign (.Subscript o i tpos) op e pos) (QJ to ti te LV T3 LW):=by
 intro pins s σ H D I h;refine wpAny_AugAssign_SubscriptAny (dP (ho pins s σ H _ I h) fun ov s1 ⟨x1,H1,I1,r1,q1⟩=>?_) ha
 refine dP (hi pins s1 σ H1 _ I1 q1) fun iv s2 ⟨x2,H2,I2,r2,q2⟩=>?_
 refine dP (hg pins s2 σ H2 x1 x2 ov iv _ I2 r1 r2 q2) fun old s3 ⟨x3,H3,I3,r3,q3⟩=>?_
 refine dP (he pins s3 σ H3 _ I3 q3) fun v s4 ⟨x4,H4,I4,r4,q4⟩=>?_
 refine dP (hp pins s4 σ H4 x3 x4 old v _ I4 r3 r4 q4) fun new s5 ⟨x5,H5,I5,r5,q5⟩=>?_
 exact dP (hs pins s5 σ H5 x1 x2 x5 ov iv new _ I5 r1 r2 r5 q5) fun _ s6 ⟨H6,I6,q6⟩=>⟨σ,H6,I6,q6⟩
end
section
variable {X:Cx}{pos:Pos}
def qt(c:TT)(tb:TS):TS:=fun D σ H=>∃ W:Nat->St->Hp->Prop,(∃ m,W m σ H)/\∀ m σ H,W m σ H->
 c σ H fun b H1=>if b=true then ∃ N:St->Hp->Prop,(∀ σ' H',N σ' H'->∃ m',m'<m/\W m' σ' H')/\tb { D with nx:=N,ct:=N,bk:=D.nx} σ H1 else D.nx σ H1
theorem vE{c:Expr}{body:List Stmt}{tc:TT}{tb:TS}(hp:PassesOwn (model X.prog X.w) X.A X.env X.xe)(hc:PT X c tc)(hb:Bt X body tb):PS X (.While c body [] pos) (qt tc tb):=by
 intro pins s σ H D I h;obtain⟨W,⟨m0,w0⟩,turn⟩:=h;refine wpAny_While (codeAny_whileLoop (fun n s'=>∃ σ' H',Inv X pins σ' H' s'/\W n σ' H') ?_ m0 ⟨σ,H,I,w0⟩)
 rintro n s1 ⟨σ1,H1,I1,w1⟩;refine wpAny_passesOwn hp (dP (hc pins s1 σ1 H1 _ I1 (turn n σ1 H1 w1)) fun b s2 ⟨H2,I2,q2⟩=>?_)
 cases b with
 | true =>
   obtain⟨N,hN,q2⟩:=q2;rw[if_pos rfl];refine wpAny_passesOwn hp (dP (hb pins s2 σ1 H2 _ I2 q2) fun f s3 q3=>?_)
   cases f with
   | next =>
     obtain⟨σ3,H3,I3,n3⟩:=q3;obtain⟨m',hm,w3⟩:=hN σ3 H3 n3;exact⟨m',hm,σ3,H3,I3,w3⟩
   | cont =>
     obtain⟨σ3,H3,I3,n3⟩:=q3;obtain⟨m',hm,w3⟩:=hN σ3 H3 n3;exact⟨m',hm,σ3,H3,I3,w3⟩
   | brk=>exact q3
   | ret v=>exact q3
 | false =>
   rw[if_neg Bool.false_ne_true];exact wpAny_execs_nil ⟨σ1,H2,I2,q2⟩
end
structure It where
 go:Nat->Hp->Prop
 LK:Nat->Hp->V->Hp->Prop
 stop:Nat->Hp->Prop
def qu(X:Cx)(pins:List (Addr×Obj))(H:Hp)(b:Addr):Prop :=
 H b=none/\b≠X.env.locals/\b∉X.fs/\(b∈X.ex\/X.s₀.heap.objs.size<=b)/\(∀ x c,X.env.cells.lookup x=some c->c≠b)/\∀ p∈X.pn++pins,p.1≠b
theorem Inv.DG{X:Cx}{pins:List (Addr×Obj)}{σ:St}{H H' : Hp}{s:Shared}{b:Addr}(I:Inv X pins σ H s)(hb:s.heap.objs.size<=b)(hn:H' b=none):qu X pins H' b:=by
 refine⟨hn,Nat.ne_of_gt (Nat.lt_of_lt_of_le I.lt hb),I.Qz hb,.inr (Nat.le_trans I.sz hb),fun x c e z=>?_,fun p hp z=>?_⟩
 ·obtain⟨v,q⟩:=I.cell x c e;exact absurd (Nat.lt_of_lt_of_le q.lt (by rw[z];exact hb)) (Nat.lt_irrefl _)
 ·exact absurd (Nat.lt_of_lt_of_le (Heap.lt_size (I.pin p hp).1) (by rw[z];exact hb)) (Nat.lt_irrefl _)
structure Turn(P:Program)(w:World)(K:PySem.W.Frag)(tg:Expr)(J:It)(fp:List Addr)(it:Addr)(tn:Nat->Heap->Prop):Prop where
 mem:it∈fp
 obj:∀ i h,tn i h->∀ b∈fp,∃ o,h.get? b=some o/\∀ v,o.data≠.cell v
 keep:∀ i h h',tn i h->(∀ b∈fp,∀ o,h.get? b=some o->h'.get? b=some o)->tn i h'
 item:∀(X:Cx),X.prog=P->X.w=w->X.K=K->X.calm=true->∀(i:Nat) (pins:List (Addr×Obj)) (s:Shared) (σ:St) (H:Hp) (E:Value->Shared->Prop),Inv X pins σ H s->(∀ b∈fp,qu X pins H b)->tn i s.heap->J.go i H->
  wpAny (model P w) X.A (pyNext (.ref it)) (fun r s1=>∃ u,r=some u/\
   wpAny (model P w) X.A (letOwnedTupleGo tg (.ref it) u) (fun _ s2=>∃ x H',Inv X pins σ H' s2/\RelV x u/\J.LK i H x H'/\tn (i+1) s2.heap/\∀ b∈fp,H' b=none) E s1) E s
 done:∀(X:Cx),X.prog=P->X.w=w->X.K=K->X.calm=true->∀(i:Nat) (pins:List (Addr×Obj)) (s:Shared) (σ:St) (H:Hp) (E:Value->Shared->Prop),Inv X pins σ H s->(∀ b∈fp,qu X pins H b)->tn i s.heap->J.stop i H->
  wpAny (model P w) X.A (pyNext (.ref it)) (fun r s1=>r=none/\Inv X pins σ H s1) E s
 self:∀(A:Around) (i:Nat) (s:Shared) (Q:Value->Shared->Prop) (E:Value->Shared->Prop),tn i s.heap->Q (.ref it) s->wpAny (model P w) A (pyIter (.ref it)) Q E s
abbrev TI:=St->Hp->(It->Hp->Prop)->Prop
def PIE(X:Cx)(pins:List (Addr×Obj))(σ:St)(tg:Expr)(R:It->Hp->Prop)(itv:Value)(s2:Shared):Prop :=
 ∃(it:Addr) (fp:List Addr) (tn:Nat->Heap->Prop) (J:It) (H' : Hp),itv = .ref it/\Inv X pins σ H' s2/\Turn X.prog X.w X.K tg J fp it tn/\tn 0 s2.heap/\(∀ b∈fp,qu X pins H' b)/\R J H'
def PI(X:Cx)(tg iter:Expr)(wi:TI):Prop :=
 ∀(pins:List (Addr×Obj)) (s:Shared) (σ:St) (H:Hp) (R:It->Hp->Prop),Inv X pins σ H s->wi σ H R->
  wpAny (model X.prog X.w) X.A (eval iter X.env) (fun v s1=>wpAny (model X.prog X.w) X.A (pyIter v) (PIE X pins σ tg R) X.xe s1) X.xe s
theorem IY{M:Model}{A:Around}{E:Value->Shared->Prop}{s:Shared}{tg:Expr}{it:Addr}{u:Value}{o:Obj}{n:String}{vs:Array Value}{Q:Unit->Shared->Prop}(ho:s.heap.get? it=some o)(hc:o.cls = .type n)(hd:o.data = .fields vs)
 (hn:["enumerate","zip","dict_itemiterator","dict_reverseitemiterator","odict_iterator","itertools.zip_longest","itertools.pairwise"].contains n=false) (hQ:Q () s):wpAny M A (letOwnedTupleGo tg (.ref it) u) Q E s:=by
 unfold letOwnedTupleGo;cases tg<;>first
  | exact wpAny_pure hQ
  | (cases u<;>first
   | exact wpAny_pure hQ
   | (refine wpAny_bind (wpAny_load ho ?_)
      rw[hc,hd];show wpAny M A (if(["enumerate","zip","dict_itemiterator","dict_reverseitemiterator","odict_iterator","itertools.zip_longest","itertools.pairwise"].contains n&&vs[0]? == some (rawInt _))=true then _ else _) Q E s
      rw[if_neg (by intro h;rw[hn,Bool.false_and]at h;cases h)]
      exact wpAny_pure hQ))
def LX(K:PySem.W.Frag)(a:Addr):It :=
 ⟨fun i H=>∃ xs x,aS K H a xs/\xs[i]?=some x,fun i H x H'=>H' = H/\∀ xs,aS K H a xs->xs[i]?=some x,fun i H=>∃ xs,aS K H a xs/\xs.length<=i⟩
def VC(K:PySem.W.Frag)(a:Addr):It :=
 ⟨fun i H=>∃ xs x,aX K H a xs/\xs[i]?=some x,fun i H x H'=>H' = H/\∀ xs,aX K H a xs->xs[i]?=some x,fun i H=>∃ xs,aX K H a xs/\xs.length<=i⟩
def LL(lo:Int)(n:Nat):It:=⟨fun i _=>i<n,fun i H x H'=>H' = H/\x = .int (lo+i),fun i _=>n<=i⟩
theorem Gu{P:Program}{w:World}{K:PySem.W.Frag}{tg:Expr}(a it:Addr):Turn P w K tg (LX K a) [it] it (fun i h=>h.IsListIter it a i) where
 mem:=by simp
 obj:=fun i h st b hb=>by
  have e:b=it:=by simpa using hb
  subst e;obtain⟨o,e,c,d⟩:=st;exact⟨o,e,fun v z=>by rw[d]at z;cases z⟩
 keep:=fun i h h' st k=>st.at fun o e=>k it (by simp) o e
 item:=by
  intro X hP hw hK hc i pins s σ H E I hf st hg;subst hP hw hK;obtain⟨xs,x,hq,hx⟩:=hg;obtain⟨its,rv,p,hz⟩:=I.list hq;obtain⟨u,hu,ru⟩:=rv.get hx;obtain⟨f0,f1,f2,f3,f4,f5⟩:=hf it (by simp)
  refine wpAny_pyNext_list_item st p.isList (x:=u) (by simpa using hu) fun h' st' sb=>?_
  have I1:Inv X pins σ H { s with heap:=h'}:=I.turned (t':=s.toks) (fun b o hb e=>(sb.2 b hb).trans e) f0 f1 f3 f4 f5
  obtain⟨o,e,c,d⟩:=id st';exact⟨u,rfl,IY (s:={ s with heap:=h'}) e c d (by decide) ⟨x,H,I1,ru,⟨rfl,fun ys hy=>by rw[I.qS hy hq];exact hx⟩,st',fun b hb=>(hf b hb).1⟩⟩
 done:=by
  intro X hP hw hK hc i pins s σ H E I hf st hg;subst hP hw hK;obtain⟨xs,hq,hx⟩:=hg;obtain⟨its,rv,p,hz⟩:=I.list hq;obtain⟨f0,f1,f2,f3,f4,f5⟩:=hf it (by simp)
  have hl:=rv.length;exact wpAny_pyNext_list_end (I.ok.hd hc) st p.isList (by simp;lia) fun h' eb=>⟨rfl,I.turned (t':=s.toks) (fun b o hb e=>eb b o hb e) f0 f1 f3 f4 f5⟩
 self:=fun _ _ _ _ _ st h=>wpAny_pyIter_listiter st h
theorem DH{P:Program}{w:World}{K:PySem.W.Frag}{tg:Expr}(a it:Addr):Turn P w K tg (VC K a) [it] it (fun i h=>h.IsTupleIter it a i) where
 mem:=by simp
 obj:=fun i h st b hb=>by
  have e:b=it:=by simpa using hb
  subst e;obtain⟨o,e,c,d⟩:=st;exact⟨o,e,fun v z=>by rw[d]at z;cases z⟩
 keep:=fun i h h' st k=>st.at fun o e=>k it (by simp) o e
 item:=by
  intro X hP hw hK hc i pins s σ H E I hf st hg;subst hP hw hK;obtain⟨xs,x,hq,hx⟩:=hg;obtain⟨its,rv,p,hz⟩:=I.tuple hq;obtain⟨u,hu,ru⟩:=rv.get hx;obtain⟨f0,f1,f2,f3,f4,f5⟩:=hf it (by simp)
  refine wpAny_pyNext_tuple_item st (show s.heap.IsTuple a its.toArray from p) (x:=u) (by simpa using hu) fun h' st' sb=>?_
  have I1:Inv X pins σ H { s with heap:=h'}:=I.turned (t':=s.toks) (fun b o hb e=>(sb.2 b hb).trans e) f0 f1 f3 f4 f5
  obtain⟨o,e,c,d⟩:=id st';exact⟨u,rfl,IY (s:={ s with heap:=h'}) e c d (by decide) ⟨x,H,I1,ru,⟨rfl,fun ys hy=>by rw[I.yF hy hq];exact hx⟩,st',fun b hb=>(hf b hb).1⟩⟩
 done:=by
  intro X hP hw hK hc i pins s σ H E I hf st hg;subst hP hw hK;obtain⟨xs,hq,hx⟩:=hg;obtain⟨its,rv,p,hz⟩:=I.tuple hq;obtain⟨f0,f1,f2,f3,f4,f5⟩:=hf it (by simp)
  have hl:=rv.length;exact wpAny_pyNext_tuple_end (I.ok.hd hc) st (show s.heap.IsTuple a its.toArray from p) (by simp;lia) fun h' eb=>⟨rfl,I.turned (t':=s.toks) (fun b o hb e=>eb b o hb e) f0 f1 f3 f4 f5⟩
 self:=fun _ _ _ _ _ st h=>wpAny_pyIter_tupleiter st h
theorem DI{P:Program}{w:World}{K:PySem.W.Frag}{tg:Expr}(it:Addr)(lo:Int)(n:Nat):Turn P w K tg (LL lo n) [it] it (fun i h=>IsRangeIter h it (lo+(i:Nat)*1) ((n:Int)-(i:Nat)) 1) where
 mem:=by simp
 obj:=fun i h st b hb=>by
  have e:b=it:=by simpa using hb
  subst e;exact⟨_,st,fun v z=>by
   have z' : Data.fields _=Data.cell v:=z;cases z'⟩
 keep:=fun i h h' st k=>k it (by simp) _ st
 item:=by
  intro X hP hw hK hc i pins s σ H E I hf st hg;subst hP hw hK;obtain⟨f0,f1,f2,f3,f4,f5⟩:=hf it (by simp)
  have W:=Walks.range (prog:=X.prog) (w:=X.w) (I.ok.hd hc) it lo 1 n;refine W.item i s _ _ hg st fun v h' tk hv st' kk=>?_
  obtain⟨t,rfl⟩:=hv;have I1:Inv X pins σ H { s with heap:=h',toks:=tk}:=I.turned (fun b o hb e=>kk b o (by simpa using hb) e) f0 f1 f3 f4 f5
  refine⟨_,rfl,IY (s:={ s with heap:=h',toks:=tk}) (n:="range_iterator") st' rfl rfl (by decide) ⟨.int (lo+i),H,I1,⟨t,?_⟩,⟨rfl,rfl⟩,st',fun b hb=>(hf b hb).1⟩⟩
  rw[Int.mul_one]
 done:=by
  intro X hP hw hK hc i pins s σ H E I hf st hg;subst hP hw hK;obtain⟨f0,f1,f2,f3,f4,f5⟩:=hf it (by simp)
  exact wpAny_pyNext_range_end (I.ok.hd hc) st (by have:n<=i:=hg;lia) fun h' eb=>⟨rfl,I.turned (t':=s.toks) (fun b o hb e=>eb b o hb e) f0 f1 f3 f4 f5⟩
 self:=fun _ _ _ _ _ st h=>wpAny_pyIter_rangeiter st h
end L2
namespace L2
open PySem PySem.Spec PyProof.Rows
section
variable {X:Cx}{tg:Expr}
def Nk(K:PySem.W.Frag)(tl:TE):TI:=fun σ H R=>tl σ H fun x H1=>∃ a,x = .ref a/\(∃ xs,aS K H1 a xs)/\R (LX K a) H1
def QL(K:PySem.W.Frag)(tl:TE):TI:=fun σ H R=>tl σ H fun x H1=>∃ a,x = .ref a/\(∃ xs,aX K H1 a xs)/\R (VC K a) H1
theorem LY{l:Expr}{tl:TE}(hl:PE X l tl):PI X tg l (Nk X.K tl):=by
 intro pins s σ H R I h;refine dP (hl pins s σ H _ I h) fun v s1 ⟨x,H1,I1,r1,q1⟩=>?_
 obtain⟨a,e,⟨xs,hq⟩,q⟩:=q1;subst e;cases r1;obtain⟨its,rv,p,hz⟩:=I1.list hq;refine wpAny_pyIter_list p.isList ?_;refine⟨s1.heap.objs.size,[s1.heap.objs.size],_,_,H1,rfl,I1.kept (t':=s1.toks) fun b o e=>Heap.get?_push_of_some _ e,Gu a _,⟨_,Heap.get?_push_size _ rfl,rfl,rfl⟩,fun b hb=>?_,q⟩
 have e:b=s1.heap.objs.size:=by simpa using hb
 subst e;exact I1.DG (Nat.le_refl _) (I1.hok.fresh (Nat.le_refl _))
theorem Og{l:Expr}{tl:TE}(hl:PE X l tl):PI X tg l (QL X.K tl):=by
 intro pins s σ H R I h;refine dP (hl pins s σ H _ I h) fun v s1 ⟨x,H1,I1,r1,q1⟩=>?_
 obtain⟨a,e,⟨xs,hq⟩,q⟩:=q1;subst e;cases r1;obtain⟨its,rv,p,hz⟩:=I1.tuple hq;refine wpAny_pyIter_tuple (show s1.heap.IsTuple a its.toArray from p) ?_
 refine⟨s1.heap.objs.size,[s1.heap.objs.size],_,_,H1,rfl,I1.kept (t':=s1.toks) fun b o e=>Heap.get?_push_of_some _ e,DH a _,⟨_,Heap.get?_push_size _ rfl,rfl,rfl⟩,fun b hb=>?_,q⟩
 have e:b=s1.heap.objs.size:=by simpa using hb
 subst e;exact I1.DG (Nat.le_refl _) (I1.hok.fresh (Nat.le_refl _))
theorem IZ{pins:List (Addr×Obj)}{σ:St}{H:Hp}{s:Shared}{R:It->Hp->Prop}{E:Value->Shared->Prop}{lo hi:Int}{t u v:Tok}{tk:Nat}(I:Inv X pins σ H s)(h1 : -(2^62)<=lo)(h2:lo<2^62)(h3 : -(2^62)<=hi)(h4:hi<2^62)
 (q:R (LL lo (hi-lo).toNat) H):wpAny (model X.prog X.w) X.A (pyIter (.ref s.heap.objs.size)) (PIE X pins σ tg R) E { s with heap:=s.heap.push { cls:=.type "range",data:=.fields #[.int lo t,.int hi u,.int 1 v]},toks:=tk}:=by
 refine wpAny_pyIter_range (IsRange.new ..) (small_one h1 h2 h3 h4) ?_;have I1:Inv X pins σ H { s with heap:=s.heap.push { cls:=.type "range",data:=.fields #[.int lo t,.int hi u,.int 1 v]},toks:=tk}:=I.kept fun b o e=>Heap.get?_push_of_some _ e
 refine⟨(s.heap.push { cls:=.type "range",data:=.fields #[.int lo t,.int hi u,.int 1 v]}).objs.size,[(s.heap.push { cls:=.type "range",data:=.fields #[.int lo t,.int hi u,.int 1 v]}).objs.size],_,_,H,rfl,
  I1.kept (t':=tk) fun b o e=>Heap.get?_push_of_some _ e,DI _ lo (hi-lo).toNat,?_,fun b hb=>?_,q⟩
 ·have e1:lo+((0:Nat):Int)*1=lo:=by simp
  have e2:(((hi-lo).toNat:Nat):Int)-((0:Nat):Int)=Builtin.Range.rangeSize lo hi 1:=by rw[rangeSize_one];split<;>lia
  show IsRangeIter _ _ (lo+((0:Nat):Int)*1) ((((hi-lo).toNat:Nat):Int)-((0:Nat):Int)) 1;rw[e1,e2];exact Heap.get?_push_size _ rfl
 ·have e:b=(s.heap.push { cls:=.type "range",data:=.fields #[.int lo t,.int hi u,.int 1 v]}).objs.size:=by simpa using hb
  subst e;exact I1.DG (Nat.le_refl _) (I1.hok.fresh (Nat.le_refl _))
def QM(ta:TA):TI:=fun σ H R=>ta σ H fun vs H1=>∃ j:Int,vs=[.int j]/\-(2^62)<=j/\j<2^62/\R (LL 0 j.toNat) H1
theorem bA{a:Expr}{ta:TA}{p pos:Pos}(hg:Gl X "range")(hm:X.mg "range"=none)(ha:PA X [a] ta)(hs:starEach [a] X.env=[(false,eval a X.env)]:=by rfl):PI X tg (.Call (.Name "range" p) [a] [] pos) (QM ta):=by
 intro pins s σ H R I h;refine Call_ (nK I hg hm boot_range (PyProof.Rows.callWith_type1 (dP (ha pos pins s σ H _ I h) fun us s1 ⟨vs,H1,I1,r1,q1⟩=>?_) hs rfl))
 obtain⟨j,e,q1,q2,q⟩:=q1;subst e;cases r1 with
 | cons r rr =>
   cases rr;obtain⟨t,rfl⟩:=r;exact call_range_1 (IZ I1 (by lia) (by lia) q1 q2 (by simpa using q))
def d7(wi:TI)(g:TG)(tb:TS):TS:=fun D σ H=>wi σ H fun J H1=>∃ W:Nat->Nat->St->Hp->Prop,(∃ m,W 0 m σ H1)/\∀ i m σ H,W i m σ H->
 (J.stop i H/\D.nx σ H)\/(J.go i H/\∃ N:St->Hp->Prop,(∀ σ' H',N σ' H'->∃ m',m'<m/\W (i+1) m' σ' H')/\∀ x H',J.LK i H x H'->g x σ H' fun σ2 H2=>tb { D with nx:=N,ct:=N,bk:=D.nx} σ2 H2)
def sE(fp:List Addr)(h:Heap):List (Addr×Obj):=fp.filterMap fun b=>(h.get? b).map fun o=>(b,o)
theorem gX{fp:List Addr}{h:Heap}{b:Addr}{o:Obj}(hb:b∈fp)(e:h.get? b=some o):(b,o)∈sE fp h:=List.mem_filterMap.mpr ⟨b,hb,by rw[e];rfl⟩
theorem Gv{fp:List Addr}{h:Heap}{p:Addr×Obj}(hp:p∈sE fp h):p.1∈fp/\h.get? p.1=some p.2:=by
 obtain⟨b,hb,e⟩:=List.mem_filterMap.mp hp;cases q:h.get? b with
 | none=>rw[q]at e;cases e
 | some o =>
   rw[q]at e;have e' : (b,o)=p:=Option.some.inj e;subst e';exact⟨hb,q⟩
theorem Inv.pinned{pins:List (Addr×Obj)}{σ:St}{H:Hp}{s:Shared}{fp:List Addr}(I:Inv X pins σ H s)(hf:∀ b∈fp,qu X pins H b)(ho:∀ b∈fp,∃ o,s.heap.get? b=some o/\∀ v,o.data≠.cell v):Inv X (pins++sE fp s.heap) σ H s :=
 I.fV fun p hp=>(List.mem_append.mp hp).elim (fun z=>I.pin p (List.mem_append_right _ z)) fun z=>by
  obtain⟨hb,e⟩:=Gv z;obtain⟨f0,f1,f2,_⟩:=hf p.1 hb;obtain⟨o,e',d⟩:=ho p.1 hb;rw[e]at e';cases e';exact⟨e,f0,f1,f2,d⟩
theorem Inv.jD{pins pl:List (Addr×Obj)}{σ:St}{H:Hp}{s:Shared}(I:Inv X (pins++pl) σ H s):Inv X pins σ H s:=I.fV fun p hp=>I.pin p (List.mem_append_right _ (List.mem_append_left _ hp))
theorem gE{iter:Expr}{body:List Stmt}{wi:TI}{g:TG}{tb:TS}{pos:Pos}(hp:PassesOwn (model X.prog X.w) X.A X.env X.xe)(hc:X.calm=true)(hi:PI X tg iter wi)(hg:PG X tg g)(hb:Bt X body tb)
 (hs:∀ x,foldedSetIterable iter X.env x=pure x:=by intro _;rfl):PS X (.For tg iter body [] pos) (d7 wi g tb):=by
 intro pins s σ H D I h;refine wpAny_For (dP (hi pins s σ H _ I h) fun v s1 h1=>dP h1 fun itv s2 h2=>?_) hs
 obtain⟨it,fp,tn,J,H2,e,I2,T,st2,f2,W,⟨m0,w0⟩,turn⟩:=h2;subst e;have DJ:∀{H' : Hp},(∀ b∈fp,H' b=none)->∀ b∈fp,qu X pins H' b:=fun hn b hb=>⟨hn b hb,(f2 b hb).2⟩
 refine codeAny_forLoop_any (fun n s'=>∃ i σ' H',Inv X pins σ' H' s'/\tn i s'.heap/\(∀ b∈fp,H' b=none)/\W i n σ' H') ?_ m0 ⟨0,σ,H2,I2,st2,fun b hb=>(f2 b hb).1,w0⟩
 rintro n s3 ⟨i,σ3,H3,I3,st3,Nl,w3⟩;rcases turn i n σ3 H3 w3 with⟨stop,qn⟩|⟨go,N,hN,step⟩
 ·refine wpAny_passesOwn hp (dP (T.done X rfl rfl rfl hc i pins s3 σ3 H3 X.xe I3 (DJ Nl) st3 stop) fun r s4 ⟨hr,I4⟩=>?_)
  subst hr;exact wpAny_execs_nil ⟨σ3,H3,I4,qn⟩
 ·refine wpAny_passesOwn hp (dP (T.item X rfl rfl rfl hc i pins s3 σ3 H3 X.xe I3 (DJ Nl) st3 go) fun r s4 ⟨u,hr,h4⟩=>?_)
  subst hr;refine wpAny_passesOwn hp (dP h4 fun _ s5 ⟨x,H5,I5,r5,y5,Ja,QN⟩=>?_)
  have QO:=I5.pinned (DJ QN) (T.obj _ _ Ja);refine wpAny_passesOwn hp (dP (hg _ s5 σ3 H5 x u _ QO r5 (step x H5 y5)) fun _ s6 ⟨σ6,H6,I6,q6⟩=>?_)
  refine wpAny_passesOwn hp (dP (hb _ s6 σ6 H6 _ I6 q6) fun f s7 q7=>?_)
  have again:∀{σ7:St} {H7:Hp},Inv X (pins++sE fp s5.heap) σ7 H7 s7->N σ7 H7->∃ m,m<n/\∃ i σ' H',Inv X pins σ' H' s7/\tn i s7.heap/\(∀ b∈fp,H' b=none)/\W i m σ' H':=fun {σ7 H7} I7 n7=>by
   obtain⟨m',hm,w7⟩:=hN σ7 H7 n7;refine⟨m',hm,i+1,σ7,H7,I7.jD,T.keep _ _ _ Ja fun b hb o e=>(I7.pin (b,o) (List.mem_append_right _ (List.mem_append_right _ (gX hb e)))).1,fun b hb=>?_,w7⟩
   obtain⟨o,e,d⟩:=T.obj _ _ Ja b hb;exact(I7.pin (b,o) (List.mem_append_right _ (List.mem_append_right _ (gX hb e)))).2.1
  cases f with
  | next=>obtain⟨σ7,H7,I7,n7⟩:=q7;exact again I7 n7
  | cont=>obtain⟨σ7,H7,I7,n7⟩:=q7;exact again I7 n7
  | brk=>obtain⟨σ7,H7,I7,q7⟩:=q7;exact⟨σ7,H7,I7.jD,q7⟩
  | ret v=>obtain⟨x7,σ7,H7,I7,r7,q7⟩:=q7;exact⟨x7,σ7,H7,I7.jD,r7,q7⟩
end
theorem vF{K:PySem.W.Frag}{a:Addr}{xs:List V}{g:TG}{tb:TS}{D:Ends}{σ:St}{H:Hp}(Pv:Nat->St->Hp->Prop)(h0:Pv 0 σ H)(hl:∀ i σ H,i<=xs.length->Pv i σ H->aS K H a xs)
 (hs:∀ i x σ H,xs[i]?=some x->Pv i σ H->g x σ H fun σ2 H2=>tb { D with nx:=Pv (i+1),ct:=Pv (i+1),bk:=D.nx} σ2 H2) (hd:∀ σ H,Pv xs.length σ H->D.nx σ H) :
 ∃ W:Nat->Nat->St->Hp->Prop,(∃ m,W 0 m σ H)/\∀ i m σ H,W i m σ H->
   ((LX K a).stop i H/\D.nx σ H)\/((LX K a).go i H/\∃ N:St->Hp->Prop,(∀ σ' H',N σ' H'->∃ m',m'<m/\W (i+1) m' σ' H')/\∀ x H',(LX K a).LK i H x H'->g x σ H' fun σ2 H2=>tb { D with nx:=N,ct:=N,bk:=D.nx} σ2 H2):=by
 refine⟨fun i m σ H=>m=xs.length-i/\i<=xs.length/\Pv i σ H,⟨xs.length,by simp,Nat.zero_le _,h0⟩,?_⟩
 rintro i m σ H ⟨rfl,hi,p⟩;have q:=hl i σ H hi p
 by_cases hlt:i<xs.length
 ·refine .inr ⟨⟨xs,xs[i],q,by simp[hlt]⟩,Pv (i+1),fun σ' H' p'=>⟨xs.length-(i+1),by lia,rfl,hlt,p'⟩,fun x H' y=>?_⟩
  obtain⟨e,y⟩:=y;subst e;exact hs i x σ _ (y xs q) p
 ·have e:i=xs.length:=by lia
  subst e;exact .inl ⟨⟨xs,q,Nat.le_refl _⟩,hd σ H p⟩
theorem Gw{lo:Int}{n:Nat}{g:TG}{tb:TS}{D:Ends}{σ:St}{H:Hp}(Pv:Nat->St->Hp->Prop)(h0:Pv 0 σ H)
 (hs:∀ i σ H,i<n->Pv i σ H->g (.int (lo+i)) σ H fun σ2 H2=>tb { D with nx:=Pv (i+1),ct:=Pv (i+1),bk:=D.nx} σ2 H2) (hd:∀ σ H,Pv n σ H->D.nx σ H) :
 ∃ W:Nat->Nat->St->Hp->Prop,(∃ m,W 0 m σ H)/\∀ i m σ H,W i m σ H->
   ((LL lo n).stop i H/\D.nx σ H)\/((LL lo n).go i H/\∃ N:St->Hp->Prop,(∀ σ' H',N σ' H'->∃ m',m'<m/\W (i+1) m' σ' H')/\∀ x H',(LL lo n).LK i H x H'->g x σ H' fun σ2 H2=>tb { D with nx:=N,ct:=N,bk:=D.nx} σ2 H2):=by
 refine⟨fun i m σ H=>m=n-i/\i<=n/\Pv i σ H,⟨n,by simp,Nat.zero_le _,h0⟩,?_⟩
 rintro i m σ H ⟨rfl,hi,p⟩
 by_cases hlt:i<n
 ·refine .inr ⟨hlt,Pv (i+1),fun σ' H' p'=>⟨n-(i+1),by lia,rfl,hlt,p'⟩,fun x H' y=>?_⟩
  obtain⟨e,y⟩:=y;subst e y;exact hs i σ _ hlt p
 ·have e:i=n:=by lia
  subst e;exact .inl ⟨Nat.le_refl _,hd σ H p⟩
end L2
namespace L2
open PySem PySem.Spec PyProof.Rows
abbrev R2:=V->V->Hp->VK->Prop
def nF(X:Cx)(f:Value->Value->Sem Value)(r:R2):Prop :=
 ∀(pins:List (Addr×Obj)) (s:Shared) (σ:St) (H:Hp) (x y:V) (v u:Value) (Q:VK),Inv X pins σ H s->RelV x v->RelV y u->r x y H Q->
  wpAny (model X.prog X.w) X.A (f v u) (EP X pins σ Q) X.xe s
def VD(X:Cx)(f:Value->Sem Value)(r:V->Hp->VK->Prop):Prop :=
 ∀(pins:List (Addr×Obj)) (s:Shared) (σ:St) (H:Hp) (x:V) (v:Value) (Q:VK),Inv X pins σ H s->RelV x v->r x H Q->
  wpAny (model X.prog X.w) X.A (f v) (EP X pins σ Q) X.xe s
def gW(X:Cx)(f:Value)(r:List V->Hp->VK->Prop):Prop :=
 ∀(pins:List (Addr×Obj)) (s:Shared) (σ:St) (H:Hp) (xs:List V) (us:List Value) (Q:VK),Inv X pins σ H s->Vals xs us->r xs H Q->
  wpAny (model X.prog X.w) X.A (call f us) (EP X pins σ Q) X.xe s
def T4(r:R2)(ta tb:TE):TE:=fun σ H Q=>ta σ H fun x H1=>tb σ H1 fun y H2=>r x y H2 Q
def tUn(r:V->Hp->VK->Prop)(ta:TE):TE:=fun σ H Q=>ta σ H fun x H1=>r x H1 Q
def rI(C:Int->Int->Prop)(g:Int->Int->V):R2:=fun x y H Q=>∃ i j,x = .int i/\y = .int j/\C i j/\Q (g i j) H
def Fb(g:Int->Int->V):R2:=fun x y H Q=>∃ i j,x = .int i/\y = .int j/\Q (g i j) H
def rU(g:Int->V):V->Hp->VK->Prop:=fun x H Q=>∃ i,x = .int i/\Q (g i) H
section
variable {X:Cx}{a b c:Expr}{ta tb tc:TE}{pos:Pos}
theorem Oh(ha:PE X a ta)(hb:PE X b tb){pins:List (Addr×Obj)}{s:Shared}{σ:St}{H:Hp}{R:V->V->Hp->Prop}(I:Inv X pins σ H s)
 (h:ta σ H fun x H1=>tb σ H1 fun y H2=>R x y H2) {Q:Value->Shared->Prop} {f:Value->Value->Sem Value}
 (hf:∀ v u s2 x y H2,Inv X pins σ H2 s2->RelV x v->RelV y u->R x y H2->wpAny (model X.prog X.w) X.A (f v u) Q X.xe s2) :
 wpAny (model X.prog X.w) X.A (eval a X.env) (fun v s₁=>wpAny (model X.prog X.w) X.A (eval b X.env) (fun u s₂=>wpAny (model X.prog X.w) X.A (f v u) Q X.xe s₂) X.xe s₁) X.xe s:=by
 refine dP (ha pins s σ H _ I h) fun v s1 ⟨x,H1,I1,r1,q1⟩=>?_
 refine dP (hb pins s1 σ H1 _ I1 q1) fun u s2 ⟨y,H2,I2,r2,q2⟩=>?_
 exact hf v u s2 x y H2 I2 r1 r2 q2
theorem aK{op:Operator}{r:R2}(ho:nF X (binaryOp op) r)(ha:PE X a ta)(hb:PE X b tb):PE X (.BinOp a op b pos) (T4 r ta tb):=by
 intro pins s σ H Q I h;exact wpAny_BinOp (Oh ha hb I h fun v u s2 x y H2 I2 rx ry q=>ho pins s2 σ H2 x y v u Q I2 rx ry q)
theorem QS{op:UnaryOp}{r:V->Hp->VK->Prop}(ho:VD X (unaryOp op) r)(ha:PE X a ta):PE X (.UnaryOp op a pos) (tUn r ta):=by
 intro pins s σ H Q I h;exact UnaryOp_ (dP (ha pins s σ H _ I h) fun v s1 ⟨x,H1,I1,r1,q1⟩=>ho pins s1 σ H1 x v Q I1 r1 q1)
theorem P6{f:Value->Value->Sem Value}{C:Int->Int->Prop}{g:Int->Int->Int}
 (rule:∀(i j:Int) (t u:Tok) (s:Shared) (Q:Value->Shared->Prop) (E:Value->Shared->Prop),C i j->Q (.int (g i j) s.toks) { s with toks:=s.toks+1}->wpAny (model X.prog X.w) X.A (f (.int i t) (.int j u)) Q E s) :
 nF X f (rI C fun i j=>.int (g i j)):=by
 intro pins s σ H x y v u Q I rx ry h;obtain⟨i,j,rfl,rfl,hc,q⟩:=h;obtain⟨t,rfl⟩:=rx;obtain⟨t',rfl⟩:=ry;exact rule i j t t' s _ _ hc ⟨.int (g i j),H,I.tok _,⟨_,rfl⟩,q⟩
theorem Bu{f:Value->Value->Sem Value}{g:Int->Int->Int}
 (rule:∀(i j:Int) (t u:Tok) (s:Shared) (Q:Value->Shared->Prop) (E:Value->Shared->Prop),Q (.int (g i j) s.toks) { s with toks:=s.toks+1}->wpAny (model X.prog X.w) X.A (f (.int i t) (.int j u)) Q E s) :
 nF X f (Fb fun i j=>.int (g i j)):=by
 intro pins s σ H x y v u Q I rx ry h;obtain⟨i,j,rfl,rfl,q⟩:=h;obtain⟨t,rfl⟩:=rx;obtain⟨t',rfl⟩:=ry;exact rule i j t t' s _ _ ⟨.int (g i j),H,I.tok _,⟨_,rfl⟩,q⟩
theorem LZ{f:Value->Value->Sem Value}{g:Int->Int->Bool}
 (rule:∀(i j:Int) (t u:Tok) (s:Shared) (Q:Value->Shared->Prop) (E:Value->Shared->Prop),Q (.bool (g i j)) s->wpAny (model X.prog X.w) X.A (f (.int i t) (.int j u)) Q E s) :
 nF X f (Fb fun i j=>.bl (g i j)):=by
 intro pins s σ H x y v u Q I rx ry h;obtain⟨i,j,rfl,rfl,q⟩:=h;obtain⟨t,rfl⟩:=rx;obtain⟨t',rfl⟩:=ry;exact rule i j t t' s _ _ ⟨.bl (g i j),H,I,rfl,q⟩
def VE(i j:Int):Prop:=0<j/\j<1073741824
def QT(i j:Int):Prop:=0<=j/\j<=1000000/\i.natAbs<2^64
def Oi(i j:Int):Prop:=(-(2^64)<i/\i<2^64)\/(-(2^64)<j/\j<2^64)
theorem Oi.ok{i j:Int}(h:Oi i j):IntMulOk i j:=by
 rcases h with⟨h1,h2⟩|⟨h1,h2⟩
 ·exact .of_left (intBits_le_64 h1 h2)
 ·exact .of_right (intBits_le_64 h1 h2)
theorem DK(k:Nat):(0:Int)<=2^k:=by
 rw[two_pow_cast];exact Int.natCast_nonneg _
theorem fM:nF X (binaryOp .Add) (Fb fun i j=>.int (i+j)):=Bu fun _ _ _ _ _ _ _ q=>add_int q
theorem nN:nF X (binaryOp .Sub) (Fb fun i j=>.int (i-j)):=Bu fun _ _ _ _ _ _ _ q=>sub_int q
theorem DL:nF X (binaryOp .Mult) (rI Oi fun i j=>.int (i*j)):=P6 fun _ _ _ _ _ _ _ hc q=>mul_int q hc.ok
theorem jU:nF X (binaryOp .FloorDiv) (rI VE fun i j=>.int (i/j)):=P6 fun i j _ _ _ _ _ hc q=>by
 have h1:(0:Int)<j:=hc.1;have h2:j<1073741824:=hc.2;exact floordiv_int (by lia) (by rw[Int.fdiv_eq_ediv_of_nonneg i (by lia)];exact q) (.inl (PyProof.noPylong_small (by lia)))
theorem cT:nF X (binaryOp .Mod) (rI (fun _ j=>0<j) fun i j=>.int (i%j)):=P6 fun i j _ _ _ _ _ hc q=>by
 have h1:(0:Int)<j:=hc;exact mod_int' (by lia) (by rw[Int.fmod_eq_emod_of_nonneg i (by lia)];exact q)
theorem Oj:nF X (binaryOp .Pow) (rI QT fun i j=>.int (i^j.toNat)):=P6 fun _ _ _ _ _ _ _ hc q=>pow_int_small hc.1 hc.2.1 hc.2.2 q
theorem jE:nF X (binaryOp .LShift) (rI QT fun i j=>.int (i*2^j.toNat)):=P6 fun _ _ _ _ _ _ _ hc q=>lshift_int_small hc.1 hc.2.1 hc.2.2 q
theorem sF:nF X (binaryOp .RShift) (rI (fun _ j=>0<=j) fun i j=>.int (i/2^j.toNat)):=P6 fun i j _ _ _ _ _ hc q =>
 rshift_int hc (by rw[Int.fdiv_eq_ediv_of_nonneg i (DK _)];exact q)
theorem z9:nF X (binaryOp .BitAnd) (Fb fun i j=>.int (Builtin.bitAnd i j)):=Bu fun _ _ _ _ _ _ _ q=>and_int q
theorem QU:nF X (binaryOp .BitOr) (Fb fun i j=>.int (Builtin.bitOr i j)):=Bu fun _ _ _ _ _ _ _ q=>or_int q
theorem gF:nF X (binaryOp .BitXor) (Fb fun i j=>.int (Builtin.bitXor i j)):=Bu fun _ _ _ _ _ _ _ q=>xor_int q
theorem Fc:nF X (inplaceOp .Add) (Fb fun i j=>.int (i+j)):=Bu fun _ _ _ _ _ _ _ q=>iadd_int q
theorem Jb:nF X (inplaceOp .BitOr) (Fb fun i j=>.int (Builtin.bitOr i j)):=Bu fun _ _ _ _ _ _ _ q=>ior_int q
theorem Fd:nF X (inplaceOp .BitXor) (Fb fun i j=>.int (Builtin.bitXor i j)):=Bu fun _ _ _ _ _ _ _ q=>ixor_int q
theorem unI{f:Value->Sem Value}{g:Int->Int}
 (rule:∀(i:Int) (t:Tok) (s:Shared) (Q:Value->Shared->Prop) (E:Value->Shared->Prop),Q (.int (g i) s.toks) { s with toks:=s.toks+1}->wpAny (model X.prog X.w) X.A (f (.int i t)) Q E s) :
 VD X f (rU fun i=>.int (g i)):=by
 intro pins s σ H x v Q I rx h;obtain⟨i,rfl,q⟩:=h;obtain⟨t,rfl⟩:=rx;exact rule i t s _ _ ⟨.int (g i),H,I.tok _,⟨_,rfl⟩,q⟩
theorem Ol:VD X (unaryOp .USub) (rU fun i=>.int (-i)):=unI fun _ _ _ _ _ q=>neg_int q
end
def QV:V->V->Bool
 | .gf,.gf=>true | .gf,.int _=>true | .int _,.gf=>true | .gf,.bl _=>true | .bl _,.gf=>true | .gf,.str _=>true | .str _,.gf=>true
 | .int _,.int _=>true | .bl _,.bl _=>true | .str _,.str _=>true | .IT _,.IT _=>true
 | .int _,.str _=>true | .str _,.int _=>true | .bl _,.str _=>true | .str _,.bl _=>true
 | _,_=>false
def rEq:R2:=fun x y H Q=>QV x y=true/\Q (.bl (decide (x=y))) H
def rNe:R2:=fun x y H Q=>QV x y=true/\Q (.bl (!decide (x=y))) H
theorem Fe{i j:Int}:decide (V.int i=V.int j)=(i==j):=by
 rw[Bool.eq_iff_iff];simp
theorem Jc{i j:Bool}:decide (V.bl i=V.bl j)=(i==j):=by
 rw[Bool.eq_iff_iff];simp
theorem Ff{i j:Str}:decide (V.str i=V.str j)=(i==j):=by
 rw[Bool.eq_iff_iff];simp
theorem Fg{i j:Array UInt8}:decide (V.IT i=V.IT j)=(i.toList==j.toList):=by
 rw[Bool.eq_iff_iff];cases i;cases j;simp
section
variable {X:Cx}{a b c:Expr}{ta tb tc:TE}{pos:Pos}
theorem bC{pins:List (Addr×Obj)}{σ:St}{H:Hp}{s:Shared}{Q:VK}{k k' : Bool}(I:Inv X pins σ H s)(q:Q (.bl k) H)(e:k=k'):EP X pins σ Q (.bool k') s:=by
 subst e;exact⟨.bl k,H,I,rfl,q⟩
theorem dw:nF X (compareOp .Eq) rEq:=by
 intro pins s σ H x y v u Q I rx ry h;obtain⟨hs,q⟩:=h;cases x with
 | gf =>
   cases rx;cases y with
   | gf=>cases ry;exact PySem.EqNone.eq_none_none (bC I q (by simp))
   | bl j=>cases ry;exact PySem.EqNone.eq_none_bool (bC I q (by simp))
   | int j=>obtain⟨t',rfl⟩:=ry;exact PySem.EqNone.eq_none_int (bC I q (by simp))
   | str j=>obtain⟨t',rfl⟩:=ry;exact PySem.EqNone.eq_none_str (bC I q (by simp))
   | _=>exact absurd (show false=true from hs) Bool.false_ne_true
 | bl i =>
   cases rx;cases y with
   | gf=>cases ry;exact PySem.EqNone.eq_bool_none (bC I q (by simp))
   | bl j=>cases ry;exact eq_bool (bC I q Jc)
   | str j=>obtain⟨t',rfl⟩:=ry;exact PySem.EqMixed.eq_bool_str (bC I q (by simp))
   | _=>exact absurd (show false=true from hs) Bool.false_ne_true
 | int i =>
   obtain⟨t,rfl⟩:=rx;cases y with
   | gf=>cases ry;exact PySem.EqNone.eq_int_none (bC I q (by simp))
   | int j=>obtain⟨t',rfl⟩:=ry;exact eq_int (bC I q Fe)
   | str j=>obtain⟨t',rfl⟩:=ry;exact PySem.EqMixed.eq_int_str (bC I q (by simp))
   | _=>exact absurd (show false=true from hs) Bool.false_ne_true
 | str i =>
   obtain⟨t,rfl⟩:=rx;cases y with
   | gf=>cases ry;exact PySem.EqNone.eq_str_none (bC I q (by simp))
   | bl j=>cases ry;exact PySem.EqMixed.eq_str_bool (bC I q (by simp))
   | int j=>obtain⟨t',rfl⟩:=ry;exact PySem.EqMixed.eq_str_int (bC I q (by simp))
   | str j=>obtain⟨t',rfl⟩:=ry;exact eq_str (bC I q Ff)
   | _=>exact absurd (show false=true from hs) Bool.false_ne_true
 | IT i =>
   obtain⟨t,rfl⟩:=rx;cases y with
   | IT j=>obtain⟨t',rfl⟩:=ry;exact PySem.W.eq_bytes (bC I q Fg)
   | _=>exact absurd (show false=true from hs) Bool.false_ne_true
 | _=>cases y<;>exact absurd (show false=true from hs) Bool.false_ne_true
theorem uG:nF X (compareOp .NotEq) rNe:=by
 intro pins s σ H x y v u Q I rx ry h;obtain⟨hs,q⟩:=h;cases x with
 | gf =>
   cases rx;cases y with
   | gf=>cases ry;exact PySem.EqNone.ne_none_none (bC I q (by simp))
   | bl j=>cases ry;exact PySem.EqNone.ne_none_bool (bC I q (by simp))
   | int j=>obtain⟨t',rfl⟩:=ry;exact PySem.EqNone.ne_none_int (bC I q (by simp))
   | str j=>obtain⟨t',rfl⟩:=ry;exact PySem.EqNone.ne_none_str (bC I q (by simp))
   | _=>exact absurd (show false=true from hs) Bool.false_ne_true
 | bl i =>
   cases rx;cases y with
   | gf=>cases ry;exact PySem.EqNone.ne_bool_none (bC I q (by simp))
   | bl j=>cases ry;exact ne_bool (bC I q (congrArg not Jc))
   | str j=>obtain⟨t',rfl⟩:=ry;exact PySem.EqMixed.ne_bool_str (bC I q (by simp))
   | _=>exact absurd (show false=true from hs) Bool.false_ne_true
 | int i =>
   obtain⟨t,rfl⟩:=rx;cases y with
   | gf=>cases ry;exact PySem.EqNone.ne_int_none (bC I q (by simp))
   | int j=>obtain⟨t',rfl⟩:=ry;exact ne_int (bC I q (congrArg not Fe))
   | str j=>obtain⟨t',rfl⟩:=ry;exact PySem.EqMixed.ne_int_str (bC I q (by simp))
   | _=>exact absurd (show false=true from hs) Bool.false_ne_true
 | str i =>
   obtain⟨t,rfl⟩:=rx;cases y with
   | gf=>cases ry;exact PySem.EqNone.ne_str_none (bC I q (by simp))
   | bl j=>cases ry;exact PySem.EqMixed.ne_str_bool (bC I q (by simp))
   | int j=>obtain⟨t',rfl⟩:=ry;exact PySem.EqMixed.ne_str_int (bC I q (by simp))
   | str j=>obtain⟨t',rfl⟩:=ry;exact ne_str (bC I q (congrArg not Ff))
   | _=>exact absurd (show false=true from hs) Bool.false_ne_true
 | IT i =>
   obtain⟨t,rfl⟩:=rx;cases y with
   | IT j=>obtain⟨t',rfl⟩:=ry;exact PySem.W.ne_bytes (bC I q (congrArg not Fg))
   | _=>exact absurd (show false=true from hs) Bool.false_ne_true
 | _=>cases y<;>exact absurd (show false=true from hs) Bool.false_ne_true
theorem Fi:nF X (compareOp .Lt) (Fb fun i j=>.bl (decide (i<j))):=LZ fun _ _ _ _ _ _ _ q=>lt_int q
theorem Jd:nF X (compareOp .LtE) (Fb fun i j=>.bl (decide (i<=j))):=LZ fun _ _ _ _ _ _ _ q=>le_int q
theorem yH:nF X (compareOp .Gt) (Fb fun i j=>.bl (decide (j<i))):=LZ fun _ _ _ _ _ _ _ q=>gt_int q
theorem Fj:nF X (compareOp .GtE) (Fb fun i j=>.bl (decide (j<=i))):=LZ fun _ _ _ _ _ _ _ q=>ge_int q
theorem Je:nF X (compareOp .Is) (fun x y H Q=>y = .gf/\Q (.bl (decide (x = .gf))) H):=by
 intro pins s σ H x y v u Q I rx ry h;obtain⟨rfl,q⟩:=h;cases ry;refine is_none_gen (bC I q ?_);cases x<;>first
  | (cases rx;rfl)
  | (obtain⟨t,rfl⟩:=rx;rfl)
theorem L0:nF X (compareOp .IsNot) (fun x y H Q=>y = .gf/\Q (.bl (!decide (x = .gf))) H):=by
 intro pins s σ H x y v u Q I rx ry h;obtain⟨rfl,q⟩:=h;cases ry;refine isnot_none_gen (bC I q ?_);cases x<;>first
  | (cases rx;rfl)
  | (obtain⟨t,rfl⟩:=rx;rfl)
theorem aO(b:Expr){op:CmpOp}(h:op≠.In:=by decide)(h2:op≠.NotIn:=by decide):behindInMarks op b=false:=by
 have e1:(op==CmpOp.In)=false:=by cases op<;>first | rfl | exact absurd rfl h
 have e2:(op==CmpOp.NotIn)=false:=by cases op<;>first | rfl | exact absurd rfl h2
 cases b<;>simp[behindInMarks,e1,e2]
theorem cI{op:CmpOp}{r:R2}(ho:nF X (compareOp op) r)(ha:PE X a ta)(hb:PE X b tb)(hm:behindInMarks op b=false):PE X (.Compare a [op] [b] pos) (T4 r ta tb):=by
 intro pins s σ H Q I h;exact wpAny_Compare1 (Oh ha hb I h fun v u s2 x y H2 I2 rx ry q=>ho pins s2 σ H2 x y v u Q I2 rx ry q) hm
def QW(t:TE):TT:=fun σ H Q=>t σ H fun x H'=>∃ k,x = .bl k/\Q k H'
theorem aP{op:CmpOp}{r:R2}(ho:nF X (compareOp op) r)(ha:PE X a ta)(hb:PE X b tb)(hm:behindInMarks op b=false):PT X (.Compare a [op] [b] pos) (QW (T4 r ta tb)):=by
 intro pins s σ H Q I h;refine wpAny_isTrue_Compare1 (dP (ha pins s σ H _ I h) fun v s1 ⟨x,H1,I1,r1,q1⟩=>dP (hb pins s1 σ H1 _ I1 q1) fun u s2 ⟨y,H2,I2,r2,q2⟩ =>
  dP (ho pins s2 σ H2 x y v u _ I2 r1 r2 q2) fun c s3 ⟨z,H3,I3,r3,k,e,q3⟩=>?_) hm
 subst e;cases r3;exact wpAny_truthy_bool ⟨H3,I3,q3⟩
theorem vG:(sizeLine:Nat)<2^63:=by rw[sizeLine_eq];decide
theorem vals1{x:V}{us:List Value}(r:Vals [x] us):∃ u,us=[u]/\RelV x u:=by
 cases r with
 | cons r1 r2=>cases r2;exact⟨_,rfl,r1⟩
theorem vals2{x y:V}{us:List Value}(r:Vals [x,y] us):∃ u w',us=[u,w']/\RelV x u/\RelV y w':=by
 cases r with
 | cons r1 r2 =>
   cases r2 with
   | cons r3 r4=>cases r4;exact⟨_,_,rfl,r1,r3⟩
theorem yI(hc:X.calm=true):gW X (.builtin "max") (fun xs H Q=>∃ i j,xs=[.int i,.int j]/\Q (.int (if j > i then j else i)) H):=by
 intro pins s σ H xs us Q I r h;obtain⟨i,j,rfl,q⟩:=h;obtain⟨u,w',rfl,⟨t,rfl⟩,⟨t',rfl⟩⟩:=vals2 r;refine max_two_ints (I.ok.hd hc) fun h' tk k=>⟨_,H,I.kept k,?_,q⟩
 by_cases hj:j > i
 ·rw[if_pos hj,if_pos hj];exact⟨_,rfl⟩
 ·rw[if_neg hj,if_neg hj];exact⟨_,rfl⟩
theorem Gx(hc:X.calm=true):gW X (.builtin "min") (fun xs H Q=>∃ i j,xs=[.int i,.int j]/\Q (.int (if j<i then j else i)) H):=by
 intro pins s σ H xs us Q I r h;obtain⟨i,j,rfl,q⟩:=h;obtain⟨u,w',rfl,⟨t,rfl⟩,⟨t',rfl⟩⟩:=vals2 r;refine min_two_ints (I.ok.hd hc) fun h' tk k=>⟨_,H,I.kept k,?_,q⟩
 by_cases hj:j<i
 ·rw[if_pos hj,if_pos hj];exact⟨_,rfl⟩
 ·rw[if_neg hj,if_neg hj];exact⟨_,rfl⟩
theorem sG:gW X (.type "int") (fun xs H Q=>(∃ i,xs=[.int i]/\Q (.int i) H)\/∃ k,xs=[.bl k]/\Q (.int (if k then 1 else 0)) H):=by
 intro pins s σ H xs us Q I r h;rcases h with⟨i,rfl,q⟩|⟨k,rfl,q⟩
 ·obtain⟨u,rfl,t,rfl⟩:=vals1 r;exact call_int_int ⟨.int i,H,I,⟨_,rfl⟩,q⟩
 ·obtain⟨u,rfl,r1⟩:=vals1 r;cases r1;exact call_int_bool ⟨.int (if k then 1 else 0),H,I.tok _,⟨_,rfl⟩,q⟩
end
end L2
namespace L2
open PySem PySem.Spec PyProof.Rows
section
variable {prog:Program}{w:World}{A:Around}{E:Value->Shared->Prop}{s:Shared}{K:PySem.W.Frag}{x dx C f:Addr}{mA:Str->Option Value}{name:Str}{v:Value}
end
theorem sC.some_of{v:V}{o:Option Value}(r:sC (some v) o):∃ u,o=some u/\RelV v u:=by
 cases o with
 | none=>exact(show False from r).elim
 | some u=>exact⟨u,rfl,r⟩
section
variable {P:Program}{w:World}{H H' : Hp}{h h' : Heap}{a C dx:Addr}{fs fs' : List (Str×V)}
end
section
variable {X:Cx}{pins:List (Addr×Obj)}{σ:St}{H:Hp}{s:Shared}{a C dx:Addr}{fs:List (Str×V)}{f:Str}{v:V}{A:Around}{E:Value->Shared->Prop}
end
section
variable {X:Cx}{o e value:Expr}{f:Str}{pos pos' tpos:Pos}{ta tv:TE}
end
section
variable {X:Cx}{pins:List (Addr×Obj)}{σ:St}{H:Hp}{s:Shared}{A:Around}{E:Value->Shared->Prop}{Q:Value->Shared->Prop}{c:Value}{b:Bool}
end
end L2
namespace L2
open PySem PySem.Spec PyProof.Rows
structure gG(k:Nat)(A:Around):Prop where
 hd:A.handled=none
 dp:A.depth+3*k+5<recursionLimit
 un:A.units+16*k+200<cLine
theorem gG.mono{j k:Nat}{A:Around}(r:gG k A)(h:j<=k):gG j A:=⟨r.hd,by have:=r.dp;lia,by have:=r.un;lia⟩
theorem gG.deeper{k:Nat}{A:Around}(r:gG (k+1) A)(env:Env):gG k (A.deeper env) :=
 ⟨r.hd,by have:=r.dp;show A.depth+1+3*k+5<_;lia,by have:=r.un;show A.units+3+16*k+200<_;lia⟩
theorem gG.in1{k:Nat}{A:Around}(r:gG (k+1) A):gG k A.in1 :=
 ⟨r.hd,by have:=r.dp;show A.depth+3*k+5<_;lia,by have:=r.un;show A.units+1+16*k+200<_;lia⟩
theorem gG.depth{k:Nat}{A:Around}(r:gG k A):A.depth<recursionLimit:=by have:=r.dp;lia
theorem gG.units{k:Nat}{A:Around}(r:gG k A):A.units+64<cLine:=by have:=r.un;lia
theorem gG.DM{k:Nat}{A:Around}(r:gG k A):A.units<cLine:=by have:=r.un;lia
def VF:TA:=fun _ H Q=>Q [] H
def QX(ta:TE)(tr:TA):TA:=fun σ H Q=>ta σ H fun x H1=>tr σ H1 fun xs H2=>Q (x::xs) H2
section
variable {X:Cx}{e:Expr}{es:List Expr}{te:TE}{t:TA}{pos:Pos}
theorem ai:PA X [] VF:=fun _ _ _ _ H Q I h=>Calls.spliced_nil ⟨[],H,I,.nil,h⟩
theorem aa(ha:PE X e te)(hr:PA X es t)(hs:starEach (e::es) X.env=(false,eval e X.env)::starEach es X.env:=by rfl):PA X (e::es) (QX te t):=by
 intro pos pins s σ H Q I h;rw[hs];show wpAny _ _ (spliced ((false,eval e X.env)::backTo pos (starEach es X.env))) _ _ s;refine Calls.spliced_cons (dP (ha pins s σ H _ I h) fun u s1 ⟨x,H1,I1,r1,q1⟩=>?_)
 exact dP (hr pos pins s1 σ H1 _ I1 q1) fun us s2 ⟨xs,H2,I2,r2,q2⟩=>⟨x::xs,H2,I2,.cons r1 r2,q2⟩
def VG(t:TA):TE:=fun σ H Q=>t σ H fun xs H1=>xs.length<=sizeLine/\∀ p,H1 p=none->Q (.ref p) (upd H1 p (.tup xs))
def VH(t:TA):TE:=fun σ H Q=>t σ H fun xs H1=>xs.length<=sizeLine/\∀ p,H1 p=none->Q (.ref p) (upd H1 p (.lst xs))
theorem dQ{x1}(h:PA X es t):PE X (.Tuple es x1 pos) (VG t):=by
 intro pins s σ H Q I hq;refine wpAny_Tuple_spliced (dP (h pos pins s σ H _ I hq) fun us s1 ⟨xs,H1,I1,r,z,q⟩=>⟨by rw[<-r.length];exact z,?_⟩)
 have hf:H1 s1.heap.objs.size=none:=I1.hok.fresh (Nat.le_refl _);refine⟨.ref s1.heap.objs.size,upd H1 s1.heap.objs.size (.tup xs),I1.laid (t':=s1.toks) (fun b u e=>Heap.get?_push_of_some _ e) (Nat.le_refl _) ?_,rfl,q _ hf⟩
 exact⟨z,us,r,⟨_,Heap.get?_push_size _ rfl,rfl,_,rfl⟩⟩
theorem eR(h:PA X es t):PE X (.List es pos) (VH t):=by
 intro pins s σ H Q I hq;refine wpAny_List_spliced (dP (h pos pins s σ H _ I hq) fun us s1 ⟨xs,H1,I1,r,z,q⟩=>⟨by rw[<-r.length];exact z,?_⟩)
 have hf:H1 s1.heap.objs.size=none:=I1.hok.fresh (Nat.le_refl _);refine⟨.ref s1.heap.objs.size,upd H1 s1.heap.objs.size (.lst xs),I1.laid (t':=s1.toks) (fun b u e=>Heap.get?_push_of_some _ e) (Nat.le_refl _) ?_,rfl,q _ hf⟩
 exact⟨z,us,0,r,Heap.get?_push_size _ rfl⟩
end
abbrev Sp:=List V->Hp->VK->XK->Prop
abbrev IJ:=List Env->Hp->Shared->XK->Value->Shared->Prop
structure L1(P:Program)(w:World)(K:PySem.W.Frag)(mg:Str->Option Value)(base:Heap)(A:Around)(outer:List Env)(s:Shared)(H:Hp):Prop where
 frames:A.frames=some outer
 mod:Mod K mg base
 bs:∀ b o,base.get? b=some o->s.heap.get? b=some o/\H b=none
 Ni:base.objs.size<=s.heap.objs.size
 funs:s.heap.FunFrames base outer
 N8:∀ b∈frs outer,H b=none
 hok:oY P w H s.heap
 bare:AllBare s.gens
def CE(outer:List Env)(P:Program)(w:World)(H:Hp)(s:Shared)(Q:VK)(u:Value)(s' : Shared):Prop :=
 ∃ v H',s'.os=s.os/\AllBare s'.gens/\Un (frs outer) [] H H' s.heap s'.heap/\oY P w H' s'.heap/\RelV v u/\Q v H'
def CR(CX:IJ)(outer:List Env)(P:Program)(w:World)(H:Hp)(s:Shared)(Q:VK)(E:XK)(r:Result)(s' : Shared):Prop :=
 match r with
 | .ok (.ret u)=>CE outer P w H s Q u s'
 | .ok _=>False
 | .error e=>CX outer H s E e s'
structure bE(P:Program)(w:World)(K:PySem.W.Frag)(mg:Str->Option Value)(base:Heap)(CX:IJ)(k:Nat)(f:Addr)(fd:FuncData)(ps:List Str)(sp:Sp):Prop where
 len:∀ vs H Q E,sp vs H Q E->vs.length=ps.length
 run:∀(A:Around) (outer:List Env) (s:Shared) (H:Hp) (args:Args) (us:List Value) (vs:List V) (Q:VK) (E:XK),gG k A->L1 P w K mg base A outer s H->BindsTo s fd args (ps.zip us)->Vals vs us->sp vs H Q E->
  codeAny (model P w) A (.call (.ref f) args) (CR CX outer P w H s Q E) s
section
variable {X:Cx}{pins:List (Addr×Obj)}{σ:St}{H:Hp}{s s' : Shared}
theorem Inv.VI(I:Inv X pins σ H s):L1 X.prog X.w X.K X.mg X.base X.A X.stack s H :=
 ⟨I.ok.frames,I.ok.mod,I.bs,Nat.le_trans I.ok.Ni I.sz,I.stack,I.z6,I.hok,I.bare⟩
theorem Inv.after{Q:VK}{u:Value}(I:Inv X pins σ H s)(h:CE X.stack X.prog X.w H s Q u s'):EP X pins σ Q u s':=by
 obtain⟨v,H',os,bare,un,hok,r,q⟩:=h;obtain⟨hh,g,d,t,os'⟩:=s';obtain rfl:os' = s.os:=os;exact⟨v,H',I.call (h':=hh) (g':=g) (d':=d) (t':=t) (ch:=[]) un hok bare (fun b z=>absurd z (by simp)),r,q⟩
end
def QY(sp:Sp)(L3:List V)(E:XK)(t:TA):TE:=fun σ H Q=>t σ H fun vs H1=>sp (vs++L3) H1 Q E
def Binds(K:PySem.W.Frag)(fd:FuncData)(ps:List Str)(ds:List Value):Prop :=
 ∀(s:Shared) (us:List Value),K.In s.heap->(us++ds).length=ps.length->BindsTo s fd ⟨us,[]⟩ (ps.zip (us++ds))
theorem Binds.all{K:PySem.W.Frag}{fd:FuncData}{ps:List Str}(h:∀ us:List Value,us.length=ps.length->bindArgs fd ⟨us,[]⟩=pure (ps.zip us)):Binds K fd ps []:=fun s us _ hl=>by
 rw[List.append_nil]at hl ⊢;exact .of_eq (h us hl)
def Passes(CX:IJ)(X:Cx)(E:XK):Prop:=∀(pins:List (Addr×Obj)) (σ:St) (H:Hp) (s:Shared) (e:Value) (s' : Shared),Inv X pins σ H s->CX X.stack H s E e s'->X.xe e s'
section
variable {X:Cx}{CX:IJ}{k:Nat}{f C:Addr}{fd:FuncData}{ps:List Str}{sp:Sp}{L3:List V}{ds:List Value}{E:XK}{x m:Str}{p pos apos:Pos}{e o:Expr}{es:List Expr}{ta:TE}{t:TA}
theorem Om{pins:List (Addr×Obj)}{σ:St}{H:Hp}{s:Shared}{Q:VK}{us:List Value}{vs:List V}(F:bE X.prog X.w X.K X.mg X.base CX k f fd ps sp)(hr:gG k X.A)(hb:Binds X.K fd ps ds)(hd:Vals L3 ds)(hx:Passes CX X E)
 (I:Inv X pins σ H s) (r:Vals vs us) (h:sp (vs++L3) H Q E):wpAny (model X.prog X.w) X.A (call (.ref f) us) (EP X pins σ Q) X.xe s:=by
 have r2:Vals (vs++L3) (us++ds):=r.append hd;have hl:(us++ds).length=ps.length:=by rw[<-r2.length];exact F.len _ _ _ _ h
 refine wpAny_call (codeAny_mono (F.run X.A X.stack s H ⟨us,[]⟩ (us++ds) (vs++L3) Q E hr I.VI (hb s us I.N9 hl) r2 h) fun r s' hq=>?_)
 cases r with
 | error e=>exact hx pins σ H s e s' I hq
 | ok fl =>
   cases fl with
   | ret u=>exact I.after hq
   | next=>exact False.elim hq
   | brk=>exact False.elim hq
   | cont=>exact False.elim hq
theorem aA(F:bE X.prog X.w X.K X.mg X.base CX k f fd ps sp)(hr:gG k X.A)(hg:Gl X x)(hm:X.mg x=some (.ref f))(hk:PySem.W.keepIn X.K (.ref f)=true)(hb:Binds X.K fd ps ds)(hd:Vals L3 ds)(hx:Passes CX X E)
 (ha:PA X (e::es) t) (hdb:(x==("__debug__":Str))=false:=by decide) (he:starEach (e::es) X.env=(false,eval e X.env)::starEach es X.env:=by rfl) (hpl:(backTo pos (starEach es X.env)).any (·.1)=false:=by rfl) :
 PE X (.Call (.Name x p) (e::es) [] pos) (QY sp L3 E t):=by
 intro pins s σ H Q I h;refine wpAny_Call_Name_kw (E6 I hg hm ?_ hdb);refine PySem.W.callWith_K (h₀:=X.base) I.ok.mod.TU hk (dP (ha pos pins s σ H _ I h) fun us s1 ⟨vs,H1,I1,r,q⟩=>⟨I1.N9,?_⟩) he hpl
 exact Om F hr hb hd hx I1 r q
end
section
variable {X:Cx}{CX:IJ}{k:Nat}{f C:Addr}{fd:FuncData}{ps ks:List Str}{sp:Sp}{E:XK}{x m:Str}{p pos apos kpos:Pos}{e o:Expr}{es:List Expr}{kws:List Keyword}{te ta:TE}{t tk:TA}{nm:Option Str}
variable {g:List Value->List Value->List Value}{gV:List V->List V->List V}
end
structure aJ(N P:List Str)(sc:Scope):Prop where
 kind:sc.kind = .function
 co:sc.isCoroutine=false
 gen:sc.isGenerator=false
 nd:N.Nodup
 pre:N.take P.length=P
 par:∀ x∈P,sc.names.lookup x=some .local\/sc.names.lookup x=some .cell
 Oo:∀ y∈sc.names,y.2≠.free
theorem yJ{kindOf:Str->Option NameKind}{x:Str}:∀{binds:List (Str×Value)} {m:Str->Option Value},(∀ v,(x,v)∉binds)->bindL kindOf binds m x=m x
 | [],_,_=>rfl
 | (n,v)::r,m,h=>by
   unfold bindL;rw[yJ fun w hw=>h w (List.mem_cons_of_mem _ hw)]
   split
   ·have:x≠n:=by rintro rfl;exact h v List.mem_cons_self
    simp[this]
   ·rfl
theorem yK{kindOf:Str->Option NameKind}{x:Str}:∀{binds:List (Str×Value)} {m:Str->Option Value},(∀ v,(x,v)∉binds)->bindC kindOf binds m x=m x
 | [],_,_=>rfl
 | (n,v)::r,m,h=>by
   unfold bindC;rw[yK fun w hw=>h w (List.mem_cons_of_mem _ hw)]
   split
   ·rfl
   ·have:x≠n:=by rintro rfl;exact h v List.mem_cons_self
    simp[this]
theorem yL{kindOf:Str->Option NameKind}{x:Str}{v:Value}:∀{P:List Str} {vs:List Value} {i:Nat} {m:Str->Option Value},P.Nodup->P[i]?=some x->vs[i]?=some v->kindOf x=some .local->
 bindL kindOf (P.zip vs) m x=some v
 | [],_,_,_,_,h,_,_=>by simp at h
 | _::_,[],_,_,_,_,h,_=>by simp at h
 | p::P,w::vs,0,m,nd,h1,h2,hk=>by
   simp at h1 h2;subst h1;subst h2;show bindL kindOf ((p,w)::P.zip vs) m p=_;unfold bindL;rw[yJ fun v hv=>(List.nodup_cons.mp nd).1 (List.of_mem_zip hv).1,if_pos hk]
   simp
 | p::P,w::vs,i+1,m,nd,h1,h2,hk=>by
   show bindL kindOf ((p,w)::P.zip vs) m x=_;unfold bindL;exact yL (i:=i) (List.nodup_cons.mp nd).2 (by simpa using h1) (by simpa using h2) hk
theorem yM{kindOf:Str->Option NameKind}{x:Str}{v:Value}:∀{P:List Str} {vs:List Value} {i:Nat} {m:Str->Option Value},P.Nodup->P[i]?=some x->vs[i]?=some v->kindOf x≠some .local->
 bindC kindOf (P.zip vs) m x=some v
 | [],_,_,_,_,h,_,_=>by simp at h
 | _::_,[],_,_,_,_,h,_=>by simp at h
 | p::P,w::vs,0,m,nd,h1,h2,hk=>by
   simp at h1 h2;subst h1;subst h2;show bindC kindOf ((p,w)::P.zip vs) m p=_;unfold bindC;rw[yK fun v hv=>(List.nodup_cons.mp nd).1 (List.of_mem_zip hv).1,if_neg hk]
   simp
 | p::P,w::vs,i+1,m,nd,h1,h2,hk=>by
   show bindC kindOf ((p,w)::P.zip vs) m x=_;unfold bindC;exact yM (i:=i) (List.nodup_cons.mp nd).2 (by simpa using h1) (by simpa using h2) hk
def start(N:List Str)(vs:List V):St:=vs.map some++List.replicate (N.length-vs.length) none
def Aa(CX:IJ)(P:Program)(w:World)(K:PySem.W.Frag)(mg:Str->Option Value)(base:Heap)(N:List Str)(qual:Str)(scope:Scope)(f:Addr)(cd:Value)(A:Around)(outer:List Env)(s:Shared)(H:Hp)(E:XK):Cx where
 prog:=P
 w:=w
 K:=K
 mg:=mg
 base:=base
 A:=A.deeper (envOfC qual scope s.heap.objs.size f cd)
 N:=N
 s₀:=s
 H₀:=H
 env:=envOfC qual scope s.heap.objs.size f cd
 outer:=outer
 stack:=envOfC qual scope s.heap.objs.size f cd::outer
 ex:=[]
 calm:=true
 fn:=fun _=>true
 pn:=[]
 xe:=fun e s'=>wpAny (model P w) (A.deeper (envOfC qual scope s.heap.objs.size f cd)) (leaving (envOfC qual scope s.heap.objs.size f cd) e) (fun _ s''=>CX outer H s E e s'') (fun e' s''=>CX outer H s E e' s'') s'
theorem Bv{sc:Scope}{n:Nat}{x:Str}(h:sc.names.lookup x=some .cell):∃ c,(cellsFrom n sc.names []).lookup x=some c:=by
 have q:=PySem.W.cellsFrom_some sc.names n [] (.inl h);exact Option.isSome_iff_exists.mp q
theorem Gy{CX:IJ}{P:Program}{w:World}{K:PySem.W.Frag}{mg:Str->Option Value}{base:Heap}{N ps:List Str}{qual:Str}{scope:Scope}{f:Addr}{cd:Value}{A:Around}{outer:List Env}{s s1:Shared}{H:Hp}{E:XK}{us:List Value}{vs:List V}
 (S:aJ N ps scope) (hd:A.handled=none) (e0:L1 P w K mg base A outer s H) (hl:vs.length=ps.length) (r:Vals vs us)
 (x:InCallC s s.heap.objs.size (bindL (envOfC qual scope s.heap.objs.size f cd).kindOf (ps.zip us) fun _=>none) (cellsFrom (s.heap.objs.size+1) scope.names []) (bindC (envOfC qual scope s.heap.objs.size f cd).kindOf (ps.zip us) fun _=>none) s1) :
 Inv (Aa CX P w K mg base N qual scope f cd A outer s H E) [] (start N vs) H s1:=by
 have hpl:ps.length<=N.length:=by have:=congrArg List.length S.pre;rw[List.length_take]at this;lia
 obtain⟨h1,tk,rfl,hk⟩:=x.done;have VJ:∀ b:Addr,b∉(Aa CX P w K mg base N qual scope f cd A outer s H E).ex:=fun b z=>absurd (show b∈([]:List Addr) from z) (by simp)
 refine⟨⟨e0.mod,S.kind,rfl,rfl,Nat.le_refl _,fun y z c h1 h2=>?_,fun y hy=>?_,fun y c _ h=>?_,fun _=>hd,Around.frames_deeper e0.frames,.inr ⟨rfl,rfl⟩,fun b z=>absurd z (VJ b),e0.bs,e0.Ni,fun b _ _=>VJ b,fun b z=>absurd z (VJ b),e0.funs,e0.N8⟩,
  rfl,e0.bare,Un.kept hk,⟨_,x.toInCall.ns,fun i y v h1 h2 h3=>?_⟩,fun y c h=>⟨_,x.cell y c h⟩,e0.hok.fresh (Nat.le_refl _),fun y c h=>?_,fun p hp=>absurd (show p∈([]:List (Addr×Obj)) from hp) (by simp),e0.hok.kept hk,?_⟩
 ·exact name_of_addr x.apart (PySem.mem_of_lookup h1) (PySem.mem_of_lookup h2)
 ·have hy:scope.names.lookup y=some .cell\/scope.names.lookup y=some .free:=hy;rcases hy with hy|hy
  ·exact Bv hy
  ·exact absurd rfl (S.Oo _ (PySem.mem_of_lookup hy))
 ·exact Nat.le_of_lt (x.above y c (PySem.mem_of_lookup h))
 ·have hi:i<vs.length:=by
   unfold start at h2
   by_cases hi:i<vs.length
   ·exact hi
   ·rw[List.getElem?_append_right (by simpa using hi)]at h2
    rw[List.getElem?_replicate]at h2
    split at h2<;>cases h2
  have ha:vs[i]?=some v:=by
   unfold start at h2;rw[List.getElem?_append_left (by simpa using hi),List.getElem?_map]at h2
   cases e:vs[i]? with
   | none=>rw[e]at h2;cases h2
   | some a=>rw[e]at h2;cases h2;rfl
  obtain⟨u,hu,rv⟩:=r.get ha;have hp:ps[i]?=some y:=by
   rw[<-S.pre,List.getElem?_take_of_lt (by lia)];exact h1
  have ndP:ps.Nodup:=by rw[<-S.pre];exact S.nd.sublist (List.take_sublist _ _)
  refine⟨u,rv,?_⟩;rcases S.par y (List.mem_of_getElem? hp) with k|k
  ·exact .inl ⟨k,yL ndP hp hu k⟩
  ·obtain⟨c,e⟩:=Bv (n:=s.heap.objs.size+1) k;refine .inr ⟨.inl k,c,e,?_⟩;have q:=x.cell y c e;rw[yM ndP hp hu (by show scope.names.lookup y≠_;rw[k];decide)]at q
   exact q
 ·exact e0.hok.fresh (Nat.le_of_lt (x.above y c (PySem.mem_of_lookup h)))
 ·unfold start;show _=N.length;rw[List.length_append,List.length_map,List.length_replicate]
  lia
theorem Jf{CX:IJ}{P:Program}{w:World}{K:PySem.W.Frag}{mg:Str->Option Value}{base:Heap}{k:Nat}{f:Addr}{name qual:Str}{params:Arguments}{body:List Stmt}{scope:Scope}{dV kV doc pm cdv ct oc:Value}{an od:Option Addr}
 {osl:Array (Option Value)} {N ps:List Str} {sp:Sp} (lk:K.lookup f=some ⟨oc,od,.func (PySem.W.fnOf name qual params body scope dV kV doc pm an cdv ct),osl⟩) (hcd:PySem.W.codeIn K cdv qual=true) (S:aJ N ps scope)
 (len:∀ vs H Q E,sp vs H Q E->vs.length=ps.length)
 (hbody:∀(A:Around) (outer:List Env) (s:Shared) (H:Hp) (vs:List V) (Q:VK) (E:XK),gG k (A.deeper (envOfC qual scope s.heap.objs.size f cdv))->sp vs H Q E->
  ∃ t,Bt (Aa CX P w K mg base N qual scope f cdv A outer s H E) body t/\t { nx:=fun _ H'=>Q .gf H',rt:=Q} (start N vs) H) :
 bE P w K mg base CX (k+1) f (PySem.W.fnOf name qual params body scope dV kV doc pm an cdv ct) ps sp:=by
 refine⟨len,fun A outer s H args us vs Q E hr e0 hb r yN=>?_⟩
 have hl:=len _ _ _ _ yN;have KX:K.In s.heap:=e0.mod.TU.keeps fun b o e=>(e0.bs b o e).1
 have lim:s.heap.NoLimit:=e0.mod.nolimit.keeps fun b o e=>(e0.bs b o e).1
 have hkind:∀ y∈ps.zip us,scope.names.lookup y.1=some .local\/(scope.names.lookup y.1=some .cell/\((cellsFrom (s.heap.objs.size+1) scope.names []).lookup y.1).isSome=true):=fun⟨n,v⟩ hy=>by
  rcases S.par n (List.of_mem_zip hy).1 with q|q
  ·exact .inl q
  ·exact .inr ⟨q,PySem.W.cellsFrom_some _ _ _ (.inl q)⟩
 refine codeAny_call_function hr.depth (KX _ _ lk) rfl S.co S.gen rfl (PySem.W.codeRec_of KX hcd) (hb _ _ _ _ ?_);refine wpAny_newFunctionEnv_cells S.kind hkind fun env he s1 x=>?_
 subst he;refine⟨lim.keeps x.toInCall.keep,codeAny_func ?_⟩;obtain⟨t,ht,hq⟩:=hbody A outer s H vs Q E (hr.deeper _) yN;have I:Inv (Aa CX P w K mg base N qual scope f cdv A outer s H E) [] (start N vs) H s1:=Gy S hr.hd e0 hl r x;refine wpAny_mono (ht [] s1 (start N vs) H _ I hq) (fun fl s' hs=>?_) fun e s' hs=>hs
 have fin:∀{σ' : St} {H' : Hp} {v:V} {u:Value},Inv (Aa CX P w K mg base N qual scope f cdv A outer s H E) [] σ' H' s'->RelV v u->Q v H'->CE outer P w H s Q u s' :=
  fun {σ' H' v u} J rv q=>⟨v,H',J.os,J.bare,J.base,J.hok,rv,q⟩
 cases fl with
 | ret u =>
   obtain⟨v,σ',H',J,rv,q⟩:=hs;exact fin J rv q
 | next =>
   obtain⟨σ',H',J,q⟩:=hs;exact fin (v:=V.gf) (u:=Value.none) J rfl q
 | brk =>
   obtain⟨_,_,_,q⟩:=hs;exact False.elim q
 | cont =>
   obtain⟨_,_,_,q⟩:=hs;exact False.elim q
end L2
namespace L2
open PySem PySem.Spec PyProof.Rows
section
variable {X:Cx}{x:Str}{p pos:Pos}{e:Expr}{es:List Expr}{t:TA}{id T:String}{r:List V->Hp->VK->Prop}
def tCB(r:List V->Hp->VK->Prop)(t:TA):TE:=fun σ H Q=>t σ H fun vs H1=>r vs H1 Q
theorem aR(hc:gW X (.builtin id) r)(hg:Gl X x)(hm:X.mg x=none)(hv:bootBuiltins x=some (.builtin id))(ha:PA X (e::es) t)(hn:x≠"__name__":=by decide)(hdb:(x==("__debug__":Str))=false:=by decide)
 (he:starEach (e::es) X.env=(false,eval e X.env)::starEach es X.env:=by rfl) (hpl:(backTo pos (starEach es X.env)).any (·.1)=false:=by rfl):PE X (.Call (.Name x p) (e::es) [] pos) (tCB r t):=by
 intro pins s σ H Q I h;refine wpAny_Call_Name_kw (nK I hg hm hv ?_ hn hdb);exact PyProof.Rows.callWith_builtin1 (dP (ha pos pins s σ H _ I h) fun us s1 ⟨vs,H1,I1,r1,q1⟩=>hc pins s1 σ H1 vs us Q I1 r1 q1) he hpl
theorem cU(hc:gW X (.type T) r)(hg:Gl X x)(hm:X.mg x=none)(hv:bootBuiltins x=some (.type T))(ha:PA X (e::es) t)(hn:x≠"__name__":=by decide)(hdb:(x==("__debug__":Str))=false:=by decide)
 (he:starEach (e::es) X.env=(false,eval e X.env)::starEach es X.env:=by rfl) (hpl:(backTo pos (starEach es X.env)).any (·.1)=false:=by rfl):PE X (.Call (.Name x p) (e::es) [] pos) (tCB r t):=by
 intro pins s σ H Q I h;refine wpAny_Call_Name_kw (nK I hg hm hv ?_ hn hdb);exact PyProof.Rows.callWith_type1 (dP (ha pos pins s σ H _ I h) fun us s1 ⟨vs,H1,I1,r1,q1⟩=>hc pins s1 σ H1 vs us Q I1 r1 q1) he hpl
end
end L2
namespace HT
open PySem PyProof.Rows
def lexLt:List Int->List Int->Bool
 | [],[]=>false
 | [],_::_=>true
 | _::_,[]=>false
 | x::xs,y::ys=>if x=y then lexLt xs ys else decide (x<y)
theorem gY(x y:Int)(xs ys:List Int):lexLt (x::xs) (y::ys)=if x=y then lexLt xs ys else decide (x<y):=rfl
theorem pZ:lexLt [] []=false:=rfl
theorem vH(y:Int)(ys:List Int):lexLt [] (y::ys)=true:=rfl
theorem gH(x:Int)(xs:List Int):lexLt (x::xs) []=false:=rfl
theorem Bw(A:Around)(s:Shared)(a:Int)(t:Tok)(c:Int)(u:Tok):∃ e,SeqAt.EqAt A s (.int a t) (.int c u) e/\(e=true↔a=c) :=
 ⟨(a==c),SeqAt.EqAt.int_int a t c u,by simp⟩
theorem Jg(A:Around)(s:Shared)(a:Int)(t:Tok)(c:Int)(u:Tok)(prog:Program)(w:World)(E:Value->Shared->Prop)(Q:Value->Shared->Prop)(h:Q (.bool (decide (a<c))) s):
 wpAny (model prog w) A (richCompare .Lt (.int a t) (.int c u)) Q E s :=
 (PyProof.Rows.lt_int h:wpAny (model prog w) A (compareOp .Lt (.int a t) (.int c u)) Q E s)
section
open PySem.SeqAt
open PySem.AutoSeq1 (wpAny_loadPart')
open PySem.MeetsSeq PySem.MeetsSeq2 PySem.MeetsSeq3
theorem xV(l b:Addr)(items items2:Array Value)(n n2:Nat)(dd dd2:Option Addr)(sl sl2:Array (Option Value))(ns ms:List Int)(hi:IntsAre items.toList ns)(hj:IntsAre items2.toList ms):
 Meets (Builtin.«tuple.__lt__» ⟨[.ref l,.ref b],[]⟩)
  (fun _ R s=>s.heap.get? l=some { cls:=.type "tuple",dict:=dd,data:=.seq items n,slots:=sl}/\s.heap.get? b=some { cls:=.type "tuple",dict:=dd2,data:=.seq items2 n2,slots:=sl2}/\
   R (.ok (.ret (.bool (lexLt ns ms)))) s) :=
 .of_wp fun prog w A R s h=>by
  obtain⟨hp,g,d,tk,os⟩:=s;obtain⟨hl,hb,h⟩:=h;have f2:=AutoSeq1.sub_tuple_tuple;have z1:items.size=ns.length:=by rw[<-hi.length];simp
  have z2:items2.size=ms.length:=by rw[<-hj.length];simp
  wp_walk using wpAny_loadPart' hl,wpAny_loadPart' hb,wpAny_forIn_list _ (fun rest b s'=>b.1=none/\s' = ⟨hp,g,d,tk,os⟩/\∃(vs ws:List Value) (ns' ms' : List Int),rest=vs.zip ws/\
   IntsAre vs ns'/\IntsAre ws ms'/\ns'.length+items2.size=ms'.length+items.size/\R (.ok (.ret (.bool (lexLt ns' ms')))) ⟨hp,g,d,tk,os⟩) _
  case turn =>
   rintro⟨y,x⟩ rest b s' ⟨hb',rfl,vs,ws,ns',ms',hz,Jh,hwi,hlen,hR⟩;cases Jh with
   | nil=>rw[List.zip_nil_left]at hz;cases hz
   | cons a t hvi' =>
     cases hwi with
     | nil=>rw[List.zip_nil_right]at hz;cases hz
     | cons c u hwi' =>
       rw[List.zip_cons_cons]at hz;injection hz with hyx hrest
       injection hyx with hy hx
       subst hy hx;rw[gY]at hR;simp only[List.length_cons]at hlen;obtain⟨e,he,Ji⟩:=Bw A.in1 ⟨hp,g,d,tk,os⟩ a t c u;refine wpAny_bind (he prog w _ _ ?_);cases e with
       | true =>
         rw[if_pos (Ji.mp rfl)]at hR
         wp_walk
         exact⟨rfl,rfl,_,_,_,_,hrest,hvi',hwi',by lia,hR⟩
       | false =>
         rw[if_neg (fun q=>absurd (Ji.mpr q) Bool.false_ne_true)]at hR
         have QZ:=Jg A.in1 ⟨hp,g,d,tk,os⟩ a t c u prog w
         wp_walk using QZ
         exact⟨_,rfl,by simpa using hR⟩
  case fin =>
   rintro⟨b1,b2⟩ s' ⟨hb',rfl,vs,ws,ns',ms',hz,Jh,hwi,hlen,hR⟩;simp only at hb';subst hb';have hv:lexLt ns' ms' = decide (items.size<items2.size):=by
    cases Jh with
    | nil =>
      cases hwi with
      | nil =>
        simp only[List.length_nil]at hlen;rw[pZ];exact(decide_eq_false (by lia)).symm
      | cons c u hw =>
        simp only[List.length_nil,List.length_cons]at hlen;rw[vH];exact(decide_eq_true (by lia)).symm
    | cons a t hv =>
      cases hwi with
      | nil =>
        simp only[List.length_nil,List.length_cons]at hlen;rw[gH];exact(decide_eq_false (by lia)).symm
      | cons c u hw =>
        rw[List.zip_cons_cons]at hz;cases hz
   rw[hv]at hR
   wp_walk
   exact⟨_,rfl,by simpa[Builtin.Tuple.tupleCompareSizes]using hR⟩
  case h =>
   exact⟨rfl,rfl,items.toList,items2.toList,ns,ms,rfl,hi,hj,by lia,h⟩
end
section
variable {prog:Program}{w:World}{A:Around}{E:Value->Shared->Prop}{s:Shared}
theorem DN{l b:Addr}{items items2:Array Value}{ns ms:List Int}{Q:Value->Shared->Prop}(hl:IsTup s.heap l items)(hb:IsTup s.heap b items2)(hi:IntsAre items.toList ns)(hj:IntsAre items2.toList ms)
 (hu:A.units<cLine) (h:Q (.bool (lexLt ns ms)) s):wpAny (model prog w) A (compareOp .Lt (.ref l) (.ref b)) Q E s:=by
 obtain⟨⟨cls,dd,data,sl⟩,ho,hc,n,hd⟩:=id hl;obtain⟨⟨Q0,dd2,data2,sl2⟩,ho2,hc2,n2,hd2⟩:=id hb;simp only at hc hd hc2 hd2;subst hc hd hc2 hd2;exact richCompare_meets_room (op:=.Lt) ⟨_,ho,rfl⟩ ⟨_,ho2,rfl⟩ PySem.F.slot_tuple_lt PySem.F.entry_tuple_lt (PySem.F.args_tuple_lt_2 _ _) (xV l b items items2 n n2 dd dd2 sl sl2 ns ms hi hj)
  ⟨ho,ho2,show Value.bool (lexLt ns ms)≠Value.notImplemented/\Q (.bool (lexLt ns ms)) s from⟨(fun x=>nomatch x),h⟩⟩ hu
def uH(n d:Nat):Option Int->Nat
 | none=>d
 | some v=>if v<0 then(v+(n:Int)).toNat else min v.toNat n
theorem Jj(n d:Nat):uH n d none=d:=rfl
theorem L4(n d k:Nat):uH n d (some (k:Int))=min k n:=by
 show(if(k:Int)<0 then((k:Int)+(n:Int)).toNat else min (k:Int).toNat n)=min k n
 rw[if_neg (by lia),Int.toNat_natCast]
end
end HT
namespace L2
open PySem PySem.Spec PyProof.Rows
abbrev TO:=St->Hp->(Option Int->Hp->Prop)->Prop
def PO(X:Cx)(e:Option Expr)(t:TO):Prop :=
 ∀(pins:List (Addr×Obj)) (s:Shared) (σ:St) (H:Hp) (Q:Option Int->Hp->Prop),Inv X pins σ H s->t σ H Q->
  wpAny (model X.prog X.w) X.A (evalPart e X.env) (fun u s'=>∃ o H',Inv X pins σ H' s'/\IsPart u o/\Q o H') X.xe s
def L5:TO:=fun _ H Q=>Q none H
def Q2(t:TE):TO:=fun σ H Q=>t σ H fun x H1=>∃ i,x = .int i/\Q (some i) H1
theorem intsAre_of{ns:List Int}:∀{us:List Value},Vals (ns.map V.int) us->IntsAre us ns:=by
 induction ns with
 | nil=>intro us r;rw[List.map_nil]at r;cases r;exact .nil
 | cons n ns ih =>
   intro us r;rw[List.map_cons]at r;cases r with
   | cons r1 r2 =>
     obtain⟨t,e⟩:=r1;subst e;exact .cons n t (ih r2)
section
variable {X:Cx}{e:Expr}{te:TE}{lo hi:Option Expr}{tl th:TO}{pos p2:Pos}
theorem Ab:PO X none L5:=by
 intro pins s σ H Q I h;rw[evalPart_none];exact wpAny_pure ⟨none,H,I,.none,h⟩
theorem qT(h:PE X e te):PO X (some e) (Q2 te):=by
 intro pins s σ H Q I hw;rw[evalPart_some];refine dP (h pins s σ H _ I hw) fun u s1 ⟨x,H1,I1,r1,q1⟩=>?_
 obtain⟨i,rfl,q⟩:=q1;obtain⟨t,rfl⟩:=r1;exact⟨some i,H1,I1,.int i t,q⟩
def VL(X:Cx)(r:V->Option Int->Option Int->Hp->VK->Prop):Prop :=
 ∀(pins:List (Addr×Obj)) (s:Shared) (σ:St) (H:Hp) (x:V) (v vl vu:Value) (lo hi:Option Int) (sl:Addr) (Q:VK),Inv X pins σ H s->RelV x v->s.heap.IsSliceOf sl vl vu .none->IsPart vl lo->IsPart vu hi->r x lo hi H Q->
  ∃ T id,typeLookup (.type T) "__getitem__"=pure (some (.builtin id))/\s.TypeIs v T/\wpAny (model X.prog X.w) X.A (getItem v (.ref sl)) (EP X pins σ Q) X.xe s
def tSl(r:V->Option Int->Option Int->Hp->VK->Prop)(te:TE)(tl th:TO):TE:=fun σ H Q=>te σ H fun x H1=>tl σ H1 fun l H2=>th σ H2 fun u H3=>r x l u H3 Q
theorem qU{r:V->Option Int->Option Int->Hp->VK->Prop}(hr:VL X r)(he:PE X e te)(hl:PO X lo tl)(hu:PO X hi th):PE X (.Subscript e (.Slice lo hi none p2) pos) (tSl r te tl th):=by
 intro pins s σ H Q I h;refine Subscript_ (dP (he pins s σ H _ I h) fun v s1 ⟨x,H1,I1,r1,q1⟩=>?_)
 refine wpAny_Slice (dP (hl pins s1 σ H1 _ I1 q1) fun vl s2 ⟨l,H2,I2,pl,q2⟩=>dP (hu pins s2 σ H2 _ I2 q2) fun vu s3 ⟨u,H3,I3,pu,q3⟩=>?_)
 rw[evalPart_none];refine wpAny_pure ?_;have I4:Inv X pins σ H3 { s3 with heap:=s3.heap.push { cls:=.type "slice",data:=.fields #[vl,vu,.none]}}:=I3.kept (t':=s3.toks) fun b ob q=>Heap.get?_push_of_some _ q
 obtain⟨T,id,hT,ht,hg⟩:=hr pins { s3 with heap:=s3.heap.push { cls:=.type "slice",data:=.fields #[vl,vu,.none]}} σ H3 x v vl vu l u s3.heap.objs.size Q I4 r1 (Heap.IsSliceOf.new ..) pl pu q3
 show wpAny (model X.prog X.w) X.A (subscriptTail e (.Slice lo hi none p2) v (.ref s3.heap.objs.size)) (EP X pins σ Q) X.xe { s3 with heap:=s3.heap.push { cls:=.type "slice",data:=.fields #[vl,vu,.none]}}
 exact tail_any (ops:=[.ref s3.heap.objs.size,v]) ht hT hg (by with_unfolding_all rfl)
def xW(xs:List V)(lo hi:Option Int):List V:=(xs.drop (HT.uH xs.length 0 lo)).take (HT.uH xs.length xs.length hi-HT.uH xs.length 0 lo)
theorem Bx(xs:List V)(lo hi:Option Int):(xW xs lo hi).length<=xs.length:=by
 unfold xW;rw[List.length_take,List.length_drop]
 lia
end
end L2
namespace L2
open PySem PySem.Spec PyProof.Rows
def L6(n:Nat)(i:Int):Option Nat:=if 0<=i then(if i<n then some i.toNat else none) else if -(n:Int)<=i then some (i+n).toNat else none
def IK{α:Type}(xs:List α)(i:Int):Option α:=(L6 xs.length i).bind fun j=>xs[j]?
theorem Fl{n:Nat}{i:Int}{j:Nat}(h:L6 n i=some j):seqIndex? i n=some j/\j<n/\-(n:Int)<=i/\i<n:=by
 unfold L6 at h
 by_cases h0:0<=i
 ·rw[if_pos h0]at h
  by_cases h1:i<n
  ·rw[if_pos h1]at h;have e:i.toNat=j:=Option.some.inj h;exact⟨by rw[seqIndex_of h0 h1,e],by lia,by lia,h1⟩
  ·rw[if_neg h1]at h;cases h
 ·rw[if_neg h0]at h
  by_cases h1 : -(n:Int)<=i
  ·rw[if_pos h1]at h;have e:(i+n).toNat=j:=Option.some.inj h;exact⟨by rw[seqIndex_neg (by lia) h1,e],by lia,h1,by lia⟩
  ·rw[if_neg h1]at h;cases h
theorem Fo{α:Type}{xs:List α}{i:Int}{v:α}(h:IK xs i=some v):∃ j,seqIndex? i xs.length=some j/\xs[j]?=some v/\j<xs.length/\-(xs.length:Int)<=i/\i<xs.length:=by
 unfold IK at h;cases e:L6 xs.length i with
 | none=>rw[e]at h;cases h
 | some j =>
   rw[e]at h;obtain⟨h1,h2,h3,h4⟩:=Fl e;exact⟨j,h1,h,h2,h3,h4⟩
theorem ao{α:Type}{xs:List α}{j:Nat}{v:α}(h:xs[j]?=some v):IK xs (j:Int)=some v:=by
 have hj:j<xs.length:=(List.getElem?_eq_some_iff.mp h).1;have e:L6 xs.length (j:Int)=some j:=by
  unfold L6;rw[if_pos (by lia),if_pos (by lia)];simp
 unfold IK;rw[e];exact h
def L7(b:Expr):Prop:=∀ o i,subscripted b false o i=operate [o,i] (getItem o i)
def Q3(X:Cx)(r:R2):Prop :=
 ∀(value slice:Expr) (pins:List (Addr×Obj)) (s:Shared) (σ:St) (H:Hp) (x y:V) (v u:Value) (Q:VK),Inv X pins σ H s->RelV x v->RelV y u->r x y H Q->
  subscripted slice false v u=operate [v,u] (getItem v u)->wpAny (model X.prog X.w) X.A (subscriptTail value slice v u) (EP X pins σ Q) X.xe s
def VM(X:Cx)(id:String)(r:V->List V->Hp->VK->Prop):Prop :=
 ∀(pins:List (Addr×Obj)) (s:Shared) (σ:St) (H:Hp) (x:V) (xs:List V) (v:Value) (us:List Value) (Q:VK),Inv X pins σ H s->RelV x v->Vals xs us->r x xs H Q->
  wpAny (model X.prog X.w) X.A (call (.builtin id) (v::us)) (EP X pins σ Q) X.xe s
section
variable {X:Cx}{a b:Expr}{ta tb:TE}{pos:Pos}
theorem aB{r:R2}(hr:Q3 X r)(ha:PE X a ta)(hb:PE X b tb)(hs:L7 b):PE X (.Subscript a b pos) (T4 r ta tb):=by
 intro pins s σ H Q I h;exact Subscript_ (Oh ha hb I h fun v u s2 x y H2 I2 rx ry q=>hr a b pins s2 σ H2 x y v u Q I2 rx ry q (hs _ _))
def Q4(K:PySem.W.Frag):R2:=fun x y H Q=>∃ p xs i v,x = .ref p/\y = .int i/\aS K H p xs/\IK xs i=some v/\Q v H
def Q5(K:PySem.W.Frag):R2:=fun x y H Q=>∃ p xs i v,x = .ref p/\y = .int i/\aX K H p xs/\IK xs i=some v/\Q v H
theorem L8:Q3 X (Q4 X.K):=by
 intro value slice pins s σ H x y v u Q I rx ry h hs;obtain⟨p,xs,i,z,rfl,rfl,hq,he,q⟩:=h;cases rx;obtain⟨t,rfl⟩:=ry;obtain⟨its,r,pl,hz⟩:=I.list hq;obtain⟨j,h1,h2,h3,h4,h5⟩:=Fo he;obtain⟨w,ew,rw'⟩:=r.get h2;have hl:=r.length;have hn:=vG;have fin:EP X pins σ Q w s:=⟨z,H,I,rw',q⟩
 by_cases h0:0<=i
 ·have hj:i.toNat=j:=by
   rw[seqIndex_of h0 h5]at h1;exact Option.some.inj h1
  exact item_listR pl.isList h0 (by lia) (by rw[hj];simpa using ew) fin hs
 ·have hj:(i+(its.toArray.size:Int)).toNat=j:=by
   rw[seqIndex_neg (by lia) h4]at h1
   rw[List.size_toArray,<-hl];exact Option.some.inj h1
  exact subscriptTail_builtinR (x:=w) pl.isList.typeIs slot_list_getitem.lookup
   (wpAny_getItem_list_neg (Q:=fun r s'=>r=w/\EP X pins σ Q r s') pl.isList (by lia) (by rw[List.size_toArray]<;>lia) (by lia) (by rw[hj];simpa using ew) ⟨rfl,fin⟩) hs
theorem Oq:Q3 X (Q5 X.K):=by
 intro value slice pins s σ H x y v u Q I rx ry h hs;obtain⟨p,xs,i,z,rfl,rfl,hq,he,q⟩:=h;cases rx;obtain⟨t,rfl⟩:=ry;obtain⟨its,r,pl,hz⟩:=I.tuple hq;obtain⟨j,h1,h2,h3,h4,h5⟩:=Fo he;obtain⟨w,ew,rw'⟩:=r.get h2;have hl:=r.length;have hn:=vG;have fin:EP X pins σ Q w s:=⟨z,H,I,rw',q⟩;exact subscriptTail_builtinR (x:=w) pl.typeIs slot_tuple_getitem.lookup
  (getItem_tuple (j:=j) (Q:=fun r s'=>r=w/\EP X pins σ Q r s') pl (by lia) (by lia) (by rw[List.size_toArray,<-hl];exact h1) (by simpa using ew) ⟨rfl,fin⟩) hs
theorem DO(its:List Value)(n j:Nat)(u:Value):Obj.mapSeq (·.setIfInBounds j u) { cls:=.type "list",data:=.seq its.toArray n}={ cls:=.type "list",data:=.seq (its.set j u).toArray n}:=by
 simp[Obj.mapSeq]
theorem Inv.lst{pins:List (Addr×Obj)}{σ:St}{H:Hp}{s:Shared}{p:Addr}{xs:List V}(I:Inv X pins σ H s)(h:H p=some (.lst xs)):
 ∃(its:List Value) (n:Nat),Vals xs its/\s.heap.get? p=some { cls:=.type "list",data:=.seq its.toArray n}/\xs.length<=sizeLine:=by
 obtain⟨z,its,n,r,e⟩:=I.hok p _ h;exact⟨its,n,r,e,z⟩
theorem Inv.Ot{pins:List (Addr×Obj)}{σ:St}{H:Hp}{s:Shared}{p:Addr}{xs ys:List V}{its its' : List Value}{n n' : Nat}{f:Obj->Obj}(I:Inv X pins σ H s)(h:H p=some (.lst xs))
 (ho:s.heap.get? p=some { cls:=.type "list",data:=.seq its.toArray n}) (hf:f { cls:=.type "list",data:=.seq its.toArray n}={ cls:=.type "list",data:=.seq its'.toArray n'}) (r:Vals ys its') (hz:ys.length<=sizeLine) (t:Nat) :
 Inv X pins σ (upd H p (.lst ys)) { s with heap:=s.heap.update p f,toks:=t}:=by
 have e:(s.heap.update p f).get? p=some { cls:=.type "list",data:=.seq its'.toArray n'}:=by
  rw[Heap.get?_update_self f ho (by rw[hf]<;>rfl),hf]
 refine I.write (x:=p) (e:=p) (by rw[h];trivial) (.inl rfl) (fun b u hb q=>(Heap.get?_update_other _ _ (Ne.symm hb)).trans q) ⟨_,e⟩ ?_
 exact⟨hz,its',n',r,e⟩
def Q6:V->V->V->Hp->(Hp->Prop)->Prop:=fun o i v H Q=>∃ p xs k j,o = .ref p/\i = .int k/\H p=some (.lst xs)/\L6 xs.length k=some j/\Q (upd H p (.lst (xs.set j v)))
theorem set_list:Oe X Q6:=by
 intro pins s σ H o i v ov iv u Q I ro ri rv h;obtain⟨p,xs,k,j,rfl,rfl,hp,hj,q⟩:=h;cases ro;obtain⟨t,rfl⟩:=ri;obtain⟨its,n,r,ho,hz⟩:=I.lst hp;obtain⟨h1,h2,h3,h4⟩:=Fl hj;have hl:=r.length;have hn:=vG;have I' : Inv X pins σ (upd H p (.lst (xs.set j v))) { s with heap:=s.heap.update p (Obj.mapSeq (·.setIfInBounds j u))} :=
  I.Ot hp ho (DO its n j u) (r.set rv j) (by rw[List.length_set];exact hz) s.toks
 by_cases h0:0<=k
 ·have hk:k.toNat=j:=by
   rw[seqIndex_of h0 h4]at h1;exact Option.some.inj h1
  exact PySem.W.ki_setAt ho h0 (by lia) (by rw[List.size_toArray,<-hl];exact h4) (by rw[hk];exact⟨_,I',q⟩)
 ·have hk:(k+(its.toArray.size:Int)).toNat=j:=by
   rw[seqIndex_neg (by lia) h3]at h1
   rw[List.size_toArray,<-hl];exact Option.some.inj h1
  exact PySem.W.ki_setBack ho (by lia) (by rw[List.size_toArray,<-hl];exact h3) (by lia) (by rw[hk];exact⟨_,I',q⟩)
theorem Ac(lo hi:Option Int)(n:Nat):(sliceBounds lo hi none n).1=((HT.uH n 0 lo:Nat):Int)/\(sliceBounds lo hi none n).2.1=((HT.uH n n hi:Nat):Int)/\(sliceBounds lo hi none n).2.2=1:=by
 refine⟨?_,?_,rfl⟩
 ·cases lo with
  | none=>simp[sliceBounds,HT.uH]
  | some i =>
    simp only[sliceBounds,HT.uH,Option.getD_none,show(1:Int) > 0 by decide,if_true]
    by_cases h:i<0
    ·simp only[h,if_true]<;>lia
    ·simp only[h,if_false]<;>lia
 ·cases hi with
  | none=>simp[sliceBounds,HT.uH]
  | some i =>
    simp only[sliceBounds,HT.uH,Option.getD_none,show(1:Int) > 0 by decide,if_true]
    by_cases h:i<0
    ·simp only[h,if_true]<;>lia
    ·simp only[h,if_false]<;>lia
theorem xX(its:List Value)(lo hi:Option Int):slicePick its.toArray lo hi none=((its.drop (HT.uH its.length 0 lo)).take (HT.uH its.length its.length hi-HT.uH its.length 0 lo)).toArray:=by
 obtain⟨h1,h2,h3⟩:=Ac lo hi its.toArray.size;unfold slicePick;rw[h1,h2,h3];simp only[sliceRange_one,pick_run,List.size_toArray]<;>rfl
def Q7(K:PySem.W.Frag):V->Option Int->Option Int->Hp->VK->Prop:=fun x lo hi H Q=>∃ a xs,x = .ref a/\aS K H a xs/\∀ p,H p=none->Q (.ref p) (upd H p (.lst (xW xs lo hi)))
theorem Ma:VL X (Q7 X.K):=by
 intro pins s σ H x v vl vu lo hi sl Q I rx hs pl pu h;obtain⟨a,xs,rfl,hx,q⟩:=h;cases rx;obtain⟨its,r,ht,hz⟩:=I.list hx;have hlen:=r.length;refine⟨"list",_,slot_list_getitem.lookup,ht.isList.typeIs,?_⟩;refine wpAny_getItem_list_slice ht.isList hs pl pu .none (by simp) ?_ (by rw[List.size_toArray]<;>lia)
 rw[xX,<-hlen];refine⟨.ref s.heap.objs.size,_,I.laid (t':=s.toks) (o:=.lst (xW xs lo hi)) (fun b ob q=>Heap.get?_push_of_some _ q) (Nat.le_refl _) ?_,rfl,q _ (I.hok.fresh (Nat.le_refl _))⟩
 exact⟨Nat.le_trans (Bx xs lo hi) hz,_,0,(r.drop (HT.uH xs.length 0 lo)).take (HT.uH xs.length xs.length hi-HT.uH xs.length 0 lo),Heap.get?_push_size _ rfl⟩
def qV:V->Bool
 | .gf=>true
 | .bl _=>true
 | .int _=>true
 | .str _=>true
 | _=>false
def Mb:V->V->Bool
 | .gf,.gf=>true
 | .bl a,.bl b=>a==b
 | .bl a,.int b=>(if a then 1 else 0)==b
 | .int a,.bl b=>a==(if b then 1 else 0)
 | .int a,.int b=>a==b
 | .str a,.str b=>a==b
 | _,_=>false
theorem Ou{A:Around}{s:Shared}{y x:V}{u v:Value}(ry:RelV y u)(rx:RelV x v)(fy:qV y=true)(fx:qV x=true):SeqAt.EqAt A s u v (Mb y x):=by
 cases y with
 | gf =>
   cases ry;cases x with
   | gf=>cases rx;exact SeqAt.EqAt.same _
   | bl b=>cases rx;exact SeqAt.EqAt.none_bool b
   | int b=>obtain⟨t,rfl⟩:=rx;exact SeqAt.EqAt.none_int b t
   | str b=>obtain⟨t,rfl⟩:=rx;exact SeqAt.EqAt.none_str b t
   | _=>exact absurd (show false=true from fx) Bool.false_ne_true
 | bl a =>
   cases ry;cases x with
   | gf=>cases rx;exact SeqAt.EqAt.bool_none a
   | bl b=>cases rx;exact SeqAt.EqAt.bool_bool a b
   | int b=>obtain⟨t,rfl⟩:=rx;exact SeqAt.EqAt.bool_int a b t
   | str b=>obtain⟨t,rfl⟩:=rx;exact SeqAt.EqAt.bool_str a b t
   | _=>exact absurd (show false=true from fx) Bool.false_ne_true
 | int a =>
   obtain⟨t',rfl⟩:=ry;cases x with
   | gf=>cases rx;exact SeqAt.EqAt.int_none a t'
   | bl b=>cases rx;exact SeqAt.EqAt.int_bool a t' b
   | int b=>obtain⟨t,rfl⟩:=rx;exact SeqAt.EqAt.int_int a t' b t
   | str b=>obtain⟨t,rfl⟩:=rx;exact SeqAt.EqAt.int_str a t' b t
   | _=>exact absurd (show false=true from fx) Bool.false_ne_true
 | str a =>
   obtain⟨t',rfl⟩:=ry;cases x with
   | gf=>cases rx;exact SeqAt.EqAt.str_none a t'
   | bl b=>cases rx;exact SeqAt.EqAt.str_bool a t' b
   | int b=>obtain⟨t,rfl⟩:=rx;exact SeqAt.EqAt.str_int a t' b t
   | str b=>obtain⟨t,rfl⟩:=rx;exact SeqAt.EqAt.str_str a t' b t
   | _=>exact absurd (show false=true from fx) Bool.false_ne_true
 | _=>exact absurd (show false=true from fy) Bool.false_ne_true
def DQ(x:V)(u:Value):Bool:=match u with
 | .none=>Mb .gf x
 | .bool b=>Mb (.bl b) x
 | .int i _=>Mb (.int i) x
 | .str z _=>Mb (.str z) x
 | _=>false
theorem Jk{x y:V}{u:Value}(r:RelV y u)(f:qV y=true):DQ x u=Mb y x:=by
 cases y with
 | gf=>cases r;rfl
 | bl b=>cases r;rfl
 | int i=>obtain⟨t,rfl⟩:=r;rfl
 | str z=>obtain⟨t,rfl⟩:=r;rfl
 | _=>exact absurd (show false=true from f) Bool.false_ne_true
theorem qW{x:V}:∀{xs:List V} {us:List Value},Vals xs us->xs.all qV=true->us.any (DQ x)=xs.any fun y=>Mb y x
 | _,_,.nil,_=>rfl
 | y::xs,u::us,.cons r t,f=>by
   rw[List.all_cons,Bool.and_eq_true]at f;rw[List.any_cons,List.any_cons,Jk r f.1,qW t f.2]
theorem nO{A:Around}{s:Shared}{x:V}{v:Value}(rx:RelV x v)(fx:qV x=true):∀{xs:List V} {us:List Value},Vals xs us->xs.all qV=true->∀ u∈us,SeqAt.EqAt A s u v (DQ x u)
 | _,_,.nil,_=>fun u hu=>by cases hu
 | y::xs,u::us,.cons r t,f=>fun u' hu=>by
   rw[List.all_cons,Bool.and_eq_true]at f;rcases List.mem_cons.mp hu with rfl|hu
   ·rw[Jk r f.1];exact Ou r rx f.1 fx
   ·exact nO rx fx t f.2 u' hu
def Nm(x:V)(xs:List V):Bool:=xs.any fun y=>Mb y x
def T5(K:PySem.W.Frag)(neg:Bool):R2:=fun x y H Q=>∃ p xs,y = .ref p/\(aS K H p xs\/aX K H p xs)/\qV x=true/\xs.all qV=true/\Q (.bl (if neg then !Nm x xs else Nm x xs)) H
theorem Gz:nF X (compareOp .In) (T5 X.K false):=by
 intro pins s σ H x y v u Q I rx ry h;obtain⟨p,xs,rfl,hq,fx,fs,q⟩:=h;cases ry;rcases hq with hq|hq
 ·obtain⟨its,r,pl,hz⟩:=I.list hq;refine SeqAt.in_listAt (DQ x) pl.isList (fun w hw=>nO rx fx r fs w (by simpa using hw)) ⟨.bl _,H,I,rfl,?_⟩
  rw[show its.toArray.any (DQ x)=its.any (DQ x) by simp,qW r fs]
  exact q
 ·obtain⟨its,r,pl,hz⟩:=I.tuple hq;refine SeqAt.in_tupleAt (DQ x) pl (fun w hw=>nO rx fx r fs w (by simpa using hw)) ⟨.bl _,H,I,rfl,?_⟩
  rw[show its.toArray.any (DQ x)=its.any (DQ x) by simp,qW r fs]
  exact q
theorem Ad:nF X (compareOp .NotIn) (T5 X.K true):=by
 intro pins s σ H x y v u Q I rx ry h;obtain⟨p,xs,rfl,hq,fx,fs,q⟩:=h;cases ry;rcases hq with hq|hq
 ·obtain⟨its,r,pl,hz⟩:=I.list hq;refine SeqAt.notIn_listAt (DQ x) pl.isList (fun w hw=>nO rx fx r fs w (by simpa using hw)) ⟨.bl _,H,I,rfl,?_⟩
  rw[show its.toArray.any (DQ x)=its.any (DQ x) by simp,qW r fs]
  exact q
 ·obtain⟨its,r,pl,hz⟩:=I.tuple hq;refine SeqAt.notIn_tupleAt (DQ x) pl (fun w hw=>nO rx fx r fs w (by simpa using hw)) ⟨.bl _,H,I,rfl,?_⟩
  rw[show its.toArray.any (DQ x)=its.any (DQ x) by simp,qW r fs]
  exact q
theorem Ae:gW X (.builtin "len") (fun xs H Q=>∃ p ys,xs=[.ref p]/\(aS X.K H p ys\/aX X.K H p ys)/\Q (.int ys.length) H):=by
 intro pins s σ H xs us Q I r h;obtain⟨p,ys,rfl,hq,q⟩:=h;obtain⟨u,rfl,rx⟩:=vals1 r;cases rx;have hn:=vG;rcases hq with hq|hq
 ·obtain⟨its,r',pl,hz⟩:=I.list hq;have hlen:=r'.length;exact Calls.call_len_list pl.isList (by simp only[List.size_toArray]<;>lia) ⟨.int ys.length,H,I.tok _,⟨s.toks+1,by rw[List.size_toArray,hlen]⟩,q⟩
 ·obtain⟨its,r',pl,hz⟩:=I.tuple hq;have hlen:=r'.length;exact len_tuple pl (by simp only[List.size_toArray]<;>lia) ⟨.int ys.length,H,I.tok _,⟨s.toks+1,by rw[List.size_toArray,hlen]⟩,q⟩
theorem xY:gW X (.type "tuple") (fun xs H Q=>∃ p ys,xs=[.ref p]/\((aS X.K H p ys/\∀ l,H l=none->Q (.ref l) (upd H l (.tup ys)))\/(aX X.K H p ys/\Q (.ref p) H))):=by
 intro pins s σ H xs us Q I r h;obtain⟨p,ys,rfl,h⟩:=h;obtain⟨u,rfl,rx⟩:=vals1 r;cases rx;rcases h with⟨hq,q⟩|⟨hq,q⟩
 ·obtain⟨its,r',pl,hz⟩:=I.list hq;have hlen:=r'.length;refine call_tuple_list pl.isList (fun h' kp=>?_) (by simp only[List.size_toArray]<;>lia)
  have I1:Inv X pins σ H { s with heap:=h'}:=I.kept (t':=s.toks) kp
  have I2:Inv X pins σ (upd H h'.objs.size (.tup ys)) { s with heap:=h'.push { cls:=.type "tuple",data:=.seq its.toArray}} :=
   I1.laid (t':=s.toks) (fun b o e=>Heap.get?_push_of_some _ e) (Nat.le_refl _) (show bI X.prog X.w _ _ _ (.tup ys) from⟨hz,its,r',IsTup.new _ _⟩)
  exact⟨.ref h'.objs.size,_,I2,rfl,q _ (I1.hok.fresh (Nat.le_refl _))⟩
 ·obtain⟨its,r',pl,hz⟩:=I.tuple hq;exact call_tuple_same pl ⟨.ref p,H,I,rfl,q⟩
def VN(K:PySem.W.Frag)(T:String)(x:V)(H:Hp):Prop:=match x with
 | .str _=>T="str"
 | .int _=>T="int"
 | .ref p=>(T="list"/\∃ xs,aS K H p xs)\/(T="tuple"/\∃ o,K.lookup p=some o/\o.cls = .type "tuple"/\o.dict=none)\/
  (T="dict"/\((∃ kvs,H p=some (.dK kvs))\/∃ kvs,H p=some (.dT kvs)))\/(T="set"/\∃ S n,H p=some (.set S n))
 | _=>False
theorem Jl{pins:List (Addr×Obj)}{σ:St}{H:Hp}{s:Shared}{T:String}{x:V}{v:Value}(I:Inv X pins σ H s)(r:RelV x v)(ty:VN X.K T x H):
 s.TypeIs v T/\∀ a,v = .ref a->∃ ob,s.heap.get? a=some ob/\ob.dict=none:=by
 cases x with
 | str z =>
   obtain⟨t,rfl⟩:=r;cases(show T="str" from ty)
   exact⟨typeIs_str s z t,fun _ e=>nomatch e⟩
 | int i =>
   obtain⟨t,rfl⟩:=r;cases(show T="int" from ty)
   exact⟨typeIs_int s i t,fun _ e=>nomatch e⟩
 | ref p =>
   cases r;rcases ty with⟨rfl,xs,hq⟩|⟨rfl,o,hk,hc,hd⟩|⟨rfl,hk⟩|⟨rfl,S,n,hk⟩
   ·obtain⟨its,_,pl,_⟩:=I.list hq;refine⟨pl.isList.typeIs,fun a e=>?_⟩
    cases e;obtain⟨o,n,e,c,hd,_⟩:=pl;exact⟨o,e,hd⟩
   ·refine⟨⟨o,I.N9 p o hk,hc⟩,fun a e=>?_⟩
    cases e;exact⟨o,I.N9 _ o hk,hd⟩
   ·have z:∃ o,s.heap.get? p=some o/\o.ExactDict:=by
     rcases hk with⟨kvs,hk⟩|⟨kvs,hk⟩
     ·obtain⟨_,_,_,_,o,_,_,e,ex,_⟩:=I.hok p _ hk;exact⟨o,e,ex⟩
     ·obtain⟨_,_,_,_,o,_,_,e,ex,_⟩:=I.hok p _ hk;exact⟨o,e,ex⟩
    obtain⟨o,e,ex⟩:=z;refine⟨⟨o,e,ex.1⟩,fun a e2=>?_⟩
    cases e2;exact⟨o,e,ex.2.1⟩
   ·obtain⟨o,_,_,_,e,ex,_⟩:=I.hok p _ hk;refine⟨⟨o,e,ex.1⟩,fun a e2=>?_⟩
    cases e2;exact⟨o,e,ex.2.1⟩
 | _=>exact False.elim ty
def VO(K:PySem.W.Frag)(T:String)(r:V->List V->Hp->VK->Prop)(to:TE):TE:=fun σ H Q=>to σ H fun x H1=>VN K T x H1/\r x [] H1 Q
def VP(K:PySem.W.Frag)(T:String)(r:V->List V->Hp->VK->Prop)(to:TE)(t:TA):TE:=fun σ H Q=>to σ H fun x H1=>VN K T x H1/\t σ H1 fun xs H2=>r x xs H2 Q
variable {o e:Expr}{es:List Expr}{to:TE}{t:TA}{name:Str}{apos cpos:Pos}{T id:String}{r:V->List V->Hp->VK->Prop}
theorem Jm(pa:PlainAttrs T)(slot:Slot T name id)(hty:typeOf (.builtin id)=pure (.type "method_descriptor"))(hm:VM X id r)(ho:PE X o to)
 (hbase:attributeBase o name X.env (eval o X.env)=eval o X.env:=by rfl) (hline:(apos.endLine==cpos.line)=true:=by rfl):PE X (.Call (.Attribute o name apos) [] [] cpos) (VO X.K T r to):=by
 intro pins s σ H Q I h;refine wpAny_Call_method0_late hbase hline (dP (ho pins s σ H _ I h) fun v s1 ⟨x,H1,I1,r1,ty,q1⟩=>?_)
 obtain⟨h1,h2⟩:=Jl I1 r1 ty;exact⟨T,id,pa,slot,hty,h1,h2,Calls.callWith_builtin rfl (PySem.evalArgs_none (hm pins s1 σ H1 x [] v [] Q I1 r1 .nil q1))⟩
theorem qX(pa:PlainAttrs T)(slot:Slot T name id)(hty:typeOf (.builtin id)=pure (.type "method_descriptor"))(hm:VM X id r)(ho:PE X o to)(ha:PA X (e::es) t)
 (hbase:attributeBase o name X.env (eval o X.env)=eval o X.env:=by rfl)
 (hfew:((backTo cpos (starEach (e::es) X.env)).all (fun x=>!x.1)&&(backToKw cpos (keywordEach [] X.env)).all (fun x=>x.1.isSome)
  && decide ((e::es).length+([]:List Keyword).length+(if([]:List Keyword).isEmpty then 0 else 1)<30))=true:=by rfl)
 (hline:(apos.endLine==cpos.line)=true:=by rfl) (hs:starEach (e::es) X.env=(false,eval e X.env)::starEach es X.env:=by rfl) (hplain:(backTo cpos (starEach es X.env)).any (·.1)=false:=by rfl) :
 PE X (.Call (.Attribute o name apos) (e::es) [] cpos) (VP X.K T r to t):=by
 intro pins s σ H Q I h;refine wpAny_Call_method_late hbase hfew hline rfl (dP (ho pins s σ H _ I h) fun v s1 ⟨x,H1,I1,r1,ty,q1⟩=>?_)
 obtain⟨h1,h2⟩:=Jl I1 r1 ty;refine⟨T,id,pa,slot,hty,h1,h2,?_⟩;have hA:=ha cpos pins s1 σ H1 _ I1 q1;rw[hs]at hA ⊢;refine Calls.callWith_builtin (by show(false || (backTo cpos (starEach es X.env)).any (·.1))=false;rw[hplain]<;>rfl) (Calls.evalArgs_plain ?_)
 exact dP hA fun us s2 ⟨vs,H2,I2,r2,q2⟩=>hm pins s2 σ H2 x vs v us Q I2 r1 r2 q2
end
end L2
namespace L2
open PySem PySem.Spec PyProof.Rows
def MtM(X:Cx)(id:String)(r:V->List V->Hp->VK->Prop):Prop :=
 ∀(pins:List (Addr×Obj)) (s:Shared) (σ:St) (H:Hp) (x:V) (xs:List V) (v:Value) (us:List Value) (Q:VK),Inv X pins σ H s->RelV x v->Vals xs us->r x xs H Q->
  wpAny (model X.prog X.w) X.A (call (.builtin id) (v::us)) (EP X pins σ Q) X.xe s
theorem Vals.one:∀{x:V} {us:List Value},Vals [x] us->∃ u,us=[u]/\RelV x u
 | _,_,.cons r .nil=>⟨_,rfl,r⟩
theorem Vals.rep{xs:List V}{us:List Value}(h:Vals xs us):∀ k:Nat,Vals (List.replicate k xs).flatten (List.replicate k us).flatten
 | 0=>.nil
 | k+1=>by
   rw[List.replicate_succ,List.replicate_succ,List.flatten_cons,List.flatten_cons];exact Vals.append h (Vals.rep h k)
theorem foldl_rep(its:List Value):∀(k:Nat) (acc:List Value),
 List.foldl (fun x1 x2=>x1++x2) acc.toArray (List.replicate k its.toArray)=(acc++(List.replicate k its).flatten).toArray
 | 0,acc=>by simp
 | k+1,acc=>by
   have e:acc.toArray++its.toArray=(acc++its).toArray:=by simp
   have e2:(acc++its)++(List.replicate k its).flatten=acc++(List.replicate (k+1) its).flatten:=by
    rw[List.replicate_succ,List.flatten_cons,List.append_assoc]
   rw[<-e2,<-foldl_rep its k (acc++its),<-e,List.replicate_succ,List.foldl_cons]
section
variable {X:Cx}{pins:List (Addr×Obj)}{σ:St}{H:Hp}{s:Shared}{l b:Addr}{xs ys zs:List V}
theorem Inv.Q8{its its' : List Value}{n:Nat}{f:Array Value->Array Value}{t' : Nat}(I:Inv X pins σ H s)(hH:H l=some (.lst xs))
 (e:s.heap.get? l=some { cls:=.type "list",data:=.seq its.toArray n}) (hf:f its.toArray=its'.toArray) (hv:Vals ys its') (hz:ys.length<=sizeLine) :
 Inv X pins σ (upd H l (.lst ys)) { s with heap:=s.heap.update l (Obj.mapSeq f),toks:=t'}:=by
 have q:=PySem.IsL.update e f;rw[hf]at q;refine I.write (x:=l) (e:=l) (by rw[hH];exact trivial) (.inl rfl) (fun b' u hb hu=>(Heap.get?_update_other s.heap (Obj.mapSeq f) (Ne.symm hb)).trans hu) ⟨_,q⟩ ?_
 exact⟨hz,its',_,hv,q⟩
theorem Inv.Q9{its:List Value}{t' : Nat}(I:Inv X pins σ H s)(hv:Vals ys its)(hz:ys.length<=sizeLine):
 Inv X pins σ (upd H s.heap.objs.size (.lst ys)) { s with heap:=s.heap.push { cls:=.type "list",data:=.seq its.toArray},toks:=t'} :=
 I.laid (fun _ _ q=>Heap.get?_push_of_some _ q) (Nat.le_refl _) ⟨hz,its,0,hv,Heap.get?_push_size _ rfl⟩
theorem Inv.fresh(I:Inv X pins σ H s):H s.heap.objs.size=none:=I.hok.fresh (Nat.le_refl _)
theorem Inv.Mc(I:Inv X pins σ H s)(hH:H l=some (.lst xs)):xs.length<=sizeLine/\∃(its:List Value) (n:Nat),Vals xs its/\xs.length=its.length/\s.heap.get? l=some { cls:=.type "list",data:=.seq its.toArray n}:=by
 obtain⟨z,its,n,r,e⟩:=I.hok l _ hH;exact⟨z,its,n,r,r.length,e⟩
theorem By{n:Nat}(h:n<=sizeLine):Builtin.List.listTooLong n=false:=by
 unfold Builtin.List.listTooLong;exact decide_eq_false (by lia)
end
section
variable {X:Cx}
def Me:V->List V->Hp->VK->Prop:=fun x vs H Q=>∃ l xs y,x = .ref l/\vs=[y]/\H l=some (.lst xs)/\xs.length<sizeLine/\Q .gf (upd H l (.lst (xs++[y])))
theorem ff:MtM X "list.append" Me:=by
 intro pins s σ H x vs v us Q I rx rv h;obtain⟨l,xs,y,rfl,rfl,hH,hz,q⟩:=h;cases rx;obtain⟨u,rfl,ru⟩:=rv.one;obtain⟨z,its,n,r,hl,e⟩:=I.Mc hH;refine call_meets F.slot_list_append ⟨_,e,rfl⟩ F.entry_list_append (F.args_list_append_2 _ _) (PySem.list_append l its.toArray n u (by rw[List.size_toArray];lia)) ⟨e,?_⟩
 refine⟨.gf,_,I.Q8 (its':=its++[u]) hH e (by simp) (r.append (.cons ru .nil)) ?_,rfl,q⟩
 rw[List.length_append,List.length_singleton]
 lia
def Mf:V->List V->Hp->VK->Prop:=fun x vs H Q=>∃ l b xs zs,x = .ref l/\vs=[.ref b]/\H l=some (.lst xs)/\H b=some (.lst zs)/\xs.length+zs.length<=sizeLine/\Q .gf (upd H l (.lst (xs++zs)))
theorem GA:MtM X "list.extend" Mf:=by
 intro pins s σ H x vs v us Q I rx rv h;obtain⟨l,b,xs,zs,rfl,rfl,hH,hB,hz,q⟩:=h;cases rx;obtain⟨u,rfl,ru⟩:=rv.one;cases ru;obtain⟨z,its,n,r,hl,e⟩:=I.Mc hH;obtain⟨z2,its2,n2,r2,hl2,e2⟩:=I.Mc hB;have hsz:its.toArray.size+its2.toArray.size<=sizeLine:=by rw[List.size_toArray,List.size_toArray];lia
 have Jo : ¬(!its.toArray.isEmpty&&Builtin.List.listTooLong (its.toArray.size+its2.toArray.size))=true:=by
  rw[By hsz,Bool.and_false];exact Bool.false_ne_true
 refine call_meets F.slot_list_extend ⟨_,e,rfl⟩ F.entry_list_extend (F.args_list_extend_2 _ _)
  (AutoSeq1.list_extend_list_list_0 l its.toArray n b its2.toArray n2 Jo (by rw[List.size_toArray];lia) (by lia)) ⟨e,e2,?_⟩
 refine⟨.gf,_,I.Q8 (its':=its++its2) hH e (by simp) (r.append r2) ?_,rfl,q⟩
 rw[List.length_append]
 lia
def VQ:R2:=fun x y H Q=>∃ l k xs,x = .ref l/\y = .int k/\H l=some (.lst xs)/\-(2^63)<=k/\k<2^63/\xs.length*k.toNat<=sizeLine/\
 ∀ p,H p=none->Q (.ref p) (upd H p (.lst (List.replicate k.toNat xs).flatten))
theorem len_rep{α:Type}(xs:List α)(k:Nat):(List.replicate k xs).flatten.length=k*xs.length:=by
 induction k with
 | zero=>simp
 | succ k ih=>rw[List.replicate_succ,List.flatten_cons,List.length_append,ih,Nat.succ_mul,Nat.add_comm]
theorem DR:nF X (binaryOp .Mult) VQ:=by
 intro pins s σ H x y v u Q I rx ry h;obtain⟨l,k,xs,rfl,rfl,hH,h1,h2,hz,q⟩:=h;cases rx;obtain⟨t,rfl⟩:=ry;obtain⟨z,its,n,r,hl,e⟩:=I.Mc hH;have hlen:its.toArray.size*k.toNat<=sizeLine:=by rw[List.size_toArray,<-hl];exact hz
 have VR : ¬ its.toArray.size*k.toNat > (2^63-1)/8:=by
  have:(sizeLine:Nat)<=(2^63-1)/8:=by decide
  lia
 have hfit : ¬(!Builtin.List.listFitsIndex k)=true:=by
  rw[fitsIndex_both h1 h2];exact Bool.false_ne_true
 have Jo : ¬ Builtin.List.listTooLong (its.toArray.size*k.toNat)=true:=by
  rw[By hlen];exact Bool.false_ne_true
 have hnew:List.foldl (fun x1 x2=>x1++x2) #[] (List.replicate (if its.toArray.isEmpty=true then 0 else k.toNat) its.toArray)=(List.replicate k.toNat its).flatten.toArray:=by
  have f0:∀ m:Nat,List.foldl (fun x1 x2=>x1++x2) #[] (List.replicate m its.toArray)=(List.replicate m its).flatten.toArray:=fun m=>by
   have:=foldl_rep its m [];rw[List.nil_append]at this;exact this
  rw[f0];cases its with
  | nil=>simp
  | cons a r'=>rw[if_neg (by simp)]
 refine wpAny_binaryOp_repeat_ref (T:="list") (U:="int") (by decide) ⟨_,e,rfl⟩ (fun s'=>typeIs_int s' k t) noFill_list_mul F.fills_int_mul F.slot_int_rmul repeat_list F.slot_int_index.lookup
  (call_meets F.slot_int_rmul (typeIs_int s k t) F.entry_int_rmul (F.args_int_rmul_2 _ _) (int___rmul___int_list k t l its.toArray n)
   ⟨e,rfl,⟨_,e,rfl⟩,call_meets F.slot_list_mul ⟨_,e,rfl⟩ F.entry_list_mul (F.args_list_mul_2 _ _) (AutoListH.list___mul___list_int_3 l its.toArray n k t hfit VR Jo) ⟨e,?_⟩⟩)
 rw[hnew];exact⟨.ref _,_,I.Q9 (t':=s.toks) (r.rep k.toNat) (by rw[len_rep,Nat.mul_comm];exact hz),rfl,q _ I.fresh⟩
end
section
variable {prog:Program}{w:World}{A:Around}{E:Value->Shared->Prop}{s:Shared}
end
section
variable {X:Cx}
end
end L2
namespace Att
open PySem PySem.W PySem.Calls PyProof.Rows
theorem u6{P:Params}{h:Heap}:∀(ns:List Int) (vs:List Value),WellAll P h vs (ns.map WData.int)->IntsAre vs ns:=by
 intro ns
 induction ns with
 | nil =>
   intro vs w;rw[List.map_nil]at w;cases w;exact .nil
 | cons n ns ih =>
   intro vs w;rw[List.map_cons]at w;cases w with
   | cons a b =>
     cases a;exact .cons _ _ (ih _ b)
theorem GB{l:OpenLaw}{n:Nat}(hn:l.most=some n){P:Params}{h:Heap}{args:List WData}{vals:List Value}
 (hpre:l.row.toRowW.claim.pre args=true) (VS:WellAll P h vals args) :
 ∃ a vs ns,vals=[Value.ref a]/\args=[WData.list (ns.map WData.int)]/\h.get? a=some { cls:=.type "list",data:=.seq vs.toArray}/\IntsAre vs ns/\ns.length<=n:=by
 have hsh:WShape.hasAll [] args [.list .int]=true:=(pre_splitW hpre).1;have hc:l.pre.holds [] { args:=args}=true:=(pre_splitW hpre).2;obtain⟨d,r,rfl,h1,h2⟩:=hasAllW_cons hsh;obtain rfl:=hasAllW_nil h2;obtain⟨xs,rfl,h3⟩:=hasW_list h1;obtain⟨ns,rfl⟩:=items_int h3;have hlen:ns.length<=n:=by
  unfold OpenLaw.pre at hc;have h4:(WTm.not (.lt (.lit (.int (n:Int))) (.len (.arg 0)))).holds [] { args:=[.list (ns.map .int)]}=true:=by
   have h4:=(holds_andW hc).1;rw[hn]at h4;exact h4
  have h5:=condW_of h4 (w_not (w_lt w_lit (w_len_list (w_arg rfl))));rw[List.length_map]at h5;refine Nat.le_of_not_lt fun q=>?_
  have q' : (n:Int)<((ns.length:Nat):Int):=by lia
  first
   | (rw[decide_eq_true q']at h5;exact absurd h5 (by decide))
   | (simp at h5;lia)
 cases VS with
 | cons w1 w2 =>
   cases w2;cases w1 with
   | list ho hall=>exact⟨_,_,ns,rfl,rfl,ho,u6 ns _ hall,hlen⟩
theorem GC(l:OpenLaw)(args:List WData):l.row.toRowW.claim.post args (.bool true) args=true :=
 postW_of (r:=l.row.toRowW) (X:=(true==true))
  (show WShape.has [] (.bool true) .bool=true by first | rfl | decide | simp[WShape.has,WShape.arms,WShape.armsAll])
  (show(WTm.eq .res (.lit (.bool true))).value [] { args:=args,res:=some (.bool true),after:=args}=some (.bool (true==true)) from w_eq_bool (w_res rfl) w_lit) rfl
theorem BA{l:OpenLaw}{n:Nat}{q:Program}{loose:List Str}{XP:(Str->Option Value)->Heap->Prop}{YP:World->Heap->Prop}{d:DefRec}
 (hn:l.most=some n) (Ra:d.params.defaults=[])
 (call:∀(w:World) (s₀ s₁:Shared) (mg mb:Str->Option Value) (fa:Addr) (o:Obj) (pm cd doc:Value) (a:Addr) (vs:List Value) (ns:List Int),
  Ground q loose [] XP w s₀ mg mb s₁.heap->YP w s₁.heap->
  s₁.heap.get? fa=some o->o.data = .func (docDef d.name d.params d.body d.scope pm cd doc)->s₁.heap.CodeRec cd d.name->mg d.name=some (.ref fa)->
  s₁.heap.get? a=some { cls:=.type "list",data:=.seq vs.toArray}->IntsAre vs ns->ns.length<=n->s₁.gens = #[]->
  codeAny (model l.prog w) callerA (.call (.ref fa) ⟨[.ref a],[]⟩) (fun r s'=>r = .ok (.ret (.bool true))/\OldK s₁.heap s'.heap/\s'.os=s₁.os/\AllBare s'.gens) s₁) :
 WalkO q loose XP YP l.row.toRowW d [] (fun f vs=>PySem.call f vs):=by
 intro w s₀ s₁ mg mb G Y fa o pm cd doc dV kV ho hd hcd hD hmg hg args vals as hpre hlay hrd VS hlo;obtain rfl:dV = .none:=Dflts.none hD Ra;obtain rfl:kV = .none:=Dflts.noKw hD;obtain⟨a,vs,ns,rfl,rfl,hobj,hints,hlen⟩:=GB hn hpre VS;refine enter_call (codeAny_mono (call w s₀ s₁ mg mb fa o pm cd doc a vs ns G Y ho (fd_plain hd) hcd hmg hobj hints hlen hg) fun r s' hq=>?_)
 obtain⟨rfl,h2,h3,h4⟩:=hq;exact⟨.inl ⟨.bool true,.bool true,[],rfl,fun _=>rfl,.bool true,GC l _,fun _=>⟨List.Pairwise.nil,fun _ hm=>(nomatch hm)⟩⟩,h2,h3,h4⟩
section
variable {prog:Program}{w:World}{A:Around}{E:Value->Shared->Prop}{s:Shared}{K:Frag}
end
end Att
namespace L2
open PySem PySem.Spec PyProof.Rows
theorem yO:∀{vs:List Value} {ns:List Int},IntsAre vs ns->Vals (ns.map V.int) vs
 | _,_,.nil=>.nil
 | _,_,.cons n t h=>.cons ⟨t,rfl⟩ (yO h)
end L2
namespace L2
open PySem PySem.Spec PyProof.Rows
end L2
namespace L2
open PySem PySem.Spec PyProof.Rows
def aE(s:Stmt):Arguments:=match s with
 | .FunctionDef _ a _ _ _ _ _ _ _ _=>a
 | _=>{ posonlyargs:=[],args:=[],vararg:=none,kwonlyargs:=[],kw_defaults:=[],kwarg:=none,defaults:=[]}
def aD(s:Stmt):List Stmt:=match s with
 | .FunctionDef _ _ b _ _ _ _ _ _ _=>b
 | _=>[]
def af(s:Stmt):Scope:=match s with
 | .FunctionDef _ _ _ _ _ _ sc _ _ _=>sc
 | _=>{ kind:=.function,names:=[],isGenerator:=false,isCoroutine:=false}
abbrev iP:IJ:=fun _ _ _ _ _ _=>False
abbrev E0:XK:=fun _ _ _=>False
theorem aQ{X:Cx}:Passes iP X E0:=fun _ _ _ _ _ _ _ h=>h.elim
structure gD(K:PySem.W.Frag)(x qual:Str)(st:Stmt)(f:Addr)(fd:FuncData):Prop where
 ex:∃(oc:Value) (od:Option Addr) (kV doc pm:Value) (an:Option Addr) (cdv ct:Value) (osl:Array (Option Value)),
  fd=PySem.W.fnOf x qual (aE st) (aD st) (af st) .none kV doc pm an cdv ct/\K.lookup f=some ⟨oc,od,.func fd,osl⟩/\PySem.W.codeIn K cdv qual=true
 kp:PySem.W.keepIn K (.ref f)=true
section
variable {P:Program}{w:World}{K:PySem.W.Frag}{mg:Str->Option Value}{base:Heap}
theorem gD.ok{x qual:Str}{st:Stmt}{f:Addr}{fd:FuncData}{N ps:List Str}{k:Nat}{sp:Sp}(F:gD K x qual st f fd)(S:aJ N ps (af st))(len:∀ vs H Q E,sp vs H Q E->vs.length=ps.length)
 (hbody:∀(cdv:Value) (A:Around) (outer:List Env) (s:Shared) (H:Hp) (vs:List V) (Q:VK) (E:XK),gG k (A.deeper (envOfC qual (af st) s.heap.objs.size f cdv))->sp vs H Q E->
  ∃ t,Bt (Aa iP P w K mg base N qual (af st) f cdv A outer s H E).E8 (aD st) t/\t { nx:=fun _ H'=>Q .gf H',rt:=Q} (start N vs) H):bE P w K mg base iP (k+1) f fd ps sp:=by
 obtain⟨oc,od,kV,doc,pm,an,cdv,ct,osl,rfl,lk,hcd⟩:=F.ex;refine Jf lk hcd S len fun A outer s H vs Q E hr yN=>?_
 obtain⟨t,h,q⟩:=hbody cdv A outer s H vs Q E hr yN;exact⟨t,h.E8,q⟩
theorem gD.binds{x qual:Str}{st:Stmt}{f:Addr}{fd:FuncData}{ps:List Str}(F:gD K x qual st f fd)
 (h:∀(kV doc pm:Value) (an:Option Addr) (cdv ct:Value) (us:List Value),us.length=ps.length->bindArgs (PySem.W.fnOf x qual (aE st) (aD st) (af st) .none kV doc pm an cdv ct) ⟨us,[]⟩=pure (ps.zip us)):Binds K fd ps []:=by
 obtain⟨oc,od,kV,doc,pm,an,cdv,ct,osl,rfl,lk,hcd⟩:=F.ex;exact .all (h kV doc pm an cdv ct)
theorem aU{x qual:Str}{st:Stmt}{f:Addr}{oc:Value}{od an:Option Addr}{osl:Array (Option Value)}{kV doc pm cdv ct:Value}(l:K.lookup f=some ⟨oc,od,.func (PySem.W.fnOf x qual (aE st) (aD st) (af st) .none kV doc pm an cdv ct),osl⟩)
 (c:PySem.W.codeIn K cdv qual=true) (k:PySem.W.keepIn K (.ref f)=true):gD K x qual st f (PySem.W.fnOf x qual (aE st) (aD st) (af st) .none kV doc pm an cdv ct):=⟨⟨oc,od,kV,doc,pm,an,cdv,ct,osl,rfl,l,c⟩,k⟩
end
theorem BB{A:Around}{k:Nat}(hr:gG k A):A.units+1<cLine:=Nat.lt_of_le_of_lt (Nat.add_le_add_left (by decide:1<=64) _) hr.units
theorem kO{n:Nat}(h:n<=1000):n<sizeLine:=Nat.lt_of_le_of_lt h (by decide)
section
variable {X:Cx}
theorem pv(i:Nat){x:Str}{pos:Pos}(hN:X.N[i]?=some x:=by rfl)(hv:TV X.env.scope x:=by first | exact Or.inl rfl | exact Or.inr (Or.inl rfl) | exact Or.inr (Or.inr rfl))(hd:(x==("__debug__":Str))=false:=by decide)
 (hcd:(x==("__classdict__":Str))=false:=by decide):PE X (.Name x pos) (QB i):=Ob hN hv hd hcd
end
theorem eT{A B:Prop}(h:B):if false=true then A else B:=by
 rw[if_neg Bool.false_ne_true];exact h
theorem fQ{A B:Prop}(h:A):if true=true then A else B:=by
 rw[if_pos rfl];exact h
theorem nQ{c A B:Prop}[Decidable c](h1:c->A)(h2 : ¬ c->B):if c then A else B:=by
 by_cases h:c
 ·rw[if_pos h];exact h1 h
 ·rw[if_neg h];exact h2 h
theorem Nn{c A B:Prop}[Decidable c](hc:c)(h:B):if(!decide c)=true then A else B:=by
 rw[decide_eq_true hc];exact eT h
def av(H H' : Hp):Prop:=∀ b o,H b=some o->H' b=some o
theorem av.refl(H:Hp):av H H:=fun _ _ h=>h
theorem av.trans{H H1 H2:Hp}(a:av H H1)(b:av H1 H2):av H H2:=fun c o h=>b c o (a c o h)
theorem av.free{H H' : Hp}(e:av H H'){l:Addr}(h:H' l=Option.none):H l=Option.none:=by
 cases q:H l with
 | none=>rfl
 | some o =>
   rw[e l o q]at h;cases h
theorem av.seq{K:PySem.W.Frag}{H H' : Hp}{a:Addr}{xs:List V}(e:av H H')(h:aS K H a xs):aS K H' a xs:=by
 rcases h with(h|⟨o,h⟩) | h
 ·exact .inl (.inl (e _ _ h))
 ·exact .inl (.inr ⟨o,e _ _ h⟩)
 ·exact .inr h
end L2
namespace L2
open PySem PySem.Spec PyProof.Rows
def dz(cells:List (Str×Addr)):List (Str×NameKind)->List (Str×Addr)->List (Str×Addr)
 | [],cs=>cs
 | (n,k)::r,cs=>dz cells r (if(k==NameKind.free)=true then(n,(cells.lookup n).getD 0)::cs else cs)
theorem vI{env:Env}{f:Str×NameKind->List (Str×Addr)->Sem (ForInStep (List (Str×Addr)))}
 (hf1:∀ n k cs c,(k==NameKind.free)=true->env.cells.lookup n=some c->f (n,k) cs=pure (.yield ((n,c)::cs)))
 (hf2:∀ n k cs,(k==NameKind.free)=false->f (n,k) cs=pure (.yield cs)) :
 ∀(names:List (Str×NameKind)) (cs:List (Str×Addr)),(∀ n k,(n,k)∈names->(k==NameKind.free)=true->∃ c,env.cells.lookup n=some c)->
  forIn names cs f=(pure (dz env.cells names cs):Sem (List (Str×Addr)))
 | [],cs,_=>by rw[List.forIn_nil];rfl
 | (n,k)::r,cs,h=>by
   have ih:=fun cs=>vI hf1 hf2 r cs fun m j hm=>h m j (List.mem_cons_of_mem _ hm)
   rw[List.forIn_cons];cases e:(k==NameKind.free) with
   | true =>
     obtain⟨c,hc⟩:=h n k List.mem_cons_self e;rw[hf1 n k cs c e hc,pure_bind];show forIn r ((n,c)::cs) f=_;rw[ih]
     conv=>rhs;unfold dz
     rw[if_pos e,hc];rfl
   | false =>
     rw[hf2 n k cs e,pure_bind];show forIn r cs f=_;rw[ih]
     conv=>rhs;unfold dz
     rw[if_neg (by rw[e];exact Bool.false_ne_true)]
theorem qv{scope:Scope}{env:Env}(h:∀ n k,(n,k)∈scope.names->(k==NameKind.free)=true->∃ c,env.cells.lookup n=some c):closureFor scope env=pure (dz env.cells scope.names []):=by
 simp only[closureFor];rw[vI (env:=env) ?_ ?_ scope.names [] h]
 ·rfl
 ·intro n k cs c e hc;show(if(k==NameKind.free)=true then _ else _)=_
  rw[if_pos e];unfold cellOf;rw[hc];rfl
 ·intro n k cs e;show(if(k==NameKind.free)=true then _ else _)=_
  rw[if_neg (by rw[e];exact Bool.false_ne_true)]
theorem jV{cells:List (Str×Addr)}{x:Str}{c:Addr}:∀{names:List (Str×NameKind)} {cs:List (Str×Addr)},(dz cells names cs).lookup x=some c->cs.lookup x=some c\/((x,NameKind.free)∈names/\(cells.lookup x).getD 0=c)
 | [],cs,h=>.inl h
 | (n,k)::r,cs,h=>by
   unfold dz at h;rcases jV h with q|⟨q1,q2⟩
   ·by_cases e:(k==NameKind.free)=true
    ·rw[if_pos e]at q
     by_cases hx:x=n
     ·subst hx;rw[List.lookup_cons_self]at q;have hk:k=NameKind.free:=eq_of_beq e;exact .inr ⟨by rw[hk];exact List.mem_cons_self,Option.some.inj q⟩
     ·have hb:(x==n)=false:=beq_eq_false_iff_ne.mpr hx;simp only[List.lookup_cons,hb]at q;exact .inl q
    ·rw[if_neg e]at q;exact .inl q
   ·exact .inr ⟨List.mem_cons_of_mem _ q1,q2⟩
theorem jF{cells:List (Str×Addr)}{x:Str}:∀{names:List (Str×NameKind)} {cs:List (Str×Addr)},((x,NameKind.free)∈names\/∃ c,cs.lookup x=some c)->∃ c,(dz cells names cs).lookup x=some c
 | [],cs,h=>by
   rcases h with h|h
   ·cases h
   ·exact h
 | (n,k)::r,cs,h=>by
   unfold dz;apply jF;rcases h with h|⟨c,h⟩
   ·rcases List.mem_cons.mp h with h|h
    ·cases h
     right
     rw[if_pos (by rfl)]
     exact⟨_,List.lookup_cons_self⟩
    ·exact .inl h
   ·right
    by_cases e:(k==NameKind.free)=true
    ·rw[if_pos e]
     by_cases hx:x=n
     ·subst hx;exact⟨_,List.lookup_cons_self⟩
     ·have hb:(x==n)=false:=beq_eq_false_iff_ne.mpr hx;exact⟨c,by simp only[List.lookup_cons,hb];exact h⟩
    ·rw[if_neg e];exact⟨c,h⟩
theorem mw{env:Env}{x:Str}{k:NameKind}:∀{names:List (Str×NameKind)},
 (names.map fun(n,k)=>if(k==NameKind.free&&env.scope.kind == .function&&env.kindOf n==some .cell) then(n,NameKind.cell) else(n,k)).lookup x=some k->
  ∃ k0,names.lookup x=some k0/\(k=k0\/(k0 = .free/\k = .cell))
 | [],h=>by cases h
 | (n,j)::r,h=>by
   have ih:=@mw env x k r
   replace h:List.lookup x ((if(j==NameKind.free&&env.scope.kind == .function&&env.kindOf n==some .cell)=true then(n,NameKind.cell) else(n,j))::_)=some k:=h
   cases hx:x==n with
   | true =>
     by_cases hc:(j==NameKind.free&&env.scope.kind == .function&&env.kindOf n==some .cell)=true
     ·rw[if_pos hc]at h;simp only[List.lookup_cons,hx]at h ⊢;have hj:j=NameKind.free:=by
       rw[Bool.and_eq_true,Bool.and_eq_true]at hc;exact eq_of_beq hc.1.1
      exact⟨j,rfl,.inr ⟨hj,(Option.some.inj h).symm⟩⟩
     ·rw[if_neg hc]at h;simp only[List.lookup_cons,hx]at h ⊢;exact⟨j,rfl,.inl (Option.some.inj h).symm⟩
   | false =>
     by_cases hc:(j==NameKind.free&&env.scope.kind == .function&&env.kindOf n==some .cell)=true
     ·rw[if_pos hc]at h;simp only[List.lookup_cons,hx]at h ⊢;exact ih h
     ·rw[if_neg hc]at h;simp only[List.lookup_cons,hx]at h ⊢;exact ih h
theorem qY{env:Env}{x:Str}:∀{names:List (Str×NameKind)},names.lookup x=some .free->
 (names.map fun(n,k)=>if(k==NameKind.free&&env.scope.kind == .function&&env.kindOf n==some .cell) then(n,NameKind.cell) else(n,k)).lookup x=some .cell\/
 (names.map fun(n,k)=>if(k==NameKind.free&&env.scope.kind == .function&&env.kindOf n==some .cell) then(n,NameKind.cell) else(n,k)).lookup x=some .free
 | [],h=>by cases h
 | (n,j)::r,h=>by
   have ih:=@qY env x r;show List.lookup x ((if(j==NameKind.free&&env.scope.kind == .function&&env.kindOf n==some .cell)=true then(n,NameKind.cell) else(n,j))::_)=_\/
    List.lookup x ((if(j==NameKind.free&&env.scope.kind == .function&&env.kindOf n==some .cell)=true then(n,NameKind.cell) else(n,j))::_)=_
   cases hx:x==n with
   | true =>
     simp only[List.lookup_cons,hx]at h;cases h
     by_cases hc:(NameKind.free==NameKind.free&&env.scope.kind == .function&&env.kindOf n==some .cell)=true
     ·rw[if_pos hc];simp only[List.lookup_cons,hx];exact .inl trivial
     ·rw[if_neg hc];simp only[List.lookup_cons,hx];exact .inr trivial
   | false =>
     simp only[List.lookup_cons,hx]at h
     by_cases hc:(j==NameKind.free&&env.scope.kind == .function&&env.kindOf n==some .cell)=true
     ·rw[if_pos hc];simp only[List.lookup_cons,hx];exact ih h
     ·rw[if_neg hc];simp only[List.lookup_cons,hx];exact ih h
def dB(X:Cx)(N:List Str)(scope:Scope)(xe:Value->Shared->Prop)(C:Addr)(s:Shared)(H:Hp)(fp:List Addr):Cx where
 prog:=X.prog
 w:=X.w
 K:=X.K
 mg:=X.mg
 base:=X.base
 A:=X.A
 N:=N
 s₀:=s
 H₀:=H
 env:=compEnvC scope (dz X.env.cells scope.names []) C X.env
 outer:=X.stack
 stack:=X.stack
 ex:=fp
 fn:=fun _=>false
 calm:=X.calm
 pn:=[]
 xe:=xe
def fN(σ:St)(js:List Nat):St:=js.map fun j=>(σ[j]?).getD none
structure d9(X:Cx)(scope:Scope)(own frees:List Str)(js:List Nat):Prop where
 kind:scope.kind = .function
 Af:∀ y∈scope.names,y.2≠.cell
 names:∀ y∈scope.names,y.2 = .local->scope.names.lookup y.1=some .local
 free:∀ y∈scope.names,y.2 = .free->X.env.scope.names.lookup y.1=some .cell\/X.env.scope.names.lookup y.1=some .free
 at_:js.map (fun j=>X.N[j]?)=frees.map some
 fr:∀ x∈frees,scope.names.lookup x=some .free
theorem vJ{σ:St}{js:List Nat}{i:Nat}{v:V}(h:(fN σ js)[i]?=some (some v)):∃ j,js[i]?=some j/\σ[j]?=some (some v):=by
 unfold fN at h;rw[List.getElem?_map]at h;cases e:js[i]? with
 | none=>rw[e]at h;cases h
 | some j =>
   rw[e]at h;have h' : (σ[j]?).getD none=some v:=Option.some.inj h;refine⟨j,rfl,?_⟩;cases q:σ[j]? with
   | none=>rw[q]at h';cases h'
   | some o=>rw[q]at h';rw[show o=some v from h']
section
variable {X:Cx}
theorem gZ{pins:List (Addr×Obj)}{σ:St}{H:Hp}{s:Shared}{scope:Scope}{own frees:List Str}{js:List Nat}(I:Inv X pins σ H s)(T:d9 X scope own frees js):
 ∀ n k,(n,k)∈scope.names->(k==NameKind.free)=true->∃ c,X.env.cells.lookup n=some c:=fun n k hm e=>by
 have hk:k=NameKind.free:=eq_of_beq e;exact I.ok.has n (T.free (n,k) hm hk)
theorem Jp{pins:List (Addr×Obj)}{σ:St}{H:Hp}{s:Shared}{scope:Scope}{own frees:List Str}{js:List Nat}{fp:List Addr}{D C:Addr}{h1:Heap}{t1:Nat}{m:Str->Option Value}{xe:Value->Shared->Prop}
 (I:Inv X pins σ H s) (T:d9 X scope own frees js) (hf:∀ b∈fp,qu X pins H b) (hfo:∀ b∈fp,∃ o,s.heap.get? b=some o) (hD:s.heap.objs.size<=D) (hC:s.heap.objs.size<=C) (hDC:D≠C)
 (old:∀ b o,s.heap.get? b=some o->h1.get? b=some o) (hl:h1.get? D=some { cls:=.type "list",data:=.seq ([]:List Value).toArray 0}) (hn:h1.Ns C m) :
 Inv (dB X (own++frees) scope xe C s H fp) [] (List.replicate own.length none++fN σ js) (upd H D (.lst [])) { s with heap:=h1,toks:=t1}:=by
 have cells:∀ x c,(dz X.env.cells scope.names []).lookup x=some c->X.env.cells.lookup x=some c:=fun x c h=>by
  rcases jV h with q|⟨q1,q2⟩
  ·cases q
  ·obtain⟨c',hc'⟩:=gZ I T x .free q1 rfl;rw[hc']at q2;rw[hc'];exact congrArg some q2
 have Rb:∀ b o,s.heap.get? b=some o->b<s.heap.objs.size:=fun b o e=>Heap.lt_size e
 have hcl:∀ x c,X.env.cells.lookup x=some c->c<s.heap.objs.size:=fun x c e=>by
  obtain⟨v,q⟩:=I.cell x c e;exact q.lt
 have afY:∀ b∈frs X.stack,b<s.heap.objs.size:=fun b hb=>by
  obtain⟨_,o,ho,_⟩:=I.stack.mem hb;exact Heap.lt_size ho
 have hHD:H D=none:=I.hok.fresh hD;have Ov:H C=none:=I.hok.fresh hC;refine⟨⟨I.ok.mod,T.kind,I.ok.glob,I.ok.blt,hC,fun x y c a b=>I.ok.inj x y c (cells x c a) (cells y c b),fun x hx=>?_,fun x c z _=>(nomatch z),I.ok.hd,I.ok.frames,.inl rfl,fun b hb=>⟨?_,fun x c e z=>?_⟩,
  fun b o e=>I.bs b o e,Nat.le_trans I.ok.Ni I.sz,fun b o e hb=>?_,fun b hb z=>?_,I.stack,I.z6⟩,
  rfl,I.bare,Un.laid old hD hHD,⟨m,hn,fun i x v e1 e2 e3=>?_⟩,fun x c e=>?_,?_,fun x c e=>?_,fun p hp=>absurd (show p∈([]:List (Addr×Obj)) from hp) (by simp),?_,?_⟩
 ·
  have hx:(relabel scope X.env).names.lookup x=some .cell\/(relabel scope X.env).names.lookup x=some .free:=hx;have hf0:(x,NameKind.free)∈scope.names:=by
   rcases hx with hx|hx
   ·obtain⟨k0,q,r⟩:=mw hx;have hm:=PySem.mem_of_lookup q;rcases r with r|⟨r,_⟩
    ·exact absurd r.symm (T.Af _ hm)
    ·rw[r]at hm;exact hm
   ·obtain⟨k0,q,r⟩:=mw hx;have hm:=PySem.mem_of_lookup q;rcases r with r|⟨_,r⟩
    ·rw[<-r]at hm;exact hm
    ·cases r
  exact jF (.inl hf0)
 ·
  obtain⟨o,ho⟩:=hfo b hb;exact Nat.ne_of_lt (Nat.lt_of_lt_of_le (Rb b o ho) hC)
 ·exact(hf b hb).2.2.2.2.1 x c (cells x c e) z
 ·
  obtain⟨_,_,_,f3,_,_⟩:=hf b hb;rcases f3 with z|z
  ·exact I.ok.IU b o e z
  ·exact absurd (Nat.lt_of_lt_of_le (Heap.lt_size (I.ok.bs b o e).1) z) (Nat.lt_irrefl _)
 ·
  obtain⟨_,f1,f2,_⟩:=hf b hb;rcases List.mem_cons.mp (I.vB b z) with q|q
  ·exact f1 q
  ·exact f2 q
 ·
  by_cases hi:i<own.length
  ·rw[List.getElem?_append_left (by simpa using hi),List.getElem?_replicate,if_pos hi]at e2
   cases e2
  ·rw[List.getElem?_append_right (by simpa using hi),List.length_replicate]at e2
   replace e1:(own++frees)[i]?=some x:=e1
   rw[List.getElem?_append_right (by lia)]at e1
   obtain⟨j,hj,hσ⟩:=vJ e2;have hN:X.N[j]?=some x:=by
    have q:=congrArg (fun l=>l[i-own.length]?) T.at_
    simp only[List.getElem?_map,hj,e1,Option.map_some]at q;exact Option.some.inj q
   have hfx:=T.fr x (List.mem_of_getElem? e1);have hm:=PySem.mem_of_lookup hfx;have hk:=T.free (x,.free) hm rfl;obtain⟨m0,hn0,BC⟩:=I.loc;obtain⟨u,r,l⟩:=BC j x v hN hσ (by rcases hk with k|k;exact .inr (.inl k);exact .inr (.inr k))
   refine⟨u,r,.inr ⟨qY hfx,?_⟩⟩;rcases l with⟨qO,_⟩|⟨_,c,hc,hcell⟩
   ·have qO:X.env.scope.names.lookup x=some .local:=qO;rcases hk with k|k<;>(rw[qO]at k;cases k)
   ·obtain⟨c',hc'⟩:=jF (cells:=X.env.cells) (names:=scope.names) (cs:=[]) (x:=x) (.inl hm);have q:=cells x c' hc';rw[hc]at q;cases q;exact⟨c,hc',hcell.keeps old⟩
 ·
  obtain⟨v,q⟩:=I.cell x c (cells x c e);exact⟨v,q.keeps old⟩
 ·
  show upd H D (.lst []) C=none;rw[aq (Ne.symm hDC)];exact Ov
 ·show upd H D (.lst []) c=none;have e:=cells x c e;rw[aq (Nat.ne_of_lt (Nat.lt_of_lt_of_le (hcl x c e) hD))];exact I.fP x c e
 ·exact I.hok.laid old hD ⟨Nat.zero_le _,[],0,.nil,hl⟩
 ·show _=(own++frees).length;have q:=congrArg List.length T.at_;rw[List.length_map,List.length_map]at q;rw[List.length_append,List.length_append,List.length_replicate];unfold fN;rw[List.length_map,q]
theorem p5{pins:List (Addr×Obj)}{σ σ' : St}{H H' : Hp}{s s' : Shared}{scope:Scope}{N:List Str}{fp:List Addr}{C:Addr}{h' : Heap}{xe:Value->Shared->Prop}
 (I:Inv X pins σ H s) (hf:∀ b∈fp,qu X pins H b) (hC:s.heap.objs.size<=C) (J:Inv (dB X N scope xe C s H fp) [] σ' H' s') (sb:Heap.SameBut C s'.heap h'):Inv X pins σ H' { s' with heap:=h'}:=by
 have Ov:H' C=none:=J.free;refine I.IV (ch:=fp) J.os ?_ ?_ J.bare (fun b hb=>?_)
 ·have u:Un (frs X.stack) fp H H' s.heap s'.heap:=J.base;have ne:∀ b o,s.heap.get? b=some o->b≠C:=fun b o e=>Nat.ne_of_lt (Nat.lt_of_lt_of_le (Heap.lt_size e) hC)
  refine⟨fun b o e n hb hx=>(sb.2 b (ne b o e)).trans (u.keep b o e n hb hx),fun b o e n hb hx=>?_,u.free,fun b o e hx=>?_,u.tups,u.mj,u.nJ⟩
  ·obtain⟨sl,q⟩:=u.slot b o e n hb hx;exact⟨sl,(sb.2 b (ne b o e)).trans q⟩
  ·obtain⟨o',q⟩:=u.there b o e hx;exact⟨o',(sb.2 b (ne b o e)).trans q⟩
 ·intro b ob e;refine(J.hok b ob e).stay (fun c w' hc q=>(sb.2 c ?_).trans q) (fun _ q=>q) fun _ _ q=>q
  rintro rfl;rcases hc with rfl|hc
  ·rw[Ov]at e;cases e
  ·rw[Ov]at hc;cases hc
 ·obtain⟨_,f1,_,f3,f4,f5⟩:=hf b hb;exact⟨f3,f1,f4,f5⟩
end
section
variable {prog:Program}{w:World}{A:Around}{R:Result->Shared->Prop}{s:Shared}
abbrev Fp(ifs:List Expr)(env:Env):Sem Bool:=forIn ifs true fun c r=>if r=true then do let ok←isTrue c env (eval c env);pure (ForInStep.yield ok) else pure (ForInStep.yield r)
theorem Ag{elt target iter:Expr}{ifs:List Expr}{scope:Scope}{pos:Pos}{it acc:Value}{env:Env}(I:Nat->Shared->Prop)
 (turn:∀ n s,I n s->wpAny (model prog w) A (pyNext it) (fun r s₁=>match r with
  | none=>R (.ok .next) s₁
  | some v=>wpAny (model prog w) A (letOwnedTupleGo target it v) (fun _ s₀=>wpAny (model prog w) A (assign target env v) (fun _ s₂ =>
   wpAny (model prog w) A (Fp ifs env) (fun ok s₃ =>
    if ok=true then wpAny (model prog w) A (eval elt env) (fun x s₄ =>
     wpAny (model prog w) A (call (.builtin "list.append") [acc,x]) (fun _ s₅=>∃ m,m<n/\I m s₅) (notedBy (model prog w) A env fun e s'=>R (.error e) s') s₄) (notedBy (model prog w) A env fun e s'=>R (.error e) s') s₃
    else ∃ m,m<n/\I m s₃) (notedBy (model prog w) A env fun e s'=>R (.error e) s') s₂) (notedBy (model prog w) A env fun e s'=>R (.error e) s') s₀) (notedBy (model prog w) A env fun e s'=>R (.error e) s') s₁) (notedBy (model prog w) A env fun e s'=>R (.error e) s') s)
 (n:Nat) (h:I n s) :
 codeAny (model prog w) A (.compLoop (.ListComp elt [⟨target,iter,ifs,0⟩] scope pos) 0 it acc env) R s:=by
 refine codeAny_loop rfl I (fun n s hI=>?_) n h
 show wpAny _ A ((compTurn (.ListComp elt [⟨target,iter,ifs,0⟩] scope pos) 0 it acc env).onRaise (fun x=>do noteFrame x env;theTreesLotGoes x)) _ _ s
 refine wpAny_noted ?_;rw[compTurn_list];refine wpAny_bind (wpAny_standAt (wpAny_bind (wpAny_mono (turn n s hI) (fun r s₁ h₁=>?_) fun _ _ h'=>h')))
 cases r with
 | none=>exact wpAny_pure h₁
 | some v =>
   refine wpAny_bind (wpAny_mono h₁ (fun _ s₀ h₀=>?_) fun _ _ h'=>h')
   refine wpAny_bind (wpAny_mono h₀ (fun _ s₂ h₂=>wpAny_bind (wpAny_mono h₂ (fun ok s₃ h₃=>?_) fun _ _ h'=>h')) fun _ _ h'=>h')
   cases ok with
   | false=>exact wpAny_pure ⟨rfl,h₃⟩
   | true =>
     exact wpAny_bind (wpAny_bind (wpAny_mono h₃ (fun x s₄ h₄=>wpAny_bind (wpAny_mono h₄ (fun _ s₅ h₅=>wpAny_pure (wpAny_pure ⟨rfl,h₅⟩)) fun _ _ h'=>h')) fun _ _ h'=>h'))
end
def Rc(X:Cx)(ifs:List Expr)(t:TT):Prop :=
 ∀(pins:List (Addr×Obj)) (s:Shared) (σ:St) (H:Hp) (Q:Bool->Hp->Prop),Inv X pins σ H s->t σ H Q->wpAny (model X.prog X.w) X.A (Fp ifs X.env) (TP X pins σ Q) X.xe s
def Rf:TT:=fun _ H Q=>Q true H
theorem cB{X:Cx}:Rc X [] Rf:=fun _ _ _ H _ I h=>wpAny_tests_nil ⟨H,I,h⟩
theorem fX{X:Cx}{c:Expr}{t:TT}(h:PT X c t):Rc X [c] t:=fun pins s σ H Q I q=>wpAny_tests_one (h pins s σ H Q I q)
def iI(J:It)(g:TG)(tt:TT)(te:TE)(n:Nat)(fr:St)(D:Addr)(Q:Hp->Prop)(H1:Hp):Prop :=
 ∃ W:Nat->Nat->List V->Hp->Prop,(∃ m,W 0 m [] H1)/\∀ i m acc H,W i m acc H->H D=some (.lst acc)/\
   ((J.stop i H/\Q H)\/(J.go i H/\acc.length<sizeLine/\∃ N:List V->Hp->Prop,(∀ acc' H',N acc' H'->∃ m',m'<m/\W (i+1) m' acc' H')/\
     ∀ x H',J.LK i H x H'->g x (List.replicate n none++fr) H' fun σ2 H2=>σ2.drop n=fr/\tt σ2 H2 fun b H3 =>
     if b=true then te σ2 H3 fun v H4=>H4 D=some (.lst acc)/\N (acc++[v]) (upd H4 D (.lst (acc++[v])))
     else N acc H3))
def Np(wi:TI)(g:TG)(tt:TT)(te:TE)(n:Nat)(js:List Nat):TE:=fun σ H Q=>wi σ H fun J H1=>∀ D,H1 D=none->iI J g tt te n (fN σ js) D (fun H2=>Q (.ref D) H2) (upd H1 D (.lst []))
structure Nq(A:Around)(cm:Bool)(P:Program)(w:World)(K:PySem.W.Frag)(tg:Expr)(J:It)(fp:List Addr)(it:Addr)(tn:Nat->Heap->Prop):Prop where
 mem:it∈fp
 obj:∀ i h,tn i h->∀ b∈fp,∃ o,h.get? b=some o/\∀ v,o.data≠.cell v
 keep:∀ i h h',tn i h->(∀ b∈fp,∀ o,h.get? b=some o->h'.get? b=some o)->tn i h'
 item:∀(X:Cx),X.prog=P->X.w=w->X.K=K->X.A=A->X.calm=cm->∀(i:Nat) (pins:List (Addr×Obj)) (s:Shared) (σ:St) (H:Hp) (E:Value->Shared->Prop),Inv X pins σ H s->(∀ b∈fp,qu X pins H b)->tn i s.heap->J.go i H->
  wpAny (model P w) X.A (pyNext (.ref it)) (fun r s1=>∃ u,r=some u/\
   wpAny (model P w) X.A (letOwnedTupleGo tg (.ref it) u) (fun _ s2=>∃ x H',Inv X pins σ H' s2/\RelV x u/\J.LK i H x H'/\tn (i+1) s2.heap/\∀ b∈fp,H' b=none) E s1) E s
 done:∀(X:Cx),X.prog=P->X.w=w->X.K=K->X.A=A->X.calm=cm->∀(i:Nat) (pins:List (Addr×Obj)) (s:Shared) (σ:St) (H:Hp) (E:Value->Shared->Prop),Inv X pins σ H s->(∀ b∈fp,qu X pins H b)->tn i s.heap->J.stop i H->
  wpAny (model P w) X.A (pyNext (.ref it)) (fun r s1=>r=none/\Inv X pins σ H s1) E s
 self:∀(A:Around) (i:Nat) (s:Shared) (Q:Value->Shared->Prop) (E:Value->Shared->Prop),tn i s.heap->Q (.ref it) s->wpAny (model P w) A (pyIter (.ref it)) Q E s
theorem Turn.x{A:Around}{cm:Bool}{P:Program}{w:World}{K:PySem.W.Frag}{tg:Expr}{J:It}{fp:List Addr}{it:Addr}{tn:Nat->Heap->Prop}(T:Turn P w K tg J fp it tn)(hc:cm=true):Nq A cm P w K tg J fp it tn :=
 ⟨T.mem,T.obj,T.keep,fun X a b c _ d=>T.item X a b c (d.trans hc),fun X a b c _ d=>T.done X a b c (d.trans hc),T.self⟩
section
variable {X:Cx}{elt iter tg:Expr}{ifs:List Expr}{scope:Scope}{pos:Pos}{own frees:List Str}{js:List Nat}{wi:TI}{g:TG}{tt:TT}{te:TE}
theorem vK{pins:List (Addr×Obj)}{σ:St}{H2:Hp}{s2:Shared}{it:Addr}{fp:List Addr}{tn:Nat->Heap->Prop}{J:It}{E:Value->Shared->Prop}{RR:Value->Addr->Result->Shared->Prop}{QQ:Addr->Hp->Prop}
 (T:d9 X scope own frees js)
 (hg:∀ C s H fp,PG (dB X (own++frees) scope (fun _ _=>False) C s H fp) tg g)
 (ht:∀ C s H fp,Rc (dB X (own++frees) scope (fun _ _=>False) C s H fp) ifs tt)
 (he:∀ C s H fp,PE (dB X (own++frees) scope (fun _ _=>False) C s H fp) elt te)
 (I2:Inv X pins σ H2 s2) (IL:Nq X.A X.calm X.prog X.w X.K tg J fp it tn) (st2:tn 0 s2.heap) (f2:∀ b∈fp,qu X pins H2 b)
 (hl:∀ D,H2 D=none->iI J g tt te own.length (fN σ js) D (QQ D) (upd H2 D (.lst [])))
 (hRR:∀ D C σ' H' s',s2.heap.objs.size<=C->Inv (dB X (own++frees) scope (fun _ _=>False) C s2 H2 fp) [] σ' H' s'->QQ D H'->RR (.ref D) C (.ok .next) s') :
 wpAny (model X.prog X.w) X.A (newList []) (fun acc s₃=>wpAny (model X.prog X.w) X.A (newFunctionEnv scope X.env.globals (dz X.env.cells scope.names []) [] X.env.qual none .none (some X.env)) (fun cenv s₄ =>
  codeAny (model X.prog X.w) X.A (.compStart (.ListComp elt [⟨tg,iter,ifs,0⟩] scope pos) 0 (.ref it) acc { cenv with scope:=relabel scope X.env}) (RR acc cenv.locals) s₄) E s₃) E s2:=by
 refine wpAny_newObj_type (wpAny_newFunctionEnv T.Af (by intro y hy;simp at hy) (fun h₁ Ow Mg=>?_) T.kind)
 dsimp only at Ow Mg ⊢;generalize Mh:s2.heap.push { cls:=.type "list",dict:=none,data:=.seq ([]:List Value).toArray}=G2 at Ow Mg ⊢;have hC:G2.objs.size=s2.heap.objs.size+1:=by rw[<-Mh,Heap.size_push]
 have hDC:s2.heap.objs.size≠G2.objs.size:=by rw[hC];exact Nat.ne_of_lt (Nat.lt_succ_self _)
 have Rg:s2.heap.objs.size<=G2.objs.size:=by rw[hC];exact Nat.le_succ _
 have below:∀ b,b<s2.heap.objs.size->b≠G2.objs.size:=fun b hb=>by rw[hC];exact Nat.ne_of_lt (Nat.lt_succ_of_lt hb)
 have old:∀ b o,s2.heap.get? b=some o->h₁.get? b=some o:=fun b o e=>Mg.extBut b o (below b (Heap.lt_size e)) (Heap.get?_push_of_some _ (Mh▸Heap.get?_push_of_some _ e))
 have hacc:h₁.get? s2.heap.objs.size=some { cls:=.type "list",data:=.seq ([]:List Value).toArray 0}:=Mg.extBut _ _ hDC (Heap.get?_push_of_some _ (Mh▸Heap.get?_push_size _ rfl));have VT:∀ b∈fp,∃ o,s2.heap.get? b=some o:=fun b hb=>let⟨o,e,_⟩:=IL.obj _ _ st2 b hb;⟨o,e⟩
 have st1:tn 0 h₁:=IL.keep _ _ _ st2 fun b _ o e=>old b o e
 obtain⟨W,⟨m0,w0⟩,turn⟩:=hl s2.heap.objs.size (I2.hok.fresh (Nat.le_refl _));have hfx:∀{H' : Hp},(∀ b∈fp,H' b=none)->∀ b∈fp,qu (dB X (own++frees) scope (fun _ _=>False) G2.objs.size s2 H2 fp) [] H' b:=fun {H'} hn b hb=>by
  obtain⟨_,f1,f2',_,f4,_⟩:=f2 b hb;obtain⟨o,ho⟩:=VT b hb;refine⟨hn b hb,below b (Heap.lt_size ho),fun z=>?_,.inl hb,fun x c e=>?_,fun p hp=>absurd (show p∈([]:List (Addr×Obj)) from hp) (by simp)⟩
  ·rcases List.mem_cons.mp (I2.vB b z) with q|q
   ·exact f1 q
   ·exact f2' q
  ·rcases jV (show(dz X.env.cells scope.names []).lookup x=some c from e) with q|⟨q1,q2⟩
   ·cases q
   ·obtain⟨c',hc'⟩:=gZ I2 T x .free q1 rfl;rw[hc']at q2;have q2:c' = c:=q2;rw[<-q2];exact f4 x c' hc'
 have fp0:∀ b∈fp,upd H2 s2.heap.objs.size (.lst []) b=none:=fun b hb=>by
  obtain⟨o,ho⟩:=VT b hb;rw[aq (Nat.ne_of_lt (Heap.lt_size ho))];exact(f2 b hb).1
 have back:∀{σ6:St} {p6:List (Addr×Obj)} {H6:Hp} {s6:Shared},Inv (dB X (own++frees) scope (fun _ _=>False) G2.objs.size s2 H2 fp) p6 σ6 H6 s6->σ6.drop own.length=fN σ js->
  Inv (dB X (own++frees) scope (fun _ _=>False) G2.objs.size s2 H2 fp) [] (List.replicate own.length none++fN σ js) H6 s6:=fun {σ6 p6 H6 s6} I6 hd=>by
  have hl6:σ6.length=(own++frees).length:=I6.len;have J6:=I6.fV (E5:=[]) fun p hp=>absurd hp (by simp)
  refine J6.weak ?_ fun i v e=>?_
  ·have q:=congrArg List.length hd;rw[List.length_drop]at q;rw[List.length_append]at hl6;rw[List.length_append,List.length_replicate]
   lia
  ·by_cases hi:i<own.length
   ·rw[List.getElem?_append_left (by simpa using hi),List.getElem?_replicate,if_pos hi]at e
    cases e
   ·rw[List.getElem?_append_right (by simpa using hi),List.length_replicate,<-hd,List.getElem?_drop]at e
    rw[show own.length+(i-own.length)=i by lia]at e
    exact e
 have loop:∀ s₃:Shared,s₃={ s2 with heap:=h₁,toks:=s2.toks+([]:List (Str×Value)).length}->
  codeAny (model X.prog X.w) X.A (.compLoop (.ListComp elt [⟨tg,iter,ifs,0⟩] scope pos) 0 (.ref it) (.ref s2.heap.objs.size) (compEnvC scope (dz X.env.cells scope.names []) G2.objs.size X.env))
   (RR (.ref s2.heap.objs.size) G2.objs.size) s₃:=by
  rintro s₃ rfl;refine Ag (fun n s'=>∃ i acc H',Inv (dB X (own++frees) scope (fun _ _=>False) G2.objs.size s2 H2 fp) [] (List.replicate own.length none++fN σ js) H' s'/\tn i s'.heap/\(∀ b∈fp,H' b=none)/\W i n acc H') ?_ m0
   ⟨0,[],upd H2 s2.heap.objs.size (.lst []),Jp I2 T f2 VT (Nat.le_refl _) Rg hDC old hacc Ow,st1,fp0,w0⟩
  rintro n s3 ⟨i,acc,H3,I3,st3,Nl,w3⟩;obtain⟨Ah,Rh⟩:=turn i n acc H3 w3;rcases Rh with⟨stop,qn⟩|⟨go,hz,NN,hNN,step⟩
  ·refine wpAny_mono (IL.done (dB X (own++frees) scope (fun _ _=>False) G2.objs.size s2 H2 fp) rfl rfl rfl rfl rfl i [] s3 _ H3 (fun _ _=>False) I3 (hfx Nl) st3 stop) (fun r s4 ⟨hr,I4⟩=>?_) fun _ _ z=>z.elim
   subst hr;exact hRR _ _ _ H3 s4 Rg I4 qn
  ·refine wpAny_mono (IL.item (dB X (own++frees) scope (fun _ _=>False) G2.objs.size s2 H2 fp) rfl rfl rfl rfl rfl i [] s3 _ H3 (fun _ _=>False) I3 (hfx Nl) st3 go) (fun r s4 ⟨u,hr,h4⟩=>?_) fun _ _ z=>z.elim
   subst hr;refine wpAny_mono h4 (fun _ s5 ⟨x,H5,I5,r5,y5,Ja,QN⟩=>?_) fun _ _ z=>z.elim
   have QO:=I5.pinned (hfx QN) (IL.obj _ _ Ja);refine wpAny_mono (hg _ _ _ _ _ s5 _ H5 x u _ QO r5 (step x H5 y5)) (fun _ s6 ⟨σ6,H6,I6,hd6,q6⟩=>?_) fun _ _ z=>z.elim
   refine wpAny_mono (ht _ _ _ _ _ s6 σ6 H6 _ I6 q6) (fun ok s7 ⟨H7,I7,q7⟩=>?_) fun _ _ z=>z.elim
   have again:∀{H8:Hp} {s8:Shared},Inv (dB X (own++frees) scope (fun _ _=>False) G2.objs.size s2 H2 fp) ([]++sE fp s5.heap) σ6 H8 s8->tn (i+1) s8.heap/\∀ b∈fp,H8 b=none:=fun {H8 s8} I8=>by
    refine⟨IL.keep _ _ _ Ja fun b hb o e=>(I8.pin (b,o) (List.mem_append_right _ (List.mem_append_right _ (gX hb e)))).1,fun b hb=>?_⟩
    obtain⟨o,e,d⟩:=IL.obj _ _ Ja b hb;exact(I8.pin (b,o) (List.mem_append_right _ (List.mem_append_right _ (gX hb e)))).2.1
   cases ok with
   | false =>
     rw[if_neg Bool.false_ne_true];obtain⟨m',hm,w7⟩:=hNN _ _ q7;obtain⟨t7,n7⟩:=again I7;exact⟨m',hm,i+1,acc,H7,back I7 hd6,t7,n7,w7⟩
   | true =>
     rw[if_pos rfl];refine wpAny_mono (he _ _ _ _ _ s7 σ6 H7 _ I7 q7) (fun xv s8 ⟨v,H8,I8,r8,hD8,q8⟩=>?_) fun _ _ z=>z.elim
     obtain⟨m',hm,w8⟩:=hNN _ _ q8;refine wpAny_mono (ff (X:=dB X (own++frees) scope (fun _ _=>False) G2.objs.size s2 H2 fp) _ s8 σ6 H8 (.ref s2.heap.objs.size) [v] (.ref s2.heap.objs.size) [xv] (fun y H9=>y = .gf/\H9=upd H8 s2.heap.objs.size (.lst (acc++[v]))) I8 rfl (.cons r8 .nil) ⟨_,acc,v,rfl,rfl,hD8,hz,rfl,rfl⟩)
      (fun _ s9 ⟨y,H9,I9,_,_,e9⟩=>?_) fun _ _ z=>z.elim
     subst e9;obtain⟨t9,n9⟩:=again I9;exact⟨m',hm,i+1,acc++[v],_,back I9 hd6,t9,n9,w8⟩
 exact codeAny_compStart_list (loop _ rfl) (IL.self _ 0 _ _ _ st1 (loop _ rfl))
theorem bN(T:d9 X scope own frees js)(hc:X.calm=true)(hi:PI X tg iter wi)
 (hg:∀ C s H fp,PG (dB X (own++frees) scope (fun _ _=>False) C s H fp) tg g)
 (ht:∀ C s H fp,Rc (dB X (own++frees) scope (fun _ _=>False) C s H fp) ifs tt)
 (he:∀ C s H fp,PE (dB X (own++frees) scope (fun _ _=>False) C s H fp) elt te)
 (hs:∀ x,foldedSetIterable iter X.env x=pure x:=by intro _;rfl) :
 PE X (.ListComp elt [⟨tg,iter,ifs,0⟩] scope pos) (Np wi g tt te own.length js):=by
 intro pins s σ H Q I h;rw[eval_ListComp];refine wpAny_comprehension_free (use:=none) rfl hs (qv (gZ I T)) T.kind T.names ?_;refine wpAny_mono (hi pins s σ H _ I h) (fun v s1 h1=>wpAny_mono h1 (fun itv s2 h2=>?_) fun _ _ z=>z) fun _ _ z=>z
 obtain⟨it,fp,tn,J,H2,e,I2,IL,st2,f2,hl⟩:=h2;subst e;refine vK (QQ:=fun D H'=>Q (.ref D) H') T hg ht he I2 (IL.x hc) st2 f2 hl fun D C σ' H' s' hC J' q=>?_
 obtain⟨m,hn,_⟩:=J'.loc;exact⟨m,hn,fun h' sb=>⟨.ref D,H',p5 I2 f2 hC J' sb,rfl,q⟩⟩
def Jq(i:Nat)(wi:TI)(g:TG)(tt:TT)(te:TE)(n:Nat)(js:List Nat):TS:=fun D σ H=>Np wi g tt te n js σ H fun v H1=>D.nx (σ.set i (some v)) H1
theorem iC{i:Nat}{x:Str}{pos' spos:Pos}(hN:X.N.Nodup)(hix:X.N[i]?=some x)(hx:X.env.scope.names.lookup x=some .local)(T:d9 X scope own frees js)(hc:X.calm=true)(hi:PI X tg iter wi)
 (hg:∀ C s H fp,PG (dB X (own++frees) scope (fun _ _=>False) C s H fp) tg g)
 (ht:∀ C s H fp,Rc (dB X (own++frees) scope (fun _ _=>False) C s H fp) ifs tt)
 (he:∀ C s H fp,PE (dB X (own++frees) scope (fun _ _=>False) C s H fp) elt te)
 (hsw:swapsWith (.ListComp elt [⟨tg,iter,ifs,0⟩] scope pos) (some (.Name x pos')) spos.line X.env=pure true:=by rfl)
 (hs:∀ x,foldedSetIterable iter X.env x=pure x:=by intro _;rfl) :
 PS X (.Assign [.Name x pos'] (.ListComp elt [⟨tg,iter,ifs,0⟩] scope pos) spos) (Jq i wi g tt te own.length js):=by
 intro pins s σ H D I h;rw[exec_Assign_Name_used _ _ _ _ hsw];refine wpAny_bind (wpAny_standAt (wpAny_bind ?_));show wpAny _ X.A (do let _←comprehension (.ListComp elt [⟨tg,iter,ifs,0⟩] scope pos) scope X.env _ (newList []) false (eval iter X.env) (some (assign (.Name x pos') X.env))) _ _ s
 refine wpAny_bind (wpAny_mono (wpAny_comprehension_free (use:=some (assign (.Name x pos') X.env)) (Q:=fun _ s'=>SP X pins D .next s') rfl hs (qv (gZ I T)) T.kind T.names ?_) (fun _ s' hq=>wpAny_pure (wpAny_pure hq)) fun _ _ e=>e)
 refine wpAny_mono (hi pins s σ H _ I h) (fun v s1 h1=>wpAny_mono h1 (fun itv s2 h2=>?_) fun _ _ z=>z) fun _ _ z=>z
 obtain⟨it,fp,tn,J,H2,e,I2,IL,st2,f2,hl⟩:=h2;subst e;refine vK (QQ:=fun D' H'=>D.nx (σ.set i (some (.ref D'))) H') T hg ht he I2 (IL.x hc) st2 f2 hl fun D' C σ' H' s' hC J' q=>?_
 have I3:Inv X pins σ H' s':=by
  obtain⟨hh,gg,dd,tt',oo⟩:=s';exact p5 I2 f2 hC J' (Heap.SameBut.refl ..)
 obtain⟨m,hn,_⟩:=J'.loc;obtain⟨oC,es,ep,hoC,hdC,rest⟩:=id hn;have Ov:H' C=none:=J'.free;have hlC:C≠X.env.locals:=Nat.ne_of_gt (Nat.lt_of_lt_of_le I2.lt hC);have hfC:C∉X.fs:=fun z=>by
  obtain⟨_,o,ho,_⟩:=I2.funs.mem z;exact absurd (Nat.lt_of_lt_of_le (Heap.lt_size ho) hC) (Nat.lt_irrefl _)
 have I4:Inv X (pins++[(C,oC)]) σ H' s':=I3.fV fun p hp=>(List.mem_append.mp hp).elim (fun z=>I3.pin p (List.mem_append_right _ z)) fun z=>by
  have e:p=(C,oC):=by simpa using z
  subst e;exact⟨hoC,Ov,hlC,hfC,fun v z=>by have z' : oC.data = .cell v:=z;rw[hdC]at z';cases z'⟩
 show wpAny _ X.A (assign (.Name x pos') X.env (.ref D')) _ _ _;refine wpAny_assign_Name (qQ (v:=.ref D') I4 hN hix (.inl hx) rfl (fun s5 I5=>?_) (.inr hx))
 have e5:s5.heap.get? C=some oC:=(I5.pin (C,oC) (List.mem_append_right _ (List.mem_append_right _ (by simp)))).1
 refine⟨m,⟨oC,es,ep,e5,hdC,rest⟩,fun h' sb=>⟨_,H',?_,q⟩⟩
 have I6:Inv X pins (σ.set i (some (.ref D'))) H' s5:=I5.jD;refine I6.turned (t':=s5.toks) (fun b o hb e=>(sb.2 b hb).trans e) Ov hlC (.inr (Nat.le_trans I2.sz hC)) (fun y c e=>?_) (fun p hp z=>?_)
 ·obtain⟨v,qc⟩:=I2.cell y c e;exact Nat.ne_of_lt (Nat.lt_of_lt_of_le qc.lt hC)
 ·have P7:=(I2.pin p hp).1;exact absurd (Nat.lt_of_lt_of_le (Heap.lt_size P7) (by rw[z];exact hC)) (Nat.lt_irrefl _)
end
section
variable {K:PySem.W.Frag}{a:Addr}{xs:List V}{g:TG}{tt:TT}{te:TE}{n:Nat}{fr:St}{D:Addr}{Q:Hp->Prop}{H1:Hp}
theorem bS(Pv:Nat->List V->Hp->Prop)(h0:Pv 0 [] H1)(hl:∀ i acc H,i<=xs.length->Pv i acc H->aS K H a xs/\H D=some (.lst acc)/\acc.length<=i)(hz:xs.length<=sizeLine)
 (hs:∀ i x acc H,xs[i]?=some x->Pv i acc H->g x (List.replicate n none++fr) H fun σ2 H2=>σ2.drop n=fr/\tt σ2 H2 fun b H3 =>
  if b=true then te σ2 H3 fun v H4=>H4 D=some (.lst acc)/\Pv (i+1) (acc++[v]) (upd H4 D (.lst (acc++[v]))) else Pv (i+1) acc H3)
 (hd:∀ acc H,Pv xs.length acc H->Q H):iI (LX K a) g tt te n fr D Q H1:=by
 refine⟨fun i m acc H=>m=xs.length-i/\i<=xs.length/\Pv i acc H,⟨xs.length,by simp,Nat.zero_le _,h0⟩,?_⟩
 rintro i m acc H ⟨rfl,hi,p⟩;obtain⟨q,hD,ha⟩:=hl i acc H hi p;refine⟨hD,?_⟩
 by_cases hlt:i<xs.length
 ·refine .inr ⟨⟨xs,xs[i],q,by simp[hlt]⟩,by lia,Pv (i+1),fun acc' H' p'=>⟨xs.length-(i+1),by lia,rfl,hlt,p'⟩,fun x H' y=>?_⟩
  obtain⟨e,y⟩:=y;subst e;exact hs i x acc _ (y xs q) p
 ·have e:i=xs.length:=by lia
  subst e;exact .inl ⟨⟨xs,q,Nat.le_refl _⟩,hd acc H p⟩
theorem Jr(Pv:Nat->List V->Hp->Prop)(h0:Pv 0 [] H1)(hl:∀ i acc H,i<=xs.length->Pv i acc H->aX K H a xs/\H D=some (.lst acc)/\acc.length<=i)(hz:xs.length<=sizeLine)
 (hs:∀ i x acc H,xs[i]?=some x->Pv i acc H->g x (List.replicate n none++fr) H fun σ2 H2=>σ2.drop n=fr/\tt σ2 H2 fun b H3 =>
  if b=true then te σ2 H3 fun v H4=>H4 D=some (.lst acc)/\Pv (i+1) (acc++[v]) (upd H4 D (.lst (acc++[v]))) else Pv (i+1) acc H3)
 (hd:∀ acc H,Pv xs.length acc H->Q H):iI (VC K a) g tt te n fr D Q H1:=by
 refine⟨fun i m acc H=>m=xs.length-i/\i<=xs.length/\Pv i acc H,⟨xs.length,by simp,Nat.zero_le _,h0⟩,?_⟩
 rintro i m acc H ⟨rfl,hi,p⟩;obtain⟨q,hD,ha⟩:=hl i acc H hi p;refine⟨hD,?_⟩
 by_cases hlt:i<xs.length
 ·refine .inr ⟨⟨xs,xs[i],q,by simp[hlt]⟩,by lia,Pv (i+1),fun acc' H' p'=>⟨xs.length-(i+1),by lia,rfl,hlt,p'⟩,fun x H' y=>?_⟩
  obtain⟨e,y⟩:=y;subst e;exact hs i x acc _ (y xs q) p
 ·have e:i=xs.length:=by lia
  subst e;exact .inl ⟨⟨xs,q,Nat.le_refl _⟩,hd acc H p⟩
theorem cD{lo:Int}{m:Nat}(Pv:Nat->List V->Hp->Prop)(h0:Pv 0 [] H1)(hl:∀ i acc H,i<=m->Pv i acc H->H D=some (.lst acc)/\acc.length<=i)(hz:m<=sizeLine)
 (hs:∀ i acc H,i<m->Pv i acc H->g (.int (lo+i)) (List.replicate n none++fr) H fun σ2 H2=>σ2.drop n=fr/\tt σ2 H2 fun b H3 =>
  if b=true then te σ2 H3 fun v H4=>H4 D=some (.lst acc)/\Pv (i+1) (acc++[v]) (upd H4 D (.lst (acc++[v]))) else Pv (i+1) acc H3)
 (hd:∀ acc H,Pv m acc H->Q H):iI (LL lo m) g tt te n fr D Q H1:=by
 refine⟨fun i k acc H=>k=m-i/\i<=m/\Pv i acc H,⟨m,by simp,Nat.zero_le _,h0⟩,?_⟩
 rintro i k acc H ⟨rfl,hi,p⟩;obtain⟨hD,ha⟩:=hl i acc H hi p;refine⟨hD,?_⟩
 by_cases hlt:i<m
 ·refine .inr ⟨hlt,by lia,Pv (i+1),fun acc' H' p'=>⟨m-(i+1),by lia,rfl,hlt,p'⟩,fun x H' y=>?_⟩
  obtain⟨e,y⟩:=y;subst e y;exact hs i acc _ hlt p
 ·have e:i=m:=by lia
  subst e;exact .inl ⟨Nat.le_refl _,hd acc H p⟩
end
end L2
namespace L2
open PySem PySem.Spec PyProof.Rows
def BD(scope Ri:Scope)(N frees:List Str)(js:List Nat):Bool :=
 decide (scope.kind = .function)&&scope.names.all (fun y=>decide (y.2≠.cell))&&scope.names.all (fun y=>decide (y.2 = .local->scope.names.lookup y.1=some .local)) &&
 scope.names.all (fun y=>decide (y.2 = .free->Ri.names.lookup y.1=some .cell\/Ri.names.lookup y.1=some .free))&&decide (js.map (fun j=>N[j]?)=frees.map some)&&frees.all (fun x=>decide (scope.names.lookup x=some .free))
theorem aI{X:Cx}{scope:Scope}{own frees:List Str}{js:List Nat}(Ri:Scope)(N:List Str)(h1:X.env.scope=Ri:=by rfl)(h2:X.N=N:=by rfl)(h:BD scope Ri N frees js=true:=by decide +kernel):d9 X scope own frees js:=by
 unfold BD at h;simp only[Bool.and_eq_true,decide_eq_true_eq,List.all_eq_true]at h;obtain⟨⟨⟨⟨⟨a,b⟩,c⟩,d⟩,e⟩,f⟩:=h;exact⟨a,b,c,by rw[h1];exact d,by rw[h2];exact e,f⟩
mutual
inductive sH(K:PySem.W.Frag)(H:Hp):V->PyData->Prop
 | gf:sH K H .gf .none
 | bl (b:Bool):sH K H (.bl b) (.bool b)
 | int (i:Int):sH K H (.int i) (.int i)
 | str (x:Str):sH K H (.str x) (.str x)
 | lst {a:Addr} {xs:List V} {ds:List PyData} (h:aS K H a xs) (r:DatVs K H xs ds):sH K H (.ref a) (.list ds)
 | tup {a:Addr} {xs:List V} {ds:List PyData} (h:aX K H a xs) (r:DatVs K H xs ds):sH K H (.ref a) (.tuple ds)
inductive DatVs(K:PySem.W.Frag)(H:Hp):List V->List PyData->Prop
 | nil:DatVs K H [] []
 | cons {x:V} {d:PyData} {xs:List V} {ds:List PyData} (h:sH K H x d) (r:DatVs K H xs ds):DatVs K H (x::xs) (d::ds)
end
section
variable {X:Cx}{pins:List (Addr×Obj)}{σ:St}{H:Hp}{s:Shared}
mutual
theorem sH.reads(I:Inv X pins σ H s):∀{v:V} {d:PyData} {u:Value},sH X.K H v d->RelV v u->∃ as,Reads s.heap u d as
 | _,_,u,.gf,r=>by cases(show u=Value.none from r);exact⟨_,.none⟩
 | _,_,u,.bl b,r=>by cases(show u=Value.bool b from r);exact⟨_,.bool b⟩
 | _,_,u,.int i,r=>by obtain⟨t,rfl⟩:=(show ∃ t,u=Value.int i t from r);exact⟨_,.int i t⟩
 | _,_,u,.str x,r=>by obtain⟨t,rfl⟩:=(show ∃ t,u=Value.str x t from r);exact⟨_,.str x t⟩
 | _,_,u,.lst (a:=a) h rs,r=>by
   cases(show u=Value.ref a from r)
   obtain⟨its,rv,⟨o,n,e,c,_,d⟩,_⟩:=I.list h;obtain⟨as,q⟩:=DatVs.reads I rs rv;exact⟨_,.list e c d (by simpa using q)⟩
 | _,_,u,.tup (a:=a) h rs,r=>by
   cases(show u=Value.ref a from r)
   obtain⟨its,rv,⟨o,e,c,n,d⟩,_⟩:=I.tuple h;obtain⟨as,q⟩:=DatVs.reads I rs rv;exact⟨_,.tuple e c d (by simpa using q)⟩
theorem DatVs.reads(I:Inv X pins σ H s):∀{vs:List V} {ds:List PyData} {us:List Value},DatVs X.K H vs ds->Vals vs us->∃ as,ReadsAll s.heap us ds as
 | _,_,_,.nil,.nil=>⟨_,.nil⟩
 | _,_,_,.cons h r,.cons rv rr=>by
   obtain⟨as,q⟩:=sH.reads I h rv;obtain⟨bs,q2⟩:=DatVs.reads I r rr;exact⟨_,.cons q q2⟩
end
end
section
variable {X:Cx}
def Rj(K:PySem.W.Frag):R2:=fun x y H Q=>∃ d e,sH K H x d/\sH K H y e/\SeqAt.shaped d=true/\SeqAt.shaped e=true/\Q (.bl (PyData.eqv d e)) H
theorem Ox(hu:X.A.units+64<cLine):nF X (compareOp .Eq) (Rj X.K):=by
 intro pins s σ H x y v u Q I rx ry h;obtain⟨d,e,h1,h2,s1,s2,q⟩:=h;obtain⟨as,ra⟩:=h1.reads I rx;obtain⟨bs,rb⟩:=h2.reads I ry;exact eq_dataH ra rb s1 s2 hu ⟨.bl _,H,I,rfl,q⟩
theorem Fq:VM X "int.bit_length" (fun x xs H Q=>∃ i,x = .int i/\xs=[]/\Q (.int (Builtin.Int.intBits i)) H):=by
 intro pins s σ H x xs v us Q I rx rs h;obtain⟨i,rfl,rfl,q⟩:=h;obtain⟨t,rfl⟩:=rx;cases rs;exact call_int_bit_length ⟨.int _,H,I.tok _,⟨_,rfl⟩,q⟩
end
end L2
namespace L2
open PySem PySem.Spec PyProof.Rows
section
variable {X:Cx}
end
theorem dl{n:Nat}(h:Nat.ble n 1000=true):n<=sizeLine:=Nat.le_of_lt (kO (Nat.le_of_ble_eq_true h))
theorem nR{j:Int}(h:decide (0<j)=true):0<j:=of_decide_eq_true h
theorem GD{c A B:Prop}[Decidable c](h : ¬ c)(hb:B):if decide c=true then A else B:=by
 rw[decide_eq_false h];exact eT hb
theorem Rk{c A B:Prop}[Decidable c](h:c)(ha:A):if decide c=true then A else B:=by
 rw[decide_eq_true h];exact fQ ha
theorem av.new{H:Hp}{p:Addr}{o:HO}(h:H p=none):av H (upd H p o):=fun b u e=>by
 rw[aq (bR e h)];exact e
theorem av.put{H H2:Hp}{D:Addr}{o:HO}(s:av H H2)(h:H D=none):av H (upd H2 D o):=fun b u e=>by
 rw[aq (bR e h)];exact s b u e
theorem av.sqT{K:PySem.W.Frag}{H H' : Hp}{a:Addr}{xs:List V}(e:av H H')(h:aX K H a xs):aX K H' a xs:=by
 rcases h with(h|⟨o,h⟩) | h
 ·exact .inl (.inl (e _ _ h))
 ·exact .inl (.inr ⟨o,e _ _ h⟩)
 ·exact .inr h
def dH(H H' : Hp):Prop:=∀ b xs,H b=some (.tup xs)->H' b=some (.tup xs)
theorem av.tups{H H' : Hp}(s:av H H'):dH H H':=fun b xs e=>s b _ e
theorem dH.trans{H H1 H2:Hp}(a:dH H H1)(b:dH H1 H2):dH H H2:=fun c xs e=>b c xs (a c xs e)
theorem dH.put{H:Hp}{D:Addr}{o:HO}{ys:List V}(h:H D=some (.lst ys)):dH H (upd H D o):=fun b xs e=>by
 rw[aq (aY e h (by intro z;cases z))]
 exact e
theorem Paired.sI{α β:Type}{F:α->β->Prop}:∀{l:List α} {r:List β} {i:Nat} {x:α},Paired F l r->l[i]?=some x->∃ y,r[i]?=some y/\F x y
 | _,_,_,_,.nil,e=>by simp at e
 | _,_,0,_,.cons h _,e=>by
   simp at e;subst e;exact⟨_,rfl,h⟩
 | _,_,i+1,x,.cons _ t,e=>by
   obtain⟨y,h1,h2⟩:=Paired.sI (i:=i) (x:=x) t (by simpa using e)
   exact⟨y,by simpa using h1,h2⟩
theorem BE(ns:List Int)(lo hi:Option Int):xW (ns.map V.int) lo hi=((ns.drop (HT.uH ns.length 0 lo)).take (HT.uH ns.length ns.length hi-HT.uH ns.length 0 lo)).map V.int:=by
 unfold xW;rw[List.length_map,<-List.map_drop,<-List.map_take]
end L2
namespace L2
open PySem PySem.Spec PyProof.Rows
section
variable {X:Cx}{l:Expr}{tl:TE}{tg a b o e:Expr}{ta tb to:TE}{es:List Expr}
theorem Ai(K:PySem.W.Frag)(hu:X.A.units+64<cLine)(h:X.K=K:=by rfl):nF X (compareOp .Eq) (Rj K):=by subst h;exact Ox hu
def VU(K:PySem.W.Frag):List V->Hp->VK->Prop:=fun xs H Q=>∃ p ys,xs=[.ref p]/\(aS K H p ys\/aX K H p ys)/\Q (.int ys.length) H
theorem iZ(K:PySem.W.Frag)(h:X.K=K:=by rfl):gW X (.builtin "len") (VU K):=by subst h;exact Ae
def Rl(K:PySem.W.Frag):List V->Hp->VK->Prop:=fun xs H Q=>∃ p ys,xs=[.ref p]/\((aS K H p ys/\∀ l,H l=none->Q (.ref l) (upd H l (.tup ys)))\/(aX K H p ys/\Q (.ref p) H))
theorem Ft(K:PySem.W.Frag)(h:X.K=K:=by rfl):gW X (.type "tuple") (Rl K):=by subst h;exact xY
theorem kN(K:PySem.W.Frag)(h:X.K=K:=by rfl):Q3 X (Q4 K):=by subst h;exact L8
theorem ck(K:PySem.W.Frag)(h:X.K=K:=by rfl):Q3 X (Q5 K):=by subst h;exact Oq
theorem T6(K:PySem.W.Frag)(h:X.K=K:=by rfl):VL X (Q7 K):=by subst h;exact Ma
theorem inK(K:PySem.W.Frag)(h:X.K=K:=by rfl):nF X (compareOp .In) (T5 K false):=by subst h;exact Gz
theorem Js(K:PySem.W.Frag)(h:X.K=K:=by rfl):nF X (compareOp .NotIn) (T5 K true):=by subst h;exact Ad
theorem u9(K:PySem.W.Frag)(hl:PE X l tl)(h:X.K=K:=by rfl):PI X tg l (Nk K tl):=by subst h;exact LY hl
theorem piT(K:PySem.W.Frag)(hl:PE X l tl)(h:X.K=K:=by rfl):PI X tg l (QL K tl):=by subst h;exact Og hl
theorem IM(K:PySem.W.Frag){k:Nat}{t:LJ}{n:Nat}{pos:Pos}(hc:X.calm=true)(hp:P5 X es t)(hn:(assignEach es X.env).length=n:=by rfl)(hst:(assignEach es X.env).findIdx? (·.1)=none:=by rfl)(h:X.K=K:=by rfl):
 PG X (.Tuple es k pos) (QH K n t):=by subst h;exact Of hc hp hn hst
end
end L2
namespace L2
open PySem PySem.Spec PyProof.Rows
def xZ(od:Option Addr)(c:Value)(e:Addr)(h:Heap):Prop:=∃ oe vs,h.get? e=some oe/\oe.data = .fields vs/\vs[2]?=some c/\oe.dict=od
theorem Jt(o:Obj)(f):(o.mapFields f).dict=o.dict:=by
 obtain⟨c,d,dt,sl⟩:=o;cases dt<;>rfl
section
variable {M:Model}{A:Around}{E:Value->Shared->Prop}{s:Shared}{B:Heap}{env:Env}{outer l:List Env}{L e:Addr}{cls a0:Value}{Q:Unit->Shared->Prop}{od:Option Addr}{c:Value}
theorem Aj{h:Heap}{T:Addr}{oT:Obj}{ts:Array Value}(f:Obj->Obj)(hT:h.get? T=some oT)(hd:oT.data = .fields ts):h.UpToSlots (h.update T f):=fun b o hb hn=>by
 have ne:T≠b:=fun z=>by
  rw[<-z,hT]at hb;cases hb;exact hn ts hd
 exact⟨o.slots,(Heap.get?_update_other h f ne).trans hb⟩
theorem sJ{h:Heap}{T:Addr}(f:Obj->Obj)(k:B.StaysIn h)(n:B.get? T=none):B.StaysIn (h.update T f):=fun b o hb=>by
 have ne:T≠b:=fun z=>by
  rw[<-z,n]at hb;cases hb
 exact(Heap.get?_update_other h f ne).trans (k b o hb)
theorem my{h h' : Heap}(x:h.FunFrames B l)(u:h.UpToSlots h'):h'.FunFrames B l:=x.of_keeps fun b o hb hn =>
 let⟨_,q⟩:=u b o hb hn
 ⟨_,q,rfl⟩
theorem Nr{fl:Value}(hk:B.StaysIn s.heap)(hn:B.get? e=none)(hl:s.heap.FunFrames B l)(ht:s.heap.TracedAtW B e cls a0 fl)(h2:xZ od c e s.heap)
 (q:∀ h',Heap.FlyingW B l e cls a0 h'->xZ od c e h'->s.heap.UpToSlots h'->Q () { s with heap:=h'}):wpAny M A (setFlight (.ref e) none) Q E s:=by
 obtain⟨oe,vs,T,oT,ts,ge,hc,de,f1,nT,Te,gT,dT,f3⟩:=ht;have z3:3<ts.size:=(Array.getElem?_eq_some_iff.mp f3).1;rw[setFlight];refine wpAny_bind (wpAny_field ge de f1 ?_);rw[if_pos (by simp)]
 refine wpAny_setField gT dT z3 ?_;have up:=Aj (Obj.mapFields (·.setIfInBounds 3 ((none:Option Addr).elim Value.none fun f=>rawInt f))) gT dT
 have T7:=(Heap.get?_update_other s.heap (Obj.mapFields (·.setIfInBounds 3 ((none:Option Addr).elim Value.none fun f=>rawInt f))) Te).trans ge
 have dT':=Obj.data_mapFields dT (·.setIfInBounds 3 ((none:Option Addr).elim Value.none fun f=>rawInt f))
 refine q _ ⟨sJ _ hk nT,hn,my hl up,oe,vs,T,_,_,T7,hc,de,f1,nT,Te,Heap.get?_update_self _ gT (Obj.isFreed_of_fields dT'),dT',by simp[z3]⟩ ?_ up
 obtain⟨o2,v2,g2,d2,k2,z2⟩:=h2;rw[ge]at g2;cases g2;exact⟨oe,v2,T7,d2,k2,z2⟩
theorem Ju{oe:Obj}{vs:Array Value}{head:Value}{hadNext:Bool}(hfr:A.frames=some (env::outer))(hl:s.heap.FunFrames B (env::outer))(hf:env.frame=some L)(ge:s.heap.get? e=some oe)(hk:B.StaysIn s.heap)(hn:B.get? e=none)
 (de:oe.data = .fields vs) (hz:1<vs.size) (h0:vs[0]?=some a0) (h2:vs[2]?=some c) (hz2:oe.dict=od)
 (q:∀ h',Heap.HeldW B (env::outer) e oe.cls a0 L h'->xZ od c e h'->s.heap.UpToSlots h'->Q () { s with heap:=h'}) :
 wpAny M A (do let a←frameOf env;let pl←entryPlaceOf L hadNext;let b←EntryCells.newEntry head a .none (rawInt L) .none pl;setField (.ref e) 1 b) Q E s:=by
 have VV:e∉(env::outer).filterMap (·.frame):=fun z=>by
  obtain⟨_,o,ho,nf⟩:=hl.mem z;rw[ge]at ho;cases ho;exact nf vs de
 refine wpAny_bind (wpAny_frameOf_fun hfr hl hf fun h1 so=>wpAny_bind (wpAny_entryPlaceOf fun pl ip=>?_))
 rw[EntryCells.newEntry,newFields];refine wpAny_bind (wpAny_newObj_type ?_ (ip.sizeOk5 _ _ _ _ _));generalize hnw:({ cls:=.type "traceback",dict:=none,data:=.fields ([head,.ref L,.none,rawInt L,.none]++(if pl.isEmpty then List.replicate 6 Value.none else pl)).toArray}:Obj)=nw
 have dn:nw.data = .fields ([head,.ref L,.none,rawInt L,.none]++(if pl.isEmpty then List.replicate 6 Value.none else pl)).toArray:=by rw[<-hnw]
 have ge1:h1.get? e=some oe:=(so.2.1 e VV).trans ge;have VW:=Heap.get?_push_of_some (h:=h1) nw ge1;have Te:h1.objs.size≠e:=Nat.ne_of_gt (Heap.lt_size ge1);refine wpAny_setField VW de hz ?_;have VX:=Obj.data_mapFields de (·.setIfInBounds 1 (Value.ref h1.objs.size));have ge3:=Heap.get?_update_self (Obj.mapFields (·.setIfInBounds 1 (Value.ref h1.objs.size))) VW (Obj.isFreed_of_fields VX);have gT3:=(Heap.get?_update_other (h1.push nw) (Obj.mapFields (·.setIfInBounds 1 (Value.ref h1.objs.size))) (Ne.symm Te)).trans (Heap.get?_push_size h1 (by rw[<-hnw];rfl))
 have up:s.heap.UpToSlots ((h1.push nw).update e (Obj.mapFields (·.setIfInBounds 1 (Value.ref h1.objs.size)))):=by
  have u1:s.heap.UpToSlots h1:=fun b o hb _=>so.2.2 b o hb
  exact(u1.trans (.of_keeps fun b o hb=>Heap.get?_push_of_some nw hb)).trans (Aj _ VW de)
 have k1:B.StaysIn h1:=fun b o hb=>(so.2.1 b fun z=>by rw[(hl.mem z).1]at hb;cases hb).trans (hk b o hb)
 have k2:B.StaysIn (h1.push nw):=fun b o hb=>Heap.get?_push_of_some nw (k1 b o hb)
 refine q _ ⟨sJ _ k2 hn,hn,my hl up,_,_,h1.objs.size,nw,_,ge3,⟨Obj.cls_mapFields _ _,by rw[Array.getElem?_setIfInBounds_ne (by decide)];exact h0⟩,VX,by simp[hz],k1.fresh,Te,gT3,dn,?_⟩ ?_ up
 ·first | (simp;done) | (rcases ip with rfl | ⟨_,_,_,_,_,_,_,rfl⟩<;>simp)
 ·exact⟨_,_,ge3,VX,by rw[Array.getElem?_setIfInBounds_ne (by decide)];exact h2,(Jt _ _).trans hz2⟩
theorem Rm(hfr:A.frames=some (env::outer))(hf:env.frame=some L)(fl:Heap.FlyingW B (env::outer) e cls a0 s.heap)(h2:xZ od c e s.heap)
 (q:∀ h',Heap.HeldW B (env::outer) e cls a0 L h'->xZ od c e h'->s.heap.UpToSlots h'->Q () { s with heap:=h'}):wpAny M A (noteFrame (.ref e) env) Q E s:=by
 obtain⟨hk,hn,hl,oe,vs,T,oT,ts,ge,⟨hc,h0⟩,de,f1,nT,Te,gT,dT,f3⟩:=fl;obtain⟨o2,v2,g2,d2,k2,z2⟩:=h2;rw[ge]at g2;cases g2;rw[de]at d2;cases d2;cases hc;rw[noteFrame];simp only[hf];refine wpAny_bind (wpAny_field ge de f1 ?_);rw[if_pos (by simp)]
 refine wpAny_bind (wpAny_field gT dT f3 ?_);rw[if_neg (by simp[rawInt])]
 refine wpAny_bind (wpAny_setField gT dT (Array.getElem?_eq_some_iff.mp f3).1 ?_);have up:=Aj (Obj.mapFields (·.setIfInBounds 3 Value.none)) gT dT;have T7:=(Heap.get?_update_other s.heap (Obj.mapFields (·.setIfInBounds 3 Value.none)) Te).trans ge;exact Ju (s:={ s with heap:=s.heap.update T (Obj.mapFields (·.setIfInBounds 3 Value.none))}) hfr (my hl up) hf T7 (sJ _ hk nT) hn de (Array.getElem?_eq_some_iff.mp f1).1 h0 k2 z2 fun h' x1 x2 x3=>q h' x1 x2 (up.trans x3)
theorem Rn(x:Heap.FlyingW B (env::outer) e cls a0 s.heap):Heap.FlyingW B outer e cls a0 s.heap :=
 let⟨k1,k2,⟨_,_,k3⟩,k4⟩:=x
 ⟨k1,k2,k3,k4⟩
theorem leave_on2(hfr:A.frames=some (env::outer))(hf:env.frame=some L)(fl:Heap.FlyingW B (env::outer) e cls a0 s.heap)(h2:xZ od c e s.heap)
 (q:∀ h',Heap.FlyingW B outer e cls a0 h'->xZ od c e h'->s.heap.UpToSlots h'->Q () { s with heap:=h'}):wpAny M A (leaving env (.ref e)) Q E s:=by
 rw[leaving];refine wpAny_bind (Rm hfr hf fl h2 fun h' x1 x2 x3=>?_)
 obtain⟨y1,y2,y3,y4⟩:=x1;exact Nr (s:={ s with heap:=h'}) y1 y2 y3 y4 x2 fun h'' z1 z2 z3=>q h'' (Rn (s:={ s with heap:=h''}) z1) z2 (x3.trans z3)
theorem leave_new{oe:Obj}{vs:Array Value}(hfr:A.frames=some (env::outer))(hf:env.frame=some L)(hk:B.StaysIn s.heap)(hn:B.get? e=none)(hl:s.heap.FunFrames B (env::outer))(ge:s.heap.get? e=some oe)(de:oe.data = .fields vs)
 (h0:vs[0]?=some a0) (h1:vs[1]?=some .none) (h2:vs[2]?=some c) (hz2:oe.dict=od)
 (q:∀ h',Heap.FlyingW B outer e oe.cls a0 h'->xZ od c e h'->s.heap.UpToSlots h'->Q () { s with heap:=h'}):wpAny M A (leaving env (.ref e)) Q E s:=by
 rw[leaving,noteFrame];simp only[hf];refine wpAny_bind (wpAny_bind (wpAny_field ge de h1 ?_));rw[if_neg (by decide)]
 refine Ju (a0:=a0) hfr hl hf ge hk hn de (Array.getElem?_eq_some_iff.mp h1).1 h0 h2 hz2 fun h' x1 x2 x3=>?_
 obtain⟨y1,y2,y3,y4⟩:=x1;exact Nr (s:={ s with heap:=h'}) y1 y2 y3 y4 x2 fun h'' z1 z2 z3=>q h'' (Rn (s:={ s with heap:=h''}) z1) z2 (x3.trans z3)
end
end L2
namespace L2
open PySem PySem.Spec PyProof.Rows
section
variable {P:Program}{w:World}{H H0 H1:Hp}{h h0 h1 h2:Heap}{a:Addr}{o:HO}{fs:List Addr}{B:Heap}
theorem bI.thing(x:bI P w H h a o):∃ ob,h.get? a=some ob:=by
 cases o with
 | lst xs=>obtain⟨_,_,_,_,e⟩:=x;exact⟨_,e⟩
 | tup xs=>obtain⟨_,_,_,ob,e,_⟩:=x;exact⟨ob,e⟩
 | dK kvs=>obtain⟨_,_,_,_,ob,_,_,e,_⟩:=x;exact⟨ob,e⟩
 | dT kvs=>obtain⟨_,_,_,_,ob,_,_,e,_⟩:=x;exact⟨ob,e⟩
 | set S n=>obtain⟨ob,_,_,_,e,_⟩:=x;exact⟨ob,e⟩
 | ins C dx fs=>obtain⟨_,_,_,e,_⟩:=x;exact⟨_,e⟩
 | own y=>exact x
 | xd fs=>obtain⟨_,⟨ob,_,_,e,_⟩,_⟩:=x;exact⟨ob,e⟩
 | Gp lo hi=>obtain⟨_,_,_,e⟩:=x;exact⟨_,e⟩
 | nH ob u=>obtain⟨e,_⟩:=x;exact⟨_,e⟩
 | jT ps=>obtain⟨_,e,_⟩:=x;exact⟨_,e⟩
 | met f y=>exact⟨_,(show h.get? a=some _ from x)⟩
 | ext φ=>obtain⟨_,e,_⟩:=x;exact e
def Mi(B:Heap)(fs:List Addr)(h0:Heap)(H:Hp)(h:Heap):Prop:=∀ b o,h.get? b=some o->(H b≠none\/∃ o',h0.get? b=some o')->b∉fs->B.get? b=some o
theorem Jv(un:Un fs [] H0 H1 h0 h1)(hok:oY P w H1 h1)(nof:∀ b∈fs,H1 b=none)(fr:∀ b∈fs,∀ ob,h1.get? b=some ob->∀ vs,ob.data≠.fields vs)(Nt:Mi B fs h0 H1 h1)
 (hB:B.StaysIn h2) (up:h1.UpToSlots h2):Un fs [] H0 H1 h0 h2/\oY P w H1 h2/\Mi B fs h0 H1 h2:=by
 have VY:∀ b ob,h1.get? b=some ob->(H1 b≠none\/∃ o',h0.get? b=some o')->b∉fs->h2.get? b=some ob:=fun b ob e c n=>hB b ob (Nt b ob e c n)
 have P4:∀ b u,H1 b=some u->b∉fs:=fun b u e z=>by
  rw[nof b z]at e;cases e
 refine⟨⟨fun b ob e n hb hx=>VY b ob (un.keep b ob e n hb hx) (.inr ⟨ob,e⟩) hb,fun b ob e n hb hx=>?_,un.free,fun b ob e hx=>?_,un.tups,un.mj,un.nJ⟩,fun b u e=>?_,fun b ob e c n=>?_⟩
 ·obtain⟨sl,q⟩:=un.slot b ob e n hb hx;obtain⟨TY,q'⟩:=up b _ q (fr b hb _ q);exact⟨TY,q'⟩
 ·obtain⟨o',q⟩:=un.there b ob e hx
  by_cases hb:b∈fs
  ·obtain⟨TY,q'⟩:=up b _ q (fr b hb _ q);exact⟨_,q'⟩
  ·exact⟨o',VY b o' q (.inr ⟨ob,e⟩) hb⟩
 ·refine(hok b u e).stay (fun c v hc q=>?_) (fun _ q=>q) fun _ _ q=>q
  have hct:∃ z,H1 c=some z:=by
   rcases hc with hc|hc
   ·rw[hc];exact⟨u,e⟩
   ·exact⟨_,hc⟩
  obtain⟨z,hz⟩:=hct;exact VY c v q (.inl (by rw[hz];simp)) (P4 c z hz)
 ·have ht:∃ o1,h1.get? b=some o1:=by
   rcases c with c|⟨o',c⟩
   ·cases hz:H1 b with
    | none=>exact absurd hz c
    | some z=>exact(hok b z hz).thing
   ·exact un.there b o' c (by simp)
  obtain⟨o1,q⟩:=ht;have q2:=Nt b o1 q c n;have q3:=hB b o1 q2;rw[e]at q3;rw[Option.some.inj q3];exact q2
end
def VZ(ea:Addr)(cls:Value):HO:=.ext fun h=>∃ oe vs,h.get? ea=some oe/\oe.cls=cls/\oe.data = .fields vs/\vs[2]?=some .none
def Oz(E:XK)(cls:Value)(od:Option Addr)(c:Value)(H:Hp):Prop:=(c = .none/\(∃ C0:Addr,cls = .ref C0)/\E cls od H)\/∃ C e' C',cls = .ref C/\od=none/\c = .ref e'/\H e' = some (VZ e' C')/\E (.int (C:Int) e') none H
def Ak(P:Program)(w:World):IJ:=fun outer H s E e s'=>∃(ea:Addr) (cls a0:Value) (od:Option Addr) (c:Value) (H' : Hp) (B:Heap),e = .ref ea/\s'.os=s.os/\AllBare s'.gens/\Un (frs outer) [] H H' s.heap s'.heap/\oY P w H' s'.heap/\H' ea=none/\
 Mi B (frs outer) s.heap H' s'.heap/\Heap.FlyingW B outer ea cls a0 s'.heap/\xZ od c ea s'.heap/\Oz E cls od c H'
structure Out(X:Cx)(E:XK):Prop where
 LR:X.stack=X.env::X.outer
 fr:X.env.frame=some X.env.locals
 ex:X.ex=[]
 xe:∀ e s',wpAny (model X.prog X.w) X.A (leaving X.env e) (fun _ s''=>Ak X.prog X.w X.outer X.H₀ X.s₀ E e s'') (fun e' s''=>Ak X.prog X.w X.outer X.H₀ X.s₀ E e' s'') s'->X.xe e s'
def Thr(X:Cx)(E:XK):Prop:=∀(pins:List (Addr×Obj)) (σ:St) (H:Hp) (s:Shared) (h1:Heap) (ea C0:Addr) (vs:List Value),Inv X pins σ H s->Heap.MadeExcOf s.heap h1 ea (.ref C0) vs->E (.ref C0) none H->X.xe (.ref ea) { s with heap:=h1}
section
variable {X:Cx}{E:XK}{pins:List (Addr×Obj)}{σ:St}{H:Hp}{s:Shared}
theorem Inv.OA(I:Inv X pins σ H s):∀ b∈X.fs,∀ ob,s.heap.get? b=some ob->∀ vs,ob.data≠.fields vs:=fun b hb ob e=>by
 obtain⟨_,o,ho,hnf⟩:=I.funs.mem hb;rw[e]at ho;cases ho;exact hnf
theorem Inv.OB(I:Inv X pins σ H s)(hx:X.ex=[]):∀ b∈X.fs,H b=none:=fun b hb=>by
 obtain⟨_,o,ho,_⟩:=I.ok.funs.mem hb;exact I.base.free b o ho (I.ok.N8 b hb) (by rw[hx];simp)
theorem Mi.outer{B h0:Heap}{h:Heap}(I:Inv X pins σ H s)(Nt:Mi B (frs X.stack) h0 H h)(k:∀ b o,X.s₀.heap.get? b=some o->∃ o',h0.get? b=some o'):Mi B X.fs X.s₀.heap H h:=fun b o e c n=>by
 refine Nt b o e (c.imp id fun⟨o',q⟩=>k b o' q) fun z=>?_
 rcases List.mem_cons.mp (I.vB b z) with q|q
 ·subst q;rcases c with c|⟨o',c⟩
  ·exact c I.free
  ·exact absurd (Nat.lt_of_lt_of_le (Heap.lt_size c) I.ok.above) (Nat.lt_irrefl _)
 ·exact n q
theorem Fv(O:Out X E)(I:Inv X pins σ H s){B:Heap}{ea:Addr}{cls a0:Value}{od:Option Addr}{c:Value}{h2:Heap}(Nt:Mi B X.fs X.s₀.heap H s.heap)(fl:Heap.FlyingW B X.outer ea cls a0 h2)(sc:xZ od c ea h2)(up:s.heap.UpToSlots h2)(hn:H ea=none)(q:Oz E cls od c H):
 Ak X.prog X.w X.outer X.H₀ X.s₀ E (.ref ea) { s with heap:=h2}:=by
 have un:Un X.fs [] X.H₀ H X.s₀.heap s.heap:=by
  have u:=I.base;rw[O.ex]at u;exact u
 obtain⟨u2,ok2,c2⟩:=Jv un I.hok (I.OB O.ex) I.OA Nt fl.1 up;exact⟨ea,cls,a0,od,c,H,B,rfl,I.os,I.bare,u2,ok2,hn,c2,fl,sc,q⟩
theorem Out.V0(O:Out X E){ea:Addr}{oe:Obj}{vs:Array Value}{a0 c:Value}(I:Inv X pins σ H s)(ge:s.heap.get? ea=some oe)(de:oe.data = .fields vs)(h0:vs[0]?=some a0)(h1:vs[1]?=some .none)(h2:vs[2]?=some c)
 (hn:H ea=none) (new:X.s₀.heap.get? ea=none) (q:Oz E oe.cls oe.dict c H):X.xe (.ref ea) s:=by
 refine O.xe _ _ ?_;have hfr:X.A.frames=some (X.env::X.outer):=by rw[I.ok.frames,O.LR]
 have hl:s.heap.FunFrames (PySem.W.hideAll s.heap (ea::frs X.stack)) (X.env::X.outer):=by
  have z:=PySem.W.funFrames_hide (as:=ea::frs X.stack) I.stack fun env he b hb=>List.mem_cons_of_mem _ (List.mem_filterMap.mpr ⟨env,he,hb⟩)
  rw[O.LR]at z ⊢;exact z
 refine leave_new hfr O.fr (fun b o e=>PySem.W.of_hideAll _ e) (PySem.W.hideAll_none _ (List.mem_cons_self ..)) hl ge de h0 h1 h2 rfl fun h3 fl sc up=>?_
 refine Fv O I (Mi.outer I (h0:=X.s₀.heap) (fun b o e c n=>?_) fun b o e=>⟨o,e⟩) fl sc up hn q
 refine PySem.W.hideAll_get _ e fun z=>?_
 rcases List.mem_cons.mp z with z|z
 ·subst z;rcases c with c|⟨o',c⟩
  ·exact c hn
  ·rw[new]at c;cases c
 ·exact n z
theorem Out.V1(O:Out X E){ea:Addr}{oe:Obj}{vs:Array Value}{a0:Value}(I:Inv X pins σ H s)(ge:s.heap.get? ea=some oe)(de:oe.data = .fields vs)(h0:vs[0]?=some a0)(h1:vs[1]?=some .none)(h2:vs[2]?=some .none)
 (hn:H ea=none) (new:X.s₀.heap.get? ea=none) (hcl:∃ C0:Addr,oe.cls = .ref C0) (q:E oe.cls oe.dict H):X.xe (.ref ea) s:=O.V0 I ge de h0 h1 h2 hn new (.inl ⟨rfl,hcl,q⟩)
theorem Out.V2(O:Out X E):Thr X E:=by
 intro pins σ H s h1 ea C0 vs I mk q;have I1:Inv X pins σ H { s with heap:=h1}:=I.kept (t':=s.toks) mk.keeps
 have hn:H ea=none:=by
  cases hz:H ea with
  | none=>rfl
  | some z =>
    obtain⟨ob,e⟩:=(I.hok ea z hz).thing;rw[mk.new]at e;cases e
 obtain⟨t,ge,_,_⟩:=mk.there;refine O.V1 I1 (a0:=.ref t) ge rfl rfl rfl rfl hn ?_ ⟨_,rfl⟩ q;cases hz:X.s₀.heap.get? ea with
 | none=>rfl
 | some o =>
   obtain⟨o',e⟩:=I.base.there ea o hz (by rw[O.ex];simp)
   rw[mk.new]at e;cases e
theorem Inv.Ro{H' : Hp}{s' : Shared}(I:Inv X pins σ H s)(os:s'.os=s.os)(bare:AllBare s'.gens)(un:Un (frs X.stack) [] H H' s.heap s'.heap)(hok:oY X.prog X.w H' s'.heap):Inv X pins σ H' s' :=
 I.IV (ch:=[]) os un hok bare fun b z=>absurd z (by simp)
theorem Out.passes(O:Out X E):Passes (Ak X.prog X.w) X E:=by
 intro pins σ H s e s' I q;obtain⟨ea,cls,a0,od,c,H',B,rfl,os,bare,un,hok,hn,Nt,fl,sc,qE⟩:=q;have I1:=I.Ro os bare un hok;refine O.xe _ _ ?_;have hfr:X.A.frames=some (X.env::X.outer):=by rw[I.ok.frames,O.LR]
 rw[O.LR]at fl;refine leave_on2 hfr O.fr fl sc fun h2 fl2 OD up=>?_
 exact Fv O I1 (Mi.outer I1 Nt fun b o e=>I.base.there b o e (by rw[O.ex];simp)) fl2 OD up hn qE
end
theorem gJ{P:Program}{w:World}{K:PySem.W.Frag}{mg:Str->Option Value}{base:Heap}{N:List Str}{qual:Str}{scope:Scope}{f:Addr}{cd:Value}{A:Around}{outer:List Env}{s:Shared}{H:Hp}{E:XK}:
 Out (Aa (Ak P w) P w K mg base N qual scope f cd A outer s H E) E:=⟨rfl,rfl,rfl,fun _ _ h=>h⟩
theorem gD.Jw{P:Program}{w:World}{K:PySem.W.Frag}{mg:Str->Option Value}{base:Heap}{x qual:Str}{st:Stmt}{f:Addr}{fd:FuncData}{N ps:List Str}{k:Nat}{sp:Sp}(F:gD K x qual st f fd)(S:aJ N ps (af st))
 (len:∀ vs H Q E,sp vs H Q E->vs.length=ps.length)
 (hbody:∀(cdv:Value) (A:Around) (outer:List Env) (s:Shared) (H:Hp) (vs:List V) (Q:VK) (E:XK),gG k (A.deeper (envOfC qual (af st) s.heap.objs.size f cdv))->sp vs H Q E->
  ∃ t,Bt (Aa (Ak P w) P w K mg base N qual (af st) f cdv A outer s H E) (aD st) t/\t { nx:=fun _ H'=>Q .gf H',rt:=Q} (start N vs) H):bE P w K mg base (Ak P w) (k+1) f fd ps sp:=by
 obtain⟨oc,od,kV,doc,pm,an,cdv,ct,osl,rfl,lk,hcd⟩:=F.ex;exact Jf lk hcd S len fun A outer s H vs Q E hr yN=>hbody cdv A outer s H vs Q E hr yN
section
variable {X:Cx}{E:XK}
def OE(C:Addr)(E:XK)(t:TA):TS:=fun _ σ H=>t σ H fun vs H1=>vs.length<=sizeLine/\E (.ref C) none H1
theorem vL{x:Str}{C:Addr}{bm:List Value}{B newId initId:String}{e:Expr}{es:List Expr}{ta:TA}{np cpos pos:Pos}(th:Thr X E)(hc:X.calm=true)(hg:Gl X x)(O:∀ h,X.K.In h->h.Ns mainGlobals X.mg->OwnCls x C bm newId X.mg h)
 (FB:ExcBaseFacts B newId initId bm) (ha:PA X (e::es) ta) (he:starEach (e::es) X.env=(false,eval e X.env)::starEach es X.env:=by rfl) (hpl:(backTo cpos (starEach es X.env)).any (·.1)=false:=by rfl)
 (hd:(x==("__debug__":Str))=false:=by decide):PS X (.Raise (some (.Call (.Name x np) (e::es) [] cpos)) none pos) (OE C E ta):=by
 intro pins s σ H D I h;have OC:=O _ I.mod.TU I.mod.glob;obtain⟨tl,N,nm,q,bs,hdct,sn,sub,ab,col,dd,k0,k1,k2,k3,k5,mN,hC,hN,hni,T⟩:=OC.obj;refine wpAny_Raise_call_subT (C:=C) (nm:=nm) (q:=q) (N:=N) (bs:=bs) (bm:=tl) (hdct:=hdct) (sn:=sn) (sub:=sub) (ab:=ab) (col:=col) (dd:=dd) (k0:=k0) (k1:=k1) (k2:=k2) (k3:=k3) (k5:=k5)
  FB (mN:=mN) (T.hasType FB.hasBase) (I.ok.hd hc) (by rw[he];show(false || (backTo cpos (starEach es X.env)).any (·.1))=false;rw[hpl];rfl) hni (E6 I hg OC.bound ⟨rfl,?_⟩ hd)
 have hA:=ha cpos pins s σ H _ I h;rw[he]at hA ⊢;refine Calls.evalArgs_plain (wpAny_mono hA (fun us s1 ⟨vs,H1,I1,r1,z,q1⟩=>?_) fun _ _ y=>y)
 exact⟨rfl,by rw[<-r1.length];exact z,I1.bk _ _ hC,hN.keeps I1.bk,T.keeps I1.bk,fun h' ea hm=>th pins σ H1 s1 h' ea _ us I1 hm q1⟩
end
end L2
namespace L2
open PySem PySem.Spec PyProof.Rows
section
variable {X:Cx}{pins:List (Addr×Obj)}{σ:St}{H:Hp}{s:Shared}
end
section
variable {X:Cx}
end
end L2
namespace L2
open PySem PySem.Spec PySem.Calls PyProof.Rows PySem.W PySem.Builtin PySem.Builtin.ObjectAttr PySem.Builtin.Getset_descriptor
section
variable {K:Frag}{x D:Addr}
section
variable {prog:Program}{w:World}{A:Around}{E:Value->Shared->Prop}{s:Shared}
end
end
end L2
namespace L2
open PySem PySem.Spec PyProof.Rows
section
variable {X:Cx}
def Rp(K:PySem.W.Frag):V->V->Hp->VK->Prop:=fun o i H Q=>∃ p xs j v,o = .ref p/\i = .int ((j:Nat):Int)/\aS K H p xs/\xs[j]?=some v/\Q v H
theorem getL(K:PySem.W.Frag)(hK:X.K=K:=by rfl):QK X (Rp K):=by
 subst hK;intro pins s σ H o i ov iv Q I ro ri h;obtain⟨p,xs,j,v,rfl,rfl,hq,e,q⟩:=h;cases ro;obtain⟨t,rfl⟩:=ri;obtain⟨its,r,pl,hz⟩:=I.list hq;obtain⟨u,eu,ru⟩:=r.get e;have hj:j<xs.length:=(List.getElem?_eq_some_iff.mp e).1;have hn:=vG;exact wpAny_getItem_list pl.isList (by lia) (by lia) (by simpa using eu) ⟨v,H,I,ru,q⟩
def Rq(K:PySem.W.Frag):R2:=fun x y H Q=>∃ l b xs zs,x = .ref l/\y = .ref b/\aS K H l xs/\aS K H b zs/\xs.length+zs.length<=sizeLine/\∀ p,H p=none->Q (.ref p) (upd H p (.lst (xs++zs)))
theorem V3(K:PySem.W.Frag)(hK:X.K=K:=by rfl):nF X (binaryOp .Add) (Rq K):=by
 subst hK;intro pins s σ H x y v u Q I rx ry h;obtain⟨l,b,xs,zs,rfl,rfl,hH,hB,hz,q⟩:=h;cases rx;cases ry;obtain⟨its,r,pl,_⟩:=I.list hH;obtain⟨its2,r2,T8,_⟩:=I.list hB;obtain⟨⟨cls,dd,data,sl⟩,n,e,hc,_,hd⟩:=pl;obtain⟨⟨Q0,dd2,data2,sl2⟩,n2,e2,hc2,_,hd2⟩:=T8;simp only at hc hd hc2 hd2;subst hc hd hc2 hd2;have l1:=r.length;have l2:=r2.length;have ea:its.toArray++its2.toArray=(its++its2).toArray:=by simp
 refine concat_meets ⟨_,e,rfl⟩ ⟨_,e2,rfl⟩ noFill_list_add seq_list_add PySem.F.slot_list_add PySem.F.entry_list_add (PySem.F.args_list_add_2 _ _)
  (list_addW l b its.toArray its2.toArray n n2 dd dd2 sl sl2 (by rw[List.size_toArray,List.size_toArray];lia)) ⟨e,e2,?_⟩
 rw[ea];exact⟨.ref _,_,I.Q9 (t':=s.toks) (r.append r2) (by rw[List.length_append];lia),rfl,q _ I.fresh⟩
end
section
variable {X:Cx}{tg:Expr}
theorem ve{iter:Expr}{body:List Stmt}{wi:TI}{g:TG}{tb:TS}{pos:Pos}(hc:X.calm=true)(hi:PI X tg iter wi)(hg:PG X.E8 tg g)(hb:Bt X.E8 body tb)(hs:∀ x,foldedSetIterable iter X.env x=pure x:=by intro _;rfl):
 PS X (.For tg iter body [] pos) (d7 wi g tb):=by
 intro pins s σ H D I h;refine wpAny_For (dP (hi pins s σ H _ I h) fun v s1 h1=>dP h1 fun itv s2 h2=>?_) hs
 obtain⟨it,fp,tn,J,H2,e,I2,T,st2,f2,W,⟨m0,w0⟩,turn⟩:=h2;subst e;have DJ:∀{H' : Hp},(∀ b∈fp,H' b=none)->∀ b∈fp,qu X.E8 pins H' b:=fun hn b hb=>⟨hn b hb,(f2 b hb).2⟩
 refine codeAny_forLoop_any (fun n s'=>∃ i σ' H',Inv X.E8 pins σ' H' s'/\tn i s'.heap/\(∀ b∈fp,H' b=none)/\W i n σ' H') ?_ m0 ⟨0,σ,H2,I2.vD _,st2,fun b hb=>(f2 b hb).1,w0⟩
 rintro n s3 ⟨i,σ3,H3,I3,st3,Nl,w3⟩;rcases turn i n σ3 H3 w3 with⟨stop,qn⟩|⟨go,N,hN,step⟩
 ·refine wpAny_mono (T.done X.E8 rfl rfl rfl hc i pins s3 σ3 H3 (fun _ _=>False) I3 (DJ Nl) st3 stop) (fun r s4 ⟨hr,I4⟩=>?_) fun _ _ z=>z.elim
  subst hr;exact wpAny_execs_nil ⟨σ3,H3,I4.jC,qn⟩
 ·refine wpAny_mono (T.item X.E8 rfl rfl rfl hc i pins s3 σ3 H3 (fun _ _=>False) I3 (DJ Nl) st3 go) (fun r s4 ⟨u,hr,h4⟩=>?_) fun _ _ z=>z.elim
  subst hr;refine wpAny_mono h4 (fun _ s5 ⟨x,H5,I5,r5,y5,Ja,QN⟩=>?_) fun _ _ z=>z.elim
  have QO:=I5.pinned (DJ QN) (T.obj _ _ Ja);refine wpAny_mono (hg _ s5 σ3 H5 x u _ QO r5 (step x H5 y5)) (fun _ s6 ⟨σ6,H6,I6,q6⟩=>?_) fun _ _ z=>z.elim
  refine wpAny_mono (hb _ s6 σ6 H6 _ I6 q6) (fun f s7 q7=>?_) fun _ _ z=>z.elim
  have again:∀{σ7:St} {H7:Hp},Inv X.E8 (pins++sE fp s5.heap) σ7 H7 s7->N σ7 H7->∃ m,m<n/\∃ i σ' H',Inv X.E8 pins σ' H' s7/\tn i s7.heap/\(∀ b∈fp,H' b=none)/\W i m σ' H':=fun {σ7 H7} I7 n7=>by
   obtain⟨m',hm,w7⟩:=hN σ7 H7 n7;refine⟨m',hm,i+1,σ7,H7,I7.jD,T.keep _ _ _ Ja fun b hb o e=>(I7.pin (b,o) (List.mem_append_right _ (List.mem_append_right _ (gX hb e)))).1,fun b hb=>?_,w7⟩
   obtain⟨o,e,d⟩:=T.obj _ _ Ja b hb;exact(I7.pin (b,o) (List.mem_append_right _ (List.mem_append_right _ (gX hb e)))).2.1
  cases f with
  | next=>obtain⟨σ7,H7,I7,n7⟩:=q7;exact again I7 n7
  | cont=>obtain⟨σ7,H7,I7,n7⟩:=q7;exact again I7 n7
  | brk=>obtain⟨σ7,H7,I7,q7⟩:=q7;exact⟨σ7,H7,I7.jD.jC,q7⟩
  | ret v=>obtain⟨x7,σ7,H7,I7,r7,q7⟩:=q7;exact⟨x7,σ7,H7,I7.jD.jC,r7,q7⟩
theorem vM{P:Program}{w:World}{X:Cx}:Passes (Ak P w) X (fun _ _ _=>False):=by
 intro pins σ H s e s' I q;obtain⟨_,_,_,_,_,_,_,_,_,_,_,_,_,_,_,_,z⟩:=q;rcases z with⟨_,_,z⟩|⟨_,_,_,_,_,_,_,z⟩
 ·exact z.elim
 ·exact z.elim
end
theorem DS{K:PySem.W.Frag}{h:Heap}{mg:Str->Option Value}{x:Str}{C:Addr}{bmB:List Value}{newId:String}(X:K.In h)(G:h.Ns mainGlobals mg)(e:PySem.W.nsIn K mainGlobals x=some (some (.ref C)))(q:PySem.W.excIn K C bmB newId=true):
 OwnCls x C bmB newId mg h:=by
 refine⟨PySem.W.mg_of X G e,?_⟩;unfold PySem.W.excIn at q
 split at q
 ·rename_i od cd sl look
  split at q
  ·rename_i Cx bm j0 j1 j2 j3 nw j5 hmro hsl
   simp only[Bool.and_eq_true,beq_iff_eq,Bool.not_eq_true']at q;obtain⟨⟨⟨⟨⟨rfl,rfl⟩,Rr⟩,ht⟩,hok⟩,hni⟩:=q;obtain⟨nm,bs,mro,ns,qn,hd,sn,sub,ab,col,del⟩:=cd
   (dsimp only at hmro Rr hok hni;subst hmro Rr)
   have hs2:sl = #[j0,j1,j2,j3,some (.builtin nw),j5]:=by
    obtain⟨l⟩:=sl;simp only at hsl;rw[hsl]
   subst hs2;exact⟨bm,ns,nm,qn,bs,hd,sn,sub,ab,col,od,j0,j1,j2,j3,j5,_,X _ _ look,.of_isNs (PySem.W.isNs_of_in X hok),PySem.W.nsMap_none_of_in X hok hni,PySem.W.tail_of_in X ht⟩
  ·cases q
 ·cases q
end L2
namespace L2
end L2
namespace L2
theorem sL{α:Type}:∀ us:List α,us.length=1->∃ a,us=[a]
 | [_],_=>⟨_,rfl⟩
theorem eN{α:Type}:∀ us:List α,us.length=2->∃ a b,us=[a,b]
 | [_,_],_=>⟨_,_,rfl⟩
theorem GF{α:Type}:∀ us:List α,us.length=3->∃ a b c,us=[a,b,c]
 | [_,_,_],_=>⟨_,_,_,rfl⟩
end L2
namespace L2
open PySem PySem.Spec PyProof.Rows
section
variable {X:Cx}{ea:Addr}{k:Nat}{f:Addr}{fd:FuncData}{ps:List Str}{sp:Sp}{L3:List V}{ds:List Value}{x:Str}{p pos:Pos}{e:Expr}{es:List Expr}{t:TA}
end
section
variable {prog:Program}{w:World}{A:Around}{E:Value->Shared->Prop}{s:Shared}
end
end L2
namespace L2
open PySem PySem.Spec PyProof.Rows
section
variable {X:Cx}{pins:List (Addr×Obj)}{σ:St}{H:Hp}{s:Shared}{h' : Heap}
theorem Inv.yields{t' : Nat}{wr:List Addr}{T:Addr}{o:HO}(I:Inv X pins σ H s)(k:∀ b u,b∉wr->s.heap.get? b=some u->h'.get? b=some u)(hf:∀ b∈wr,qu X pins H b)(hT:s.heap.objs.size<=T)
 (new:bI X.prog X.w (upd H T o) h' T o):Inv X pins σ (upd H T o) { s with heap:=h',toks:=t'}:=by
 have hTn:H T=none:=I.hok.fresh hT;have nT:∀ b u,H b=some u->b≠T:=fun b u e=>bR e hTn
 have nw:∀ b u,H b=some u->b∉wr:=fun b u e hb=>by rw[(hf b hb).1]at e;cases e
 refine I.step (g':=s.gens) (d':=s.drawn) (ch:=wr) (fun b hb=>?_) (fun b o _ _ hc e _=>k b o hc e) (fun b o _ _ hc e _=>⟨o.slots,k b o hc e⟩) (fun b u hc e n=>?_)
  (fun b o hc e=>⟨o,k b o hc e⟩) (fun b xs e=>?_) (fun b ob xs e=>?_) (fun b ps e=>⟨#[],?_⟩) (fun m hm=>?_) (fun b u e=>?_) I.bare
 ·obtain⟨_,f1,_,f3,f4,f5⟩:=hf b hb;exact⟨f3,f1,f4,f5⟩
 ·rw[aq (Nat.ne_of_lt (Nat.lt_of_lt_of_le (Heap.lt_size e) hT))];exact n
 ·rw[aq (nT b _ e)];exact e
 ·rw[aq (nT b _ e)];exact e
 ·rw[aq (nT b _ e),e];simp
 ·obtain⟨o,es,ep,ho,r⟩:=hm;exact⟨o,es,ep,k _ o (fun hb=>(hf _ hb).2.1 rfl) ho,r⟩
 ·by_cases hb:b=T
  ·subst hb;rw[ah]at e;cases e;exact new
  ·rw[aq hb]at e;refine(I.hok b u e).stay (fun c v hc q=>k c v ?_ q) (fun c q=>by rw[aq (nT c _ q)];exact q) fun c xs q=>by rw[aq (nT c _ q)];exact q
   rcases hc with z|z
   ·rw[z];exact nw b u e
   ·exact nw c _ z
theorem Inv.Mj{t' : Nat}{wr:List Addr}(I:Inv X pins σ H s)(k:∀ b u,b∉wr->s.heap.get? b=some u->h'.get? b=some u)(hf:∀ b∈wr,qu X pins H b):Inv X pins σ H { s with heap:=h',toks:=t'}:=by
 have nw:∀ b u,H b=some u->b∉wr:=fun b u e hb=>by rw[(hf b hb).1]at e;cases e
 refine I.step (g':=s.gens) (d':=s.drawn) (ch:=wr) (fun b hb=>?_) (fun b o _ _ hc e _=>k b o hc e) (fun b o _ _ hc e _=>⟨o.slots,k b o hc e⟩) (fun _ _ _ _ n=>n)
  (fun b o hc e=>⟨o,k b o hc e⟩) (fun _ _ e=>e) (fun _ _ _ e=>e) (fun b ps e=>⟨#[],by rw[e];simp⟩) (fun m hm=>?_) (fun b u e=>?_) I.bare
 ·obtain⟨_,f1,_,f3,f4,f5⟩:=hf b hb;exact⟨f3,f1,f4,f5⟩
 ·obtain⟨o,es,ep,ho,r⟩:=hm;exact⟨o,es,ep,k _ o (fun hb=>(hf _ hb).2.1 rfl) ho,r⟩
 ·refine(I.hok b u e).stay (fun c v hc q=>k c v ?_ q) (fun _ q=>q) fun _ _ q=>q
  rcases hc with z|z
  ·rw[z];exact nw b u e
  ·exact nw c _ z
end
def P8(K:PySem.W.Frag)(a:Addr):It :=
 ⟨fun i H=>∃ xs x,aS K H a xs/\xs[i]?=some x,fun i H v H'=>∃ T x,v = .ref T/\H T=none/\H' = upd H T (.tup [.int (i:Int),x])/\∀ xs,aS K H a xs->xs[i]?=some x,fun i H=>∃ xs,aS K H a xs/\xs.length<=i⟩
theorem GG{P:Program}{w:World}{K:PySem.W.Frag}{elts:List Expr}{k:Nat}{pos:Pos}(a e it:Addr)(hne:e≠it):
 Turn P w K (.Tuple elts k pos) (P8 K a) [e,it] e (fun i h=>(∃ old,IsEnum h e it (i:Int) old)/\h.IsListIter it a i) where
 mem:=by simp
 obj:=fun i h st b hb=>by
  obtain⟨⟨old,he⟩,o,ho,c,d⟩:=st;have hb' : b=e\/b=it:=by simpa using hb
  rcases hb' with rfl|rfl
  ·exact⟨_,he,fun v z=>by cases z⟩
  ·exact⟨o,ho,fun v z=>by rw[d]at z;cases z⟩
 keep:=fun i h h' st k=>by
  obtain⟨⟨old,he⟩,hit⟩:=st;exact⟨⟨old,k e (by simp) _ he⟩,hit.at fun o x=>k it (by simp) o x⟩
 item:=by
  intro X hP hw hK hc i pins s σ H E I hf st hg;subst hP hw hK;obtain⟨xs,x,hq,hx⟩:=hg;obtain⟨its,rv,p,hz⟩:=I.list hq;obtain⟨u,hu,ru⟩:=rv.get hx;obtain⟨⟨old,he⟩,hit⟩:=st;refine wpAny_pyNext_enum_item he hit p.isList (x:=u) (by simpa using hu) hne fun h1 ho OF hT hsz hk=>?_
  refine⟨_,rfl,wpAny_letOwnedTupleGo_enum ho fun h2 Mk hs2=>?_⟩
  have Rt:s.heap.objs.size≠e:=Nat.ne_of_gt (Heap.lt_size he);have hT2:h2.get? s.heap.objs.size=some { cls:=.type "tuple",data:=.seq #[.int i s.toks,u]}:=(hs2.2 _ Rt).trans hT;refine⟨.ref s.heap.objs.size,upd H s.heap.objs.size (.tup [.int (i:Int),x]),I.yields (wr:=[e,it]) (t':=s.toks+1) (fun b o hb q=>?_) hf (Nat.le_refl _) ?_,rfl,⟨_,x,rfl,I.fresh,rfl,fun ys hy=>by rw[I.qS hy hq];exact hx⟩,⟨⟨u,by simpa using Mk⟩,?_⟩,fun b hb=>?_⟩
  ·have Jx:b≠e:=fun z=>hb (by simp[z])
   have OG:b≠it:=fun z=>hb (by simp[z])
   exact(hs2.2 b Jx).trans (hk b o Jx OG q)
  ·exact⟨dl rfl,[.int i s.toks,u],.cons ⟨_,rfl⟩ (.cons ru .nil),⟨_,hT2,rfl,_,rfl⟩⟩
  ·exact OF.at fun o q=>(hs2.2 it (Ne.symm hne)).trans q
  ·rw[aq]
   ·exact(hf b hb).1
   ·have hb' : b=e\/b=it:=by simpa using hb
    rcases hb' with rfl|rfl
    ·exact Ne.symm Rt
    ·obtain⟨o,q,_⟩:=hit;exact Nat.ne_of_lt (Heap.lt_size q)
 done:=by
  intro X hP hw hK hc i pins s σ H E I hf st hg;subst hP hw hK;obtain⟨xs,hq,hx⟩:=hg;obtain⟨its,rv,p,hz⟩:=I.list hq;obtain⟨⟨old,he⟩,hit⟩:=st;obtain⟨f0,f1,f2,f3,f4,f5⟩:=hf it (by simp)
  have hl:=rv.length;exact wpAny_pyNext_enum_end (I.ok.hd hc) he hit p.isList (by simp;lia) fun h' eb=>⟨rfl,I.turned (t':=s.toks) (fun b o hb e=>eb b o hb e) f0 f1 f3 f4 f5⟩
 self:=fun _ _ _ _ _ st h=>by
  obtain⟨⟨old,he⟩,_⟩:=st;exact wpAny_pyIter_enum he h
def V4(K:PySem.W.Frag)(a b:Addr):It :=
 ⟨fun i H=>∃ xs ys x y,aS K H a xs/\aS K H b ys/\xs[i]?=some x/\ys[i]?=some y,
  fun i H v H'=>∃ T x y,v = .ref T/\H T=none/\H' = upd H T (.tup [x,y])/\(∀ xs,aS K H a xs->xs[i]?=some x)/\∀ ys,aS K H b ys->ys[i]?=some y,
  fun i H=>∃ xs ys,aS K H a xs/\aS K H b ys/\(xs.length<=i\/ys.length<=i)⟩
theorem Jy{P:Program}{w:World}{K:PySem.W.Frag}{elts:List Expr}{k:Nat}{pos:Pos}(a b z TI TO i1 i2:Addr)(D:ZipApart z TI TO i1 i2 a b):
 Turn P w K (.Tuple elts k pos) (V4 K a b) [z,TI,TO,i1,i2] z (fun i h=>IsZip h z TI TO .none/\IsPair h TI (.ref i1) (.ref i2)/\(∃ u v,IsPair h TO u v)/\h.IsListIter i1 a i/\h.IsListIter i2 b i) where
 mem:=by simp
 obj:=fun i h st c hc=>by
  obtain⟨hz,hI,⟨u,v,hO⟩,⟨o1,P9,_,d1⟩,o2,ho2,_,d2⟩:=st;have hc' : c=z\/c=TI\/c=TO\/c=i1\/c=i2:=by simpa using hc
  rcases hc' with rfl|rfl|rfl|rfl|rfl
  ·exact⟨_,hz,fun v z=>by cases z⟩
  ·exact⟨_,hI,fun v z=>by cases z⟩
  ·exact⟨_,hO,fun v z=>by cases z⟩
  ·exact⟨o1,P9,fun v z=>by rw[d1]at z;cases z⟩
  ·exact⟨o2,ho2,fun v z=>by rw[d2]at z;cases z⟩
 keep:=fun i h h' st k=>by
  obtain⟨hz,hI,⟨u,v,hO⟩,h1,h2⟩:=st;exact⟨k z (by simp) _ hz,k TI (by simp) _ hI,⟨u,v,k TO (by simp) _ hO⟩,h1.at fun o e=>k i1 (by simp) o e,h2.at fun o e=>k i2 (by simp) o e⟩
 item:=by
  intro X hP hw hK hc i pins s σ H E I hf st hg;subst hP hw hK;obtain⟨xs,ys,x,y,hq,hq2,hx,hy⟩:=hg;obtain⟨its,rv,p,hzl⟩:=I.list hq;obtain⟨its2,T9,p2,V5⟩:=I.list hq2;obtain⟨u,hu,ru⟩:=rv.get hx;obtain⟨u2,hu2,ru2⟩:=T9.get hy;obtain⟨hz,hI,⟨v1,v2,hO⟩,h1,h2⟩:=st;refine wpAny_pyNext_zip_item D hz hI hO h1 h2 p.isList p2.isList (x:=u) (y:=u2) (by simpa using hu) (by simpa using hu2) fun h3 hz3 hO3 h13 h23 hT hsz hk=>?_
  refine⟨_,rfl,wpAny_letOwnedTupleGo_zip hz3 fun h4 hz4 Jz=>?_⟩
  have lt:∀{c o},s.heap.get? c=some o->s.heap.objs.size≠c:=fun e=>Nat.ne_of_gt (Heap.lt_size e)
  have Ua:h4.get? s.heap.objs.size=some { cls:=.type "tuple",data:=.seq #[u,u2]}:=(Jz.2 _ (lt hz)).trans hT;have kk:∀ c o,c∉[z,TO,i1,i2]->s.heap.get? c=some o->h4.get? c=some o:=fun c o hc q=>by
   have c1:c≠z:=fun e=>hc (by simp[e])
   exact(Jz.2 c c1).trans (hk c o c1 (fun e=>hc (by simp[e])) (fun e=>hc (by simp[e])) (fun e=>hc (by simp[e])) q)
  have hsub:∀ c∈[z,TO,i1,i2],c∈[z,TI,TO,i1,i2]:=fun c hc=>by
   have hc' : c=z\/c=TO\/c=i1\/c=i2:=by simpa using hc
   rcases hc' with rfl|rfl|rfl|rfl<;>simp
  refine⟨.ref s.heap.objs.size,upd H s.heap.objs.size (.tup [x,y]),I.yields (wr:=[z,TO,i1,i2]) (t':=s.toks) kk (fun c hc=>hf c (hsub c hc)) (Nat.le_refl _) ?_,rfl,
   ⟨_,x,y,rfl,I.fresh,rfl,fun zs hy=>by rw[I.qS hy hq];exact hx,fun zs hz=>by rw[I.qS hz hq2];exact hy⟩,⟨hz4,(Jz.2 _ D.TIz).trans (hk _ _ D.TIz D.TITO D.TIi1 D.TIi2 hI),⟨u,u2,(Jz.2 _ D.TOz).trans hO3⟩,?_,?_⟩,fun c hc=>?_⟩
  ·exact⟨dl rfl,[u,u2],.cons ru (.cons ru2 .nil),⟨_,Ua,rfl,_,rfl⟩⟩
  ·exact h13.at fun o q=>(Jz.2 _ D.i1z).trans q
  ·exact h23.at fun o q=>(Jz.2 _ D.i2z).trans q
  ·rw[aq]
   ·exact(hf c hc).1
   ·have hc' : c=z\/c=TI\/c=TO\/c=i1\/c=i2:=by simpa using hc
    rcases hc' with rfl|rfl|rfl|rfl|rfl
    ·exact Ne.symm (lt hz)
    ·exact Ne.symm (lt hI)
    ·exact Ne.symm (lt hO)
    ·obtain⟨o,q,_⟩:=h1;exact Ne.symm (lt q)
    ·obtain⟨o,q,_⟩:=h2;exact Ne.symm (lt q)
 done:=by
  intro X hP hw hK hc i pins s σ H E I hf st hg;subst hP hw hK;obtain⟨xs,ys,hq,hq2,hx⟩:=hg;obtain⟨its,rv,p,hzl⟩:=I.list hq;obtain⟨its2,T9,p2,V5⟩:=I.list hq2;obtain⟨hz,hI,⟨v1,v2,hO⟩,h1,h2⟩:=st;have hl:=rv.length;have hl2:=T9.length;have hsub:∀ c∈[z,TO,i1,i2],c∈[z,TI,TO,i1,i2]:=fun c hc=>by
   have hc' : c=z\/c=TO\/c=i1\/c=i2:=by simpa using hc
   rcases hc' with rfl|rfl|rfl|rfl<;>simp
  refine wpAny_pyNext_zip_end (I.ok.hd hc) D hz hI hO h1 h2 p.isList p2.isList (hx.imp (fun q=>by simp;lia) fun q=>by simp;lia) fun h' kk=>⟨rfl,I.Mj (wr:=[z,TO,i1,i2]) (t':=s.toks) (fun c o hc q=>?_) fun c hc=>hf c (hsub c hc)⟩
  exact kk c o (fun e=>hc (by simp[e])) (fun e=>hc (by simp[e])) (fun e=>hc (by simp[e])) (fun e=>hc (by simp[e])) q
 self:=fun _ _ _ _ _ st h=>wpAny_pyIter_zip st.1 h
theorem GH{n a b:Nat}(la:a<n)(lb:b<n):ZipApart (n+4) (n+2) (n+3) n (n+1) a b:=by
 have k:∀{x y:Nat},x<y\/y<x->x≠y:=fun h=>by lia
 constructor<;>exact k (by lia)
section
variable {X:Cx}{elts:List Expr}{n:Nat}{tp:Pos}
def Ru(K:PySem.W.Frag)(ta:TA):TI:=fun σ H R=>ta σ H fun vs H1=>∃ a,vs=[.ref a]/\(∃ xs,aS K H1 a xs)/\R (P8 K a) H1
def V6(K:PySem.W.Frag)(ta:TA):TI:=fun σ H R=>ta σ H fun vs H1=>∃ a b,vs=[.ref a,.ref b]/\(∃ xs,aS K H1 a xs)/\(∃ ys,aS K H1 b ys)/\R (V4 K a b) H1
theorem Fw(K:PySem.W.Frag){a:Expr}{ta:TA}{p pos:Pos}(hg:Gl X "enumerate")(hm:X.mg "enumerate"=none)(ha:PA X [a] ta)(hs:starEach [a] X.env=[(false,eval a X.env)]:=by rfl)(hK:X.K=K:=by rfl):
 PI X (.Tuple elts n tp) (.Call (.Name "enumerate" p) [a] [] pos) (Ru K ta):=by
 subst hK;intro pins s σ H R I h;refine Call_ (nK I hg hm boot_enumerate (PyProof.Rows.callWith_type1 (dP (ha pos pins s σ H _ I h) fun us s1 ⟨vs,H1,I1,r1,q1⟩=>?_) hs rfl))
 obtain⟨a,e,⟨xs,hq⟩,q⟩:=q1;subst e;cases r1 with
 | cons r rr =>
   cases rr;cases r;obtain⟨its,rv,pl,hz⟩:=I1.list hq;refine call_enumerate_list pl.isList fun h' he hit hsz hk=>?_
   have I2:Inv X pins σ H1 { s1 with heap:=h'}:=I1.kept (t':=s1.toks) hk
   refine wpAny_pyIter_enum he ⟨_,[s1.heap.objs.size+1,s1.heap.objs.size],_,_,H1,rfl,I2,GG a _ _ (Nat.succ_ne_self _),⟨⟨_,he⟩,hit⟩,fun b hb=>?_,q⟩
   have hb' : b=s1.heap.objs.size+1\/b=s1.heap.objs.size:=by simpa using hb
   have Rv:s1.heap.objs.size<=b:=by
    rcases hb' with rfl|rfl
    ·exact Nat.le_succ _
    ·exact Nat.le_refl _
   exact I1.DG Rv (I1.hok.fresh Rv)
theorem JA(K:PySem.W.Frag){a b:Expr}{ta:TA}{p pos:Pos}(hg:Gl X "zip")(hm:X.mg "zip"=none)(ha:PA X [a,b] ta)(hs:starEach [a,b] X.env=[(false,eval a X.env),(false,eval b X.env)]:=by rfl)(hs2:starEach [b] X.env=[(false,eval b X.env)]:=by rfl)(hK:X.K=K:=by rfl):
 PI X (.Tuple elts n tp) (.Call (.Name "zip" p) [a,b] [] pos) (V6 K ta):=by
 subst hK;intro pins s σ H R I h;refine Call_ (nK I hg hm boot_zip (PyProof.Rows.callWith_type1 (dP (ha pos pins s σ H _ I h) fun us s1 ⟨vs,H1,I1,r1,q1⟩=>?_) (by rw[hs,hs2]) (by rw[hs2];rfl)))
 obtain⟨a,b,e,⟨xs,hq⟩,⟨ys,hq2⟩,q⟩:=q1;subst e;cases r1 with
 | cons r rr =>
   cases rr with
   | cons r' rr =>
     cases rr;cases r;cases r';obtain⟨its,rv,pl,hz⟩:=I1.list hq;obtain⟨its2,T9,T8,hz2⟩:=I1.list hq2;refine call_zip_2 pl.isList T8.isList fun h' hzz hI hO h1 h2 hsz hk=>?_
     have I2:Inv X pins σ H1 { s1 with heap:=h'}:=I1.kept (t':=s1.toks) hk
     have la:a<s1.heap.objs.size:=by obtain⟨_,q,_⟩:=pl.isList;exact Heap.lt_size q
     have lb:b<s1.heap.objs.size:=by obtain⟨_,q,_⟩:=T8.isList;exact Heap.lt_size q
     refine wpAny_pyIter_zip hzz ⟨_,[s1.heap.objs.size+4,s1.heap.objs.size+2,s1.heap.objs.size+3,s1.heap.objs.size,s1.heap.objs.size+1],_,_,H1,rfl,I2,
      Jy a b _ _ _ _ _ (GH la lb),⟨hzz,hI,⟨_,_,hO⟩,h1,h2⟩,fun c hc=>?_,q⟩
     have hc' : c=s1.heap.objs.size+4\/c=s1.heap.objs.size+2\/c=s1.heap.objs.size+3\/c=s1.heap.objs.size\/c=s1.heap.objs.size+1:=by simpa using hc
     have hcs:s1.heap.objs.size<=c:=by
      rcases hc' with rfl|rfl|rfl|rfl|rfl
      ·exact Nat.le_add_right _ _
      ·exact Nat.le_add_right _ _
      ·exact Nat.le_add_right _ _
      ·exact Nat.le_refl _
      ·exact Nat.le_add_right _ _
     exact I1.DG hcs (I1.hok.fresh hcs)
end
section
variable {K:PySem.W.Frag}{a b:Addr}{xs ys:List V}{g:TG}{tt:TT}{te:TE}{n:Nat}{fr:St}{D:Addr}{Q:Hp->Prop}{H1:Hp}
theorem JB{tb:TS}{D:Ends}{σ:St}{H:Hp}(Pv:Nat->St->Hp->Prop)(h0:Pv 0 σ H)(hl:∀ i σ H,i<=xs.length->Pv i σ H->aS K H a xs)
 (hs:∀ i x T σ H,xs[i]?=some x->Pv i σ H->H T=none->g (.ref T) σ (upd H T (.tup [.int (i:Int),x])) fun σ2 H2=>tb { D with nx:=Pv (i+1),ct:=Pv (i+1),bk:=D.nx} σ2 H2) (hd:∀ σ H,Pv xs.length σ H->D.nx σ H) :
 ∃ W:Nat->Nat->St->Hp->Prop,(∃ m,W 0 m σ H)/\∀ i m σ H,W i m σ H->
   ((P8 K a).stop i H/\D.nx σ H)\/((P8 K a).go i H/\∃ N:St->Hp->Prop,(∀ σ' H',N σ' H'->∃ m',m'<m/\W (i+1) m' σ' H')/\∀ x H',(P8 K a).LK i H x H'->g x σ H' fun σ2 H2=>tb { D with nx:=N,ct:=N,bk:=D.nx} σ2 H2):=by
 refine⟨fun i m σ H=>m=xs.length-i/\i<=xs.length/\Pv i σ H,⟨xs.length,by simp,Nat.zero_le _,h0⟩,?_⟩
 rintro i m σ H ⟨rfl,hi,p⟩;have q:=hl i σ H hi p
 by_cases hlt:i<xs.length
 ·refine .inr ⟨⟨xs,xs[i],q,by simp[hlt]⟩,Pv (i+1),fun σ' H' p'=>⟨xs.length-(i+1),by lia,rfl,hlt,p'⟩,fun v H' y=>?_⟩
  obtain⟨T,x,rfl,hT,rfl,y⟩:=y;exact hs i x T σ _ (y xs q) p hT
 ·have e:i=xs.length:=by lia
  subst e;exact .inl ⟨⟨xs,q,Nat.le_refl _⟩,hd σ H p⟩
theorem BF(hxy:xs.length=ys.length)(Pv:Nat->List V->Hp->Prop)(h0:Pv 0 [] H1)(hl:∀ i acc H,i<=xs.length->Pv i acc H->aS K H a xs/\aS K H b ys/\H D=some (.lst acc)/\acc.length<=i)(hz:xs.length<=sizeLine)
 (hs:∀ i x y T acc H,xs[i]?=some x->ys[i]?=some y->Pv i acc H->H T=none->g (.ref T) (List.replicate n none++fr) (upd H T (.tup [x,y])) fun σ2 H2=>σ2.drop n=fr/\tt σ2 H2 fun b H3 =>
  if b=true then te σ2 H3 fun v H4=>H4 D=some (.lst acc)/\Pv (i+1) (acc++[v]) (upd H4 D (.lst (acc++[v]))) else Pv (i+1) acc H3)
 (hd:∀ acc H,Pv xs.length acc H->Q H):iI (V4 K a b) g tt te n fr D Q H1:=by
 refine⟨fun i m acc H=>m=xs.length-i/\i<=xs.length/\Pv i acc H,⟨xs.length,by simp,Nat.zero_le _,h0⟩,?_⟩
 rintro i m acc H ⟨rfl,hi,p⟩;obtain⟨q,q2,hD,ha⟩:=hl i acc H hi p;refine⟨hD,?_⟩
 by_cases hlt:i<xs.length
 ·have V7:i<ys.length:=by lia
  refine .inr ⟨⟨xs,ys,xs[i],ys[i],q,q2,by simp[hlt],by simp[V7]⟩,by lia,Pv (i+1),fun acc' H' p'=>⟨xs.length-(i+1),by lia,rfl,hlt,p'⟩,fun v H' y=>?_⟩
  obtain⟨T,x,z,rfl,hT,rfl,y1,y2⟩:=y;exact hs i x z T acc _ (y1 xs q) (y2 ys q2) p hT
 ·have e:i=xs.length:=by lia
  subst e;exact .inl ⟨⟨xs,ys,q,q2,.inl (Nat.le_refl _)⟩,hd acc H p⟩
end
end L2
namespace L2
open PySem PySem.Spec PyProof.Rows
section
variable {X:Cx}
theorem BG:gW X (.type "range") (fun xs H Q=>∃ j:Int,xs=[.int j]/\∀ p,H p=none->Q (.ref p) (upd H p (.Gp 0 j))):=by
 intro pins s σ H xs us Q I r h;obtain⟨j,rfl,q⟩:=h;obtain⟨u,rfl,t,rfl⟩:=vals1 r;refine call_range_1 ⟨.ref s.heap.objs.size,_,I.laid (t':=s.toks+1+1) (fun b o e=>Heap.get?_push_of_some _ e) (Nat.le_refl _) ?_,rfl,q _ I.fresh⟩
 exact⟨_,_,_,Heap.get?_push_size _ rfl⟩
def x6(n:Nat):List V:=(List.range n).map fun i=>V.int ((i:Nat):Int)
theorem Nu(hc:X.calm=true):gW X (.type "list") (fun xs H Q=>∃ p,∃ n:Nat,xs=[.ref p]/\H p=some (.Gp 0 (n:Int))/\n<=900/\∀ l,H l=none->Q (.ref l) (upd H l (.lst (x6 n)))):=by
 intro pins s σ H xs us Q I r h;obtain⟨p,n,rfl,hp,hn,q⟩:=h;obtain⟨u,rfl,rx⟩:=vals1 r;cases rx;obtain⟨t,u,v,e⟩:=(show bI X.prog X.w H s.heap p (.Gp 0 (n:Int)) from I.hok p _ hp)
 have hsz:Builtin.Range.rangeSize 0 (n:Int) 1=(n:Int):=by rw[rangeSize_one];split<;>lia
 refine call_list_range (I.ok.hd hc) e (small_one (by lia) (by lia) (by lia) (by lia)) hsz (Nat.le_trans hn (by decide)) fun h' tk acc c kp e' hacc=>?_
 refine⟨.ref s.heap.objs.size,_,I.laid (t':=tk) kp (Nat.le_refl _) ?_,rfl,q _ I.fresh⟩;have hl:acc.toList.length=n:=by rw[Array.length_toList];exact hacc.1
 have hz:(x6 n).length<=sizeLine:=by
  unfold x6;rw[List.length_map,List.length_range];exact Nat.le_of_lt (kO (by lia))
 refine⟨hz,acc.toList,c,?_,by simpa using e'⟩
 have key:∀(ys:List Value) (k:Nat),(∀ j v,ys[j]?=some v->∃ t,v=Value.int (((k+j:Nat)):Int) t)->Vals ((List.range' k ys.length).map fun i=>V.int ((i:Nat):Int)) ys:=by
  intro ys
  induction ys with
  | nil=>intro k _;exact .nil
  | cons y r ih =>
    intro k hy;obtain⟨t,ht⟩:=hy 0 y rfl;refine .cons ⟨t,by simpa using ht⟩ (ih (k+1) fun j v hv=>?_)
    obtain⟨t',ht'⟩:=hy (j+1) v (by simpa using hv)
    exact⟨t',by rw[ht'];congr 2;lia⟩
 have z:=key acc.toList 0 fun j v hv=>by
  obtain⟨t,ht⟩:=hacc.2 j v (by simpa using hv)
  exact⟨t,by rw[ht];congr 1;lia⟩
 rw[hl]at z;unfold x6;rw[List.range_eq_range'];exact z
theorem sumK(K:PySem.W.Frag)(hc:X.calm=true)(hK:X.K=K:=by rfl):gW X (.builtin "sum") (fun xs H Q=>∃(p:Addr) (ns:List Int),xs=[.ref p]/\aS K H p (ns.map V.int)/\Q (.int ns.sum) H):=by
 subst hK;intro pins s σ H xs us Q I r h;obtain⟨p,ns,rfl,hq,q⟩:=h;obtain⟨u,rfl,rx⟩:=vals1 r;cases rx;obtain⟨its,rv,pl,hz⟩:=I.list hq;have hi:∀{ns:List Int} {its:List Value},Vals (ns.map V.int) its->∃ xs:Array (Int×Tok),its.toArray=intItems xs/\xs.toList.map (·.1)=ns:=by
  intro ns
  induction ns with
  | nil=>intro its r;cases r;exact⟨#[],by simp[intItems],rfl⟩
  | cons a l ih =>
    intro its r;cases r with
    | cons r1 r2 =>
      obtain⟨t,rfl⟩:=r1;obtain⟨xs,h1,h2⟩:=ih r2;refine⟨#[(a,t)]++xs,?_,by simp[h2]⟩
      have Jx:=congrArg Array.toList h1;simp only[intItems,Array.toList_map,List.toList_toArray]at Jx;simp[intItems,Jx,Array.map_append]
 obtain⟨ar,e1,e2⟩:=hi rv;have hl:s.heap.IsList p (intItems ar):=e1▸pl.isList;refine sum_intListG (I.ok.hd hc) hl fun h' tk t' hk=>?_
 have e3:preSum (numAt ar) ar.size=ns.sum:=by rw[preSum_eq,List.take_of_length_le (by simp),e2]
 rw[e3];exact⟨.int ns.sum,H,I.kept hk,⟨t',rfl⟩,q⟩
end
end L2
namespace L2
open PySem PySem.Spec PyProof.Rows
section
variable {X:Cx}
end
end L2
namespace L2
open PySem PySem.Spec PyProof.Rows
section
variable {X:Cx}
theorem V8(K:PySem.W.Frag)(hc:X.calm=true)(hK:X.K=K:=by rfl):gW X (.type "set") (fun xs H Q=>∃(p:Addr) (ns:List Int),xs=[.ref p]/\aS K H p (ns.map V.int)/\ns.length<=900/\
 ∀(l:Addr) (S:Int->Bool),H l=none->Q (.ref l) (upd H l (.set S (firstMet (fun i=>ns.getD i 0) ns.length).length))):=by
 subst hK;intro pins s σ H xs us Q I r h;obtain⟨p,ns,rfl,hq,hn,q⟩:=h;obtain⟨u,rfl,rx⟩:=vals1 r;cases rx;obtain⟨its,rv,pl,hz⟩:=I.list hq;have hl:=rv.length;rw[List.length_map]at hl;have hsz:its.toArray.size=ns.length:=by rw[List.size_toArray];lia
 refine PySem.call_set_list (I.ok.hd hc) pl.isList (ns:=ns) (by simpa using intsAre_of rv) (by rw[hsz];show ns.length+1<4096;lia) fun h' tk hS hk=>?_
 rw[hsz]at hS;exact⟨.ref s.heap.objs.size,_,I.laid (t':=tk) (o:=.set (fun k'=>(firstMet (fun i=>ns.getD i 0) ns.length).any fun x=>x==k') (firstMet (fun i=>ns.getD i 0) ns.length).length) (fun b o e=>hk b o (Heap.lt_size e) e) (Nat.le_refl _) hS,rfl,q _ _ I.fresh⟩
theorem OH:gW X (.builtin "len") (fun xs H Q=>∃(p:Addr) (S:Int->Bool) (n:Nat),xs=[.ref p]/\H p=some (.set S n)/\Q (.int (n:Int)) H):=by
 intro pins s σ H xs us Q I r h;obtain⟨p,S,n,rfl,hp,q⟩:=h;obtain⟨u,rfl,rx⟩:=vals1 r;cases rx;obtain⟨o,es,ep,t,ho,hex,hd,_,_,hb,hf,rfl⟩:=(show bI X.prog X.w H s.heap p (.set S n) from I.hok p _ hp)
 refine call_len_set ho hex hd hf (by have:es.size<4096:=hb;lia) ⟨.int _,H,I.tok _,⟨_,rfl⟩,q⟩
end
end L2
namespace HT
open PySem PyProof.Rows
section
variable {prog:Program}{w:World}{A:Around}{E:Value->Shared->Prop}{s:Shared}
end
end HT
namespace L2
open PySem PySem.Spec PyProof.Rows
section
variable {X:Cx}
end
end L2
namespace Ring
open PySem
abbrev dZ:=Int×Int×Int
def bit(S:Int)(k:Nat):Bool:=decide (S/2^k%2=1)
def bu(S:Int):List Nat:=(List.range (Builtin.Int.intBits S)).filter (bit S)
def bump(e:List Int)(i:Int):List Int:=e.set i.toNat (e.getD i.toNat 0+1)
def step(ts:List dZ)(e:List Int)(k:Nat):List Int:=match ts[k]? with
 | some t=>bump (bump e t.1) t.2.1
 | none=>e
def kB(p:Nat)(ts:List dZ)(S:Int):List Int:=(bu S).foldl (step ts) (List.replicate p 0)
def vN(p:Nat)(ts:List dZ)(S:Int):List Nat:=(List.range p).filter fun i=>decide ((kB p ts S).getD i 0%2=1)
def LM(ts:List dZ)(k i:Nat):Int:=match ts[k]? with
 | some t=>(if t.1=(i:Int) then 1 else 0)+(if t.2.1=(i:Int) then 1 else 0)
 | none=>0
theorem kP(e:List Int)(i:Int):(bump e i).length=e.length:=by unfold bump;rw[List.length_set]
theorem JC(ts:List dZ)(e:List Int)(k:Nat):(step ts e k).length=e.length:=by
 unfold step
 split
 ·rw[kP,kP]
 ·rfl
theorem BH(e:List Int)(j:Int)(i:Nat)(h0:0<=j)(h1:j<e.length):(bump e j).getD i 0=e.getD i 0+if j=(i:Int) then 1 else 0:=by
 unfold bump;rw[List.getD_eq_getElem?_getD,List.getD_eq_getElem?_getD,List.getD_eq_getElem?_getD]
 by_cases h:j=(i:Int)
 ·have hi:j.toNat=i:=by lia
  rw[if_pos h,hi,List.getElem?_set_self (by lia)]
  rfl
 ·have hi:j.toNat≠i:=by lia
  rw[if_neg h,List.getElem?_set_ne hi]
  lia
structure Fy(p:Nat)(ts:List dZ):Prop where
 ends:∀ t∈ts,0<=t.1/\t.1<(p:Int)/\0<=t.2.1/\t.2.1<(p:Int)
theorem step_get{p:Nat}{ts:List dZ}(W:Fy p ts)(e:List Int)(k i:Nat)(he:e.length=p):(step ts e k).getD i 0=e.getD i 0+LM ts k i:=by
 unfold step LM;cases h:ts[k]? with
 | none=>simp
 | some t =>
   obtain⟨a0,a1,b0,b1⟩:=W.ends t (List.mem_of_getElem? h);dsimp only;rw[BH _ _ _ b0 (by rw[kP,he];exact b1),BH _ _ _ a0 (by rw[he];exact a1)]
   lia
def sM(ts:List dZ)(ks:List Nat)(i:Nat):Int:=(ks.map fun k=>LM ts k i).sum
theorem BI{p:Nat}{ts:List dZ}(W:Fy p ts)(i:Nat):∀(ks:List Nat) (e:List Int),e.length=p->(ks.foldl (step ts) e).getD i 0=e.getD i 0+sM ts ks i
 | [],e,_=>by simp[sM]
 | k::r,e,he=>by
   rw[List.foldl_cons,BI W i r _ (by rw[JC,he]),step_get W e k i he]
   unfold sM;rw[List.map_cons,List.sum_cons]
   lia
theorem JD{p:Nat}{ts:List dZ}(W:Fy p ts)(S:Int)(i:Nat):(kB p ts S).getD i 0=sM ts (bu S) i:=by
 unfold kB;rw[BI W i _ _ (by simp)]
 have e:(List.replicate p (0:Int)).getD i 0=0:=by
  rw[List.getD_eq_getElem?_getD,List.getElem?_replicate]
  split<;>rfl
 rw[e]
 lia
theorem fg(m k:Nat):bit (m:Int) k=m.testBit k:=by
 unfold bit;rw[Nat.testBit_eq_decide_div_mod_eq];have e:((m:Int)/2^k%2=1)↔(m/2^k%2=1):=by
  have h2:((2:Int)^k)=((2^k:Nat):Int):=by simp
  rw[h2,<-Int.natCast_ediv]
  lia
 simp only[e]
theorem vO(m:Nat):Builtin.Int.intBits (m:Int)=if m=0 then 0 else m.log2+1:=by
 unfold Builtin.Int.intBits
 by_cases h:m=0
 ·simp[h]
 ·simp[h]
theorem bits_le{m n:Nat}(h:m<2^n):Builtin.Int.intBits (m:Int)<=n:=by
 rw[vO]
 split
 ·exact Nat.zero_le _
 ·rename_i h0
  exact(Nat.log2_lt h0).mpr h
theorem BJ{m k:Nat}(h:Builtin.Int.intBits (m:Int)<=k):bit (m:Int) k=false:=by
 rw[fg];rw[vO]at h
 by_cases h0:m=0
 ·simp[h0]
 ·rw[if_neg h0]at h;exact Nat.testBit_lt_two_pow (Nat.lt_of_lt_of_le Nat.lt_log2_self (Nat.pow_le_pow_right (by decide) h))
theorem qZ(f:Nat->Bool)(a:Nat):∀ d,(∀ k,a<=k->f k=false)->(List.range (a+d)).filter f=(List.range a).filter f
 | 0,_=>rfl
 | d+1,h=>by
   rw[<-Nat.add_assoc,List.range_succ,List.filter_append,qZ f a d h];have e:[a+d].filter f=[]:=by rw[List.filter_cons,if_neg (by rw[h _ (by lia)];simp)];rfl
   rw[e,List.append_nil]
theorem jG{m n:Nat}(h:m<2^n):bu (m:Int)=(List.range n).filter fun k=>m.testBit k:=by
 unfold bu;have hb:=bits_le h;obtain⟨d,hd⟩:=Nat.exists_eq_add_of_le hb;have e:(fun k=>m.testBit k)=bit (m:Int):=funext fun k=>(fg m k).symm
 rw[e]
 conv=>rhs;rw[hd]
 exact(qZ _ _ d fun k hk=>BJ hk).symm
theorem vf{m n:Nat}(h:m<2^n){k:Nat}(hk:k∈bu (m:Int)):k<n:=by
 rw[jG h]at hk;exact List.mem_range.mp (List.mem_filter.mp hk).1
theorem sum_filter(ts:List dZ)(i:Nat)(f:Nat->Bool):∀ ks:List Nat,sM ts (ks.filter f) i=(ks.map fun k=>if f k=true then LM ts k i else 0).sum
 | []=>rfl
 | k::r=>by
   have ih:=sum_filter ts i f r;rw[List.map_cons,List.sum_cons,<-ih];cases h:f k with
   | true =>
     rw[List.filter_cons,if_pos h];unfold sM;rw[List.map_cons,List.sum_cons];simp
   | false =>
     rw[List.filter_cons,if_neg (by rw[h];simp)]
     simp
theorem JE{a b x y:Nat}(q:x/2+2*(y/2)=a/2+b/2)(h:x%2+2*(y%2)=a%2+b%2):x+2*y=a+b:=by lia
theorem mod_one{u v:Nat}(hu:u=0\/u=1)(hv:v=0\/v=1):(u^^^v)+2*(u&&&v)=u+v:=by
 rcases hu with rfl|rfl<;>rcases hv with rfl|rfl<;>rfl
theorem Ml:∀ a b:Nat,(a^^^b)+2*(a&&&b)=a+b:=by
 intro a
 induction a using Nat.strongRecOn with
 | ind a ih =>
   intro b
   by_cases h:a=0
   ·subst h;simp
   ·have q:=ih (a/2) (by lia) (b/2)
    rw[<-Nat.xor_div_two,<-Nat.and_div_two]at q;refine JE q ?_;have e1:(a^^^b)%2=a%2^^^b%2:=Nat.xor_mod_two_pow (n:=1);have e2:(a&&&b)%2=a%2&&&b%2:=Nat.and_mod_two_pow (n:=1);rw[e1,e2];exact mod_one (Nat.mod_two_eq_zero_or_one a) (Nat.mod_two_eq_zero_or_one b)
theorem xor_int(a b:Nat):Builtin.bitXor (a:Int) (b:Int)=((a^^^b:Nat):Int):=by
 have h:(a:Int)+b-2*((a&&&b:Nat):Int)=((a^^^b:Nat):Int):=by
  have q:=Ml a b
  lia
 have e:=PyProof.Rows.bitXor_and (a:Int) (b:Int);rw[e,PyProof.Rows.bitAnd_pp (by lia) (by lia)]
 simpa using h
end Ring
namespace Ring
open PySem L2
def Mm(t:dZ):List V:=[.int t.1,.int t.2.1,.int t.2.2]
def TupAt(H:Hp)(x:V)(t:dZ):Prop:=∃ b,x = .ref b/\H b=some (.tup (Mm t))
structure br(H:Hp)(w:Addr)(p:Nat)(ts:List dZ):Prop where
 ex:∃ b xs,H w=some (.tup [.int (p:Int),.ref b])/\H b=some (.tup xs)/\Paired (TupAt H) xs ts
structure Mn(p:Nat)(ts:List dZ):Prop where
 inw:Fy p ts
 len:ts.length<=24
 pts:p<=10
theorem TupAt.tups{H H' : Hp}(s:dH H H'){x:V}{t:dZ}(h:TupAt H x t):TupAt H' x t:=by
 obtain⟨b,e,h⟩:=h;exact⟨b,e,s _ _ h⟩
theorem br.tups{H H' : Hp}{w:Addr}{p:Nat}{ts:List dZ}(s:dH H H')(h:br H w p ts):br H' w p ts:=by
 obtain⟨b,xs,h1,h2,h3⟩:=h.ex;exact⟨b,xs,s _ _ h1,s _ _ h2,Paired.imp' (fun _ _ z=>z.tups s) h3⟩
theorem br.same{H H' : Hp}{w:Addr}{p:Nat}{ts:List dZ}(s:av H H')(h:br H w p ts):br H' w p ts:=h.tups s.tups
def aG(l:List Nat):List V:=l.map fun k=>V.int ((k:Nat):Int)
theorem eU(l:List Nat)(k:Nat):aG (l++[k])=aG l++[.int (k:Int)]:=by unfold aG;rw[List.map_append];rfl
theorem aM(l:List Nat):(aG l).length=l.length:=by unfold aG;rw[List.length_map]
theorem kQ{l:List Nat}{i:Nat}{x:V}(h:(aG l)[i]?=some x):∃ k,l[i]?=some k/\x = .int (k:Int):=by
 unfold aG at h;rw[List.getElem?_map]at h;obtain⟨k,e,q⟩:=Option.map_eq_some_iff.mp h;exact⟨k,e,q.symm⟩
theorem bj(f:Nat->Bool)(i:Nat):(List.range (i+1)).filter f=(List.range i).filter f++(if f i=true then[i] else[]):=by
 rw[List.range_succ,List.filter_append]
 congr 1
 cases h:f i with
 | true=>rw[List.filter_cons,if_pos h,if_pos rfl];rfl
 | false=>rw[List.filter_cons,if_neg (by rw[h];simp),if_neg (by simp)];rfl
def pV(f:Nat->Bool)(H:Hp)(D:Addr)(i:Nat)(acc:List V)(H2:Hp):Prop:=av H H2/\H2 D=some (.lst acc)/\acc=aG ((List.range i).filter f)
section
variable {f:Nat->Bool}{H H2 H3:Hp}{D:Addr}{i:Nat}{acc:List V}
theorem pV.start(hD:H D=none):pV f H D 0 [] (upd H D (.lst [])):=⟨av.new hD,ah,rfl⟩
theorem pV.len(p:pV f H D i acc H2):H2 D=some (.lst acc)/\acc.length<=i:=by
 refine⟨p.2.1,?_⟩;rw[p.2.2,aM];exact Nat.le_trans (List.length_filter_le _ _) (by rw[List.length_range];exact Nat.le_refl _)
theorem pV.yes(p:pV f H D i acc H2)(hD:H D=none)(s:av H2 H3)(hf:f i=true):H3 D=some (.lst acc)/\pV f H D (i+1) (acc++[.int (i:Int)]) (upd H3 D (.lst (acc++[.int (i:Int)]))):=by
 refine⟨s _ _ p.2.1,(p.1.trans s).put hD,ah,?_⟩;rw[bj,if_pos hf,eU,<-p.2.2]
theorem pV.no(p:pV f H D i acc H2)(s:av H2 H3)(hf:f i=false):pV f H D (i+1) acc H3:=by
 refine⟨p.1.trans s,s _ _ p.2.1,?_⟩;rw[bj,if_neg (by rw[hf];simp),List.append_nil]
 exact p.2.2
end
def bM(ts:List dZ)(k:Nat):dZ:=ts.getD k (0,0,0)
def stepT(e:List Int)(t:dZ):List Int:=bump (bump e t.1) t.2.1
theorem yP{ts:List dZ}:∀(ks:List Nat) (e:List Int),(∀ k∈ks,k<ts.length)->(ks.map (bM ts)).foldl stepT e=ks.foldl (step ts) e
 | [],_,_=>rfl
 | k::r,e,h=>by
   rw[List.map_cons,List.foldl_cons,List.foldl_cons,yP r _ fun j hj=>h j (List.mem_cons_of_mem _ hj)]
   have hk:=h k List.mem_cons_self;have e1:ts[k]?=some (bM ts k):=by
    unfold bM;rw[List.getD_eq_getElem?_getD];simp[hk]
   have e2:step ts e k=stepT e (bM ts k):=by
    unfold step stepT;rw[e1]
   rw[e2]
theorem yQ{p:Nat}{ts:List dZ}{m:Nat}(h:m<2^ts.length):kB p ts (m:Int)=((bu (m:Int)).map (bM ts)).foldl stepT (List.replicate p 0):=by
 unfold kB;rw[yP _ _ fun k hk=>vf h hk]
theorem GI(e:List Int)(t:dZ):(stepT e t).length=e.length:=by unfold stepT;rw[kP,kP]
theorem sN:∀(l:List dZ) (e:List Int),(l.foldl stepT e).length=e.length
 | [],_=>rfl
 | t::r,e=>by rw[List.foldl_cons,sN r,GI]
def nS(l:List Int):List V:=l.map V.int
theorem sO{l:List Int}{i:Nat}(h:i<l.length):(nS l)[i]?=some (.int (l.getD i 0)):=by
 unfold nS;rw[List.getElem?_map,List.getD_eq_getElem?_getD];simp[h]
theorem vP(l:List Int)(i:Nat):(nS l).set i (.int (l.getD i 0+1))=nS (bump l (i:Int)):=by
 unfold nS bump;rw[Int.toNat_natCast,List.map_set]
theorem JF(p:Nat):(List.replicate p [V.int 0]).flatten=nS (List.replicate p 0):=by
 induction p with
 | zero=>rfl
 | succ p ih=>rw[List.replicate_succ,List.flatten_cons,ih,List.replicate_succ];rfl
theorem q9{n j:Nat}(h:j<n):L6 n (j:Int)=some j:=by
 unfold L6;rw[if_pos (by lia),if_pos (by lia),Int.toNat_natCast]
def pW(k:Nat):PyData:=.int (k:Int)
theorem vQ{K:PySem.W.Frag}{H:Hp}:∀ l:List Nat,DatVs K H (aG l) (l.map pW)
 | []=>.nil
 | _::r=>.cons (.int _) (vQ r)
theorem BK:∀ l:List Nat,PyData.canLayAll0 (l.map pW)=true
 | []=>rfl
 | _::r=>by
   have ih:=BK r;simp only[List.map_cons,PyData.canLayAll0,ih,Bool.and_true];rfl
theorem yR:∀ l:List Nat,PyData.depthAll (l.map pW)=0
 | []=>rfl
 | _::r=>by
   have ih:=yR r;show max (PyData.depth (PyData.int _)) (PyData.depthAll (r.map _))=0;rw[ih];rfl
theorem BL(l:List Nat):SeqAt.shaped (.list (l.map pW))=true:=by
 unfold SeqAt.shaped;have e:(PyData.list (l.map pW)).canLay0=PyData.canLayAll0 (l.map pW):=by simp[PyData.canLay0]
 rw[e,BK,Bool.true_and];refine decide_eq_true ?_;have e2:PyData.depth (PyData.list (l.map pW))=PyData.depthAll (l.map pW)+1:=by simp[PyData.depth]
 rw[e2,yR]
 decide
theorem Mp(l:List Nat):PyData.eqv (.list (l.map pW)) (.list [])=decide (l=[]):=by
 cases l with
 | nil=>rfl
 | cons a r=>rfl
theorem OI(S:Int)(k:Nat):decide (V.int (Builtin.bitAnd (S/2^k) 1)=V.int 1)=bit S k:=by
 unfold bit;rw[PyProof.Rows.bitAnd_m1];rw[Bool.eq_iff_iff];simp
theorem DT(S:Int)(k:Nat):decide (V.int (S/2^k%2)=V.int 1)=bit S k:=by
 unfold bit;rw[Bool.eq_iff_iff];simp
theorem Mq(x:Int):decide (V.int x=V.int 1)=decide (x=1):=by
 rw[Bool.eq_iff_iff];simp
end Ring
namespace Ring
open PySem L2
structure rf(p:Int)(t:dZ):Prop where
 a0:0<=t.1
 a1:t.1<p
 b0:0<=t.2.1
 b1:t.2.1<p
 ne:t.1≠t.2.1
 l0:1<=t.2.2
 l1:t.2.2<=1000000000000000000000000000000
structure aF(p:Nat)(ts:List dZ):Prop where
 p1:1<=p
 p2:p<=10
 len:ts.length<=24
 Al:∀ t∈ts,rf (p:Int) t
theorem aF.JG{p:Nat}{ts:List dZ}(g:aF p ts):Mn p ts:=⟨⟨fun t ht=>let z:=g.Al t ht;⟨z.a0,z.a1,z.b0,z.b1⟩⟩,g.len,g.p2⟩
def vc(p:Int)(H:Hp)(D:Addr)(n:Nat)(H2:Hp):Prop:=av H H2/\∃ acc ts,H2 D=some (.lst acc)/\Paired (TupAt H2) acc ts/\acc.length=n/\∀ t∈ts,rf p t
section
variable {p:Int}{H H2 H3:Hp}{D b:Addr}{n:Nat}{t:dZ}
theorem vc.start(hD:H D=none):vc p H D 0 (upd H D (.lst [])):=⟨av.new hD,[],[],ah,.nil,rfl,fun t ht=>nomatch ht⟩
theorem vc.push(h:vc p H D n H2)(hD:H D=none)(s:av H2 H3)(g:rf p t)(hb:H3 b=some (.tup (Mm t))):
 ∃ acc,H3 D=some (.lst acc)/\acc.length=n/\vc p H D (n+1) (upd H3 D (.lst (acc++[.ref b]))):=by
 obtain⟨s2,acc,ts,hd,pr,hn,gt⟩:=h;have Nv:H3 D=some (.lst acc):=s _ _ hd;refine⟨acc,Nv,hn,(s2.trans s).put hD,acc++[.ref b],ts++[t],ah,?_,by rw[List.length_append,List.length_singleton,hn],fun u hu=>?_⟩
 ·exact Paired.snoc (Paired.imp' (fun _ _ z=>z.tups (s.tups.trans (dH.put Nv))) pr) ⟨b,rfl,dH.put Nv _ _ hb⟩
 ·rcases List.mem_append.mp hu with hu|hu
  ·exact gt u hu
  ·cases List.mem_singleton.mp hu;exact g
theorem vc.fin{q:Nat}(h:vc (q:Int) H D n H2):∃ acc ts,H2 D=some (.lst acc)/\ts.length=n/\(∀ t∈ts,rf (q:Int) t)/\∀ l,H2 l=none->∀ w,upd H2 l (.tup acc) w=none->
 av H (upd (upd H2 l (.tup acc)) w (.tup [.int (q:Int),.ref l]))/\br (upd (upd H2 l (.tup acc)) w (.tup [.int (q:Int),.ref l])) w q ts:=by
 obtain⟨s2,acc,ts,hd,pr,hn,gt⟩:=h;refine⟨acc,ts,hd,by rw[<-pr.length,hn],gt,fun l hl w hw=>?_⟩
 have n1:av H2 (upd H2 l (.tup acc)):=av.new hl;have n2:=n1.trans (av.new (o:=.tup [.int (q:Int),.ref l]) hw);refine⟨s2.trans n2,l,acc,ah,?_,Paired.imp' (fun _ _ z=>z.tups n2.tups) pr⟩
 rw[aq (bR ah hw),ah]
end
theorem JH{p o r:Int}(h:0<=o)(h1:o<p)(r0:0<=r)(r1:r<p-1):0<=(o+1+r)%p/\(o+1+r)%p<p/\o≠(o+1+r)%p:=by
 have hp:0<p:=by lia
 refine⟨Int.emod_nonneg _ (by lia),Int.emod_lt_of_pos _ hp,?_⟩
 by_cases hlt:o+1+r<p
 ·rw[Int.emod_eq_of_lt (by lia) hlt]
  lia
 ·have e:(o+1+r)%p=o+1+r-p:=by
   rw[<-Int.sub_emod_right,Int.emod_eq_of_lt (by lia) (by lia)]
  rw[e]
  lia
theorem dm{n:Nat}(h:n<=24):n<=sizeLine:=Nat.le_of_lt (kO (by lia))
theorem kC{n:Nat}(h:n<=900):n<sizeLine:=kO (by lia)
theorem Mr{ns:List Int}{k:Nat}(h:k<ns.length):(ns.map V.int)[k]?=some (.int (ns.getD k 0)):=by
 rw[List.getElem?_map,List.getD_eq_getElem?_getD];simp[h]
theorem jW(x m:Int)(h:0<m):0<=x%m/\x%m<m:=⟨Int.emod_nonneg _ (by lia),Int.emod_lt_of_pos _ h⟩
end Ring
namespace RM
def bf(f:Nat->Bool):Nat->Bool
 | 0=>false
 | n+1=>bf f n^^f n
theorem bh{f g:Nat->Bool}:∀{n:Nat},(∀ k,k<n->f k=g k)->bf f n=bf g n
 | 0,_=>rfl
 | n+1,h=>by
   unfold bf;rw[bh fun k hk=>h k (by lia),h n (by lia)]
theorem iJ(f g:Nat->Bool):∀ n,bf (fun k=>f k^^g k) n=(bf f n^^bf g n)
 | 0=>rfl
 | n+1=>by
   unfold bf;rw[iJ f g n];cases bf f n<;>cases bf g n<;>cases f n<;>cases g n<;>rfl
theorem qw:∀ n,bf (fun _=>false) n=false
 | 0=>rfl
 | n+1=>by unfold bf;rw[qw n];rfl
theorem jH(c:Bool)(f:Nat->Bool):∀ n,bf (fun k=>c&&f k) n=(c&&bf f n)
 | 0=>by cases c<;>rfl
 | n+1=>by
   unfold bf;rw[jH c f n];cases c<;>simp
theorem sP(f:Nat->Nat->Bool)(n:Nat):∀ m,bf (fun x=>bf (fun k=>f x k) n) m=bf (fun k=>bf (fun x=>f x k) m) n
 | 0=>by
   show false=_;rw[<-qw n];rfl
 | m+1=>by
   show(bf (fun x=>bf (fun k=>f x k) n) m^^bf (fun k=>f m k) n)=_
   rw[sP f n m,<-iJ];rfl
theorem gn{f:Nat->Bool}{n:Nat}(h:∀ k,k<n->f k=false):bf f n=false:=by
 rw[bh (g:=fun _=>false) h,qw]
theorem rh{f:Nat->Bool}{a:Nat}:∀{n:Nat},a<n->(∀ k,k<n->k≠a->f k=false)->bf f n=f a
 | 0,h,_=>absurd h (Nat.not_lt_zero _)
 | n+1,h,z=>by
   unfold bf
   by_cases e:a=n
   ·subst e;rw[gn fun k hk=>z k (by lia) (by lia)]
    simp
   ·rw[rh (a:=a) (by lia) fun k hk hn=>z k (by lia) hn,z n (by lia) (fun q=>e q.symm)]
    simp
theorem gh(C:Nat->Bool){a m:Nat}(h:a<m):bf (fun x=>C x&&decide (a=x)) m=C a:=by
 rw[rh h fun k _ hk=>by simp[Ne.symm hk]]
 simp
structure Net where
 p:Nat
 n:Nat
 a:Nat->Nat
 b:Nat->Nat
 al:∀ k,k<n->a k<p
 bl:∀ k,k<n->b k<p
 ne:∀ k,k<n->a k≠b k
variable (N:Net)
def Net.inc(k x:Nat):Bool:=decide (N.a k=x)^^decide (N.b k=x)
def Net.bd(m x:Nat):Bool:=bf (fun k=>m.testBit k&&N.inc k x) N.n
def Net.fh(m:Nat):Prop:=∀ x,x<N.p->N.bd m x=false
variable {N}
theorem g7(m q x:Nat):N.bd (m^^^q) x=(N.bd m x^^N.bd q x):=by
 unfold Net.bd;rw[<-iJ];refine bh fun k _=>?_
 rw[Nat.testBit_xor];cases m.testBit k<;>cases q.testBit k<;>cases N.inc k x<;>rfl
theorem oZ(x:Nat):N.bd 0 x=false:=by
 unfold Net.bd;exact gn fun k _=>by simp
theorem nU{k:Nat}(h:k<N.n)(x:Nat):N.bd (2^k) x=N.inc k x:=by
 unfold Net.bd;rw[rh h fun j _ hj=>by simp[Nat.testBit_two_pow,Ne.symm hj]]
 simp[Nat.testBit_two_pow]
theorem fh.xor{m q:Nat}(h:N.fh m)(h' : N.fh q):N.fh (m^^^q):=fun x hx=>by rw[g7,h x hx,h' x hx];rfl
theorem fh.zero:N.fh 0:=fun x _=>oZ x
theorem JI{m:Nat}(C:Nat->Bool)(h:∀ k,k<N.n->m.testBit k=true->C (N.a k)=C (N.b k)):bf (fun x=>C x&&N.bd m x) N.p=false:=by
 have e:bf (fun x=>C x&&N.bd m x) N.p=bf (fun x=>bf (fun k=>C x&&(m.testBit k&&N.inc k x)) N.n) N.p :=
  bh fun x _=>(jH (C x) _ N.n).symm
 rw[e,sP];refine gn fun k hk=>?_
 have e2:bf (fun x=>C x&&(m.testBit k&&N.inc k x)) N.p=(m.testBit k&&(C (N.a k)^^C (N.b k))):=by
  rw[<-gh C (N.al k hk),<-gh C (N.bl k hk),<-iJ,<-jH];refine bh fun x _=>?_
  unfold Net.inc;cases C x<;>cases m.testBit k<;>cases decide (N.a k=x)<;>cases decide (N.b k=x)<;>rfl
 rw[e2];cases hb:m.testBit k with
 | false=>rfl
 | true=>rw[h k hk hb];simp
def join(L:Nat->Nat)(u v:Nat):Nat->Nat:=fun x=>if L x=max (L u) (L v) then min (L u) (L v) else L x
theorem join_eq{L:Nat->Nat}{u v x y:Nat}(h:L x=L y):join L u v x=join L u v y:=by unfold join;rw[h]
theorem yS(L:Nat->Nat)(u v:Nat):join L u v u=join L u v v:=by
 unfold join
 split<;>split<;>lia
theorem yT{L:Nat->Nat}{u v:Nat}(h:L u=L v):join L u v=L:=by
 funext x
 unfold join;rw[h]
 split<;>lia
theorem vR{L:Nat->Nat}{u v x y:Nat}(h:join L u v x=join L u v y):L x=L y\/(L x=L u/\L y=L v)\/(L x=L v/\L y=L u):=by
 unfold join at h;have mm:(max (L u) (L v)=L u/\min (L u) (L v)=L v)\/(max (L u) (L v)=L v/\min (L u) (L v)=L u):=by
  rcases Nat.le_total (L u) (L v) with q|q
  ·exact .inr ⟨Nat.max_eq_right q,Nat.min_eq_left q⟩
  ·exact .inl ⟨Nat.max_eq_left q,Nat.min_eq_right q⟩
 rcases mm with⟨e1,e2⟩|⟨e1,e2⟩
 ·rw[e1,e2]at h
  split at h
  ·rename_i hx
   split at h
   ·rename_i hy
    exact .inl (hx.trans hy.symm)
   ·exact .inr (.inl ⟨hx,h.symm⟩)
  ·split at h
   ·rename_i hy
    exact .inr (.inr ⟨h,hy⟩)
   ·exact .inl h
 ·rw[e1,e2]at h
  split at h
  ·rename_i hx
   split at h
   ·rename_i hy
    exact .inl (hx.trans hy.symm)
   ·exact .inr (.inr ⟨hx,h.symm⟩)
  ·split at h
   ·rename_i hy
    exact .inr (.inl ⟨h,hy⟩)
   ·exact .inl h
theorem join_le{L:Nat->Nat}{u v x:Nat}(h:L x<=x):join L u v x<=x:=by
 unfold join
 split<;>lia
theorem GJ{L:Nat->Nat}{u v:Nat}(h:∀ x,L (L x)=L x)(x:Nat):join L u v (join L u v x)=join L u v x:=by
 have hu:=h u;have hv:=h v;have hx:=h x;have hlo:L (min (L u) (L v))=min (L u) (L v):=by
  rcases Nat.le_total (L u) (L v) with q|q
  ·rw[Nat.min_eq_left q];exact hu
  ·rw[Nat.min_eq_right q];exact hv
 unfold join
 split
 ·rw[hlo]
  split<;>lia
 ·rw[hx]
  split<;>lia
def Net.aN(N:Net)(S:Nat->Bool):Nat->Nat->Nat
 | 0=>fun x=>x
 | k+1=>if S k=true then join (Net.aN N S k) (N.a k) (N.b k) else Net.aN N S k
variable {S:Nat->Bool}
theorem rm:∀(k x:Nat),N.aN S k x<=x
 | 0,_=>Nat.le_refl _
 | k+1,x=>by
   unfold Net.aN
   split
   ·exact join_le (rm k x)
   ·exact rm k x
theorem bT:∀(k x:Nat),N.aN S k (N.aN S k x)=N.aN S k x
 | 0,_=>rfl
 | k+1,x=>by
   by_cases hs:S k=true
   ·have e:N.aN S (k+1)=join (N.aN S k) (N.a k) (N.b k):=by
     conv=>lhs;unfold Net.aN
     rw[if_pos hs]
    rw[e];exact GJ (bT k) x
   ·have e:N.aN S (k+1)=N.aN S k:=by
     conv=>lhs;unfold Net.aN
     rw[if_neg hs]
    rw[e];exact bT k x
theorem yU{x y k:Nat}(h:N.aN S k x=N.aN S k y):∀ d,N.aN S (k+d) x=N.aN S (k+d) y
 | 0=>h
 | d+1=>by
   have ih:=yU h d;show N.aN S (k+d+1) x=N.aN S (k+d+1) y;unfold Net.aN
   split
   ·exact join_eq ih
   ·exact ih
theorem iK{j k:Nat}(h:j<k)(hs:S j=true):N.aN S k (N.a j)=N.aN S k (N.b j):=by
 obtain⟨d,rfl⟩:=Nat.exists_eq_add_of_le (Nat.succ_le_of_lt h);refine yU ?_ d;show N.aN S (j+1) (N.a j)=N.aN S (j+1) (N.b j);unfold Net.aN;rw[if_pos hs];exact yS _ _ _
inductive Net.nG(N:Net)(S:Nat->Bool)(k u:Nat):Nat->Prop
 | refl:Net.nG N S k u u
 | fwd {j:Nat} (h:Net.nG N S k u (N.a j)) (hj:j<k) (hs:S j=true):Net.nG N S k u (N.b j)
 | bwd {j:Nat} (h:Net.nG N S k u (N.b j)) (hj:j<k) (hs:S j=true):Net.nG N S k u (N.a j)
theorem Net.nG.trans{k u v w:Nat}(h:N.nG S k u v)(h' : N.nG S k v w):N.nG S k u w:=by
 induction h' with
 | refl=>exact h
 | fwd _ hj hs ih=>exact .fwd ih hj hs
 | bwd _ hj hs ih=>exact .bwd ih hj hs
theorem Net.nG.mono{k l u v:Nat}(h:N.nG S k u v)(qO:k<=l):N.nG S l u v:=by
 induction h with
 | refl=>exact .refl
 | fwd _ hj hs ih=>exact .fwd ih (by lia) hs
 | bwd _ hj hs ih=>exact .bwd ih (by lia) hs
theorem bJ:∀(k u v:Nat),N.aN S k u=N.aN S k v->N.nG S k u v
 | 0,u,v,h=>by
   have e:u=v:=h;subst e;exact .refl
 | k+1,u,v,h=>by
   unfold Net.aN at h
   split at h
   ·rename_i hs
    rcases vR h with q|⟨q1,q2⟩|⟨q1,q2⟩
    ·exact(bJ k u v q).mono (by lia)
    ·have c1:=(bJ k u _ q1).mono (Nat.le_succ k);have c2:=(bJ k _ v q2.symm).mono (Nat.le_succ k);exact Net.nG.trans (.fwd c1 (by lia) hs) c2
    ·have c1:=(bJ k u _ q1).mono (Nat.le_succ k);have c2:=(bJ k _ v q2.symm).mono (Nat.le_succ k);exact Net.nG.trans (.bwd c1 (by lia) hs) c2
   ·exact(bJ k u v h).mono (by lia)
def Net.fO(N:Net)(k:Nat):Nat->Nat:=N.aN (fun _=>true) k
def Net.nV(N:Net)(k:Nat):Bool:=!decide (N.fO k (N.a k)=N.fO k (N.b k))
theorem BN(k:Nat):N.fO (k+1)=if N.nV k=true then join (N.fO k) (N.a k) (N.b k) else N.fO k:=by
 show N.aN (fun _=>true) (k+1)=_
 unfold Net.aN;rw[if_pos rfl];unfold Net.nV
 by_cases h:N.fO k (N.a k)=N.fO k (N.b k)
 ·rw[if_neg (by simp[h])]
  exact yT h
 ·rw[if_pos (by simp[h])]
  rfl
theorem gM{m:Nat}(hf:∀ k,m.testBit k=true->k<N.n/\N.nV k=true)(he:N.fh m):m=0:=by
 by_cases h0:m=0
 ·exact h0
 exfalso
 have hK:m.testBit m.log2=true:=Nat.testBit_log2 h0;obtain⟨Ub,Uc⟩:=hf _ hK;generalize hKe:m.log2=K at hK Ub Uc;have hlt:m<2^(K+1):=by rw[<-hKe];exact Nat.lt_log2_self
 have hcl:=JI (N:=N) (m:=m^^^2^K) (fun x=>decide (N.fO K x=N.fO K (N.a K))) fun k hk hb=>by
  have hkK:k<K:=by
   rw[Nat.testBit_xor,Nat.testBit_two_pow]at hb
   by_cases e:K=k
   ·subst e;simp[hK]at hb
   ·have hb' : m.testBit k=true:=by simpa[e]using hb
    have:k<K+1:=by
     by_cases q:k<K+1
     ·exact q
     ·have z:=Nat.testBit_lt_two_pow (Nat.lt_of_lt_of_le hlt (Nat.pow_le_pow_right (by decide) (show K+1<=k by lia)))
      rw[hb']at z;cases z
    lia
  have e:N.fO K (N.a k)=N.fO K (N.b k):=iK (S:=fun _=>true) hkK rfl
  show decide (N.fO K (N.a k)=_)=decide (N.fO K (N.b k)=_);rw[e]
 have e:bf (fun x=>decide (N.fO K x=N.fO K (N.a K))&&N.bd (m^^^2^K) x) N.p=bf (fun x=>decide (N.fO K x=N.fO K (N.a K))&&N.inc K x) N.p :=
  bh fun x hx=>by rw[g7,he x hx,nU Ub];simp
 rw[e]at hcl;have e2:bf (fun x=>decide (N.fO K x=N.fO K (N.a K))&&N.inc K x) N.p=(decide (N.fO K (N.a K)=N.fO K (N.a K))^^decide (N.fO K (N.b K)=N.fO K (N.a K))):=by
  rw[<-gh (fun x=>decide (N.fO K x=N.fO K (N.a K))) (N.al K Ub),<-gh (fun x=>decide (N.fO K x=N.fO K (N.a K))) (N.bl K Ub),<-iJ]
  refine bh fun x _=>?_
  unfold Net.inc;cases decide (N.fO K x=N.fO K (N.a K))<;>cases decide (N.a K=x)<;>cases decide (N.b K=x)<;>rfl
 rw[e2]at hcl;unfold Net.nV at Uc;have hne : ¬ N.fO K (N.b K)=N.fO K (N.a K):=fun q=>by rw[q]at Uc;simp at Uc
 simp[hne]at hcl
def Net.trail(N:Net):Nat->Nat->Nat
 | 0=>fun _=>0
 | k+1=>if N.nV k=true then fun v=>if N.fO k v=max (N.fO k (N.a k)) (N.fO k (N.b k)) then Net.trail N k v^^^(Net.trail N k (N.a k)^^^Net.trail N k (N.b k)^^^2^k) else Net.trail N k v
   else Net.trail N k
theorem kR:∀(k v j:Nat),(N.trail k v).testBit j=true->j<k/\N.nV j=true
 | 0,v,j,h=>by simp[Net.trail]at h
 | k+1,v,j,h=>by
   have ih:=kR k;unfold Net.trail at h
   split at h
   ·rename_i hf
    dsimp only at h
    split at h
    ·rw[Nat.testBit_xor,Nat.testBit_xor,Nat.testBit_xor,Nat.testBit_two_pow]at h
     by_cases e:k=j
     ·subst e;exact⟨by lia,hf⟩
     ·have z : ¬((N.trail k v).testBit j=false/\(N.trail k (N.a k)).testBit j=false/\(N.trail k (N.b k)).testBit j=false):=by
       rintro⟨z1,z2,z3⟩;simp[z1,z2,z3,e]at h
      cases h1:(N.trail k v).testBit j with
      | true=>obtain⟨q,r⟩:=ih v j h1;exact⟨by lia,r⟩
      | false=>cases h2:(N.trail k (N.a k)).testBit j with
        | true=>obtain⟨q,r⟩:=ih _ j h2;exact⟨by lia,r⟩
        | false=>cases h3:(N.trail k (N.b k)).testBit j with
          | true=>obtain⟨q,r⟩:=ih _ j h3;exact⟨by lia,r⟩
          | false=>exact absurd ⟨h1,h2,h3⟩ z
    ·obtain⟨q,r⟩:=ih v j h;exact⟨by lia,r⟩
   ·obtain⟨q,r⟩:=ih v j h;exact⟨by lia,r⟩
theorem JJ(a b c d e f g h:Bool)(hlh:(d^^f)=(g^^h)):((a^^g)^^(((c^^d)^^(e^^f))^^(c^^e)))=(a^^h):=by
 have e1:(((c^^d)^^(e^^f))^^(c^^e))=(d^^f):=by cases c<;>cases d<;>cases e<;>cases f<;>rfl
 rw[e1,hlh];cases a<;>cases g<;>cases h<;>rfl
theorem vS:∀(k:Nat),k<=N.n->∀ v x,N.bd (N.trail k v) x=(decide (v=x)^^decide (N.fO k v=x))
 | 0,_,v,x=>by
   show N.bd 0 x=(decide (v=x)^^decide (v=x));rw[oZ];simp
 | k+1,hk,v,x=>by
   have ih:=vS k (by lia)
   rw[BN];unfold Net.trail
   by_cases hf:N.nV k=true
   ·rw[if_pos hf,if_pos hf]
    by_cases hm:N.fO k v=max (N.fO k (N.a k)) (N.fO k (N.b k))
    ·have e:join (N.fO k) (N.a k) (N.b k) v=min (N.fO k (N.a k)) (N.fO k (N.b k)):=by unfold join;rw[if_pos hm]
     show N.bd (if N.fO k v=_ then _ else _) x=_
     rw[if_pos hm,e,g7,g7,g7,nU (by lia),ih,ih,ih]
     unfold Net.inc;refine JJ _ false _ _ _ _ _ _ ?_;rw[hm];rcases Nat.le_total (N.fO k (N.a k)) (N.fO k (N.b k)) with q|q
     ·rw[Nat.max_eq_right q,Nat.min_eq_left q,Bool.xor_comm]
     ·rw[Nat.max_eq_left q,Nat.min_eq_right q]
    ·have e:join (N.fO k) (N.a k) (N.b k) v=N.fO k v:=by unfold join;rw[if_neg hm]
     show N.bd (if N.fO k v=_ then _ else _) x=_
     rw[if_neg hm,e,ih]
   ·rw[if_neg hf,if_neg hf];exact ih v x
def Net.ring(N:Net)(c:Nat):Nat:=N.trail N.n (N.a c)^^^N.trail N.n (N.b c)^^^2^c
theorem JK{c:Nat}(h:c<N.n):N.fO N.n (N.a c)=N.fO N.n (N.b c):=iK (S:=fun _=>true) h rfl
theorem o4{c:Nat}(h:c<N.n):N.fh (N.ring c):=fun x _=>by
 unfold Net.ring;rw[g7,g7,nU h,vS _ (Nat.le_refl _),vS _ (Nat.le_refl _),JK h];unfold Net.inc;cases decide (N.a c=x)<;>cases decide (N.b c=x)<;>cases decide (N.fO N.n (N.b c)=x)<;>rfl
theorem nW{c j:Nat}(h:(N.ring c).testBit j=true):j=c\/(j<N.n/\N.nV j=true):=by
 unfold Net.ring at h;rw[Nat.testBit_xor,Nat.testBit_xor,Nat.testBit_two_pow]at h
 by_cases e:c=j
 ·exact .inl e.symm
 ·right
  cases h1:(N.trail N.n (N.a c)).testBit j with
  | true=>exact kR _ _ _ h1
  | false=>cases h2:(N.trail N.n (N.b c)).testBit j with
    | true=>exact kR _ _ _ h2
    | false=>simp[h1,h2,e]at h
theorem vU{c:Nat}(hf:N.nV c=false):(N.ring c).testBit c=true:=by
 unfold Net.ring;rw[Nat.testBit_xor,Nat.testBit_xor,Nat.testBit_two_pow];cases h1:(N.trail N.n (N.a c)).testBit c with
 | true=>obtain⟨_,q⟩:=kR _ _ _ h1;rw[hf]at q;cases q
 | false=>cases h2:(N.trail N.n (N.b c)).testBit c with
   | true=>obtain⟨_,q⟩:=kR _ _ _ h2;rw[hf]at q;cases q
   | false=>simp
theorem GK{j:Nat}(h:j<N.n)(hf:N.nV j=true):(N.trail N.n (N.a j)).testBit j=true\/(N.trail N.n (N.b j)).testBit j=true:=by
 have z:N.ring j=0:=gM (fun k hk=>by
  rcases nW hk with rfl|q
  ·exact⟨h,hf⟩
  ·exact q) (o4 h)
 have b:(N.ring j).testBit j=false:=by rw[z];simp
 unfold Net.ring at b;rw[Nat.testBit_xor,Nat.testBit_xor,Nat.testBit_two_pow]at b;cases h1:(N.trail N.n (N.a j)).testBit j with
 | true=>exact .inl rfl
 | false=>cases h2:(N.trail N.n (N.b j)).testBit j with
   | true=>exact .inr rfl
   | false=>simp[h1,h2]at b
end RM
namespace RM
def cnt(f:Nat->Bool):Nat->Nat
 | 0=>0
 | n+1=>cnt f n+(if f n=true then 1 else 0)
theorem gp{f g:Nat->Bool}:∀{n:Nat},(∀ k,k<n->f k=g k)->cnt f n=cnt g n
 | 0,_=>rfl
 | n+1,h=>by
   unfold cnt;rw[gp fun k hk=>h k (by lia),h n (by lia)]
theorem vV{f g:Nat->Bool}{h:Nat}(hg:g h=true):∀{p:Nat},h<p->(∀ x,x<p->f x=(g x && !decide (x=h)))->cnt g p=cnt f p+1
 | 0,hh,_=>absurd hh (Nat.not_lt_zero _)
 | p+1,hh,e=>by
   unfold cnt
   by_cases q:h=p
   ·subst q;have z:cnt g h=cnt f h:=gp fun k hk=>by rw[e k (by lia)];simp[show k≠h by lia]
    rw[z,if_pos hg,e h (by lia)]
    simp
   ·rw[vV hg (by lia) fun x hx=>e x (by lia),e p (by lia)]
    simp[Ne.symm q]
    lia
theorem kT(f:Nat->Bool):∀ n,((List.range n).filter f).length=cnt f n
 | 0=>rfl
 | n+1=>by
   rw[List.range_succ,List.filter_append,List.length_append,kT f n];show _=cnt f n+(if f n=true then 1 else 0)
   cases h:f n with
   | true=>rw[List.filter_cons,if_pos h];rfl
   | false=>rw[List.filter_cons,if_neg (by rw[h];simp)];rfl
theorem mz(f:Nat->Bool):∀ n,cnt f n+cnt (fun k=>!f k) n=n
 | 0=>rfl
 | n+1=>by
   have ih:=mz f n;unfold cnt;cases h:f n<;>simp<;>lia
theorem Am{f:Nat->Bool}:∀{n:Nat},(∀ k,k<n->f k=true)->cnt f n=n
 | 0,_=>rfl
 | n+1,h=>by
   unfold cnt;rw[Am fun k hk=>h k (by lia),if_pos (h n (by lia))]
variable {N:Net}{S:Nat->Bool}
def Net.root(N:Net)(S:Nat->Bool)(k x:Nat):Bool:=decide (N.aN S k x=x)
theorem gq(k:Nat):N.aN S (k+1)=if S k=true then join (N.aN S k) (N.a k) (N.b k) else N.aN S k:=by
 conv=>lhs;unfold Net.aN
theorem jX{k x:Nat}(h:x<N.p):N.aN S k x<N.p:=Nat.lt_of_le_of_lt (rm k x) h
theorem GL{L:Nat->Nat}{u v:Nat}(hr:∀ x,L (L x)=L x)(hne:L u≠L v)(x:Nat):decide (join L u v x=x)=(decide (L x=x) && !decide (x=max (L u) (L v))):=by
 have hhi:L (max (L u) (L v))=max (L u) (L v):=by
  rcases Nat.le_total (L u) (L v) with q|q
  ·rw[Nat.max_eq_right q];exact hr v
  ·rw[Nat.max_eq_left q];exact hr u
 have hlo:L (min (L u) (L v))=min (L u) (L v):=by
  rcases Nat.le_total (L u) (L v) with q|q
  ·rw[Nat.min_eq_left q];exact hr u
  ·rw[Nat.min_eq_right q];exact hr v
 unfold join
 by_cases h:L x=max (L u) (L v)
 ·rw[if_pos h];have h1 : ¬ min (L u) (L v)=x:=fun z=>by
   rw[<-z,hlo]at h
   lia
  by_cases h2:x=max (L u) (L v)
  ·simp[h1,h2]
   lia
  ·have h3 : ¬ L x=x:=fun z=>h2 (z.symm.trans h)
   simp[h1,h3]
 ·rw[if_neg h];have h2 : ¬ x=max (L u) (L v):=fun z=>h (by rw[z];exact hhi)
  simp[h2]
theorem vW{k:Nat}(hk:k<N.n):cnt (N.root S k) N.p=cnt (N.root S (k+1)) N.p+(if(S k && !decide (N.aN S k (N.a k)=N.aN S k (N.b k)))=true then 1 else 0):=by
 cases hs:S k with
 | false =>
   have e:N.root S (k+1)=N.root S k:=by unfold Net.root;rw[gq,if_neg (by rw[hs];simp)]
   rw[e];simp
 | true =>
   by_cases h:N.aN S k (N.a k)=N.aN S k (N.b k)
   ·have e:N.root S (k+1)=N.root S k:=by unfold Net.root;rw[gq,if_pos hs,yT h]
    rw[e];simp[h]
   ·have hhi:N.aN S k (max (N.aN S k (N.a k)) (N.aN S k (N.b k)))=max (N.aN S k (N.a k)) (N.aN S k (N.b k)):=by
     rcases Nat.le_total (N.aN S k (N.a k)) (N.aN S k (N.b k)) with q|q
     ·rw[Nat.max_eq_right q];exact bT _ _
     ·rw[Nat.max_eq_left q];exact bT _ _
    have h1:=jX (S:=S) (k:=k) (N.al k hk);have h2:=jX (S:=S) (k:=k) (N.bl k hk);rw[vV (f:=N.root S (k+1)) (g:=N.root S k) (h:=max (N.aN S k (N.a k)) (N.aN S k (N.b k))) (decide_eq_true hhi) (by lia) fun x _=>by
     unfold Net.root;rw[gq,if_pos hs];exact GL (bT k) h x]
    simp[h]
theorem rq:∀ k,k<=N.n->cnt (N.root (fun _=>true) k) N.p+cnt N.nV k=N.p
 | 0,_=>by
   show cnt (N.root (fun _=>true) 0) N.p+0=N.p
   rw[Am (f:=N.root (fun _=>true) 0) fun x _=>decide_eq_true rfl]
   rfl
 | k+1,hk=>by
   have ih:=rq k (by lia)
   have st:=vW (N:=N) (S:=fun _=>true) (k:=k) (by lia)
   have e:((fun _=>true:Nat->Bool) k && !decide (N.aN (fun _=>true) k (N.a k)=N.aN (fun _=>true) k (N.b k)))=N.nV k:=by rw[Bool.true_and];rfl
   rw[e]at st;show cnt (N.root (fun _=>true) (k+1)) N.p+(cnt N.nV k+if N.nV k=true then 1 else 0)=N.p
   lia
theorem BO:(N.n:Int)-N.p+cnt (N.root (fun _=>true) N.n) N.p=(cnt (fun k=>!N.nV k) N.n:Nat):=by
 have h:=rq (N:=N) N.n (Nat.le_refl _);have h2:=mz N.nV N.n
 lia
def Net.bx(N:Net):List Nat:=(List.range N.n).filter fun k=>!N.nV k
theorem bU{c:Nat}:c∈N.bx↔c<N.n/\N.nV c=false:=by
 unfold Net.bx;rw[List.mem_filter,List.mem_range];simp
theorem DU:N.bx.length=cnt (fun k=>!N.nV k) N.n:=kT _ _
theorem dR{m n:Nat}(h:∀ k,m.testBit k=true->k<n):m<2^n:=Nat.lt_pow_two_of_testBit m fun k hk=>by
 cases q:m.testBit k with
 | false=>rfl
 | true=>exact absurd (h k q) (by lia)
theorem cS{m n k:Nat}(h:m<2^n)(hb:m.testBit k=true):k<n:=by
 by_cases q:k<n
 ·exact q
 ·have z:=Nat.testBit_lt_two_pow (Nat.lt_of_lt_of_le h (Nat.pow_le_pow_right (by decide) (show n<=k by lia)))
  rw[hb]at z;cases z
theorem JL{m q:Nat}(hm:m<2^N.n)(hq:q<2^N.n)(em:N.fh m)(eq:N.fh q)(h:∀ c,c<N.n->N.nV c=false->m.testBit c=q.testBit c):m=q:=by
 have z:m^^^q=0:=gM (N:=N) (fun k hk=>by
  have hk':=cS (Nat.xor_lt_two_pow hm hq) hk;refine⟨hk',?_⟩;cases hf:N.nV k with
  | true=>rfl
  | false =>
    rw[Nat.testBit_xor,h k hk' hf]at hk;simp at hk) (fh.xor em eq)
 have e:m=m^^^q^^^q:=by rw[Nat.xor_assoc,Nat.xor_self,Nat.xor_zero]
 rw[e,z,Nat.zero_xor]
theorem o5{c:Nat}(h:c<N.n):N.ring c<2^N.n:=dR fun k hk=>by
 rcases nW hk with rfl|⟨q,_⟩
 ·exact h
 ·exact q
theorem qx{c d:Nat}(hc:N.nV c=false)(hd:N.nV d=false):(N.ring c).testBit d=decide (c=d):=by
 by_cases e:c=d
 ·subst e;rw[vU hc];simp
 ·cases q:(N.ring c).testBit d with
  | false=>simp[e]
  | true=>rcases nW q with rfl | ⟨_,r⟩
          ·exact absurd rfl e
          ·rw[hd]at r;cases r
end RM
namespace Ring
open PySem L2
def maskOf(f:Nat->Bool):Nat->Nat
 | 0=>0
 | n+1=>(if f n=true then 2^n else 0)+maskOf f n
theorem mask_lt(f:Nat->Bool):∀ n,maskOf f n<2^n
 | 0=>by show 0<1;decide
 | n+1=>by
   have ih:=mask_lt f n;have e:2^(n+1)=2^n+2^n:=by rw[Nat.pow_succ];lia
   unfold maskOf
   split<;>lia
theorem mask_bit(f:Nat->Bool)(j:Nat):∀ n,(maskOf f n).testBit j=(decide (j<n)&&f j)
 | 0=>by simp[maskOf]
 | n+1=>by
   have ih:=mask_bit f j n;have hl:=mask_lt f n;unfold maskOf
   by_cases h:f n=true
   ·rw[if_pos h];rcases Nat.lt_trichotomy j n with q|q|q
    ·rw[Nat.testBit_two_pow_add_gt q,ih];simp[q,show j<n+1 by lia]
    ·subst q;rw[Nat.testBit_two_pow_add_eq,ih];simp[h]
    ·have z:2^n+maskOf f n<2^j:=Nat.lt_of_lt_of_le (show 2^n+maskOf f n<2^(n+1) by rw[Nat.pow_succ];lia) (Nat.pow_le_pow_right (by decide) q)
     rw[Nat.testBit_lt_two_pow z];simp[show ¬ j<n+1 by lia]
   ·rw[if_neg h,Nat.zero_add,ih]
    by_cases q:j=n
    ·subst q;have h' : f j=false:=by simpa using h
     simp[h']
    ·by_cases r:j<n
     ·simp[r,show j<n+1 by lia]
     ·simp[r,show ¬ j<n+1 by lia]
theorem JM(n:Nat):maskOf (fun _=>true) n=2^n-1:=by
 induction n with
 | zero=>rfl
 | succ n ih =>
   unfold maskOf;rw[ih,if_pos rfl,Nat.pow_succ];have:=Nat.two_pow_pos n
   lia
theorem Fz(n j:Nat):(2^n-1).testBit j=decide (j<n):=by
 rw[<-JM,mask_bit];simp
theorem OJ{a b x y:Nat}(q:x/2+y/2=a/2+b/2)(h:x%2+y%2=a%2+b%2):x+y=a+b:=by lia
theorem OL{u v:Nat}(hu:u=0\/u=1)(hv:v=0\/v=1):(u ||| v)+(u&&&v)=u+v:=by
 rcases hu with rfl|rfl<;>rcases hv with rfl|rfl<;>rfl
theorem OM:∀ a b:Nat,(a ||| b)+(a&&&b)=a+b:=by
 intro a
 induction a using Nat.strongRecOn with
 | ind a ih =>
   intro b
   by_cases h:a=0
   ·subst h;simp
   ·have q:=ih (a/2) (by lia) (b/2)
    rw[<-Nat.or_div_two,<-Nat.and_div_two]at q;refine OJ q ?_;have e1:(a ||| b)%2=a%2 ||| b%2:=Nat.or_mod_two_pow (n:=1)
    have e2:(a&&&b)%2=a%2&&&b%2:=Nat.and_mod_two_pow (n:=1);rw[e1,e2];exact OL (Nat.mod_two_eq_zero_or_one a) (Nat.mod_two_eq_zero_or_one b)
theorem or_int(a b:Nat):Builtin.bitOr (a:Int) (b:Int)=((a ||| b:Nat):Int):=by
 have q:=OM a b;rw[PyProof.Rows.bitOr_and,PyProof.Rows.bitAnd_pp (by lia) (by lia)]
 have h:(a:Int)+b-((a&&&b:Nat):Int)=((a ||| b:Nat):Int):=by lia
 simpa using h
theorem jY(k:Nat):(1:Int)*2^(k:Int).toNat=((2^k:Nat):Int):=by
 rw[Int.toNat_natCast,Int.one_mul];simp
theorem gr{ts:List dZ}{k:Nat}(h:k<ts.length):bM ts k∈ts:=by
 unfold bM;rw[List.getD_eq_getElem?_getD];simp[h]
theorem sQ{ts:List dZ}{k:Nat}(h:k<ts.length):ts[k]?=some (bM ts k):=by
 unfold bM;rw[List.getD_eq_getElem?_getD];simp[h]
def ae(p:Nat)(ts:List dZ)(g:aF p ts):RM.Net where
 p:=p
 n:=ts.length
 a:=fun k=>(bM ts k).1.toNat
 b:=fun k=>(bM ts k).2.1.toNat
 al:=fun k hk=>by
  have z:=g.Al _ (gr hk);have z0:=z.a0;have z1:=z.a1
  lia
 bl:=fun k hk=>by
  have z:=g.Al _ (gr hk);have z0:=z.b0;have z1:=z.b1
  lia
 ne:=fun k hk e=>by
  have z:=g.Al _ (gr hk);have z0:=z.a0;have z1:=z.b0;exact z.ne (by lia)
theorem FA{p:Nat}{ts:List dZ}{g:aF p ts}{k:Nat}(h:k<ts.length):(bM ts k).1=(((ae p ts g).a k:Nat):Int):=by
 have z:=(g.Al _ (gr h)).a0;show _=(((bM ts k).1.toNat:Nat):Int)
 lia
theorem FD{p:Nat}{ts:List dZ}{g:aF p ts}{k:Nat}(h:k<ts.length):(bM ts k).2.1=(((ae p ts g).b k:Nat):Int):=by
 have z:=(g.Al _ (gr h)).b0;show _=(((bM ts k).2.1.toNat:Nat):Int)
 lia
theorem Ms{p:Nat}{ts:List dZ}{g:aF p ts}{k:Nat}(h:k<ts.length)(x:Nat):LM ts k x%2=if(ae p ts g).inc k x=true then 1 else 0:=by
 unfold LM RM.Net.inc;rw[sQ h];dsimp only;rw[FA (g:=g) h,FD (g:=g) h];generalize (ae p ts g).a k=u;generalize (ae p ts g).b k=v
 by_cases h1:u=x
 ·by_cases h2:v=x
  ·simp[h1,h2]
  ·have OG : ¬((v:Int)=(x:Int)):=by lia
   simp[h1,h2,OG]
 ·have Jx : ¬((u:Int)=(x:Int)):=by lia
  by_cases h2:v=x
  ·simp[h1,h2,Jx]
  ·have OG : ¬((v:Int)=(x:Int)):=by lia
   simp[h1,h2,Jx,OG]
theorem JN{p:Nat}{ts:List dZ}{g:aF p ts}(m x:Nat):∀ n,n<=ts.length->((List.range n).map fun k=>if m.testBit k=true then LM ts k x else 0).sum%2=if RM.bf (fun k=>m.testBit k&&(ae p ts g).inc k x) n=true then 1 else 0
 | 0,_=>rfl
 | n+1,h=>by
   have ih:=JN (g:=g) m x n (by lia)
   have hd:=Ms (g:=g) (k:=n) (by lia) x
   rw[List.range_succ,List.map_append,List.sum_append];show(_+((if m.testBit n=true then LM ts n x else 0)+0))%2=if(RM.bf _ n^^(m.testBit n&&(ae p ts g).inc n x))=true then 1 else 0
   generalize ((List.range n).map fun k=>if m.testBit k=true then LM ts k x else 0).sum=u at ih ⊢
   generalize RM.bf (fun k=>m.testBit k&&(ae p ts g).inc k x) n=v at ih ⊢
   generalize (ae p ts g).inc n x=i at hd ⊢;generalize LM ts n x=d at hd ⊢;cases m.testBit n<;>cases v<;>cases i<;>simp at ih hd ⊢ <;> lia
theorem FE{p:Nat}{ts:List dZ}(g:aF p ts){m:Nat}(hm:m<2^ts.length){x:Nat}:decide ((kB p ts (m:Int)).getD x 0%2=1)=(ae p ts g).bd m x:=by
 rw[JD g.JG.inw,jG hm,sum_filter];have h:=JN (g:=g) m x ts.length (Nat.le_refl _);rw[h];show _=RM.bf _ ts.length;generalize RM.bf (fun k=>m.testBit k&&(ae p ts g).inc k x) ts.length=v
 cases v<;>simp
theorem BP{p:Nat}{ts:List dZ}(g:aF p ts){m:Nat}(hm:m<2^ts.length):vN p ts (m:Int)=[]↔(ae p ts g).fh m:=by
 unfold vN;rw[List.filter_eq_nil_iff]
 constructor
 ·intro h x hx;have q:=h x (List.mem_range.mpr hx);rw[FE g hm]at q
  simpa using q
 ·intro h x hx;rw[FE g hm,h x (List.mem_range.mp hx)];simp
def cJ(f:Nat->Nat)(n:Nat):List V:=(List.range n).map fun x=>V.int ((f x:Nat):Int)
theorem cz(f:Nat->Nat)(n:Nat):(cJ f n).length=n:=by unfold cJ;rw[List.length_map,List.length_range]
theorem bK{f:Nat->Nat}{n x:Nat}(h:x<n):(cJ f n)[x]?=some (.int ((f x:Nat):Int)):=by
 unfold cJ;rw[List.getElem?_map,List.getElem?_range h];rfl
theorem mC{f:Nat->Nat}{n x:Nat}{v:V}(h:(cJ f n)[x]?=some v):x<n/\v = .int ((f x:Nat):Int):=by
 have hx:x<n:=by
  have:=(List.getElem?_eq_some_iff.mp h).1
  rwa [cz]at this
 rw[bK hx]at h;exact⟨hx,(Option.some.inj h).symm⟩
theorem yV(f:Nat->Nat)(n:Nat):cJ f (n+1)=cJ f n++[.int ((f n:Nat):Int)]:=by
 unfold cJ;rw[List.range_succ,List.map_append];rfl
theorem vX{f g:Nat->Nat}{n:Nat}(h:∀ x,x<n->f x=g x):cJ f n=cJ g n:=by
 unfold cJ;refine List.map_congr_left fun x hx=>?_
 rw[h x (List.mem_range.mp hx)]
theorem BQ(p:Nat):(List.replicate p [V.int 0]).flatten=cJ (fun _=>0) p:=by
 induction p with
 | zero=>rfl
 | succ p ih =>
   rw[yV,<-ih,List.replicate_succ',List.flatten_append];rfl
def vY(f:Nat->Nat)(H:Hp)(D:Addr)(i:Nat)(acc:List V)(H2:Hp):Prop:=av H H2/\H2 D=some (.lst acc)/\acc=cJ f i
section
variable {f:Nat->Nat}{H H2 H3:Hp}{D:Addr}{i:Nat}{acc:List V}{v:V}
theorem vY.start(hD:H D=none):vY f H D 0 [] (upd H D (.lst [])):=⟨av.new hD,ah,rfl⟩
theorem vY.len(p:vY f H D i acc H2):H2 D=some (.lst acc)/\acc.length<=i:=⟨p.2.1,by rw[p.2.2,cz];exact Nat.le_refl _⟩
theorem vY.next(p:vY f H D i acc H2)(hD:H D=none)(s:av H2 H3)(hv:v = .int ((f i:Nat):Int)):H3 D=some (.lst acc)/\vY f H D (i+1) (acc++[v]) (upd H3 D (.lst (acc++[v]))):=by
 refine⟨s _ _ p.2.1,(p.1.trans s).put hD,ah,?_⟩;rw[yV,<-p.2.2,hv]
end
theorem yW{N:RM.Net}{m:Nat}:∀ n,((List.range n).filter fun k=>m.testBit k).foldl (fun L k=>RM.join L (N.a k) (N.b k)) (fun x=>x)=N.aN (fun k=>m.testBit k) n
 | 0=>rfl
 | n+1=>by
   rw[bj,List.foldl_append,yW n,RM.gq]
   split<;>rfl
end Ring
namespace RM
theorem vZ{N:Net}{S S' : Nat->Bool}:∀{n:Nat},(∀ k,k<n->S k=S' k)->N.aN S n=N.aN S' n
 | 0,_=>rfl
 | n+1,h=>by rw[gq,gq,vZ fun k hk=>h k (by lia),h n (by lia)]
end RM
namespace Ring
open PySem L2
def pieceOf(L:Nat->Nat)(p s:Nat):List Nat:=(List.range p).filter fun x=>decide (L x=s)
def fj(L:Nat->Nat)(p:Nat):List Nat:=(List.range p).filter fun x=>decide (L x=x)
def Nx(D:Addr)(H0 H:Hp)(y:V)(l:List Nat):Prop:=∃ b,y = .ref b/\b≠D/\H0 b=none/\H b=some (.lst (aG l))
def wc(L:Nat->Nat)(p:Nat)(H:Hp)(D:Addr)(i:Nat)(H2:Hp):Prop:=av H H2/\∃ ys,H2 D=some (.lst ys)/\Paired (Nx D H H2) ys ((fj L i).map (pieceOf L p))/\ys.length<=i
section
variable {L:Nat->Nat}{p i:Nat}{H H2 H3:Hp}{D b:Addr}
theorem wc.start(hD:H D=none):wc L p H D 0 (upd H D (.lst [])):=⟨av.new hD,[],ah,.nil,Nat.le_refl _⟩
theorem we:fj L (i+1)=fj L i++(if L i=i then[i] else[]):=by
 unfold fj;rw[bj]
 by_cases h:L i=i<;>simp[h]
theorem wc.skip(h:wc L p H D i H2)(hn : ¬ L i=i):wc L p H D (i+1) H2:=by
 obtain⟨s,ys,hd,pr,hl⟩:=h;refine⟨s,ys,hd,?_,by lia⟩
 rw[we,if_neg hn,List.append_nil];exact pr
theorem wc.push(h:wc L p H D i H2)(hD:H D=none)(hr:L i=i)(s:av H2 H3)(hb:H2 b=none)(hb3:H3 b=some (.lst (aG (pieceOf L p i)))):
 ∃ ys,H3 D=some (.lst ys)/\ys.length<=i/\wc L p H D (i+1) (upd H3 D (.lst (ys++[.ref b]))):=by
 obtain⟨s2,ys,hd,pr,hl⟩:=h;have Nv:=s _ _ hd;have hbD:b≠D:=fun e=>by rw[e,hd]at hb;cases hb
 refine⟨ys,Nv,hl,(s2.trans s).put hD,ys++[.ref b],ah,?_,by rw[List.length_append,List.length_singleton];lia⟩
 rw[we,if_pos hr,List.map_append];refine Paired.snoc (Paired.imp' (fun _ _ ⟨e,he,hn,h0,q⟩=>⟨e,he,hn,h0,by rw[aq hn];exact s _ _ q⟩) pr) ?_
 exact⟨b,rfl,hbD,s2.free hb,by rw[aq hbD];exact hb3⟩
end
def uI(p:Nat)(ts:List dZ)(g:aF p ts)(ks:List Nat):Nat->Nat:=ks.foldl (fun L k=>RM.join L ((ae p ts g).a k) ((ae p ts g).b k)) fun x=>x
theorem DV{p:Nat}{ts:List dZ}{g:aF p ts}{ks:List Nat}{k:Nat}:uI p ts g (ks++[k])=RM.join (uI p ts g ks) ((ae p ts g).a k) ((ae p ts g).b k):=by
 unfold uI;rw[List.foldl_append];rfl
def bL(p:Nat)(ts:List dZ)(g:aF p ts)(m:Nat):Nat->Nat:=(ae p ts g).aN (fun k=>m.testBit k) ts.length
theorem DW{p:Nat}{ts:List dZ}{g:aF p ts}{m:Nat}(hm:m<2^ts.length):uI p ts g (bu (m:Int))=bL p ts g m:=by
 unfold uI bL;rw[jG hm];exact yW _
theorem Mt{p:Nat}{ts:List dZ}{g:aF p ts}:bL p ts g (2^ts.length-1)=(ae p ts g).fO ts.length:=by
 unfold bL RM.Net.fO;exact RM.vZ fun k hk=>by rw[Fz];simp[hk]
theorem Mu{p:Nat}{ts:List dZ}{g:aF p ts}:(ts.length:Int)-(p:Int)+(fj (bL p ts g (2^ts.length-1)) p).length=((ae p ts g).bx.length:Int):=by
 have h:=RM.BO (N:=ae p ts g);rw[RM.DU];unfold fj;rw[RM.kT,Mt];exact h
theorem Mv(a b:Nat):(if(b:Int)<(a:Int) then(b:Int) else(a:Int))=((min a b:Nat):Int):=by
 split<;>lia
theorem FF(a b:Nat):(if(b:Int) > (a:Int) then(b:Int) else(a:Int))=((max a b:Nat):Int):=by
 split<;>lia
theorem jZ(a b:Nat):decide (V.int (a:Int)=V.int (b:Int))=decide (a=b):=by
 rw[Bool.eq_iff_iff];simp
 lia
end Ring
namespace RM
variable {N:Net}{S:Nat->Bool}
variable {pt r j:Nat}{l:List Nat}
theorem JO{l:List Nat}:∀{p:Nat},l.Nodup->(∀ x∈l,x<p)->l.length<=p:=by
 intro p hn hl;have hp:l.Perm ((List.range p).filter fun x=>decide (x∈l)):=by
  refine(List.perm_ext_iff_of_nodup hn (List.Pairwise.filter _ List.nodup_range)).mpr fun a=>?_
  rw[List.mem_filter,List.mem_range];simp;exact fun h=>hl a h
 rw[hp.length_eq];have:=List.length_filter_le (fun x=>decide (x∈l)) (List.range p)
 rwa [List.length_range]at this
end RM
namespace Ring
open PySem L2
theorem DX{p:Nat}{f:Nat->Bool}:((List.range p).filter f).Pairwise (· < ·):=List.Pairwise.filter _ List.pairwise_lt_range
theorem jI(l:List Nat):aG l=(l.map fun x=>((x:Nat):Int)).map V.int:=by unfold aG;rw[List.map_map];rfl
theorem rA(u:Nat)(l:List Nat):Nm (.int (u:Int)) (aG l)=decide (u∈l):=by
 unfold Nm aG;rw[List.any_map,Bool.eq_iff_iff,List.any_eq_true];simp only[Function.comp,decide_eq_true_eq]
 constructor
 ·rintro⟨x,hx,h⟩;have e:((x:Nat):Int)=(u:Int):=eq_of_beq h;have:x=u:=by lia
  exact this▸hx
 ·intro h;exact⟨u,h,by simp[Mb]⟩
theorem sR(l:List Nat):(aG l).all qV=true:=by
 unfold aG;rw[List.all_map,List.all_eq_true];intro x _;rfl
theorem and_int(a b:Nat):Builtin.bitAnd (a:Int) (b:Int)=((a&&&b:Nat):Int):=by
 rw[PyProof.Rows.bitAnd_pp (by lia) (by lia)]
 simp
end Ring
namespace RM
variable {N:Net}
theorem JP{L:Nat->Nat}{u v x y:Nat}:join L u v x=join L u v y↔(L x=L y\/(L x=L u/\L y=L v)\/(L x=L v/\L y=L u)):=by
 constructor
 ·exact vR
 ·have e:=yS L u v;rintro(h|⟨h1,h2⟩|⟨h1,h2⟩)
  ·exact join_eq h
  ·rw[join_eq h1,join_eq h2,e]
  ·rw[join_eq h1,join_eq h2,e]
def ON(L:Nat->Nat)(u v:Nat):Nat->Nat:=fun x=>if L x=L v then L u else L x
theorem Mw{L:Nat->Nat}{u v x y:Nat}:ON L u v x=ON L u v y↔(L x=L y\/(L x=L u/\L y=L v)\/(L x=L v/\L y=L u)):=by
 unfold ON
 split<;>split<;>lia
end RM
namespace Ring
open PySem L2
def Qa(T:Nat->Nat):Nat->Nat
 | 0=>0
 | n+1=>Qa T n ||| T n
theorem FG(T:Nat->Nat)(j:Nat):∀ n,(Qa T n).testBit j=true↔∃ x,x<n/\(T x).testBit j=true
 | 0=>by simp[Qa]
 | n+1=>by
   unfold Qa;rw[Nat.testBit_or,Bool.or_eq_true,FG T j n]
   constructor
   ·rintro(⟨x,hx,h⟩|h)
    ·exact⟨x,by lia,h⟩
    ·exact⟨n,by lia,h⟩
   ·rintro⟨x,hx,h⟩
    by_cases e:x=n
    ·subst e;exact .inr h
    ·exact .inl ⟨x,by lia,h⟩
section
variable {p:Nat}{ts:List dZ}{g:aF p ts}
def j6(p:Nat)(ts:List dZ)(g:aF p ts):Nat:=maskOf (ae p ts g).nV ts.length
theorem DY:Qa ((ae p ts g).trail ts.length) p=j6 p ts g:=by
 refine Nat.eq_of_testBit_eq fun j=>?_
 unfold j6;rw[mask_bit,Bool.eq_iff_iff,FG];simp only[Bool.and_eq_true,decide_eq_true_eq]
 constructor
 ·rintro⟨x,_,h⟩;exact RM.kR _ _ _ h
 ·rintro⟨h1,h2⟩;rcases RM.GK (N:=ae p ts g) h1 h2 with h|h
  ·exact⟨_,(ae p ts g).al j h1,h⟩
  ·exact⟨_,(ae p ts g).bl j h1,h⟩
theorem DZ(j:Nat):((2^ts.length-1)^^^j6 p ts g).testBit j=(decide (j<ts.length) && !(ae p ts g).nV j):=by
 unfold j6;rw[Nat.testBit_xor,Fz,mask_bit];cases decide (j<ts.length)<;>cases(ae p ts g).nV j<;>rfl
theorem yX:(2^ts.length-1)^^^j6 p ts g<2^ts.length:=Nat.xor_lt_two_pow (by have:=Nat.two_pow_pos ts.length;lia) (mask_lt _ _)
theorem BR:bu (((2^ts.length-1)^^^j6 p ts g:Nat):Int)=(ae p ts g).bx:=by
 rw[jG yX];unfold RM.Net.bx;refine List.filter_congr fun k hk=>?_
 have:=List.mem_range.mp hk;rw[DZ];simp[this]
end
theorem Mx(n:Nat):((2:Int)^n-1)=((2^n-1:Nat):Int):=by
 have h:((2:Int)^n)=((2^n:Nat):Int):=by simp
 have:=Nat.two_pow_pos n
 lia
theorem OO{S:Int}{l:List Nat}(h:∀ c∈l,S≠((c:Nat):Int)):Nm (.int S) (aG l)=false:=by
 unfold Nm aG;rw[List.any_map,List.any_eq_false];intro x hx z;exact h x hx (eq_of_beq z).symm
theorem p7{c:Nat}:∀{n:Nat},c<n->(List.range n).filter (fun k=>decide (k=c))=[c]
 | 0,h=>absurd h (Nat.not_lt_zero _)
 | n+1,h=>by
   rw[bj]
   by_cases e:c=n
   ·subst e;have z:(List.range c).filter (fun k=>decide (k=c))=[]:=by
     rw[List.filter_eq_nil_iff];intro x hx;have:=List.mem_range.mp hx;simp
     lia
    rw[z];simp
   ·rw[p7 (by lia)]
    simp[Ne.symm e]
theorem An{l:List Nat}{i:Nat}{k:Nat}(h:l[i]?=some k):(aG l)[i]?=some (.int (k:Int)):=by
 unfold aG;rw[List.getElem?_map,h];rfl
end Ring
namespace Ring
open PySem L2
section
variable {f:Nat->Bool}{l:List Nat}{H H2 H3:Hp}{D:Addr}{i k:Nat}{acc:List V}
end
def x8(f:Nat->Int)(l:List Nat)(H:Hp)(D:Addr)(i:Nat)(acc:List V)(H2:Hp):Prop:=av H H2/\H2 D=some (.lst acc)/\acc=((l.take i).map f).map V.int
section
variable {f:Nat->Int}{l:List Nat}{H H2 H3:Hp}{D:Addr}{i k:Nat}{acc:List V}{v:V}
theorem x8.start(hD:H D=none):x8 f l H D 0 [] (upd H D (.lst [])):=⟨av.new hD,ah,rfl⟩
theorem x8.len(p:x8 f l H D i acc H2):H2 D=some (.lst acc)/\acc.length<=i:=by
 refine⟨p.2.1,?_⟩;rw[p.2.2,List.length_map,List.length_map,List.length_take]
 lia
theorem x8.next(p:x8 f l H D i acc H2)(hD:H D=none)(s:av H2 H3)(hk:l[i]?=some k)(hv:v = .int (f k)):H3 D=some (.lst acc)/\x8 f l H D (i+1) (acc++[v]) (upd H3 D (.lst (acc++[v]))):=by
 refine⟨s _ _ p.2.1,(p.1.trans s).put hD,ah,?_⟩;rw[List.take_add_one,hk,List.map_append,List.map_append,<-p.2.2,hv];rfl
theorem x8.fin(p:x8 f l H D l.length acc H2):H2 D=some (.lst ((l.map f).map V.int)):=by rw[p.2.1,p.2.2,List.take_length]
end
end Ring
namespace RM
theorem wg(f:Nat->Bool):∀ n,bf f n=decide (cnt f n%2=1)
 | 0=>rfl
 | n+1=>by
   unfold bf cnt;rw[wg f n]
   by_cases h:f n=true
   ·rw[h,if_pos rfl]
    by_cases q:cnt f n%2=1
    ·have q' : ¬(cnt f n+1)%2=1:=by lia
     simp[q,q']
    ·have q' : (cnt f n+1)%2=1:=by lia
     simp[q,q']
   ·have h' : f n=false:=by simpa using h
    rw[h',if_neg (by decide)]
    simp
end RM
namespace Ring
open PySem L2
def lenOf(ts:List dZ)(m:Nat):Int:=((bu (m:Int)).map fun k=>(bM ts k).2.2).sum
def GN(ts:List dZ)(f:Nat->Bool):Nat->Int
 | 0=>0
 | n+1=>GN ts f n+(if f n=true then(bM ts n).2.2 else 0)
theorem uJ(ts:List dZ)(f:Nat->Bool):∀ n,(((List.range n).filter f).map fun k=>(bM ts k).2.2).sum=GN ts f n
 | 0=>rfl
 | n+1=>by
   rw[bj,List.map_append,List.sum_append,uJ ts f n];show _=GN ts f n+(if f n=true then(bM ts n).2.2 else 0)
   split<;>simp
theorem GO{ts:List dZ}{m:Nat}(hm:m<2^ts.length):lenOf ts m=GN ts (fun k=>m.testBit k) ts.length:=by
 unfold lenOf;rw[jG hm];exact uJ ts _ _
section
variable {p:Nat}{ts:List dZ}(g:aF p ts)
include g
end
section
variable {p:Nat}{ts:List dZ}
end
end Ring
namespace L2
open PySem PySem.Spec PyProof.Rows
end L2
namespace Ring
open PySem L2
end Ring
namespace RM
def sm(f:Nat->Nat):Nat->Nat
 | 0=>0
 | n+1=>sm f n+f n
theorem fR{f g:Nat->Nat}:∀{n:Nat},(∀ k,k<n->f k=g k)->sm f n=sm g n
 | 0,_=>rfl
 | n+1,h=>by
   show sm f n+f n=sm g n+g n;rw[fR fun k hk=>h k (by lia),h n (by lia)]
theorem sS(f g:Nat->Nat):∀ n,sm (fun k=>f k+g k) n=sm f n+sm g n
 | 0=>rfl
 | n+1=>by
   show sm (fun k=>f k+g k) n+(f n+g n)=sm f n+f n+(sm g n+g n)
   rw[sS f g n]
   lia
theorem vg:∀ n,sm (fun _=>0) n=0
 | 0=>rfl
 | n+1=>by
   show sm (fun _=>0) n+0=0
   rw[vg n]
theorem FH(f:Nat->Nat->Nat)(n:Nat):∀ p,sm (fun x=>sm (fun k=>f x k) n) p=sm (fun k=>sm (fun x=>f x k) p) n
 | 0=>(vg n).symm
 | p+1=>by
   show sm (fun x=>sm (fun k=>f x k) n) p+sm (fun k=>f p k) n=sm (fun k=>sm (fun x=>f x k) p+f p k) n
   rw[FH f n p,sS]
theorem iQ(f:Nat->Bool):∀ n,cnt f n=sm (fun k=>if f k=true then 1 else 0) n
 | 0=>rfl
 | n+1=>by
   show cnt f n+(if f n=true then 1 else 0)=sm (fun k=>if f k=true then 1 else 0) n+(if f n=true then 1 else 0)
   rw[iQ f n]
theorem FI{f g:Nat->Nat}:∀{n:Nat},(∀ k,k<n->f k<=g k)->sm f n<=sm g n
 | 0,_=>Nat.le_refl _
 | n+1,h=>by
   have h1:=FI (f:=f) (g:=g) (n:=n) fun k hk=>h k (by lia)
   have h2:=h n (by lia)
   show sm f n+f n<=sm g n+g n
   lia
theorem JQ{f g:Nat->Nat}{n:Nat}(h:∀ k,k<n->f k<=g k)(e:sm f n=sm g n):∀ k,k<n->f k=g k:=by
 induction n with
 | zero=>exact fun k hk=>absurd hk (Nat.not_lt_zero _)
 | succ n ih =>
   intro k hk;have h1:=FI (f:=f) (g:=g) (n:=n) fun k hk=>h k (by lia)
   have h2:=h n (by lia)
   have e:sm f n+f n=sm g n+g n:=e
   by_cases hkn:k=n
   ·subst hkn
    lia
   ·exact ih (fun j hj=>h j (by lia)) (by lia) k (by lia)
theorem D0{f g:Nat->Bool}{n:Nat}(h:∀ k,k<n->f k=true->g k=true):cnt f n<=cnt g n:=by
 rw[iQ,iQ];refine FI fun k hk=>?_
 by_cases hf:f k=true
 ·rw[if_pos hf,if_pos (h k hk hf)];exact Nat.le_refl _
 ·rw[if_neg hf];exact Nat.zero_le _
theorem BS{f g:Nat->Bool}{n:Nat}(h:∀ k,k<n->f k=true->g k=true)(e:cnt f n=cnt g n):∀ k,k<n->g k=true->f k=true:=fun k hk hg=>by
 rw[iQ,iQ]at e;have q:=JQ (n:=n) (fun k hk=>by
  by_cases hf:f k=true
  ·rw[if_pos hf,if_pos (h k hk hf)];exact Nat.le_refl _
  ·rw[if_neg hf];exact Nat.zero_le _) e k hk
 rw[if_pos hg]at q
 by_cases hf:f k=true
 ·exact hf
 ·rw[if_neg hf]at q
  lia
theorem nX{f:Nat->Bool}:∀{n:Nat},0<cnt f n->∃ k,k<n/\f k=true
 | 0,h=>absurd h (Nat.lt_irrefl _)
 | n+1,h=>by
   by_cases hf:f n=true
   ·exact⟨n,by lia,hf⟩
   ·have h:0<cnt f n+(if f n=true then 1 else 0):=h
    rw[if_neg hf]at h;obtain⟨k,hk,q⟩:=nX (f:=f) (n:=n) (by lia)
    exact⟨k,by lia,q⟩
theorem o6{f:Nat->Bool}{k:Nat}(hf:f k=true):∀{n:Nat},k<n->0<cnt f n
 | 0,h=>absurd h (Nat.not_lt_zero _)
 | n+1,h=>by
   show 0<cnt f n+(if f n=true then 1 else 0)
   by_cases hk:k=n
   ·subst hk;rw[if_pos hf]
    lia
   ·have:=o6 hf (n:=n) (by lia)
    lia
theorem o7{f:Nat->Bool}:∀{n:Nat},2<=cnt f n->∃ c d,c<d/\d<n/\f c=true/\f d=true
 | 0,h=>absurd h (by show ¬ 2<=0;lia)
 | n+1,h=>by
   have h:2<=cnt f n+(if f n=true then 1 else 0):=h
   by_cases hf:f n=true
   ·rw[if_pos hf]at h;obtain⟨k,hk,q⟩:=nX (f:=f) (n:=n) (by lia)
    exact⟨k,n,hk,by lia,q,hf⟩
   ·rw[if_neg hf]at h;obtain⟨c,d,h1,h2,h3,h4⟩:=o7 (f:=f) (n:=n) (by lia)
    exact⟨c,d,h1,by lia,h3,h4⟩
theorem vh{f:Nat->Bool}{u v:Nat}(hu:f u=true)(hv:f v=true)(ne:u≠v):∀{n:Nat},u<n->v<n->2<=cnt f n
 | 0,h,_=>absurd h (Nat.not_lt_zero _)
 | n+1,h1,h2=>by
   show 2<=cnt f n+(if f n=true then 1 else 0)
   by_cases e1:u=n
   ·subst e1;have:=o6 hv (n:=u) (by lia)
    rw[if_pos hu]
    lia
   ·by_cases e2:v=n
    ·subst e2;have:=o6 hu (n:=v) (by lia)
     rw[if_pos hv]
     lia
    ·have:=vh hu hv ne (n:=n) (by lia) (by lia)
     lia
theorem wj(a:Nat):∀ n,cnt (fun x=>decide (a=x)) n=if a<n then 1 else 0
 | 0=>rfl
 | n+1=>by
   show cnt (fun x=>decide (a=x)) n+(if decide (a=n)=true then 1 else 0)=_
   rw[wj a n]
   by_cases e:a=n
   ·subst e;simp
   ·have d:(if decide (a=n)=true then 1 else 0)=0:=if_neg (by simpa using e)
    rw[d]
    by_cases h:a<n
    ·rw[if_pos h,if_pos (by lia)]
    ·rw[if_neg h,if_neg (by lia)]
theorem wk{f g:Nat->Bool}:∀{n:Nat},(∀ x,x<n->¬(f x=true/\g x=true))->cnt (fun x=>f x^^g x) n=cnt f n+cnt g n
 | 0,_=>rfl
 | n+1,h=>by
   show cnt (fun x=>f x^^g x) n+(if(f n^^g n)=true then 1 else 0)=cnt f n+(if f n=true then 1 else 0)+(cnt g n+(if g n=true then 1 else 0))
   rw[wk fun x hx=>h x (by lia)]
   have q:=h n (by lia)
   cases hf:f n<;>cases hg:g n
   ·simp
   ·simp
    lia
   ·simp
    lia
   ·exact absurd ⟨hf,hg⟩ q
variable {N:Net}
def Net.dg(N:Net)(m x:Nat):Nat:=cnt (fun k=>m.testBit k&&N.inc k x) N.n
theorem JR(m x:Nat):N.bd m x=decide (N.dg m x%2=1):=wg _ _
theorem vj{m x:Nat}(e:N.fh m)(hx:x<N.p):N.dg m x%2=0:=by
 have h:=e x hx;rw[JR]at h;have:=of_decide_eq_false h
 lia
theorem vm{k x:Nat}(hk:k<N.n):N.inc k x=true↔(N.a k=x\/N.b k=x):=by
 have ne:=N.ne k hk;unfold Net.inc
 by_cases h1:N.a k=x
 ·have h2 : ¬ N.b k=x:=fun z=>ne (h1.trans z.symm)
  simp[h1,h2]
 ·by_cases h2:N.b k=x
  ·simp[h1,h2]
  ·simp[h1,h2]
theorem My{k:Nat}(hk:k<N.n):cnt (N.inc k) N.p=2:=by
 have ne:=N.ne k hk;have e:cnt (N.inc k) N.p=cnt (fun x=>decide (N.a k=x)^^decide (N.b k=x)) N.p:=rfl
 rw[e,wk fun x _ ⟨h1,h2⟩=>ne ((of_decide_eq_true h1).trans (of_decide_eq_true h2).symm),wj,wj,if_pos (N.al k hk),if_pos (N.bl k hk)]
theorem Ao(m:Nat):sm (fun x=>N.dg m x) N.p=2*cnt (fun k=>m.testBit k) N.n:=by
 have e:sm (fun x=>N.dg m x) N.p=sm (fun x=>sm (fun k=>if(m.testBit k&&N.inc k x)=true then 1 else 0) N.n) N.p:=fR fun x _=>iQ _ _
 rw[e,FH,iQ];have d:∀ n,2*sm (fun k=>if m.testBit k=true then 1 else 0) n=sm (fun k=>(if m.testBit k=true then 1 else 0)+(if m.testBit k=true then 1 else 0)) n:=fun n=>by
  rw[sS]
  lia
 rw[d];refine fR fun k hk=>?_
 by_cases h:m.testBit k=true
 ·rw[if_pos h];have q:=My hk;rw[iQ]at q;show _=2;exact(fR fun x _=>by rw[h,Bool.true_and]).trans q
 ·rw[if_neg h];have h' : m.testBit k=false:=by simpa using h
  have:sm (fun x=>if(m.testBit k&&N.inc k x)=true then 1 else 0) N.p=sm (fun _=>0) N.p:=fR fun x _=>by rw[h'];rfl
  rw[this,vg]
theorem Rx{q m:Nat}(h:∀ k,q.testBit k=true->m.testBit k=true)(x:Nat):N.dg q x<=N.dg m x:=D0 fun k _ hq=>by
 rw[Bool.and_eq_true]at hq ⊢;exact⟨h k hq.1,hq.2⟩
theorem wm{m k x:Nat}(hk:k<N.n)(hb:m.testBit k=true)(hx:N.a k=x\/N.b k=x):0<N.dg m x:=o6 (k:=k) (by rw[hb,Bool.true_and];exact(vm hk).mpr hx) hk
theorem rB{m x:Nat}(h:0<N.dg m x):∃ k,k<N.n/\m.testBit k=true/\(N.a k=x\/N.b k=x):=by
 obtain⟨k,hk,q⟩:=nX h;rw[Bool.and_eq_true]at q;exact⟨k,hk,q.1,(vm hk).mp q.2⟩
theorem alone{m x y:Nat}(h:N.dg m x=0)(c:N.nG (fun k=>m.testBit k) N.n x y):y=x:=by
 induction c with
 | refl=>rfl
 | fwd _ hj hs ih=>exact absurd (wm hj hs (.inl ih)) (by lia)
 | bwd _ hj hs ih=>exact absurd (wm hj hs (.inr ih)) (by lia)
theorem GP{S:Nat->Bool}{k u v:Nat}(hk:k<=N.n)(c:N.nG S k u v):∃ t,(∀ j,t.testBit j=true->j<k/\S j=true)/\∀ x,N.bd t x=(decide (u=x)^^decide (v=x)):=by
 induction c with
 | refl=>exact⟨0,fun j hj=>by simp at hj,fun x=>by rw[oZ];simp⟩
 | fwd _ hj hs ih =>
   rename_i j _
   obtain⟨t,h1,h2⟩:=ih;refine⟨t^^^2^j,fun i hi=>?_,fun x=>?_⟩
   ·rw[Nat.testBit_xor,Nat.testBit_two_pow]at hi
    by_cases e:j=i
    ·subst e;exact⟨hj,hs⟩
    ·rw[decide_eq_false e,Bool.xor_false]at hi;exact h1 i hi
   ·rw[g7,h2,nU (by lia)]
    unfold Net.inc;cases decide (u=x)<;>cases decide (N.a j=x)<;>cases decide (N.b j=x)<;>rfl
 | bwd _ hj hs ih =>
   rename_i j _
   obtain⟨t,h1,h2⟩:=ih;refine⟨t^^^2^j,fun i hi=>?_,fun x=>?_⟩
   ·rw[Nat.testBit_xor,Nat.testBit_two_pow]at hi
    by_cases e:j=i
    ·subst e;exact⟨hj,hs⟩
    ·rw[decide_eq_false e,Bool.xor_false]at hi;exact h1 i hi
   ·rw[g7,h2,nU (by lia)]
    unfold Net.inc;cases decide (u=x)<;>cases decide (N.a j=x)<;>cases decide (N.b j=x)<;>rfl
def Net.Ring(N:Net)(m:Nat):Prop:=m≠0/\N.fh m/\∀ q,(∀ k,q.testBit k=true->m.testBit k=true)->N.fh q->q=0\/q=m
section
variable {m s:Nat}
theorem FJ(hm:m<2^N.n)(ev:N.fh m)(C:Nat->Bool)(hC:∀ x,x<N.p->C x=decide (N.aN (fun k=>m.testBit k) N.n x=s))(h2:2<=cnt C N.p)
 (V9:∀ k,k<N.n->m.testBit k=true->C (N.a k)=true) (hl:cnt C N.p=cnt (fun k=>m.testBit k) N.n):N.Ring m:=by
 have Ny:∀ k,k<N.n->m.testBit k=true->C (N.a k)=true/\C (N.b k)=true:=fun k hk hb=>by
  have h:=V9 k hk hb;refine⟨h,?_⟩;rw[hC _ (N.al k hk)]at h;rw[hC _ (N.bl k hk)];rw[iK (S:=fun k=>m.testBit k) hk hb]at h
  exact h
 have pos:∀ x,x<N.p->C x=true->0<N.dg m x:=fun x hx hc=>by
  cases hz:N.dg m x with
  | succ d=>lia
  | zero =>
    exfalso
    obtain⟨y,hy,Nz,hne⟩:∃ y,y<N.p/\C y=true/\y≠x:=by
     obtain⟨c,d,h1,h3,h4,h5⟩:=o7 h2
     by_cases e:c=x
     ·exact⟨d,h3,h5,by lia⟩
     ·exact⟨c,by lia,h4,e⟩
    rw[hC x hx]at hc;rw[hC y hy]at Nz;exact hne (alone hz (bJ _ _ _ ((of_decide_eq_true hc).trans (of_decide_eq_true Nz).symm)))
 have two:∀ x,x<N.p->(if C x=true then 2 else 0)=N.dg m x:=by
  refine JQ (fun x hx=>?_) ?_
  ·by_cases hc:C x=true
   ·rw[if_pos hc];have h1:=pos x hx hc;have h3:=vj ev hx
    lia
   ·rw[if_neg hc];exact Nat.zero_le _
  ·rw[Ao,<-hl,iQ];have d:∀ n,2*sm (fun k=>if C k=true then 1 else 0) n=sm (fun k=>(if C k=true then 1 else 0)+(if C k=true then 1 else 0)) n:=fun n=>by
    rw[sS]
    lia
   rw[d];exact fR fun x _=>by split<;>rfl
 obtain⟨c0,hc0,hcc⟩:=nX (f:=C) (n:=N.p) (by lia)
 refine⟨fun z=>?_,ev,fun q hq eq=>?_⟩
 ·have h:=pos c0 hc0 hcc;obtain⟨k,_,hb,_⟩:=rB h;rw[z]at hb;simp at hb
 ·by_cases D3:q=0
  ·exact .inl D3
  ·right
   have full:∀ x,x<N.p->0<N.dg q x->∀ k,k<N.n->m.testBit k=true->(N.a k=x\/N.b k=x)->q.testBit k=true:=fun x hx h k hk hb LN=>by
    have h1:=Rx (N:=N) hq x;have h3:=vj eq hx;have h4:=two x hx;have h5:N.dg q x=N.dg m x:=by
     by_cases hc:C x=true
     ·rw[if_pos hc]at h4
      lia
     ·rw[if_neg hc]at h4
      lia
    have h6:=BS (f:=fun k=>q.testBit k&&N.inc k x) (g:=fun k=>m.testBit k&&N.inc k x) (n:=N.n) (fun k _ z=>by
     rw[Bool.and_eq_true]at z ⊢;exact⟨hq k z.1,z.2⟩) h5 k hk (by rw[hb,Bool.true_and];exact(vm hk).mpr LN)
    rw[Bool.and_eq_true]at h6;exact h6.1
   obtain⟨k0,hb0⟩:∃ k,q.testBit k=true:=Nat.exists_testBit_of_ne_zero D3;have hk0:k0<N.n:=cS hm (hq k0 hb0);have spread:∀{y},N.nG (fun k=>m.testBit k) N.n (N.a k0) y->0<N.dg q y:=fun {y} c=>by
    induction c with
    | refl=>exact wm hk0 hb0 (.inl rfl)
    | fwd _ hj hs ih=>exact wm hj (full _ (N.al _ hj) ih _ hj hs (.inl rfl)) (.inr rfl)
    | bwd _ hj hs ih=>exact wm hj (full _ (N.bl _ hj) ih _ hj hs (.inr rfl)) (.inl rfl)
   refine Nat.eq_of_testBit_eq fun k=>?_
   cases hb:m.testBit k with
   | false =>
     cases hz:q.testBit k with
     | false=>rfl
     | true =>
       have:=hq k hz;rw[hb]at this;cases this
   | true =>
     have hk:=cS hm hb;have e1:=(Ny k hk hb).1;have e2:=(Ny k0 hk0 (hq k0 hb0)).1;rw[hC _ (N.al k hk)]at e1;rw[hC _ (N.al k0 hk0)]at e2;exact full _ (N.al k hk) (spread (bJ _ _ _ ((of_decide_eq_true e2).trans (of_decide_eq_true e1).symm))) k hk hb (.inl rfl)
theorem qy(hm:m<2^N.n)(r:N.Ring m):∃ k0,k0<N.n/\m.testBit k0=true/\∀ k,k<N.n->m.testBit k=true->N.aN (fun k=>m.testBit k) N.n (N.a k)=N.aN (fun k=>m.testBit k) N.n (N.a k0):=by
 obtain⟨h0,ev,mn⟩:=r;obtain⟨k0,hb0⟩:=Nat.exists_testBit_of_ne_zero h0;have hk0:=cS hm hb0;refine⟨k0,hk0,hb0,?_⟩;generalize hs:N.aN (fun k=>m.testBit k) N.n (N.a k0)=s
 have bit:∀ k,(Ring.maskOf (fun k=>m.testBit k&&decide (N.aN (fun k=>m.testBit k) N.n (N.a k)=s)) N.n).testBit k=(decide (k<N.n)&&(m.testBit k&&decide (N.aN (fun k=>m.testBit k) N.n (N.a k)=s))):=fun k=>Ring.mask_bit _ k _
 have sub:∀ k,(Ring.maskOf (fun k=>m.testBit k&&decide (N.aN (fun k=>m.testBit k) N.n (N.a k)=s)) N.n).testBit k=true->m.testBit k=true:=fun k hk=>by
  rw[bit,Bool.and_eq_true,Bool.and_eq_true]at hk;exact hk.2.1
 have Wa:N.fh (Ring.maskOf (fun k=>m.testBit k&&decide (N.aN (fun k=>m.testBit k) N.n (N.a k)=s)) N.n):=fun x hx=>by
  have e:N.bd (Ring.maskOf (fun k=>m.testBit k&&decide (N.aN (fun k=>m.testBit k) N.n (N.a k)=s)) N.n) x=(decide (N.aN (fun k=>m.testBit k) N.n x=s)&&N.bd m x):=by
   unfold Net.bd;rw[<-jH];refine bh fun k hk=>?_
   rw[bit,decide_eq_true hk,Bool.true_and];cases hb:m.testBit k with
   | false=>simp
   | true =>
     cases hi:N.inc k x with
     | false=>simp
     | true =>
       have el:N.aN (fun k=>m.testBit k) N.n (N.a k)=N.aN (fun k=>m.testBit k) N.n x:=by
        rcases(vm hk).mp hi with z|z
        ·rw[z]
        ·rw[<-z];exact iK (S:=fun k=>m.testBit k) hk hb
       rw[el];simp
  rw[e,ev x hx,Bool.and_false]
 rcases mn _ sub Wa with q|q
 ·have:=bit k0;rw[q,hb0,hs,decide_eq_true hk0]at this;simp at this
 ·intro k hk hb;have h:=bit k;rw[q,hb,decide_eq_true hk]at h;exact of_decide_eq_true (by simpa using h.symm)
theorem yY(S:Nat->Bool):∀ k,k<=N.n->cnt (N.root S k) N.p+cnt (fun j=>S j && !decide (N.aN S j (N.a j)=N.aN S j (N.b j))) k=N.p
 | 0,_=>by
   show cnt (N.root S 0) N.p+0=N.p;rw[Am (f:=N.root S 0) fun x _=>decide_eq_true rfl]
   rfl
 | k+1,hk=>by
   have ih:=yY S k (by lia)
   have st:=vW (N:=N) (S:=S) (k:=k) (by lia)
   show cnt (N.root S (k+1)) N.p+(cnt (fun j=>S j && !decide (N.aN S j (N.a j)=N.aN S j (N.b j))) k+if(S k && !decide (N.aN S k (N.a k)=N.aN S k (N.b k)))=true then 1 else 0)=N.p
   lia
theorem BU(hm:m<2^N.n)(r:N.Ring m)(C:Nat->Bool)(hC:∀ x,x<N.p->C x=decide (N.aN (fun k=>m.testBit k) N.n x=s))
 (V9:∀ k,k<N.n->m.testBit k=true->C (N.a k)=true):2<=cnt C N.p/\cnt C N.p=cnt (fun k=>m.testBit k) N.n/\∀ x,x<N.p->C x=false->N.aN (fun k=>m.testBit k) N.n x=x/\∀ y,N.aN (fun k=>m.testBit k) N.n y=x->y=x:=by
 obtain⟨h0,ev,mn⟩:=r;obtain⟨k0,hb0⟩:=Nat.exists_testBit_of_ne_zero h0;have hk0:=cS hm hb0;have Ny:∀ k,k<N.n->m.testBit k=true->C (N.a k)=true/\C (N.b k)=true:=fun k hk hb=>by
  have h:=V9 k hk hb;refine⟨h,?_⟩;rw[hC _ (N.al k hk)]at h;rw[hC _ (N.bl k hk),<-iK (S:=fun k=>m.testBit k) hk hb]
  exact h
 have h2:2<=cnt C N.p:=vh (Ny k0 hk0 hb0).1 (Ny k0 hk0 hb0).2 (N.ne k0 hk0) (N.al k0 hk0) (N.bl k0 hk0);have none:∀ x,x<N.p->C x=false->N.dg m x=0:=fun x hx hc=>by
  cases hz:N.dg m x with
  | zero=>rfl
  | succ d =>
    exfalso
    obtain⟨k,hk,hb,LN⟩:=rB (N:=N) (m:=m) (x:=x) (by lia)
    rcases LN with e|e
    ·have:=(Ny k hk hb).1;rw[e,hc]at this;cases this
    ·have:=(Ny k hk hb).2;rw[e,hc]at this;cases this
 have GQ:∀ x,x<N.p->C x=false->N.aN (fun k=>m.testBit k) N.n x=x/\∀ y,N.aN (fun k=>m.testBit k) N.n y=x->y=x:=fun x hx hc=>by
  have hz:=none x hx hc;have r1:N.aN (fun k=>m.testBit k) N.n x=x:=alone hz (bJ _ _ _ (bT _ _).symm)
  exact⟨r1,fun y hy=>alone hz (bJ _ _ _ (r1.trans hy.symm))⟩
 refine⟨h2,?_,GQ⟩;have pos:∀ x,x<N.p->C x=true->0<N.dg m x:=fun x hx hc=>by
  cases hz:N.dg m x with
  | succ d=>lia
  | zero =>
    exfalso
    obtain⟨y,hy,Nz,hne⟩:∃ y,y<N.p/\C y=true/\y≠x:=by
     obtain⟨c,d,h1,h3,h4,h5⟩:=o7 h2
     by_cases e:c=x
     ·exact⟨d,h3,h5,by lia⟩
     ·exact⟨c,by lia,h4,e⟩
    rw[hC x hx]at hc;rw[hC y hy]at Nz;exact hne (alone hz (bJ _ _ _ ((of_decide_eq_true hc).trans (of_decide_eq_true Nz).symm)))
 have ge:cnt C N.p<=cnt (fun k=>m.testBit k) N.n:=by
  have h:sm (fun x=>if C x=true then 2 else 0) N.p<=sm (fun x=>N.dg m x) N.p:=FI fun x hx=>by
   by_cases hc:C x=true
   ·rw[if_pos hc];have h1:=pos x hx hc;have h3:=vj ev hx
    lia
   ·rw[if_neg hc];exact Nat.zero_le _
  rw[Ao]at h;have d:sm (fun x=>if C x=true then 2 else 0) N.p=2*cnt C N.p:=by
   rw[iQ];have d:∀ n,2*sm (fun k=>if C k=true then 1 else 0) n=sm (fun k=>(if C k=true then 1 else 0)+(if C k=true then 1 else 0)) n:=fun n=>by
    rw[sS]
    lia
   rw[d];exact fR fun x _=>by split<;>rfl
  lia
 refine Nat.le_antisymm ge (Nat.le_of_not_lt fun more=>?_)
 have Wb:=yY (N:=N) (fun k=>m.testBit k) N.n (Nat.le_refl _)
 have hr:cnt (N.root (fun k=>m.testBit k) N.n) N.p+cnt C N.p=N.p+1:=by
  have hc0:=(Ny k0 hk0 hb0).1;rw[hC _ (N.al k0 hk0)]at hc0;have hs:=of_decide_eq_true hc0;have yN:s<N.p:=by rw[<-hs];exact jX (N.al k0 hk0)
  have hss:N.aN (fun k=>m.testBit k) N.n s=s:=by rw[<-hs];exact bT _ _
  have e:cnt (N.root (fun k=>m.testBit k) N.n) N.p=cnt (fun x=>!C x^^decide (s=x)) N.p:=gp fun x hx=>by
   unfold Net.root;cases hc:C x with
   | false =>
     have ne : ¬ s=x:=fun z=>by
      have:=hC x hx;rw[hc,<-z,hss]at this;simp at this
     rw[decide_eq_true (GQ x hx hc).1,decide_eq_false ne];rfl
   | true =>
     have h:=hC x hx;rw[hc]at h;have h:=of_decide_eq_true h.symm;rw[h];simp
  rw[e,wk fun x hx ⟨z1,z2⟩=>by
   have z2:=of_decide_eq_true z2;have:=hC x hx;rw[<-z2,hss]at this;rw[<-z2,this]at z1;simp at z1,wj,if_pos yN]
  have:=mz C N.p
  lia
 have split:cnt (fun k=>m.testBit k) N.n=cnt (fun j=>m.testBit j && !decide (N.aN (fun k=>m.testBit k) j (N.a j)=N.aN (fun k=>m.testBit k) j (N.b j))) N.n+cnt (fun j=>m.testBit j&&decide (N.aN (fun k=>m.testBit k) j (N.a j)=N.aN (fun k=>m.testBit k) j (N.b j))) N.n:=by
  rw[<-wk fun x _ ⟨z1,z2⟩=>by
   rw[Bool.and_eq_true]at z1 z2;have:=z1.2;rw[z2.2]at this;cases this]
  refine gp fun k _=>?_
  cases m.testBit k<;>cases decide (N.aN (fun k=>m.testBit k) k (N.a k)=N.aN (fun k=>m.testBit k) k (N.b k))<;>rfl
 obtain⟨c,d,hcd,hd,hc1,hd1⟩:=o7 (f:=fun j=>m.testBit j&&decide (N.aN (fun k=>m.testBit k) j (N.a j)=N.aN (fun k=>m.testBit k) j (N.b j))) (n:=N.n) (by lia)
 have whole:∀ j,j<N.n->(m.testBit j&&decide (N.aN (fun k=>m.testBit k) j (N.a j)=N.aN (fun k=>m.testBit k) j (N.b j)))=true->∀ i,m.testBit i=true->i<=j:=fun j hj h i hi=>by
  rw[Bool.and_eq_true]at h;obtain⟨t,t1,t2⟩:=GP (Nat.le_of_lt hj) (bJ _ _ _ (of_decide_eq_true h.2));have own:(t^^^2^j).testBit j=true:=by
   rw[Nat.testBit_xor,Nat.testBit_two_pow,decide_eq_true rfl];cases hz:t.testBit j with
   | false=>rfl
   | true=>exact absurd (t1 j hz).1 (Nat.lt_irrefl _)
  have sub:∀ k,(t^^^2^j).testBit k=true->m.testBit k=true:=fun k hk=>by
   rw[Nat.testBit_xor,Nat.testBit_two_pow]at hk
   by_cases e:j=k
   ·subst e;exact h.1
   ·rw[decide_eq_false e,Bool.xor_false]at hk;exact(t1 k hk).2
  have Wa:N.fh (t^^^2^j):=fun x hx=>by
   rw[g7,t2,nU hj];unfold Net.inc;cases decide (N.a j=x)<;>cases decide (N.b j=x)<;>rfl
  rcases mn _ sub Wa with q|q
  ·rw[q]at own;simp at own
  ·rw[<-q,Nat.testBit_xor,Nat.testBit_two_pow]at hi
   by_cases e:j=i
   ·lia
   ·rw[decide_eq_false e,Bool.xor_false]at hi;exact Nat.le_of_lt (t1 i hi).1
 have h1:m.testBit d=true:=by
  rw[Bool.and_eq_true]at hd1;exact hd1.1
 have:=whole c (by lia) hc1 d h1
 lia
end
end RM
namespace Ring
open PySem L2
def eA(L:Nat->Nat)(p:Nat):List Nat:=(fj L p).filter fun s=>decide (1<(pieceOf L p s).length)
def OP(L:Nat->Nat)(p k:Nat):List Nat->Bool
 | [s]=>decide ((pieceOf L p s).length=k)
 | _=>false
def uK(p:Nat)(ts:List dZ)(g:aF p ts)(m:Nat):Bool:=decide (vN p ts (m:Int)=[])&&OP (bL p ts g m) p (bu (m:Int)).length (eA (bL p ts g m) p)
theorem jm(L:Nat->Nat)(p s:Nat):(pieceOf L p s).length=RM.cnt (fun x=>decide (L x=s)) p:=RM.kT _ _
theorem wq{m n:Nat}(hm:m<2^n):(bu (m:Int)).length=RM.cnt (fun k=>m.testBit k) n:=by
 rw[jG hm];exact RM.kT _ _
theorem GR{f:Nat->Bool}{n c:Nat}(hc:c<n)(h:∀ k,k<n->f k=decide (k=c)):(List.range n).filter f=[c]:=by
 rw[<-p7 hc];exact List.filter_congr fun k hk=>h k (List.mem_range.mp hk)
theorem GS{p:Nat}{ts:List dZ}(g:aF p ts){m:Nat}(hm:m<2^ts.length):uK p ts g m=true↔(ae p ts g).Ring m:=by
 have eL:bL p ts g m=(ae p ts g).aN (fun k=>m.testBit k) (ae p ts g).n:=rfl
 have ep:(ae p ts g).p=p:=rfl
 constructor
 ·intro h;unfold uK at h;rw[Bool.and_eq_true]at h;obtain⟨h1,h2⟩:=h;have ev:=(BP g hm).mp (of_decide_eq_true h1);unfold OP at h2
  split at h2
  ·rename_i s hs
   have h2:=of_decide_eq_true h2;have hmem:s∈eA (bL p ts g m) p:=by rw[hs];exact List.mem_singleton.mpr rfl
   unfold eA at hmem;have hlen:=of_decide_eq_true (List.mem_filter.mp hmem).2;refine RM.FJ (s:=s) hm ev (fun x=>decide (bL p ts g m x=s)) (fun x _=>by rw[eL]) ?_ (fun k hk hb=>?_) ?_
   ·rw[ep,<-jm];exact hlen
   ·
    have hak:=(ae p ts g).al k hk;have hbk:=(ae p ts g).bl k hk;have e:bL p ts g m ((ae p ts g).b k)=bL p ts g m ((ae p ts g).a k):=(RM.iK (S:=fun k=>m.testBit k) hk hb).symm
    have hr:bL p ts g m (bL p ts g m ((ae p ts g).a k))=bL p ts g m ((ae p ts g).a k):=RM.bT _ _;have hlt:bL p ts g m ((ae p ts g).a k)<p:=RM.jX hak;have ht:bL p ts g m ((ae p ts g).a k)∈eA (bL p ts g m) p:=by
     unfold eA fj;refine List.mem_filter.mpr ⟨List.mem_filter.mpr ⟨List.mem_range.mpr hlt,decide_eq_true hr⟩,decide_eq_true ?_⟩;rw[jm];exact RM.vh (u:=(ae p ts g).a k) (v:=(ae p ts g).b k) (decide_eq_true rfl) (decide_eq_true e) ((ae p ts g).ne k hk) hak hbk
    rw[hs]at ht;exact decide_eq_true (List.mem_singleton.mp ht)
   ·rw[ep,<-jm,h2];exact wq hm
  ·cases h2
 ·intro r;obtain⟨k0,hk0,hb0,hall⟩:=RM.qy hm r;generalize hs:(ae p ts g).aN (fun k=>m.testBit k) (ae p ts g).n ((ae p ts g).a k0)=s at hall
  obtain⟨h2,hl,GQ⟩:=RM.BU (s:=s) hm r (fun x=>decide (bL p ts g m x=s)) (fun x _=>by rw[eL]) (fun k hk hb=>decide_eq_true (hall k hk hb))
  have yN:s<p:=by rw[<-hs];exact RM.jX ((ae p ts g).al k0 hk0)
  have hss:bL p ts g m s=s:=by rw[eL,<-hs];exact RM.bT _ _
  have ht:eA (bL p ts g m) p=[s]:=by
   unfold eA fj;rw[List.filter_filter];refine GR yN fun x hx=>?_
   by_cases e:x=s
   ·subst e;rw[decide_eq_true hss,jm,decide_eq_true rfl,Bool.and_true];exact decide_eq_true h2
   ·rw[decide_eq_false e]
    by_cases LN:bL p ts g m x=x
    ·have hc:decide (bL p ts g m x=s)=false:=decide_eq_false (by rw[LN];exact e)
     obtain⟨_,q⟩:=GQ x hx hc;have : ¬ 1<(pieceOf (bL p ts g m) p x).length:=fun z=>by
      rw[jm]at z;obtain⟨c,d,h1,_,h3,h4⟩:=RM.o7 z;have h3:=q c (of_decide_eq_true h3);have h4:=q d (of_decide_eq_true h4)
      lia
     rw[decide_eq_false this,Bool.false_and]
    ·rw[decide_eq_false LN,Bool.and_false]
  unfold uK;rw[decide_eq_true ((BP g hm).mpr r.2.1),ht,Bool.true_and];refine decide_eq_true ?_;rw[jm,wq hm];exact hl
theorem D5{p:Nat}{ts:List dZ}{g:aF p ts}{m:Nat}(ev:vN p ts (m:Int)=[]):uK p ts g m=OP (bL p ts g m) p (bu (m:Int)).length (eA (bL p ts g m) p):=by
 unfold uK;rw[decide_eq_true ev,Bool.true_and]
def OQ(H:Hp)(y:V)(l:List Nat):Prop:=∃ b,y = .ref b/\H b=some (.lst (aG l))
def wu(f:List Nat->Bool)(ls:List (List Nat))(H:Hp)(D:Addr)(i:Nat)(acc:List V)(H2:Hp):Prop:=av H H2/\H2 D=some (.lst acc)/\Paired (OQ H) acc ((ls.take i).filter f)
section
variable {f:List Nat->Bool}{ls:List (List Nat)}{H H2 H3:Hp}{D:Addr}{i:Nat}{acc:List V}{y:V}{l:List Nat}
theorem wu.start(hD:H D=none):wu f ls H D 0 [] (upd H D (.lst [])):=⟨av.new hD,ah,.nil⟩
theorem wu.len(h:wu f ls H D i acc H2):H2 D=some (.lst acc)/\acc.length<=i:=⟨h.2.1,by
 rw[h.2.2.length];exact Nat.le_trans (List.length_filter_le _ _) (by rw[List.length_take];lia)⟩
theorem wu.yes(h:wu f ls H D i acc H2)(hD:H D=none)(hl:ls[i]?=some l)(hf:f l=true)(hy:OQ H y l):H2 D=some (.lst acc)/\wu f ls H D (i+1) (acc++[y]) (upd H2 D (.lst (acc++[y]))):=by
 refine⟨h.2.1,h.1.put hD,ah,?_⟩;rw[List.take_add_one,hl,List.filter_append];show Paired _ _ (_++List.filter f [l]);rw[List.filter_cons,if_pos hf];exact Paired.snoc h.2.2 hy
theorem wu.no(h:wu f ls H D i acc H2)(hl:ls[i]?=some l)(hf:f l=false):wu f ls H D (i+1) acc H2:=by
 refine⟨h.1,h.2.1,?_⟩;rw[List.take_add_one,hl,List.filter_append];show Paired _ _ (_++List.filter f [l]);rw[List.filter_cons,if_neg (by rw[hf];exact Bool.false_ne_true)]
 simpa using h.2.2
end
end Ring
namespace L2
open PySem PySem.Spec PyProof.Rows
section
variable {prog:Program}{w:World}{A:Around}{E:Value->Shared->Prop}{s:Shared}
theorem D6{it t:Addr}{i:Nat}{items:Array Value}{x:Value}{Q:Value->Shared->Prop}(hit:s.heap.IsTupleIter it t i)(ht:s.heap.IsTuple t items)(hx:items[i]?=some x)
 (q:∀ h',h'.IsTupleIter it t (i+1)->Heap.SameBut it s.heap h'->Q x { s with heap:=h'}):wpAny (model prog w) A (Builtin.SmallTypes.nextOf (.ref it)) Q E s:=by
 obtain⟨o,ho,hc,hd⟩:=id hit;obtain⟨ot,Wc,_,nt,hdt⟩:=ht;rw[Builtin.SmallTypes.nextOf];refine wpAny_bind (wpAny_callSpecial?_slot (name:=Str.ofString "__next__") hit.typeIs F.slot_tuple_iterator_next (wpAny_call_entry F.slot_tuple_iterator_next hit.typeIs F.entry_tuple_iterator_next ?_ (F.args_tuple_iterator_next_1 _)));show wpAny _ _ (field (.ref it) 0 >>= fun _=>_) _ _ s
 refine wpAny_bind (wpAny_field ho hd (x:=.ref t) rfl ?_);show wpAny _ _ (if(Value.ref t==Value.none)=true then _ else _) _ _ s
 rw[if_neg (by simp)]
 show wpAny _ _ (field (.ref it) 1 >>= fun _=>_) _ _ s
 refine wpAny_bind (wpAny_field ho hd (x:=.int i 0) rfl ?_);show wpAny _ _ (seqItems? (.ref t) >>= fun _=>_) _ _ s
 refine wpAny_bind (wpAny_seqItems Wc hdt ?_);simp only[Int.toNat_natCast,hx];refine wpAny_bind (wpAny_setField ho hd (by simp) (wpAny_pure ⟨x,rfl,wpAny_pure (q _ ?_ (Heap.SameBut.update ..))⟩))
 refine⟨_,Heap.get?_update_self _ ho (Obj.isFreed_of_fields (Obj.data_mapFields hd _)),(Obj.cls_mapFields ..).trans hc,?_⟩;rw[Obj.data_mapFields hd];simp[rawInt]
theorem GU{it t:Addr}{i:Nat}{items:Array Value}{Q:Value->Shared->Prop}(hh:A.handled=none)(hit:s.heap.IsTupleIter it t i)(ht:s.heap.IsTuple t items)(hx:items[i]?=none)
 (q:∀ h' e,Heap.ExtBut it s.heap h'->(∃ o,h'.get? e=some o/\o.cls = .type "StopIteration")->E (.ref e) { s with heap:=h'}):wpAny (model prog w) A (Builtin.SmallTypes.nextOf (.ref it)) Q E s:=by
 obtain⟨o,ho,hc,hd⟩:=id hit;obtain⟨ot,Wc,_,nt,hdt⟩:=ht;rw[Builtin.SmallTypes.nextOf];refine wpAny_bind (wpAny_callSpecial?_slot (name:=Str.ofString "__next__") hit.typeIs F.slot_tuple_iterator_next (wpAny_call_entry F.slot_tuple_iterator_next hit.typeIs F.entry_tuple_iterator_next ?_ (F.args_tuple_iterator_next_1 _)));show wpAny _ _ (field (.ref it) 0 >>= fun _=>_) _ _ s
 refine wpAny_bind (wpAny_field ho hd (x:=.ref t) rfl ?_);show wpAny _ _ (if(Value.ref t==Value.none)=true then _ else _) _ _ s
 rw[if_neg (by simp)]
 show wpAny _ _ (field (.ref it) 1 >>= fun _=>_) _ _ s
 refine wpAny_bind (wpAny_field ho hd (x:=.int i 0) rfl ?_);show wpAny _ _ (seqItems? (.ref t) >>= fun _=>_) _ _ s
 refine wpAny_bind (wpAny_seqItems Wc hdt ?_);simp only[Int.toNat_natCast,hx];refine wpAny_bind (wpAny_rule (wpAny_bind (wpAny_setField ho hd (by simp) ?_)))
 show wpAny _ _ (newExc (.type "StopIteration") [] >>= fun _=>_) _ _ _
 refine wpAny_bind ?_;simp only[newExc,newTuple];refine wpAny_bind (wpAny_newObj_type ?_ (by size_fits))
 refine wpAny_bind (m:=firstArgMember _ _) (wpAny_of_eq (a:=Value.none) (by first | rfl | (simp only[firstArgMember];rfl)) (wpAny_newObj_type ?_ (by size_fits)))
 exact wpAny_raiseNew_none hh (q _ _ (((Heap.SameBut.update ..).extBut.push _).push _) ⟨_,Heap.get?_push_size _ rfl,rfl⟩)
theorem uL(hh:A.handled=none)(it t:Addr)(hne:t≠it)(items:Array Value):
 Draws prog w A it [it,t] items.size (fun i v=>items[i]?=some v) (fun i h=>h.IsTupleIter it t i/\h.IsTuple t items) where
 live:=fun _ _ st=>let⟨o,ho,_⟩:=st.1;⟨o,ho⟩
 frame:=fun _ _ _ st hk=>⟨st.1.at fun o e=>hk it (by simp) o e,st.2.at fun o e=>hk t (by simp) o e⟩
 item:=fun i s Q E hi st hQ=>D6 st.1 st.2 (x:=items[i]) (by simp[hi]) fun h' Wd hs'=>hQ _ h' s.toks (by simp[hi]) ⟨Wd,st.2.extBut hs'.extBut hne⟩ hs'
 done:=fun s Q E st hE=>GU hh st.1 st.2 (by simp) hE
end
open AutoSeq1 (wpAny_loadPart') in
theorem sU(l:Addr)(items:Array Value)(n:Nat)(dct:Option Addr)(sl:Array (Option Value)):
 Meets (Builtin.«enumerate.__new__» ⟨[.type "enumerate",.ref l],[]⟩) (fun _ R s=>s.heap.get? l=some { cls:=.type "tuple",dict:=dct,data:=.seq items n,slots:=sl}/\
  R (.ok (.ret (.ref (s.heap.push { cls:=.type "tuple_iterator",data:=.fields #[.ref l,.int 0 0]}).objs.size)))
    { s with heap:=(s.heap.push { cls:=.type "tuple_iterator",data:=.fields #[.ref l,.int 0 0]}).push { cls:=.type "enumerate",data:=.fields #[.none,.bool false,.ref s.heap.objs.size,rawInt 0,.none,.none]}}) :=
 .of_wp fun prog w A R s h=>by
  obtain⟨hp,g,d,tk,os⟩:=s;obtain⟨hl,h⟩:=h;have hsub:=sub_enumerate;have hL:Heap.IsTuple (Shared.heap ⟨hp,g,d,tk,os⟩) l items:=⟨_,hl,rfl,n,rfl⟩
  wp_walk using wpAny_loadPart' hl
  refine wpAny_stack_any fun st=>wpAny_pure ?_
  split
  ·rename_i c _ _ _ _ _
   cases(c==Value.type "enumerate")
   ·wp_walk using wpAny_loadPart' hl,wpAny_pyIter_tuple hL
    exact⟨_,rfl,h⟩
   ·wp_walk using wpAny_loadPart' hl,wpAny_pyIter_tuple hL
    exact⟨_,rfl,h⟩
  ·wp_walk using wpAny_loadPart' hl,wpAny_pyIter_tuple hL
   exact⟨_,rfl,h⟩
section
variable {prog:Program}{w:World}{A:Around}{E:Value->Shared->Prop}{s:Shared}
theorem D7{l:Addr}{items:Array Value}{Q:Value->Shared->Prop}(hL:s.heap.IsTuple l items)
 (h:∀ h',IsEnum h' (s.heap.objs.size+1) s.heap.objs.size 0 .none->h'.IsTupleIter s.heap.objs.size l 0->h'.objs.size=s.heap.objs.size+2->(∀ b o,s.heap.get? b=some o->h'.get? b=some o)->Q (.ref (s.heap.objs.size+1)) { s with heap:=h'}) :
 wpAny (model prog w) A (call (.type "enumerate") [.ref l]) Q E s:=by
 obtain⟨⟨c,dct,dt,sl⟩,hl,hc,n,hd⟩:=hL
 replace hc:c = .type "tuple":=hc
 replace hd:dt = .seq items n:=hd
 subst hc hd;refine callType_new F.called_enumerate (by decide) (F.typeCall_enumerate_1 _) (F.newCall_enumerate_1 _) (fun obj=>F.args_object_init_2 obj _) F.entry_enumerate_new (sU l items n dct sl) ⟨hl,?_⟩
 have hz:(s.heap.push { cls:=.type "tuple_iterator",data:=.fields #[.ref l,.int 0 0]}).objs.size=s.heap.objs.size+1:=Heap.size_push ..;show _/\_;rw[hz];have he:IsEnum ((s.heap.push { cls:=.type "tuple_iterator",data:=.fields #[.ref l,.int 0 0]}).push { cls:=.type "enumerate",data:=.fields #[.none,.bool false,.ref s.heap.objs.size,rawInt 0,.none,.none]}) (s.heap.objs.size+1) s.heap.objs.size 0 .none:=by
  have z:=Heap.get?_push_size (s.heap.push { cls:=.type "tuple_iterator",data:=.fields #[.ref l,.int 0 0]}) (o:={ cls:=.type "enumerate",data:=.fields #[.none,.bool false,.ref s.heap.objs.size,rawInt 0,.none,.none]}) rfl;rw[hz]at z;exact z
 exact⟨⟨_,he,rfl⟩,h _ he ⟨_,Heap.get?_push_of_some _ (Heap.get?_push_size _ rfl),rfl,rfl⟩ (by rw[Heap.size_push,hz]) fun b o x=>Heap.get?_push_of_some _ (Heap.get?_push_of_some _ x)⟩
end
def GV(K:PySem.W.Frag)(a:Addr):It :=
 ⟨fun i H=>∃ xs x,aX K H a xs/\xs[i]?=some x,fun i H v H'=>∃ T x,v = .ref T/\H T=none/\H' = upd H T (.tup [.int (i:Int),x])/\∀ xs,aX K H a xs->xs[i]?=some x,fun i H=>∃ xs,aX K H a xs/\xs.length=i⟩
theorem D8{P:Program}{w:World}{K:PySem.W.Frag}{elts:List Expr}{k:Nat}{pos:Pos}(a e it:Addr)(hne:e≠it):
 Turn P w K (.Tuple elts k pos) (GV K a) [e,it] e (fun i h=>(∃ old,IsEnum h e it (i:Int) old)/\h.IsTupleIter it a i) where
 mem:=by simp
 obj:=fun i h st b hb=>by
  obtain⟨⟨old,he⟩,o,ho,c,d⟩:=st;have hb' : b=e\/b=it:=by simpa using hb
  rcases hb' with rfl|rfl
  ·exact⟨_,he,fun v z=>by cases z⟩
  ·exact⟨o,ho,fun v z=>by rw[d]at z;cases z⟩
 keep:=fun i h h' st k=>by
  obtain⟨⟨old,he⟩,hit⟩:=st;exact⟨⟨old,k e (by simp) _ he⟩,hit.at fun o x=>k it (by simp) o x⟩
 item:=by
  intro X hP hw hK hc i pins s σ H E I hf st hg;subst hP hw hK;obtain⟨xs,x,hq,hx⟩:=hg;obtain⟨its,rv,p,hz⟩:=I.tuple hq;obtain⟨u,hu,ru⟩:=rv.get hx;obtain⟨⟨old,he⟩,hit⟩:=st;have pT:s.heap.IsTuple a its.toArray:=p;have hai:a≠it:=fun z=>by
   obtain⟨o1,h1,_,_,d1⟩:=pT;obtain⟨o2,h2,_,d2⟩:=hit;rw[z,h2]at h1;cases h1;rw[d2]at d1;cases d1
  have hae:e∉[it,a]:=fun z=>by
   have z' : e=it\/e=a:=by simpa using z
   rcases z' with z' | z'
   ·exact hne z'
   ·obtain⟨o1,h1,_,_,d1⟩:=pT;rw[<-z',he]at h1;cases h1;cases d1
  refine wpAny_pyNext_enum_itemD (uL (A:=X.A.in1) (I.ok.hd hc) it a hai its.toArray) he ⟨hit,pT⟩ (by have:=(List.getElem?_eq_some_iff.mp hu).1;simpa using this) hne hae fun y h1 tk hy ho OF hT hsz hk=>?_
  have hyu:y=u:=by
   have z:its.toArray[i]?=some u:=by simpa using hu
   rw[hy]at z;exact Option.some.inj z
  subst hyu;refine⟨_,rfl,wpAny_letOwnedTupleGo_enum ho fun h2 Mk hs2=>?_⟩
  have Rt:s.heap.objs.size≠e:=Nat.ne_of_gt (Heap.lt_size he);have hT2:h2.get? s.heap.objs.size=some { cls:=.type "tuple",data:=.seq #[.int i tk,y]}:=(hs2.2 _ Rt).trans hT;refine⟨.ref s.heap.objs.size,upd H s.heap.objs.size (.tup [.int (i:Int),x]),I.yields (wr:=[e,it]) (t':=tk+1) (fun b o hb q=>?_) hf (Nat.le_refl _) ?_,rfl,⟨_,x,rfl,I.fresh,rfl,fun ys hy=>by rw[I.yF hy hq];exact hx⟩,⟨⟨y,by simpa using Mk⟩,?_⟩,fun b hb=>?_⟩
  ·have Jx:b≠e:=fun z=>hb (by simp[z])
   have OG:b≠it:=fun z=>hb (by simp[z])
   exact(hs2.2 b Jx).trans (hk b o Jx OG q)
  ·exact⟨dl rfl,[.int i tk,y],.cons ⟨_,rfl⟩ (.cons ru .nil),⟨_,hT2,rfl,_,rfl⟩⟩
  ·exact OF.1.at fun o q=>(hs2.2 it (Ne.symm hne)).trans q
  ·rw[aq]
   ·exact(hf b hb).1
   ·have hb' : b=e\/b=it:=by simpa using hb
    rcases hb' with rfl|rfl
    ·exact Ne.symm Rt
    ·obtain⟨o,q,_⟩:=hit;exact Nat.ne_of_lt (Heap.lt_size q)
 done:=by
  intro X hP hw hK hc i pins s σ H E I hf st hg;subst hP hw hK;obtain⟨xs,hq,hx⟩:=hg;obtain⟨its,rv,p,hz⟩:=I.tuple hq;obtain⟨⟨old,he⟩,hit⟩:=st;have pT:s.heap.IsTuple a its.toArray:=p;have hai:a≠it:=fun z=>by
   obtain⟨o1,h1,_,_,d1⟩:=pT;obtain⟨o2,h2,_,d2⟩:=hit;rw[z,h2]at h1;cases h1;rw[d2]at d1;cases d1
  obtain⟨f0,f1,f2,f3,f4,f5⟩:=hf it (by simp)
  have hl:=rv.length;have hi:i=its.toArray.size:=by rw[List.size_toArray];lia
  subst hi;exact wpAny_pyNext_enum_endD (uL (A:=X.A.in1) (I.ok.hd hc) it a hai its.toArray) he ⟨hit,pT⟩ fun h' eb=>⟨rfl,I.turned (t':=s.toks) (fun b o hb e=>eb b o hb e) f0 f1 f3 f4 f5⟩
 self:=fun _ _ _ _ _ st h=>by
  obtain⟨⟨old,he⟩,_⟩:=st;exact wpAny_pyIter_enum he h
section
variable {X:Cx}{elts:List Expr}{n:Nat}{tp:Pos}
def OR(K:PySem.W.Frag)(ta:TA):TI:=fun σ H R=>ta σ H fun vs H1=>∃ a,vs=[.ref a]/\(∃ xs,aX K H1 a xs)/\R (GV K a) H1
theorem BV(K:PySem.W.Frag){a:Expr}{ta:TA}{p pos:Pos}(hg:Gl X "enumerate")(hm:X.mg "enumerate"=none)(ha:PA X [a] ta)(hs:starEach [a] X.env=[(false,eval a X.env)]:=by rfl)(hK:X.K=K:=by rfl):
 PI X (.Tuple elts n tp) (.Call (.Name "enumerate" p) [a] [] pos) (OR K ta):=by
 subst hK;intro pins s σ H R I h;refine Call_ (nK I hg hm boot_enumerate (PyProof.Rows.callWith_type1 (dP (ha pos pins s σ H _ I h) fun us s1 ⟨vs,H1,I1,r1,q1⟩=>?_) hs rfl))
 obtain⟨a,e,⟨xs,hq⟩,q⟩:=q1;subst e;cases r1 with
 | cons r rr =>
   cases rr;cases r;obtain⟨its,rv,pl,hz⟩:=I1.tuple hq;refine D7 (show s1.heap.IsTuple a its.toArray from pl) fun h' he hit hsz hk=>?_
   have I2:Inv X pins σ H1 { s1 with heap:=h'}:=I1.kept (t':=s1.toks) hk
   refine wpAny_pyIter_enum he ⟨_,[s1.heap.objs.size+1,s1.heap.objs.size],_,_,H1,rfl,I2,D8 a _ _ (Nat.succ_ne_self _),⟨⟨_,he⟩,hit⟩,fun b hb=>?_,q⟩
   have hb' : b=s1.heap.objs.size+1\/b=s1.heap.objs.size:=by simpa using hb
   have Rv:s1.heap.objs.size<=b:=by
    rcases hb' with rfl|rfl
    ·exact Nat.le_succ _
    ·exact Nat.le_refl _
   exact I1.DG Rv (I1.hok.fresh Rv)
end
section
variable {K:PySem.W.Frag}{a:Addr}{xs:List V}{g:TG}{tt:TT}{te:TE}{n:Nat}{fr:St}{D:Addr}{Q:Hp->Prop}{H1:Hp}
theorem D9(Pv:Nat->List V->Hp->Prop)(h0:Pv 0 [] H1)(hl:∀ i acc H,i<=xs.length->Pv i acc H->aX K H a xs/\H D=some (.lst acc)/\acc.length<=i)(hz:xs.length<=sizeLine)
 (hs:∀ i x T acc H,xs[i]?=some x->Pv i acc H->H T=none->g (.ref T) (List.replicate n none++fr) (upd H T (.tup [.int (i:Int),x])) fun σ2 H2=>σ2.drop n=fr/\tt σ2 H2 fun b H3 =>
  if b=true then te σ2 H3 fun v H4=>H4 D=some (.lst acc)/\Pv (i+1) (acc++[v]) (upd H4 D (.lst (acc++[v]))) else Pv (i+1) acc H3)
 (hd:∀ acc H,Pv xs.length acc H->Q H):iI (GV K a) g tt te n fr D Q H1:=by
 refine⟨fun i m acc H=>m=xs.length-i/\i<=xs.length/\Pv i acc H,⟨xs.length,by simp,Nat.zero_le _,h0⟩,?_⟩
 rintro i m acc H ⟨rfl,hi,p⟩;obtain⟨q,hD,ha⟩:=hl i acc H hi p;refine⟨hD,?_⟩
 by_cases hlt:i<xs.length
 ·refine .inr ⟨⟨xs,xs[i],q,by simp[hlt]⟩,by lia,Pv (i+1),fun acc' H' p'=>⟨xs.length-(i+1),by lia,rfl,hlt,p'⟩,fun v H' y=>?_⟩
  obtain⟨T,x,rfl,hT,rfl,y⟩:=y;exact hs i x T acc _ (y xs q) p hT
 ·have e:i=xs.length:=by lia
  subst e;exact .inl ⟨⟨xs,q,rfl⟩,hd acc H p⟩
end
end L2
namespace RM
variable {N:Net}
def Net.cut(N:Net)(C:Nat->Bool):Nat:=Ring.maskOf (fun k=>C (N.a k)^^C (N.b k)) N.n
def Net.par(N:Net)(q m:Nat):Bool:=bf (fun k=>q.testBit k&&m.testBit k) N.n
theorem o8(q r m:Nat):N.par (q^^^r) m=(N.par q m^^N.par r m):=by
 unfold Net.par;rw[<-iJ];refine bh fun k _=>?_
 rw[Nat.testBit_xor];cases q.testBit k<;>cases r.testBit k<;>cases m.testBit k<;>rfl
theorem kU(m:Nat):N.par 0 m=false:=gn fun k _=>by simp
theorem FL{k:Nat}(h:k<N.n)(m:Nat):N.par (2^k) m=m.testBit k:=by
 unfold Net.par;rw[rh h fun j _ hj=>by simp[Nat.testBit_two_pow,Ne.symm hj]]
 simp[Nat.testBit_two_pow]
theorem vn(C:Nat->Bool)(k:Nat):(N.cut C).testBit k=(decide (k<N.n)&&(C (N.a k)^^C (N.b k))):=Ring.mask_bit _ k _
theorem JS(C:Nat->Bool):N.cut C<2^N.n:=Ring.mask_lt _ _
theorem yZ{C D:Nat->Bool}(h:∀ x,x<N.p->C x=D x):N.cut C=N.cut D:=by
 refine Nat.eq_of_testBit_eq fun k=>?_
 rw[vn,vn]
 by_cases hk:k<N.n
 ·rw[h _ (N.al k hk),h _ (N.bl k hk)]
 ·rw[decide_eq_false hk];rfl
theorem Mz{q:Nat}(e:N.fh q)(C:Nat->Bool):N.par q (N.cut C)=false:=by
 have h:N.par q (N.cut C)=bf (fun x=>C x&&N.bd q x) N.p:=by
  have e1:bf (fun x=>C x&&N.bd q x) N.p=bf (fun x=>bf (fun k=>C x&&(q.testBit k&&N.inc k x)) N.n) N.p:=bh fun x _=>(jH _ _ _).symm
  rw[e1,sP];unfold Net.par;refine bh fun k hk=>?_
  rw[vn,decide_eq_true hk,Bool.true_and];have e2:bf (fun x=>C x&&(q.testBit k&&N.inc k x)) N.p=(q.testBit k&&(C (N.a k)^^C (N.b k))):=by
   have e3:∀ x,(C x&&(q.testBit k&&N.inc k x))=((q.testBit k&&(C x&&decide (N.a k=x)))^^(q.testBit k&&(C x&&decide (N.b k=x)))):=fun x=>by
    unfold Net.inc;cases C x<;>cases q.testBit k<;>cases decide (N.a k=x)<;>cases decide (N.b k=x)<;>rfl
   rw[bh fun x _=>e3 x,iJ,jH,jH,gh C (N.al k hk),gh C (N.bl k hk)]
   cases q.testBit k<;>rfl
  exact e2.symm
 rw[h];exact gn fun x hx=>by rw[e x hx,Bool.and_false]
theorem BW{k:Nat}(hk:k<N.n)(hf:N.nV k=true):N.ring k=0:=gM (fun j hj=>by
 rcases nW hj with e|e
 ·subst e;exact⟨hk,hf⟩
 ·exact e) (o4 hk)
theorem GW{m:Nat}(k:Nat):(m^^^N.cut fun x=>N.par (N.trail N.n x) m).testBit k=if k<N.n then N.par (N.ring k) m else m.testBit k:=by
 rw[Nat.testBit_xor,vn]
 by_cases hk:k<N.n
 ·rw[if_pos hk,decide_eq_true hk,Bool.true_and];unfold Net.ring;rw[o8,o8,FL hk];cases m.testBit k<;>cases N.par (N.trail N.n (N.a k)) m<;>cases N.par (N.trail N.n (N.b k)) m<;>rfl
 ·rw[if_neg hk,decide_eq_false hk];simp
theorem BX{m k:Nat}(hm:m<2^N.n)(h:(m^^^N.cut fun x=>N.par (N.trail N.n x) m).testBit k=true):k<N.n/\N.nV k=false/\N.par (N.ring k) m=true:=by
 rw[GW]at h
 by_cases hk:k<N.n
 ·rw[if_pos hk]at h;refine⟨hk,?_,h⟩;cases hf:N.nV k with
  | false=>rfl
  | true =>
    rw[BW hk hf,kU]at h;cases h
 ·rw[if_neg hk]at h;exact absurd (cS hm h) hk
end RM
namespace Ring
def orM(ks:List Nat):Nat:=ks.foldl (fun m k=>m ||| 2^k) 0
theorem JT(ks:List Nat)(j:Nat):∀ m,(ks.foldl (fun m k=>m ||| 2^k) m).testBit j=(m.testBit j || decide (j∈ks)):=by
 induction ks with
 | nil=>intro m;simp
 | cons k r ih =>
   intro m;rw[List.foldl_cons,ih,Nat.testBit_or,Nat.testBit_two_pow]
   by_cases h:k=j
   ·subst h;simp
   ·have h' : ¬ j=k:=fun z=>h z.symm
    simp[h,h']
theorem i0(ks:List Nat)(j:Nat):(orM ks).testBit j=decide (j∈ks):=by
 unfold orM;rw[JT];simp
theorem BY(ks:List Nat){t:Nat}(h:t∉ks):orM (ks++[t])=orM ks^^^2^t:=Nat.eq_of_testBit_eq fun j=>by
 rw[Nat.testBit_xor,i0,i0,Nat.testBit_two_pow]
 by_cases e:t=j
 ·subst e;simp[h]
 ·have e' : ¬ j=t:=fun z=>e z.symm
  simp[e,e']
theorem Ea(f:Nat->Bool)(n:Nat):orM ((List.range n).filter f)=maskOf f n:=Nat.eq_of_testBit_eq fun j=>by
 rw[i0,mask_bit,Bool.eq_iff_iff];simp
theorem OS{ks:List Nat}{n:Nat}(h:∀ k∈ks,k<n):orM ks<2^n:=RM.dR fun k hk=>by
 rw[i0]at hk;exact h k (of_decide_eq_true hk)
end Ring
namespace RM
variable {N:Net}
inductive Net.Walk(N:Net):List Nat->Nat->List Nat->Prop
 | one {v:Nat}:Net.Walk N [] v []
 | snoc {pre ks:List Nat} {v w t:Nat} (h:Net.Walk N pre v ks) (ht:t<N.n) (hn:t∉ks) (j:(N.a t=v/\N.b t=w)\/(N.b t=v/\N.a t=w)):Net.Walk N (pre++[v]) w (ks++[t])
theorem Net.Walk.len{pre ks:List Nat}{v:Nat}(h:N.Walk pre v ks):pre.length=ks.length:=by
 induction h with
 | one=>rfl
 | snoc _ _ _ _ ih=>rw[List.length_append,List.length_append,ih];rfl
theorem Net.Walk.lt{pre ks:List Nat}{v:Nat}(h:N.Walk pre v ks):∀ t∈ks,t<N.n:=by
 induction h with
 | one=>exact fun t ht=>nomatch ht
 | snoc _ ht _ _ ih =>
   intro s hs;rcases List.mem_append.mp hs with q|q
   ·exact ih s q
   ·have e:=List.mem_singleton.mp q;rw[e];exact ht
theorem Net.Walk.bd{pre ks:List Nat}{v:Nat}(h:N.Walk pre v ks):∀ i u,(pre++[v])[i]?=some u->∀ x,N.bd (Ring.orM (ks.drop i)) x=(decide (u=x)^^decide (v=x)):=by
 induction h with
 | one =>
   rename_i v
   intro i u hu x
   match i,hu with
   | 0,hu =>
     have e:v=u:=Option.some.inj hu;subst e;show N.bd 0 x=_;rw[oZ];simp
   | i+1,hu=>simp at hu
 | snoc hw ht hn j ih =>
   rename_i pre ks v w t
   intro i u hu x;have hl:=hw.len
   by_cases hi:i<(pre++[v]).length
   ·rw[List.getElem?_append_left hi]at hu;have hi' : i<=ks.length:=by rw[List.length_append]at hi;simp at hi;lia
    rw[List.drop_append_of_le_length hi',Ring.BY _ (fun z=>hn (List.mem_of_mem_drop z)),g7,ih i u hu x,nU ht]
    have e:N.inc t x=(decide (v=x)^^decide (w=x)):=by
     unfold Net.inc;rcases j with⟨j1,j2⟩|⟨j1,j2⟩
     ·rw[j1,j2]
     ·rw[j1,j2];exact Bool.xor_comm _ _
    rw[e];cases decide (u=x)<;>cases decide (v=x)<;>cases decide (w=x)<;>rfl
   ·have hi2:i=(pre++[v]).length:=by
     have:=(List.getElem?_eq_some_iff.mp hu).1;rw[List.length_append]at this;simp at this hi ⊢
     lia
    rw[hi2,List.getElem?_append_right (Nat.le_refl _),Nat.sub_self]at hu;have e:w=u:=Option.some.inj hu;subst e;have:(ks++[t]).drop i=[]:=List.drop_eq_nil_of_le (by rw[hi2,List.length_append,List.length_append];simp;lia)
    rw[this];show N.bd 0 x=_;rw[oZ];simp
structure Way(N:Net)(gU:Nat)(pre:List Nat)(v:Nat)(ks:List Nat)(left:Nat):Prop where
 w:N.Walk pre v ks
 lt:gU<2^N.n
 ev:N.fh gU
 sub:∀ t∈ks,gU.testBit t=true
 Aq:left=gU^^^Ring.orM ks
 nd:pre.Nodup
 inp:∀ x∈pre++[v],x<N.p
 st:pre=[]->∃ t,t<N.n/\gU.testBit t=true/\N.a t=v
section
variable {gU left v:Nat}{pre ks:List Nat}
theorem Way.start{t:Nat}(lt:gU<2^N.n)(ev:N.fh gU)(hb:gU.testBit t=true):Way N gU [] (N.a t) [] gU:=by
 have ht:=cS lt hb;refine⟨.one,lt,ev,(fun _ z=>nomatch z),?_,List.Pairwise.nil,fun x hx=>?_,fun _=>⟨t,ht,hb,rfl⟩⟩
 ·show gU=gU^^^0;simp
 ·have e:x=N.a t:=by simpa using hx
  rw[e];exact N.al t ht
theorem Way.rC(h:Way N gU pre v ks left)(t:Nat):left.testBit t=(gU.testBit t && !decide (t∈ks)):=by
 rw[h.Aq,Nat.testBit_xor,Ring.i0]
 by_cases hm:t∈ks
 ·rw[h.sub t hm,decide_eq_true hm];rfl
 ·rw[decide_eq_false hm];simp
theorem Way.MA(h:Way N gU pre v ks left):left<2^N.n:=dR fun k hk=>by
 rw[h.rC,Bool.and_eq_true]at hk;exact cS h.lt hk.1
theorem Way.on(h:Way N gU pre v ks left)(hv:v∉pre):∃ t,left.testBit t=true/\(N.a t=v\/N.b t=v):=by
 cases pre with
 | nil =>
   obtain⟨t,ht,hb,e⟩:=h.st rfl;have hk:ks=[]:=List.length_eq_zero_iff.mp (by rw[<-h.w.len];rfl)
   refine⟨t,?_,.inl e⟩;rw[h.rC,hb,hk];simp
 | cons u r =>
   have hb:=h.w.bd 0 u rfl v;rw[List.drop_zero]at hb;have hu : ¬ u=v:=fun z=>hv (by rw[z];exact List.mem_cons_self)
   rw[decide_eq_false hu,decide_eq_true rfl]at hb;have hvp:v<N.p:=h.inp v (List.mem_append_right _ (List.mem_singleton.mpr rfl));have hl:N.bd left v=true:=by
    rw[h.Aq,g7,h.ev v hvp,hb];rfl
   rw[JR]at hl;have hp:=of_decide_eq_true hl;obtain⟨k,hk,hkb,hx⟩:=rB (N:=N) (m:=left) (x:=v) (by lia)
   exact⟨k,hkb,hx⟩
theorem Way.go(h:Way N gU pre v ks left)(hv:v∉pre){t w:Nat}(hb:left.testBit t=true)(j:(N.a t=v/\N.b t=w)\/(N.b t=v/\N.a t=w)):
 Way N gU (pre++[v]) w (ks++[t]) (left^^^2^t):=by
 rw[h.rC,Bool.and_eq_true]at hb;have hn:t∉ks:=by simpa using hb.2
 have ht:=cS h.lt hb.1;refine⟨.snoc h.w ht hn j,h.lt,h.ev,fun s hs=>?_,?_,?_,fun x hx=>?_,fun z=>?_⟩
 ·rcases List.mem_append.mp hs with q|q
  ·exact h.sub s q
  ·rw[List.mem_singleton.mp q];exact hb.1
 ·rw[Ring.BY _ hn,h.Aq,Nat.xor_assoc]
 ·refine List.nodup_append.mpr ⟨h.nd,by simp,fun x hx y hy=>?_⟩
  have e:y=v:=by simpa using hy
  rw[e];exact fun z=>hv (z▸hx)
 ·rcases List.mem_append.mp hx with q|q
  ·exact h.inp x q
  ·have e:x=w:=by simpa using q
   rw[e];rcases j with⟨_,j2⟩|⟨_,j2⟩
   ·rw[<-j2];exact N.bl t ht
   ·rw[<-j2];exact N.al t ht
 ·simp at z
theorem Way.closes(h:Way N gU pre v ks left){i:Nat}(hi:pre[i]?=some v):Ring.orM (ks.drop i)≠0/\N.fh (Ring.orM (ks.drop i))/\Ring.orM (ks.drop i)<2^N.n/\∀ k,(Ring.orM (ks.drop i)).testBit k=true->gU.testBit k=true:=by
 have Qc:=(List.getElem?_eq_some_iff.mp hi).1;have hl:=h.w.len;have rD:∀ k,(Ring.orM (ks.drop i)).testBit k=true->k∈ks:=fun k hk=>by
  rw[Ring.i0]at hk;exact List.mem_of_mem_drop (of_decide_eq_true hk)
 refine⟨fun z=>?_,fun x _=>?_,dR fun k hk=>h.w.lt k (rD k hk),fun k hk=>h.sub k (rD k hk)⟩
 ·have hne:ks.drop i≠[]:=fun q=>by
   have:=List.drop_eq_nil_iff.mp q
   lia
  obtain⟨k,hk⟩:=List.exists_mem_of_ne_nil _ hne;have:=Ring.i0 (ks.drop i) k;rw[z,decide_eq_true hk]at this;simp at this
 ·rw[h.w.bd i v (by rw[List.getElem?_append_left Qc];exact hi) x]
  simp
end
end RM
namespace Ring
open PySem L2
theorem FN{p:Nat}{ts:List dZ}{g:aF p ts}{q m:Nat}(hm:m<2^ts.length):decide ((bu ((q&&&m:Nat):Int)).length%2=1)=(ae p ts g).par q m:=by
 rw[wq (n:=ts.length) (Nat.and_lt_two_pow q hm)];unfold RM.Net.par;rw[RM.wg];have e:RM.cnt (fun k=>(q&&&m).testBit k) ts.length=RM.cnt (fun k=>q.testBit k&&m.testBit k) (ae p ts g).n:=RM.gp fun k _=>by rw[Nat.testBit_and]
 rw[e]
def xorL(rs:List Nat):Nat:=rs.foldl (fun m r=>m^^^r) 0
theorem GX(rs:List Nat):∀ m,rs.foldl (fun m r=>m^^^r) m=m^^^xorL rs:=by
 induction rs with
 | nil=>intro m;show m=m^^^0;simp
 | cons r rs ih =>
   intro m;show rs.foldl (fun m r=>m^^^r) (m^^^r)=m^^^rs.foldl (fun m r=>m^^^r) (0^^^r)
   rw[ih,ih,Nat.zero_xor,Nat.xor_assoc]
theorem xorL_cons(rs:List Nat)(r:Nat):xorL (r::rs)=r^^^xorL rs:=by
 show rs.foldl (fun m r=>m^^^r) (0^^^r)=_
 rw[GX,Nat.zero_xor]
end Ring
namespace Ring
open PySem L2
theorem JU(l:List Nat){i:Nat}(h:i<=l.length):xW (aG l) (some (i:Int)) none=aG (l.drop i):=by
 unfold xW;rw[HT.L4,HT.Jj,aM,Nat.min_eq_left h];unfold aG;rw[<-List.map_drop,<-List.map_take,List.take_of_length_le (by rw[List.length_drop];lia)]
end Ring
namespace L2
open PySem PySem.Spec PyProof.Rows
section
variable {κ:Type}[DecidableEq κ]
def eV(kvs:List (κ×V))(k:κ):Option V:=(kvs.find? fun kv=>decide (kv.1=k)).map (·.2)
def putK(kvs:List (κ×V))(k:κ)(v:V):List (κ×V) :=
 if(kvs.any fun kv=>decide (kv.1=k))=true then kvs.map (fun kv=>if kv.1=k then(kv.1,v) else kv) else kvs++[(k,v)]
def ee(kvs:List (κ×V))(k:κ):List (κ×V):=kvs.filter fun kv=>decide (kv.1≠k)
theorem wA{k:κ}:eV ([]:List (κ×V)) k=none:=rfl
theorem cR{p:κ×V}{r:List (κ×V)}{k:κ}(e:p.1=k):eV (p::r) k=some p.2:=by simp[eV,List.find?_cons,e]
theorem cH{p:κ×V}{r:List (κ×V)}{k:κ}(e : ¬ p.1=k):eV (p::r) k=eV r k:=by simp[eV,List.find?_cons,e]
theorem iL(k:κ):∀ kvs:List (κ×V),(kvs.any fun kv=>decide (kv.1=k))=(eV kvs k).isSome
 | []=>rfl
 | p::r=>by
   rw[List.any_cons]
   by_cases e:p.1=k
   ·simp only[cR e,decide_eq_true e,Bool.true_or,Option.isSome_some]
   ·rw[cH e,decide_eq_false e,Bool.false_or];exact iL k r
theorem BZ(k j:κ)(y:V):∀ kvs:List (κ×V),eV (kvs.map fun kv=>if kv.1=k then(kv.1,y) else kv) j=(eV kvs j).map fun x=>if j=k then y else x
 | []=>rfl
 | p::r=>by
   have ih:=BZ k j y r;rw[List.map_cons]
   by_cases h:p.1=k
   ·rw[if_pos h]
    by_cases e:p.1=j
    ·rw[cR (p:=(p.1,y)) e,cR e,Option.map_some,if_pos (e.symm.trans h)]
    ·rw[cH (p:=(p.1,y)) e,cH e,ih]
   ·rw[if_neg h]
    by_cases e:p.1=j
    ·rw[cR (p:=p) e,cR e,Option.map_some,if_neg (fun z=>h (e.trans z))]
    ·rw[cH (p:=p) e,cH e,ih]
theorem y9(k j:κ)(y:V):∀ kvs:List (κ×V),eV kvs k=none->eV (kvs++[(k,y)]) j=if j=k then some y else eV kvs j
 | [],_=>by
   by_cases e:k=j
   ·rw[if_pos e.symm];exact cR (p:=(k,y)) e
   ·rw[if_neg (fun z=>e z.symm)];exact cH (p:=(k,y)) e
 | p::r,hn=>by
   rw[List.cons_append];have hk : ¬ p.1=k:=fun z=>by rw[cR z]at hn;cases hn
   rw[cH hk]at hn;have ih:=y9 k j y r hn
   by_cases e:p.1=j
   ·rw[cR e,cR e,if_neg (fun z=>hk (e.trans z))]
   ·rw[cH e,cH e,ih]
theorem JV(kvs:List (κ×V))(k j:κ)(y:V):eV (putK kvs k y) j=if j=k then some y else eV kvs j:=by
 unfold putK
 by_cases a:(kvs.any fun kv=>decide (kv.1=k))=true
 ·rw[if_pos a,BZ];rw[iL]at a
  by_cases e:j=k
  ·obtain⟨x,hx⟩:=Option.isSome_iff_exists.mp a;rw[if_pos e,e,hx,Option.map_some,if_pos rfl]
  ·rw[if_neg e];cases eV kvs j with
   | none=>rfl
   | some x=>rw[Option.map_some,if_neg e]
 ·rw[if_neg a];refine y9 k j y kvs ?_;rw[iL]at a;cases q:eV kvs k with
  | none=>rfl
  | some x=>rw[q]at a;exact(a rfl).elim
theorem uM(kvs:List (κ×V))(k:κ)(v:V):(putK kvs k v).length<=kvs.length+1:=by
 unfold putK
 split
 ·rw[List.length_map];lia
 ·rw[List.length_append,List.length_cons,List.length_nil];lia
theorem B3{kvs:List (κ×V)}{k:κ}(v:V)(h:eV kvs k=none):putK kvs k v=kvs++[(k,v)]:=by
 unfold putK;rw[iL,h];exact if_neg (by decide)
theorem sC.GY{o:Option V}{u:Option Value}(r:sC o u):o.isSome=u.isSome:=by
 cases o with
 | none=>cases u with
   | none=>rfl
   | some _=>exact(show False from r).elim
 | some _=>cases u with
   | none=>exact(show False from r).elim
   | some _=>rfl
theorem sC.getD{o:Option V}{u:Option Value}{d:V}{d' : Value}(r:sC o u)(rd:RelV d d'):RelV (o.getD d) (u.getD d'):=by
 cases o with
 | none=>cases u with
   | none=>exact rd
   | some _=>exact(show False from r).elim
 | some _=>cases u with
   | none=>exact(show False from r).elim
   | some _=>exact r
theorem KV.val{kvs:List (κ×V)}{vs:List (κ×Value)}(r:KV kvs vs)(k:κ):sC (eV kvs k) (valueAt vs k):=by
 unfold KV at r
 induction r with
 | nil=>exact True.intro
 | @cons p q ps qs h t ih =>
   obtain⟨h1,h2⟩:=h
   by_cases e:p.1=k
   ·have e' : q.1=k:=h1.symm.trans e;have b:valueAt (q::qs) k=some q.2:=by simp[valueAt,List.find?_cons,e']
    rw[cR e,b];exact h2
   ·have e' : ¬ q.1=k:=fun z=>e (h1.trans z)
    have b:valueAt (q::qs) k=valueAt qs k:=by simp[valueAt,List.find?_cons,e']
    rw[cH e,b];exact ih
theorem KV.any{kvs:List (κ×V)}{vs:List (κ×Value)}(r:KV kvs vs)(k:κ):(kvs.any fun kv=>decide (kv.1=k))=vs.any fun kv=>decide (kv.1=k):=by
 unfold KV at r
 induction r with
 | nil=>rfl
 | cons h t ih=>rw[List.any_cons,List.any_cons,ih,h.1]
theorem KV.repl{kvs:List (κ×V)}{vs:List (κ×Value)}(r:KV kvs vs)(k:κ){y:V}{u:Value}(ry:RelV y u):
 KV (kvs.map fun kv=>if kv.1=k then(kv.1,y) else kv) (vs.map fun kv=>if kv.1=k then(kv.1,u) else kv):=by
 unfold KV at r ⊢
 induction r with
 | nil=>exact .nil
 | @cons p q ps qs h t ih =>
   rw[List.map_cons,List.map_cons];refine .cons ?_ ih;obtain⟨h1,h2⟩:=h
   by_cases e:p.1=k
   ·rw[if_pos e,if_pos (h1.symm.trans e)];exact⟨h1,ry⟩
   ·rw[if_neg e,if_neg (fun z=>e (h1.trans z))];exact⟨h1,h2⟩
theorem KV.put{kvs:List (κ×V)}{vs:List (κ×Value)}(r:KV kvs vs)(k:κ){y:V}{u:Value}(ry:RelV y u):KV (putK kvs k y) (stored vs k u):=by
 unfold putK stored;rw[r.any k]
 by_cases e:(vs.any fun kv=>decide (kv.1=k))=true
 ·rw[if_pos e,if_pos e];exact r.repl k ry
 ·rw[if_neg e,if_neg e];exact Paired.snoc r ⟨rfl,ry⟩
theorem KV.length{kvs:List (κ×V)}{vs:List (κ×Value)}(r:KV kvs vs):kvs.length=vs.length:=Paired.length r
theorem JW(kvs:List (κ×V))(k:κ):(ee kvs k).length<=kvs.length:=List.length_filter_le _ _
end
theorem FO{P:Program}{w:World}{k:Key}{u:Value}(r:RelV (kV k) u):(dO P w).is k u=true:=by
 cases k with
 | inl i=>obtain⟨t,e⟩:=(show ∃ t,u=Value.int i t from r);subst e;exact Bp P w i t
 | inr x=>obtain⟨t,e⟩:=(show ∃ t,u=Value.str x t from r);subst e;exact Bq P w x t
theorem za{P:Program}{w:World}:∀{ks:List Key} {us:List Value},Vals (ks.map kV) us->ItemsAre (dO P w) ks us
 | [],_,r=>by rw[List.map_nil]at r;cases r;exact .nil
 | k::ks,_,r=>by
   rw[List.map_cons]at r;cases r with
   | cons h t=>exact .cons (FO h) (za t)
abbrev KT(H:Hp):List (List Key×V)->List (List Key×Addr×Value)->Prop:=Paired fun p q=>p.1=q.1/\H q.2.1=some (.tup (p.1.map kV))/\RelV p.2 q.2.2
theorem KT.val{H:Hp}{kvs:List (List Key×V)}{xs:List (List Key×Addr×Value)}(r:KT H kvs xs)(k:List Key):sC (eV kvs k) ((atKey xs k).map (·.2)):=by
 induction r with
 | nil=>exact True.intro
 | @cons p q ps qs h t ih =>
   obtain⟨h1,_,h2⟩:=h
   by_cases e:p.1=k
   ·have e' : q.1=k:=h1.symm.trans e;have b:atKey (q::qs) k=some q.2:=by simp[atKey,List.find?_cons,e']
    rw[cR e,b];exact h2
   ·have e' : ¬ q.1=k:=fun z=>e (h1.trans z)
    have b:atKey (q::qs) k=atKey qs k:=by simp[atKey,List.find?_cons,e']
    rw[cH e,b];exact ih
theorem KT.repl{H:Hp}{kvs:List (List Key×V)}{xs:List (List Key×Addr×Value)}(r:KT H kvs xs)(k:List Key){y:V}{u:Value}(ry:RelV y u):
 KT H (kvs.map fun kv=>if kv.1=k then(kv.1,y) else kv) (xs.map (putAt k u)):=by
 induction r with
 | nil=>exact .nil
 | @cons p q ps qs h t ih =>
   rw[List.map_cons,List.map_cons];refine .cons ?_ ih;obtain⟨h1,h2,h3⟩:=h;unfold putAt
   by_cases e:p.1=k
   ·rw[if_pos e,if_pos (h1.symm.trans e)];exact⟨h1,h2,ry⟩
   ·rw[if_neg e,if_neg (fun z=>e (h1.trans z))];exact⟨h1,h2,h3⟩
theorem KT.put{H:Hp}{kvs:List (List Key×V)}{xs:List (List Key×Addr×Value)}(r:KT H kvs xs)(k:List Key){b:Addr}{y:V}{u:Value}(hb:H b=some (.tup (k.map kV)))(ry:RelV y u):
 KT H (putK kvs k y) (storedH xs k b u):=by
 have e:(kvs.any fun kv=>decide (kv.1=k))=(atKey xs k).isSome:=by
  rw[iL,(r.val k).GY,Option.isSome_map]
 unfold putK storedH;rw[e]
 by_cases q:(atKey xs k).isSome=true
 ·rw[if_pos q,if_pos q];exact r.repl k ry
 ·rw[if_neg q,if_neg q];exact Paired.snoc r ⟨rfl,hb,ry⟩
theorem KT.keeps{H H' : Hp}{kvs:List (List Key×V)}{xs:List (List Key×Addr×Value)}(r:KT H kvs xs)(ht:∀ b ys,H b=some (.tup ys)->H' b=some (.tup ys)):KT H' kvs xs :=
 Paired.z5 r fun _ _ z=>⟨z.1,ht _ _ z.2.1,z.2.2⟩
section
variable {P:Program}{w:World}{H:Hp}{h:Heap}{a:Addr}
theorem NB{u:HO}(ok:oY P w H h)(e:Rd H a u):bI P w H h a u:=e.ok ok
theorem B4{kvs:List (Key×V)}(ok:oY P w H h)(e:Rd H a (.dK kvs)):kvs.length<=sizeLine/\(a==sysModules)=false/\∃ vs,KV kvs vs/\h.DictOf (dO P w) a vs :=
 show bI P w H h a (.dK kvs) from NB ok e
theorem Ry{kvs:List (Key×V)}(ok:oY P w H h)(e:H a=some (.dK kvs)):kvs.length<=sizeLine/\(a==sysModules)=false/\∃ vs,KV kvs vs/\h.DictOf (dO P w) a vs:=B4 ok (.inl e)
theorem sV{ks:List Key}(ok:oY P w H h)(e:H a=some (.tup (ks.map kV))):(tupleKind (dO P w)).is h ks a:=by
 obtain⟨_,its,r,o,h1,h2,n,h3⟩:=(show bI P w H h a (.tup (ks.map kV)) from ok a _ e)
 exact⟨o,its.toArray,n,h1,h2,h3,by simpa using za r⟩
theorem B5{kvs:List (List Key×V)}(ok:oY P w H h)(e:Rd H a (.dT kvs)):kvs.length<=sizeLine/\(a==sysModules)=false/\
 ∃ xs,KT H kvs xs/\h.DictOfH (tupleKind (dO P w)) a xs:=by
 obtain⟨z,y,xs,r,o,es,ep,h1,h2,h3,h4,h5⟩:=(show bI P w H h a (.dT kvs) from NB ok e)
 refine⟨z,y,xs,r,o,es,ep,h1,h2,h3,h4,fun x hx=>?_,h5⟩
 have all:∀{l:List (List Key×V)} {m:List (List Key×Addr×Value)},KT H l m->∀ x∈m,(tupleKind (dO P w)).is h x.1 x.2.1:=by
  intro l m q
  induction q with
  | nil=>intro x hx;exact nomatch hx
  | @cons p q ps qs hq t ih =>
    intro x hx;rcases List.mem_cons.mp hx with e|hx
    ·subst e;exact sV ok (by rw[<-hq.1];exact hq.2.1)
    ·exact ih x hx
 exact all r x hx
theorem JX{kvs:List (List Key×V)}(ok:oY P w H h)(e:H a=some (.dT kvs)):kvs.length<=sizeLine/\(a==sysModules)=false/\
 ∃ xs,KT H kvs xs/\h.DictOfH (tupleKind (dO P w)) a xs:=B5 ok (.inl e)
end
def JY(H:Hp)(a:Addr)(y:V)(r:Option V):Prop :=
 (∃ kvs k,Rd H a (.dK kvs)/\y=kV k/\r=eV kvs k)\/∃ kvs k b,Rd H a (.dT kvs)/\y = .ref b/\H b=some (.tup (k.map kV))/\r=eV kvs k
def JZ(H:Hp)(a:Addr)(y v:V)(H' : Hp):Prop :=
 (∃ kvs k,H a=some (.dK kvs)/\y=kV k/\kvs.length<sizeLine/\H' = upd H a (.dK (putK kvs k v)))\/
 ∃ kvs k b,H a=some (.dT kvs)/\y = .ref b/\H b=some (.tup (k.map kV))/\kvs.length<sizeLine/\H' = upd H a (.dT (putK kvs k v))
theorem JZ.t{H:Hp}{a b:Addr}{kvs:List (List Key×V)}{k:List Key}{v:V}(e:H a=some (.dT kvs))(eb:H b=some (.tup (k.map kV)))(hl:kvs.length<sizeLine):
 JZ H a (.ref b) v (upd H a (.dT (putK kvs k v))):=.inr ⟨kvs,k,b,e,rfl,eb,hl,rfl⟩
section
variable {X:Cx}{pins:List (Addr×Obj)}{σ:St}{H:Hp}{s:Shared}{a:Addr}{y v:V}{u r:Value}{o:Option V}{A:Around}{E:Value->Shared->Prop}
theorem Inv.big(I:Inv X pins σ H s):sysModules<s.heap.objs.size:=by
 have h:mainGlobals<s.heap.objs.size:=(I.mod.glob.keeps I.bk).lt;exact Nat.lt_trans (by decide) h
theorem GZ{Q:Value->Shared->Prop}(hu:A.units+1<cLine)(I:Inv X pins σ H s)(g:JY H a y (some v))(ry:RelV y u)(h:∀ w' s',Inv X pins σ H s'->RelV v w'->Q w' s'):
 wpAny (model X.prog X.w) A (getItem (.ref a) u) Q E s:=by
 rcases g with⟨kvs,k,e,ey,l⟩|⟨kvs,k,b,e,ey,eb,l⟩
 ·subst ey;obtain⟨z,hd,vs,rel,dd⟩:=B4 I.hok e;obtain⟨w',hw,rw'⟩:=sC.some_of (v:=v) (o:=valueAt vs k) (by rw[l];exact rel.val k)
  exact wpAny_getItem_of (FO ry) dd.mapOf hw (h w' _ (I.tok _) rw')
 ·subst ey;cases(show u=Value.ref b from ry)
  obtain⟨z,hd,xs,rel,dd⟩:=B5 I.hok e;obtain⟨w',hw,rw'⟩:=sC.some_of (v:=v) (o:=(atKey xs k).map (·.2)) (by rw[l];exact rel.val k)
  obtain⟨p,hp,P7⟩:=Option.map_eq_some_iff.mp hw;refine wpAny_getItem_heap (tupleKind_room_in1 hu) (sV I.hok eb) dd hp ?_;rw[P7];exact h w' _ (I.tok _) rw'
theorem vo{h' : Heap}{t' : Nat}{ob:HO}(I:Inv X pins σ H s)(mu:Qw (H a))(hs:Heap.SameBut a s.heap h')(he:∃ q,h'.get? a=some q)(new:bI X.prog X.w (upd H a ob) h' a ob):
 Inv X pins σ (upd H a ob) { s with heap:=h',toks:=t'} :=
 I.write (x:=a) (e:=a) mu (.inl rfl) (fun b q hb z=>(hs.2 b hb).trans z) he new
theorem OT{P:Program}{w:World}{H' : Hp}{h' : Heap}{kvs:List (Key×V)}{vs:List (Key×Value)}(z:kvs.length<=sizeLine)(hd:(a==sysModules)=false)(rel:KV kvs vs)(dd:h'.DictOf (dO P w) a vs):
 bI P w H' h' a (.dK kvs):=⟨z,hd,vs,rel,dd⟩
theorem G0{H' : Hp}{Q:Unit->Shared->Prop}(hu:A.units+1<cLine)(I:Inv X pins σ H s)(g:JZ H a y v H')(ry:RelV y u)(rv:RelV v r)(h:∀ s',Inv X pins σ H' s'->Q () s'):
 wpAny (model X.prog X.w) A (setItem (.ref a) u r) Q E s:=by
 rcases g with⟨kvs,k,e,ey,l,eH⟩|⟨kvs,k,b,e,ey,eb,l,eH⟩
 ·subst ey eH;obtain⟨z,hd,vs,rel,dd⟩:=Ry I.hok e;have hz:vs.length<=sizeLine:=by rw[<-rel.length];exact z
  have hl:(putK kvs k v).length<=sizeLine:=by have:=uM kvs k v;lia
  refine wpAny_setItem_pairs (hsz:=hz) (FO ry) dd fun h' Qd hs=>h _ ?_
  have he:∃ q,h'.get? a=some q:=let⟨q,_,_,hq,_⟩:=Qd;⟨q,hq⟩;exact vo I (by rw[e];exact True.intro) hs he (OT hl hd (rel.put k rv) Qd)
 ·subst ey eH;cases(show u=Value.ref b from ry)
  obtain⟨z,hd,xs,rel,dd⟩:=JX I.hok e;have hz:xs.length<=sizeLine:=by rw[<-Paired.length rel];exact z
  have hl:(putK kvs k v).length<=sizeLine:=by have:=uM kvs k v;lia
  refine wpAny_setItem_heap (hsz:=hz) (tupleKind_room_in1 hu) (sV I.hok eb) dd fun h' Qd hs=>h _ ?_
  obtain⟨q,es,ep,hq,h2,h3,h4,_,h5⟩:=Qd;refine vo I (by rw[e];exact True.intro) hs ⟨q,hq⟩ ⟨hl,hd,_,(rel.put k eb rv).keeps fun c ys ec=>?_,q,es,ep,hq,h2,h3,h4,h5⟩
  rw[aq (aY ec e (fun z=>nomatch z))]
  exact ec
end
section
variable {X:Cx}{pins:List (Addr×Obj)}{σ:St}{H:Hp}{s:Shared}{a:Addr}{kvs:List (Key×V)}{k:Key}{u:Value}{A:Around}{E:Value->Shared->Prop}
end
def Rz(i:Expr):Prop:=∀ ov iv,subscripted i false ov iv=operate [ov,iv] (getItem ov iv)
theorem MB{prog:Program}{w:World}{A:Around}{E:Value->Shared->Prop}{s:Shared}{env:Env}{value slice:Expr}{pos:Pos}{T id:String}{Q:Value->Shared->Prop}
 (hl:typeLookup (.type T) "__getitem__"=pure (some (.builtin id))) (hs:Rz slice)
 (h:wpAny (model prog w) A (eval value env) (fun o s₁=>wpAny (model prog w) A (eval slice env) (fun i s₂=>s₂.TypeIs o T/\wpAny (model prog w) A (getItem o i) Q E s₂) E s₁) E s) :
 wpAny (model prog w) A (eval (.Subscript value slice pos) env) Q E s:=by
 refine Subscript_ (wpAny_mono h (fun o s₁ h₁=>wpAny_mono h₁ (fun i s₂ h₂=>?_) fun _ _ x=>x) fun _ _ x=>x)
 obtain⟨hT,h₂⟩:=h₂;unfold subscriptTail;refine wpAny_bind ?_;rw[getitemInPython_of_ne hT.not_modules];refine wpAny_bind (wpAny_specialOf hT hl ?_);have fin:wpAny (model prog w) A (subscripted slice false o i) (fun r s₃=>wpAny (model prog w) A (letTemporaryGo value o r >>= fun _=>pure r) Q E s₃) E s₂:=by
  rw[hs o i];exact wpAny_operating (wpAny_mono h₂ (fun r s₃ h₃=>wpAny_bind (wpAny_letTemporaryGo (wpAny_pure h₃))) fun _ _ x=>x)
 first
  | exact wpAny_pure (wpAny_bind fin)
  | exact wpAny_bind (wpAny_pure (wpAny_bind fin))
  | exact wpAny_bind fin
theorem B6{X:Cx}{pins:List (Addr×Obj)}{σ:St}{H:Hp}{s:Shared}{a:Addr}{y:V}{o:Option V}(I:Inv X pins σ H s)(g:JY H a y o):s.TypeIs (.ref a) "dict":=by
 rcases g with⟨kvs,k,e,_,_⟩|⟨kvs,k,b,e,_,_,_⟩
 ·obtain⟨_,_,vs,_,dd⟩:=B4 I.hok e;exact dd.typeIs
 ·obtain⟨_,_,xs,_,dd⟩:=B5 I.hok e;exact dd.typeIs
def RA(td ty:TE):TE:=fun σ H Q=>td σ H fun x H1=>ty σ H1 fun y H2=>∃ a v,x = .ref a/\JY H2 a y (some v)/\Q v H2
def RB(td ty tv:TE):TS:=fun D σ H=>tv σ H fun v H1=>td σ H1 fun x H2=>ty σ H2 fun y H3=>∃ a H4,x = .ref a/\JZ H3 a y v H4/\D.nx σ H4
section
variable {X:Cx}{o i e value:Expr}{pos pos' tpos:Pos}{td ty tv:TE}
theorem MC(hu:X.A.units+1<cLine)(ho:PE X o td)(hi:PE X i ty)(hs:Rz i):PE X (.Subscript o i pos) (RA td ty):=by
 intro pins s σ H Q I h;refine MB PySem.F.slot_dict_getitem.lookup hs (dP (ho pins s σ H _ I h) fun u s1 ⟨x,H1,I1,rx,q1⟩=>dP (hi pins s1 σ H1 _ I1 q1) fun iv s2 ⟨y,H2,I2,ry,a,v,ex,g,q2⟩=>?_)
 subst ex;obtain rfl:u=Value.ref a:=rx;exact⟨B6 I2 g,GZ hu I2 g ry fun w' s3 I3 rw'=>⟨v,H2,I3,rw',q2⟩⟩
theorem MD(hu:X.A.units+1<cLine)(ho:PE X o td)(hi:PE X i ty)(hv:PE X value tv)(hs:swapsWith value (some (.Subscript o i pos')) pos.line X.env=pure false):
 PS X (.Assign [.Subscript o i pos'] value pos) (RB td ty tv):=by
 intro pins s σ H D I h;refine wpAny_Assign_Subscript (dP (hv pins s σ H _ I h) fun r s1 ⟨v,H1,I1,rv,q1⟩=>dP (ho pins s1 σ H1 _ I1 q1) fun u s2 ⟨x,H2,I2,rx,q2⟩=>dP (hi pins s2 σ H2 _ I2 q2) fun iv s3 ⟨y,H3,I3,ry,a,H4,ex,g,q3⟩=>?_) hs
 subst ex;obtain rfl:u=Value.ref a:=rx;exact G0 hu I3 g ry rv fun s4 I4=>⟨σ,H4,I4,q3⟩
end
theorem J0{P:Program}{w:World}{H:Hp}(h:Heap)(hb:sysModules<h.objs.size):bI P w H (h.push { cls:=.type "dict",data:=.dict #[]}) h.objs.size (.dT []) :=
 ⟨Nat.zero_le _,beq_eq_false_iff_ne.mpr (Ne.symm (Nat.ne_of_lt hb)),[],.nil,_,#[],0,Heap.get?_push_size _ rfl,⟨rfl,rfl,rfl⟩,rfl,rfl,List.nodup_nil⟩
section
variable {X:Cx}{pos:Pos}
end
structure M1(X:Cx)(o:Expr)(m:Str)(apos:Pos)(e:Expr)(cpos:Pos):Prop where
 base:attributeBase o m X.env (eval o X.env)=eval o X.env
 few:((backTo cpos (starEach [e] X.env)).all (fun x=>!x.1)&&(backToKw cpos (keywordEach [] X.env)).all (fun x=>x.1.isSome)
  && decide (([e]:List Expr).length+([]:List Keyword).length+(if([]:List Keyword).isEmpty then 0 else 1)<30))=true
 line:(apos.endLine==cpos.line)=true
 trees:backTo cpos (starEach [e] X.env)=[(false,eval e X.env)]
structure M2(X:Cx)(o:Expr)(m:Str)(apos:Pos)(e f:Expr)(cpos:Pos):Prop where
 base:attributeBase o m X.env (eval o X.env)=eval o X.env
 few:((backTo cpos (starEach [e,f] X.env)).all (fun x=>!x.1)&&(backToKw cpos (keywordEach [] X.env)).all (fun x=>x.1.isSome)
  && decide (([e,f]:List Expr).length+([]:List Keyword).length+(if([]:List Keyword).isEmpty then 0 else 1)<30))=true
 line:(apos.endLine==cpos.line)=true
 trees:backTo cpos (starEach [e,f] X.env)=[(false,eval e X.env),(false,eval f X.env)]
def We(H:Hp)(a:Addr):Prop:=(∃ kvs,Rd H a (.dK kvs))\/∃ kvs,Rd H a (.dT kvs)
theorem J7{X:Cx}{pins:List (Addr×Obj)}{σ:St}{H:Hp}{s:Shared}{a:Addr}(I:Inv X pins σ H s)(d:We H a):
 s.TypeIs (.ref a) "dict"/\(∀ b,Value.ref a = .ref b->∃ ob,s.heap.get? b=some ob/\ob.dict=none)/\(a==sysModules)=false:=by
 rcases d with⟨kvs,e⟩|⟨kvs,e⟩
 ·obtain⟨_,hd,vs,_,dd⟩:=B4 I.hok e;refine⟨dd.typeIs,fun b q=>?_,hd⟩
  cases q;obtain⟨ob,_,_,h1,h2,_⟩:=dd;exact⟨ob,h1,h2.2.1⟩
 ·obtain⟨_,hd,xs,_,dd⟩:=B5 I.hok e;refine⟨dd.typeIs,fun b q=>?_,hd⟩
  cases q;obtain⟨ob,_,_,h1,h2,_⟩:=dd;exact⟨ob,h1,h2.2.1⟩
section
variable {X:Cx}{pins:List (Addr×Obj)}{σ:St}{H:Hp}{s:Shared}{a:Addr}{y d:V}{u r:Value}{o:Option V}{A:Around}{E:Value->Shared->Prop}
theorem OU{Q:Value->Shared->Prop}(hu:A.units+1<cLine)(I:Inv X pins σ H s)(g:JY H a y o)(ry:RelV y u)(rd:RelV d r)(h:∀ w' s',Inv X pins σ H s'->RelV (o.getD d) w'->Q w' s'):
 wpAny (model X.prog X.w) A (call (.builtin "dict.get") [.ref a,u,r]) Q E s:=by
 rcases g with⟨kvs,k,e,ey,l⟩|⟨kvs,k,b,e,ey,eb,l⟩
 ·subst ey;obtain⟨z,hd,vs,rel,dd⟩:=B4 I.hok e;refine call_meetsIn PySem.F.slot_dict_get dd.typeIs PySem.F.entry_dict_get (PySem.F.args_dict_get_3 _ _ _) (meets_dict_get_default (dO X.prog X.w) a (FO ry) hd r) ⟨_,dd.mapOf,h _ _ (I.tok _) ?_⟩;rw[l];exact(rel.val k).getD rd
 ·subst ey;cases(show u=Value.ref b from ry)
  obtain⟨z,hd,xs,rel,dd⟩:=B5 I.hok e;refine call_meetsIn PySem.F.slot_dict_get dd.typeIs PySem.F.entry_dict_get (PySem.F.args_dict_get_3 _ _ _) (meetsH_dict_get_default (tupleKind (dO X.prog X.w)) a b hd r) ⟨tupleKind_room_in1 hu,k,xs,sV I.hok eb,dd,h _ _ (I.tok _) ?_⟩;rw[l];exact(rel.val k).getD rd
end
def OV(td ty tx:TE):TE:=fun σ H Q=>td σ H fun x H1=>∃ a,x = .ref a/\We H1 a/\ty σ H1 fun y H2=>tx σ H2 fun z H3=>∃ o,JY H3 a y o/\Q (o.getD z) H3
section
variable {X:Cx}{o e f:Expr}{apos cpos:Pos}{td ty tx:TE}
theorem J8(hu:X.A.units+1<cLine)(ho:PE X o td)(he:PE X e ty)(hf:PE X f tx)(m:M2 X o "get" apos e f cpos):PE X (.Call (.Attribute o "get" apos) [e,f] [] cpos) (OV td ty tx):=by
 intro pins s σ H Q I h;refine wpAny_Call_method m.base m.few m.line PySem.F.plainAttrs_dict PySem.F.slot_dict_get PySem.F.type_dict_get (dP (ho pins s σ H _ I h) fun u s1 ⟨x,H1,I1,rx,a,ex,d,q1⟩=>?_)
 subst ex;obtain rfl:u=Value.ref a:=rx;obtain⟨t1,t2,_⟩:=J7 I1 d;refine⟨t1,t2,?_⟩;rw[m.trees];refine Calls.callWith_builtin rfl (Calls.evalArgs_plain (Calls.spliced_cons (dP (he pins s1 σ H1 _ I1 q1) fun iv s2 ⟨y,H2,I2,ry,q2⟩ =>
  Calls.spliced_cons (dP (hf pins s2 σ H2 _ I2 q2) fun fv s3 ⟨z,H3,I3,rz,ov,g,q3⟩=>Calls.spliced_nil ?_))))
 exact OU hu I3 g ry rz fun w' s4 I4 rw'=>⟨_,H3,I4,rw',q3⟩
end
section
variable {X:Cx}{pins:List (Addr×Obj)}{σ:St}{H:Hp}{s:Shared}{a:Addr}{kvs:List (Key×V)}{A:Around}{E:Value->Shared->Prop}
end
section
variable {X:Cx}{pins:List (Addr×Obj)}{σ:St}{H:Hp}{s:Shared}{a:Addr}{y:V}{u:Value}{A:Around}{E:Value->Shared->Prop}
end
end L2
namespace L2
open PySem PySem.Spec PyProof.Rows
section
variable {X:Cx}
end
section
variable {κ:Type}[DecidableEq κ]
theorem J9{kvs:List (κ×V)}{k:κ}(h:eV kvs k=none): ¬ k∈kvs.map (·.1):=by
 intro m;obtain⟨p,hp,e⟩:=List.mem_map.mp m;have q:(kvs.any fun kv=>decide (kv.1=k))=true:=List.any_eq_true.mpr ⟨p,hp,decide_eq_true e⟩
 rw[iL,h]at q;exact absurd q (by simp)
theorem ME{kvs:List (κ×V)}{k:κ}{v:V}(h:eV kvs k=some v):k∈kvs.map (·.1):=by
 have q:(kvs.any fun kv=>decide (kv.1=k))=true:=by
  rw[iL,h]
  all_goals rfl
 obtain⟨p,hp,e⟩:=List.any_eq_true.mp q;exact List.mem_map.mpr ⟨p,hp,of_decide_eq_true e⟩
theorem FP:∀{l:List κ} {k:κ},l.Nodup->¬ k∈l->(l++[k]).Nodup
 | [],k,_,_=>by simp
 | a::r,k,h,hk=>by
   obtain⟨h1,h2⟩:=List.nodup_cons.mp h;show(a::(r++[k])).Nodup;refine List.nodup_cons.mpr ⟨fun m=>?_,FP h2 fun m=>hk (List.mem_cons.mpr (Or.inr m))⟩
   rcases List.mem_append.mp m with q|q
   ·exact h1 q
   ·exact hk (List.mem_cons.mpr (Or.inl (List.mem_singleton.mp q).symm))
theorem MF{kvs:List (κ×V)}{k:κ}(v:V)(hn:(kvs.map (·.1)).Nodup)(h:eV kvs k=none):((putK kvs k v).map (·.1)).Nodup:=by
 rw[B3 v h,List.map_append];exact FP hn (J9 h)
theorem zb{p:κ×V}{r:List (κ×V)}{k:κ}(e:p.1=k):ee (p::r) k=ee r k:=by
 unfold ee;rw[List.filter_cons,if_neg (by simp[e])]
theorem zc{p:κ×V}{r:List (κ×V)}{k:κ}(e : ¬ p.1=k):ee (p::r) k=p::ee r k:=by
 unfold ee;rw[List.filter_cons,if_pos (by simp[e])]
theorem zd{kvs:List (κ×V)}{k:κ}{p:κ×V}(h:p∈ee kvs k):p∈kvs:=(List.mem_filter.mp h).1
theorem wB:∀{kvs:List (κ×V)} {k:κ},(kvs.map (·.1)).Nodup->((ee kvs k).map (·.1)).Nodup
 | [],_,_=>List.nodup_nil
 | p::r,k,h=>by
   have h:(p.1::r.map (·.1)).Nodup:=h;obtain⟨h1,h2⟩:=List.nodup_cons.mp h
   by_cases e:p.1=k
   ·rw[zb e];exact wB h2
   ·rw[zc e];show(p.1::(ee r k).map (·.1)).Nodup;refine List.nodup_cons.mpr ⟨fun m=>h1 ?_,wB h2⟩
    obtain⟨q,hq,eq⟩:=List.mem_map.mp m;exact List.mem_map.mpr ⟨q,zd hq,eq⟩
end
end L2
namespace L2
open PySem PySem.Spec PyProof.Rows
section
variable {prog:Program}{w:World}{A:Around}{E:Value->Shared->Prop}{s:Shared}{T:String}{r d:Addr}{n:Nat}{P:Nat->Value->Prop}{OK:Heap->Prop}
end
section
variable {X:Cx}
end
end L2
namespace Ring
open PySem L2
section
variable {p f n:Nat}{m m' : Held}{hs:List (Nat×Held)}{ds:List Deed}{t:dZ}
end
section
variable {H H' : Hp}{a b:Addr}{p f n:Nat}{m m' : Held}{es:List Ent}{t:dZ}
end
section
variable {n f:Nat}{d q:Addr}
end
section
variable {C p d q L:Addr}{H H' H2:Hp}{n:Nat}{hs:List (Nat×Held)}{ds:List Deed}{xs ys:List V}{x:V}{r:Nat×Held}
end
section
variable {K:PySem.W.Frag}
end
end Ring
namespace L2
open PySem PySem.Spec PyProof.Rows
section
variable {X:Cx}{pins:List (Addr×Obj)}{σ:St}{H:Hp}{s:Shared}
end
section
variable {X:Cx}{tg:Expr}
end
end L2
namespace RM
variable {N:Net}
end RM
namespace Ring
open PySem L2
section
variable {p:Nat}{ts:List dZ}{g:aF p ts}
end
section
variable (p:Nat)(ts:List dZ)(g:aF p ts)
end
section
variable {p:Nat}{ts:List dZ}{g:aF p ts}{H H' : Hp}{kvs:List (Key×V)}{zs:List Nat}
end
end Ring
namespace L2
open PySem PySem.Spec PyProof.Rows
end L2
namespace Ring
end Ring
namespace Ring
open PySem L2
end Ring
namespace Ring
open PySem L2
end Ring
namespace Ring
open PySem L2
end Ring
namespace L2
open PySem PySem.Spec PyProof.Rows
section
variable {X:Cx}
end
section
variable {X:Cx}{elt iter tg:Expr}{ifs:List Expr}{scope:Scope}{xc:Str}{pos:Pos}{own frees:List Str}{js:List Nat}{wi:TI}{g:TG}{tt:TT}{te:TE}
end
end L2
namespace L2
open PySem PySem.Spec PyProof.Rows
section
variable {X:Cx}{E:XK}{pins:List (Addr×Obj)}{σ:St}{H:Hp}{s:Shared}{N:List Str}{scope:Scope}{C:Addr}{fp:List Addr}
end
section
variable {X:Cx}{EE:XK}{elt iter tg:Expr}{ifs:List Expr}{scope:Scope}{pos:Pos}{own frees:List Str}{js:List Nat}{wi:TI}{g:TG}{tt:TT}{te:TE}
end
end L2
namespace L2
open PySem PySem.Spec PyProof.Rows
section
variable {X:Cx}
end
end L2
namespace Ring
open PySem L2
end Ring
namespace L2
open PySem PySem.Spec PyProof.Rows
theorem G3{K:PySem.W.Frag}{a:Addr}{xs:List V}{g:TG}{tb:TS}{D:Ends}{σ:St}{H:Hp}(Pv:Nat->St->Hp->Prop)(h0:Pv 0 σ H)(hl:∀ i σ H,i<=xs.length->Pv i σ H->aX K H a xs)
 (hs:∀ i x T σ H,xs[i]?=some x->Pv i σ H->H T=none->g (.ref T) σ (upd H T (.tup [.int (i:Int),x])) fun σ2 H2=>tb { D with nx:=Pv (i+1),ct:=Pv (i+1),bk:=D.nx} σ2 H2) (hd:∀ σ H,Pv xs.length σ H->D.nx σ H) :
 ∃ W:Nat->Nat->St->Hp->Prop,(∃ m,W 0 m σ H)/\∀ i m σ H,W i m σ H->
   ((GV K a).stop i H/\D.nx σ H)\/((GV K a).go i H/\∃ N:St->Hp->Prop,(∀ σ' H',N σ' H'->∃ m',m'<m/\W (i+1) m' σ' H')/\∀ x H',(GV K a).LK i H x H'->g x σ H' fun σ2 H2=>tb { D with nx:=N,ct:=N,bk:=D.nx} σ2 H2):=by
 refine⟨fun i m σ H=>m=xs.length-i/\i<=xs.length/\Pv i σ H,⟨xs.length,by simp,Nat.zero_le _,h0⟩,?_⟩
 rintro i m σ H ⟨rfl,hi,p⟩;have q:=hl i σ H hi p
 by_cases hlt:i<xs.length
 ·refine .inr ⟨⟨xs,xs[i],q,by simp[hlt]⟩,Pv (i+1),fun σ' H' p'=>⟨xs.length-(i+1),by lia,rfl,hlt,p'⟩,fun v H' y=>?_⟩
  obtain⟨T,x,rfl,hT,rfl,y1⟩:=y;exact hs i x T σ _ (y1 xs q) p hT
 ·have e:i=xs.length:=by lia
  subst e;exact .inl ⟨⟨xs,q,rfl⟩,hd σ H p⟩
end L2
namespace Ring
open PySem L2
def oV:Option Int->V
 | none=>.gf
 | some i=>.int i
abbrev Pr:=Option Int×Option Int
def sel(q:Pr)(u:Bool):Option Int:=if u=true then q.2 else q.1
def Ka(R:List Pr)(i:Nat):Pr:=R.getD i (none,none)
def jJ(H:Hp)(x:V)(q:Pr):Prop:=∃ b,x = .ref b/\H b=some (.tup [oV q.1,oV q.2])
def RowW(H:Hp)(x:V)(R:List Pr):Prop:=∃ b ys,x = .ref b/\H b=some (.tup ys)/\Paired (jJ H) ys R
def jK(H:Hp)(b:Addr)(W:List (List Pr)):Prop:=∃ ys,H b=some (.tup ys)/\Paired (RowW H) ys W
def Wf(p:Nat)(W:List (List Pr)):Prop:=W.length=p/\∀ R∈W,R.length=p
theorem jJ.same{H H' : Hp}(s:av H H'){x:V}{q:Pr}(h:jJ H x q):jJ H' x q:=let⟨b,e,z⟩:=h;⟨b,e,s _ _ z⟩
theorem RowW.same{H H' : Hp}(s:av H H'){x:V}{R:List Pr}(h:RowW H x R):RowW H' x R:=let⟨b,ys,e,z,pr⟩:=h;⟨b,ys,e,s _ _ z,Paired.imp' (fun _ _ z=>z.same s) pr⟩
theorem jK.same{H H' : Hp}(s:av H H'){b:Addr}{W:List (List Pr)}(h:jK H b W):jK H' b W:=let⟨ys,z,pr⟩:=h;⟨ys,s _ _ z,Paired.imp' (fun _ _ z=>z.same s) pr⟩
theorem jJ.tups{H H' : Hp}(s:dH H H'){x:V}{q:Pr}(h:jJ H x q):jJ H' x q:=let⟨b,e,z⟩:=h;⟨b,e,s _ _ z⟩
theorem RowW.tups{H H' : Hp}(s:dH H H'){x:V}{R:List Pr}(h:RowW H x R):RowW H' x R:=let⟨b,ys,e,z,pr⟩:=h;⟨b,ys,e,s _ _ z,Paired.imp' (fun _ _ z=>z.tups s) pr⟩
end Ring
namespace L2
open PySem PySem.Spec PyProof.Rows
end L2
namespace RM
variable {N:Net}{m t0:Nat}
def Net.Ud(N:Net)(t v:Nat):Nat:=if N.a t=v then N.b t else N.a t
def Net.sW(N:Net)(left v:Nat):List Nat:=(List.range N.n).filter fun t=>left.testBit t&&(decide (N.a t=v) || decide (N.b t=v))
theorem jL{left v t:Nat}:t∈N.sW left v↔t<N.n/\left.testBit t=true/\(N.a t=v\/N.b t=v):=by
 unfold Net.sW;rw[List.mem_filter,List.mem_range,Bool.and_eq_true,Bool.or_eq_true,decide_eq_true_eq,decide_eq_true_eq]
inductive Wk(N:Net)(m t0:Nat):List (Nat×Int)->Nat->Nat->Prop
 | start:Wk N m t0 [(t0,1)] (N.b t0) (m^^^2^t0)
 | next {acc:List (Nat×Int)} {v left t:Nat} (h:Wk N m t0 acc v left) (h0:left≠0) (ht:(N.sW left v)[0]?=some t):Wk N m t0 (acc++[(t,if N.a t=v then 1 else -1)]) (N.Ud t v) (left^^^2^t)
theorem B7{t v:Nat}(h:N.a t=v\/N.b t=v):(N.a t=v/\N.b t=N.Ud t v)\/(N.b t=v/\N.a t=N.Ud t v):=by
 unfold Net.Ud
 by_cases e:N.a t=v
 ·rw[if_pos e];exact .inl ⟨e,rfl⟩
 ·rw[if_neg e];rcases h with h|h
  ·exact absurd h e
  ·exact .inr ⟨h,rfl⟩
theorem Kc{pre ks:List Nat}{v left:Nat}(h:Way N m pre v ks left)(hz:∀ k,m.testBit k=true->k∈ks):left=0:=by
 apply Nat.eq_of_testBit_eq;intro k;rw[h.rC,Nat.zero_testBit];cases hb:m.testBit k with
 | false=>rfl
 | true=>rw[decide_eq_true (hz k hb)];rfl
theorem ze{pre ks:List Nat}{v left:Nat}(r:N.Ring m)(h:Way N m pre v ks left)(h0:left≠0):v∉pre:=fun hv=>by
 obtain⟨i,hi⟩:=List.getElem?_of_mem hv;obtain⟨q0,qe,_,qs⟩:=h.closes hi;rcases r.2.2 _ qs qe with z|z
 ·exact q0 z
 ·refine h0 (Kc h fun k hk=>?_)
  rw[<-z,Ring.i0]at hk;exact List.mem_of_mem_drop (of_decide_eq_true hk)
theorem OX(hm:m<2^N.n)(r:N.Ring m)(hb:m.testBit t0=true){acc:List (Nat×Int)}{v left:Nat}(h:Wk N m t0 acc v left):∃ pre,Way N m pre v (acc.map (·.1)) left/\pre[0]?=some (N.a t0):=by
 induction h with
 | start =>
   refine⟨[N.a t0],?_,rfl⟩;exact(Way.start hm r.2.1 hb).go (by simp) hb (.inl ⟨rfl,rfl⟩)
 | next h h0 ht ih =>
   obtain⟨pre,w,p0⟩:=ih;have hm2:=jL.mp (List.mem_of_getElem? ht);refine⟨_,by rw[List.map_append];exact w.go (ze r w h0) hm2.2.1 (B7 hm2.2.2),?_⟩
   rw[List.getElem?_append_left (by have:=(List.getElem?_eq_some_iff.mp p0).1;exact this)]
   exact p0
theorem RC(hm:m<2^N.n)(r:N.Ring m)(hb:m.testBit t0=true){acc:List (Nat×Int)}{v left:Nat}(h:Wk N m t0 acc v left)(h0:left≠0):∃ t,(N.sW left v)[0]?=some t:=by
 obtain⟨pre,w,_⟩:=OX hm r hb h;obtain⟨t,h1,h2⟩:=w.on (ze r w h0);have ht:t<N.n:=cS w.MA h1;have hmem:t∈N.sW left v:=jL.mpr ⟨ht,h1,h2⟩;cases e:N.sW left v with
 | nil=>rw[e]at hmem;cases hmem
 | cons x l=>exact⟨x,rfl⟩
theorem B8{left t n:Nat}(ht:t<n)(hb:left.testBit t=true):cnt (fun j=>left.testBit j) n=cnt (fun j=>(left^^^2^t).testBit j) n+1 :=
 vV (h:=t) hb ht fun x _=>by
  rw[Nat.testBit_xor,Nat.testBit_two_pow]
  by_cases e:x=t
  ·subst e;simp[hb]
  ·rw[decide_eq_false e,decide_eq_false (fun z=>e z.symm)]
   simp
theorem Ar(hm:m<2^N.n)(hb:m.testBit t0=true){acc:List (Nat×Int)}{v left:Nat}(h:Wk N m t0 acc v left):acc.length+cnt (fun j=>left.testBit j) N.n=cnt (fun j=>m.testBit j) N.n:=by
 induction h with
 | start =>
   have:=B8 (cS hm hb) hb;show 1+_=_
   lia
 | next h h0 ht ih =>
   have hm2:=jL.mp (List.mem_of_getElem? ht);have:=B8 hm2.1 hm2.2.1;rw[List.length_append,List.length_singleton]
   lia
end RM
namespace RM
variable {N:Net}{m t0:Nat}
def Net.D2(N:Net)(m:Nat):Prop:=∀ x,x<N.p->N.dg m x=0\/N.dg m x=2
theorem D2.gU(h:N.D2 m):N.fh m:=fun x hx=>by
 rw[JR];refine decide_eq_false ?_;rcases h x hx with e|e<;>lia
theorem Kd(C:Nat->Bool):∀ n,sm (fun x=>if C x=true then 2 else 0) n=2*cnt C n:=fun n=>by
 rw[iQ];have:sm (fun k=>if C k=true then 2 else 0) n=sm (fun k=>(if C k=true then 1 else 0)+(if C k=true then 1 else 0)) n:=fR fun k _=>by
  by_cases h:C k=true
  ·rw[if_pos h,if_pos h]
  ·rw[if_neg h,if_neg h]
 rw[this,sS]
 lia
theorem MG(hm:m<2^N.n)(r:N.Ring m):N.D2 m:=by
 obtain⟨k0,hk0,hb0,hall⟩:=qy hm r;generalize hs:N.aN (fun k=>m.testBit k) N.n (N.a k0)=s at hall
 have hC:∀ x,x<N.p->(fun x=>decide (N.aN (fun k=>m.testBit k) N.n x=s)) x=decide (N.aN (fun k=>m.testBit k) N.n x=s):=fun x _=>rfl
 obtain⟨h2,hl,GQ⟩:=BU (s:=s) hm r _ hC (fun k hk hb=>decide_eq_true (hall k hk hb))
 generalize hCC:(fun x=>decide (N.aN (fun k=>m.testBit k) N.n x=s))=C at hC h2 hl GQ
 have none:∀ x,x<N.p->C x=false->N.dg m x=0:=fun x hx hc=>by
  cases hz:N.dg m x with
  | zero=>rfl
  | succ d =>
    exfalso
    obtain⟨k,hk,hb,LN⟩:=rB (N:=N) (m:=m) (x:=x) (by lia)
    rw[hC x hx]at hc;refine of_decide_eq_false hc ?_;rcases LN with e|e
    ·rw[<-e];exact hall k hk hb
    ·rw[<-e,<-iK (S:=fun k=>m.testBit k) hk hb]
     exact hall k hk hb
 have pos:∀ x,x<N.p->C x=true->0<N.dg m x:=fun x hx hc=>by
  cases hz:N.dg m x with
  | succ d=>lia
  | zero =>
    exfalso
    obtain⟨y,hy,Nz,hne⟩:∃ y,y<N.p/\C y=true/\y≠x:=by
     obtain⟨c,d,h1,h3,h4,h5⟩:=o7 h2
     by_cases e:c=x
     ·exact⟨d,h3,h5,by lia⟩
     ·exact⟨c,by lia,h4,e⟩
    rw[hC x hx]at hc;rw[hC y hy]at Nz;exact hne (alone hz (bJ _ _ _ ((of_decide_eq_true hc).trans (of_decide_eq_true Nz).symm)))
 have hle:∀ x,x<N.p->(if C x=true then 2 else 0)<=N.dg m x:=fun x hx=>by
  by_cases hc:C x=true
  ·rw[if_pos hc];have h1:=pos x hx hc;have h3:=vj r.2.1 hx
   lia
  ·rw[if_neg hc];exact Nat.zero_le _
 have he:sm (fun x=>if C x=true then 2 else 0) N.p=sm (fun x=>N.dg m x) N.p:=by
  rw[Kd,Ao,hl]
 intro x hx;have:=JQ hle he x hx
 by_cases hc:C x=true
 ·rw[if_pos hc]at this;exact .inr this.symm
 ·rw[if_neg hc]at this;exact .inl this.symm
theorem MH(hb:m.testBit t0=true){acc:List (Nat×Int)}{v left:Nat}(h:Wk N m t0 acc v left):∀ k,left.testBit k=(m.testBit k && !decide (k∈acc.map (·.1))):=by
 induction h with
 | start =>
   intro k;rw[Nat.testBit_xor,Nat.testBit_two_pow]
   by_cases e:t0=k
   ·subst e;simp[hb]
   ·have e' : ¬ k=t0:=fun z=>e z.symm
    simp[e,e']
 | @next acc v left t h h0 ht ih =>
   intro k;have hm2:=jL.mp (List.mem_of_getElem? ht);have hin:=hm2.2.1;rw[ih t]at hin;rw[Nat.testBit_xor,Nat.testBit_two_pow,ih k,List.map_append]
   by_cases e:t=k
   ·subst e;rw[hin];simp
   ·have e' : ¬ k=t:=fun z=>e z.symm
    have e3:(k∈acc.map (·.1)++[(t,if N.a t=v then(1:Int) else -1)].map (·.1))↔k∈acc.map (·.1):=by simp[e']
    rw[show decide (k∈acc.map (·.1)++[(t,if N.a t=v then(1:Int) else -1)].map (·.1))=decide (k∈acc.map (·.1)) from decide_eq_decide.mpr e3]
    simp[e]
theorem Eb(hm:m<2^N.n)(hb:m.testBit t0=true){acc:List (Nat×Int)}{v left:Nat}(h:Wk N m t0 acc v left):left<2^N.n:=dR fun k hk=>by
 rw[MH hb h k,Bool.and_eq_true]at hk;exact cS hm hk.1
theorem Ke{left n:Nat}(hl:left<2^n):cnt (fun j=>left.testBit j) n=0↔left=0:=by
 constructor
 ·intro h;apply Classical.byContradiction;intro h0;obtain⟨j,hj⟩:=Nat.exists_testBit_of_ne_zero h0;have:=o6 (f:=fun j=>left.testBit j) hj (cS hl hj)
  lia
 ·rintro rfl;rw[iQ];refine(fR fun k _=>?_).trans (vg n)
  rw[if_neg (by rw[Nat.zero_testBit];simp)]
theorem MI(hm:m<2^N.n)(hb:m.testBit t0=true){acc:List (Nat×Int)}{v left:Nat}(h:Wk N m t0 acc v left):acc.length=cnt (fun j=>m.testBit j) N.n↔left=0:=by
 have:=Ar hm hb h;rw[<-Ke (Eb hm hb h)]
 lia
end RM
namespace Ring
open PySem L2
theorem sX{H:Hp}{xs:List V}{p:Nat}{ts:List dZ}{g:aF p ts}{k:Nat}(h3:Paired (TupAt H) xs ts)(hk:k<ts.length):∃ c,xs[k]?=some (.ref c)/\H c=some (.tup [.int (((ae p ts g).a k:Nat):Int),.int (((ae p ts g).b k:Nat):Int),.int (bM ts k).2.2]):=by
 have hkx:k<xs.length:=by rw[h3.length];exact hk
 obtain⟨t,ht,c,hc,hct⟩:=Paired.sI h3 (i:=k) (x:=xs[k]) (by simp[hkx])
 have RD:t=bM ts k:=by
  have z:=sQ hk;rw[ht]at z;exact Option.some.inj z
 refine⟨c,by rw[<-hc];simp[hkx],?_⟩
 rw[hct,<-FA hk,<-FD hk,RD];rfl
section
variable {α:Type}{f:α->Int}{l:List α}{H H2 H3:Hp}{D:Addr}{i:Nat}{k:α}{acc:List V}{v:V}
end
end Ring
namespace RM
variable {N:Net}{row:Nat->Int}
end RM
namespace Ring
open PySem L2
section
variable {H H2 H3:Hp}{D:Addr}{i:Nat}{acc:List V}
end
end Ring
namespace RM
variable {N:Net}{row:Nat->Int}
end RM
namespace RM
variable {N:Net}{row agr:Nat->Int}
theorem G4{m t0:Nat}(hm:m<2^N.n)(r:N.Ring m)(hb:m.testBit t0=true):∃ acc v,Wk N m t0 acc v 0:=by
 have key:∀(k:Nat) (acc:List (Nat×Int)) (v left:Nat),Wk N m t0 acc v left->cnt (fun j=>left.testBit j) N.n=k->∃ acc v,Wk N m t0 acc v 0:=by
  intro k
  induction k with
  | zero =>
    intro acc v left h e;have hl:=Ar hm hb h;rw[e]at hl;have h0:=(MI hm hb h).mp hl;subst h0;exact⟨acc,v,h⟩
  | succ k ih =>
    intro acc v left h e
    by_cases h0:left=0
    ·subst h0;exact⟨acc,v,h⟩
    ·obtain⟨t,ht⟩:=RC hm r hb h h0;have h':=Wk.next h h0 ht;have l1:=Ar hm hb h;have l2:=Ar hm hb h';rw[List.length_append]at l2;refine ih _ _ _ h' ?_;have e1:[((t:Nat),(if N.a t=v then(1:Int) else -1))].length=1:=rfl
     lia
 exact key _ _ _ _ .start rfl
variable {N' : Net}
end RM
namespace L2
open PySem PySem.Spec PyProof.Rows PySem.W
def x9(n:Nat){α:Type}(R:α->Prop):KasT α->Prop
 | .ret a=>R a
 | .ask i j k=>i<n/\j<n/\∀ b,x9 n R (k b)
theorem x9.bind{n:Nat}{α β:Type}{R:α->Prop}{R' : β->Prop}{f:α->KasT β}:∀{t:KasT α},x9 n R t->(∀ a,R a->x9 n R' (f a))->x9 n R' (t.bind f)
 | .ret a,h,g=>by
   rw[KasT.bind.eq_1];exact g a h
 | .ask i j k,h,g=>by
   rw[KasT.bind.eq_2];exact⟨h.1,h.2.1,fun b=>x9.bind (h.2.2 b) g⟩
def dD(n:Nat)(p:Array Nat):Prop:=p.toList.Perm (List.range n)
theorem dD.at{n:Nat}{p:Array Nat}(h:dD n p)(hn:0<n)(x:Nat):p.getD x 0<n:=by
 unfold Array.getD
 split
 ·rename_i hx
  have:p[x]∈p.toList:=by simp
  exact List.mem_range.mp (h.mem_iff.mp this)
 ·exact hn
theorem G5{n:Nat}{p:Array Nat}(h:dD n p)(i j:Nat):dD n (p.swapIfInBounds i j):=by
 unfold Array.swapIfInBounds
 split
 ·split
  ·exact(Array.perm_iff_toList_perm.mp (Array.swap_perm _ _)).trans h
  ·exact h
 ·exact h
theorem sY{n:Nat}(f g:Nat->Nat):∀(l:List Nat) {p:Array Nat},dD n p->dD n (l.foldl (fun a k=>a.swapIfInBounds (f k) (g k)) p)
 | [],_,h=>h
 | k::l,_,h=>sY f g l (G5 h (f k) (g k))
theorem nY{n:Nat}{p:Array Nat}(h:dD n p)(i j:Nat):dD n (kas_rev p i j):=sY _ _ _ h
theorem Kf{n:Nat}{p:Array Nat}(h:dD n p)(i j:Nat):dD n (bubble p i j):=sY _ _ _ h
theorem Ec{n:Nat}{p:Array Nat}(h:dD n p)(hn:0<n):∀ f x,x9 n (fun _=>True) (kas_asc p f x)
 | 0,x=>by
   rw[kas_asc.eq_1];trivial
 | f+1,x=>by
   rw[kas_asc.eq_2];refine⟨h.at hn _,h.at hn _,fun b=>?_⟩
   cases b with
   | true=>trivial
   | false=>exact Ec h hn f (x+1)
theorem vp{n:Nat}(hn:0<n):∀ f {p:Array Nat} (x q:Nat),dD n p->x9 n (fun r:Array Nat×Nat×Nat=>dD n r.1) (kas_desc f p x q)
 | 0,p,x,q,h=>by
   rw[kas_desc.eq_1];exact h
 | f+1,p,x,q,h=>by
   rw[kas_desc.eq_2];refine⟨h.at hn _,h.at hn _,fun b=>?_⟩
   cases b with
   | true =>
     show x9 n _ (if q > 0 then _ else _)
     by_cases hq:q > 0
     ·rw[if_pos hq];exact vp hn f _ _ (nY h _ _)
     ·rw[if_neg hq];exact vp hn f _ _ h
   | false =>
     refine⟨h.at hn _,h.at hn _,fun b=>?_⟩
     cases b with
     | true=>exact h
     | false=>exact vp hn f _ _ h
theorem FQ{n:Nat}(hn:0<n){p:Array Nat}(h:dD n p)(x r:Nat):x9 n (fun r:Nat×Array Nat=>dD n r.2) (kas_tail3 x r p) :=
 x9.bind (Ec (nY h _ _) hn _ _) fun _ _=>nY h _ _
theorem FT{n:Nat}(hn:0<n){p:Array Nat}(h:dD n p)(x r:Nat):x9 n (fun r:Nat×Array Nat=>dD n r.2) (kas_descPart x r p):=by
 refine x9.bind (vp hn _ _ _ h) fun y hy=>?_
 by_cases hq:y.2.2 > 0
 ·rw[if_pos hq];exact FQ hn (nY hy _ _) _ _
 ·rw[if_neg hq];exact FQ hn hy _ _
theorem Kg{n:Nat}(hn:0<n){p:Array Nat}(h:dD n p)(r:Nat):x9 n (fun r:Nat×Array Nat=>dD n r.2) (kas_count r p):=by
 refine x9.bind (Ec h hn _ _) fun y _=>?_
 by_cases h1:(y==r)=true
 ·rw[if_pos h1];exact h
 ·rw[if_neg h1]
  by_cases h2:y > 1
  ·rw[if_pos h2];refine⟨h.at hn _,h.at hn _,fun b=>?_⟩
   cases b with
   | true=>exact h
   | false=>exact FT hn (nY h _ _) _ _
  ·rw[if_neg h2];exact FT hn h _ _
theorem wC{n:Nat}(hn:0<n){p:Array Nat}(h:dD n p)(k:Nat):∀ f x y,x9 n (fun _=>True) (kas_place p k f x y)
 | 0,x,y=>by
   rw[kas_place.eq_1];trivial
 | f+1,x,y=>by
   rw[kas_place.eq_2]
   by_cases hx:x ≥ y
   ·rw[if_pos hx];trivial
   ·rw[if_neg hx];refine⟨h.at hn _,h.at hn _,fun b=>?_⟩
    cases b with
    | true=>exact wC hn h k f _ _
    | false=>exact wC hn h k f _ _
theorem Kh{n:Nat}(hn:0<n):∀ f {p:Array Nat} (x:Nat),dD n p->x9 n (dD n) (kas_bin f p x)
 | 0,p,x,h=>by
   rw[kas_bin.eq_1];exact h
 | f+1,p,x,h=>by
   rw[kas_bin.eq_2];exact x9.bind (wC hn h _ _ _ _) fun l _=>Kh hn f _ (Kf h _ _)
theorem MJ{n:Nat}(hn:0<n):x9 n (dD n) (kas_sort n):=by
 unfold kas_sort;have h0:dD n (List.range n).toArray:=by unfold dD;simp
 refine x9.bind (Kg hn h0 n) fun r hr=>?_
 by_cases hx:r.1<n
 ·rw[if_pos hx];exact Kh hn _ _ hr
 ·rw[if_neg hx];exact hr
def NC(h:Heap)(v:Value):Prop:=∃(a:Addr) (o:Obj) (x y:Int) (t u:Tok) (k:Nat),v = .ref a/\h.get? a=some o/\o.cls = .type "tuple"/\o.data = .seq #[.int x t,.int y u] k
theorem G6{prog:Program}{w:World}{A:Around}{E:Value->Shared->Prop}{s:Shared}{vs:List Value}{Q:SortKind->Shared->Prop}(hn:0<vs.length)(hv:∀ v∈vs,NC s.heap v)(q:Q (tuples' true) s):wpAny (model prog w) A (keyKind' vs.toArray) Q E s:=by
 obtain⟨fs,hl,hf,hk⟩:∃ fs:List Value,fs.length=vs.length/\(∀ v∈fs,∃ x t,v=Value.int x t)/\KatTups s.heap vs fs:=by
  clear q hn
  induction vs with
  | nil=>exact⟨[],rfl,fun v hv=>(by cases hv),by rw[KatTups.eq_1];trivial⟩
  | cons v vs ih =>
    obtain⟨fs,h1,h2,h3⟩:=ih fun v Kl=>hv v (List.mem_cons_of_mem _ Kl)
    obtain⟨a,o,x,y,t,u,k,e,ho,hc,hd⟩:=hv v List.mem_cons_self;refine⟨.int x t::fs,by simp[h1],fun v' Kl=>?_,?_⟩
    ·rcases List.mem_cons.mp Kl with rfl|Kl
     ·exact⟨x,t,rfl⟩
     ·exact h2 v' Kl
    ·rw[KatTups.eq_2];exact⟨⟨a,o,_,k,e,ho,hc,hd,rfl⟩,h3⟩
 refine kat_kind (T:=.type "int") hk (by lia) (fun v hv=>?_) (by decide) q
 obtain⟨x,t,rfl⟩:=hf v hv;intro A Q E s _ q;exact wpAny_pure q
section
variable {X:Cx}{pins:List (Addr×Obj)}{σ:St}{H:Hp}{s:Shared}{h' : Heap}
end
section
variable {X:Cx}{pins:List (Addr×Obj)}{σ:St}{H:Hp}{s:Shared}
end
section
variable {X:Cx}
end
end L2
namespace RM
variable {N:Net}{row:Nat->Int}
end RM
namespace RM
variable {N:Net}{row:Nat->Int}
end RM
namespace RM
variable {N:Net}{m t0:Nat}
end RM
namespace RM
variable {N N' : Net}
end RM
namespace Ring
open PySem L2
end Ring
namespace RM
variable {N:Net}
end RM
namespace RM
variable {N:Net}
section
variable {gU left v:Nat}{pre ks:List Nat}
end
section
variable {m left:Nat}{rs:List Nat}
end
end RM
namespace RM
variable {N:Net}
theorem OY{m x0:Nat}(hm:m<2^N.n)(d2:N.D2 m)(G7:x0<N.p)(hd0:N.dg m x0=2):
 N.Ring m↔∀ x,x<N.p->(N.aN (fun k=>m.testBit k) N.n x=N.aN (fun k=>m.testBit k) N.n x0↔N.dg m x=2):=by
 constructor
 ·intro r x hx;obtain⟨k0,hk0,hb0,hall⟩:=qy hm r;have on:∀ y,y<N.p->N.dg m y=2->N.aN (fun k=>m.testBit k) N.n y=N.aN (fun k=>m.testBit k) N.n (N.a k0):=fun y hy hd=>by
   obtain⟨k,hk,hb,LN⟩:=rB (N:=N) (m:=m) (x:=y) (by lia)
   rw[<-hall k hk hb];rcases LN with e|e
   ·rw[e]
   ·rw[<-e];exact(iK (S:=fun k=>m.testBit k) hk hb).symm
  constructor
  ·intro e;rcases d2 x hx with z|z
   ·exfalso
    have:=alone z (bJ _ _ _ e);rw[this]at hd0
    lia
   ·exact z
  ·intro hd;rw[on x hx hd,on x0 G7 hd0]
 ·intro h;have hpos:∀ k,k<N.n->m.testBit k=true->N.aN (fun k=>m.testBit k) N.n (N.a k)=N.aN (fun k=>m.testBit k) N.n x0:=fun k hk hb=>by
   refine(h _ (N.al k hk)).mpr ?_;have h1:=wm hk hb (.inl rfl);rcases d2 _ (N.al k hk) with z|z
   ·lia
   ·exact z
  have hs:sm (fun x=>N.dg m x) N.p=2*cnt (fun x=>decide (N.aN (fun k=>m.testBit k) N.n x=N.aN (fun k=>m.testBit k) N.n x0)) N.p:=by
   rw[<-Kd];refine fR fun x hx=>?_
   by_cases e:N.aN (fun k=>m.testBit k) N.n x=N.aN (fun k=>m.testBit k) N.n x0
   ·rw[if_pos (decide_eq_true e)];exact(h x hx).mp e
   ·rw[if_neg (by rw[decide_eq_false e];decide)]
    rcases d2 x hx with z|z
    ·exact z
    ·exact absurd ((h x hx).mpr z) e
  have hl:cnt (fun x=>decide (N.aN (fun k=>m.testBit k) N.n x=N.aN (fun k=>m.testBit k) N.n x0)) N.p=cnt (fun k=>m.testBit k) N.n:=by
   rw[Ao]at hs
   lia
  refine FJ hm (D2.gU d2) (fun x=>decide (N.aN (fun k=>m.testBit k) N.n x=N.aN (fun k=>m.testBit k) N.n x0)) (fun x _=>rfl) ?_ (fun k hk hb=>decide_eq_true (hpos k hk hb)) hl
  rw[hl];have:N.dg m x0<=cnt (fun k=>m.testBit k) N.n:=D0 fun k _ hk=>(Bool.and_eq_true_iff.mp hk).1
  lia
end RM
namespace RM
inductive Sp(B:List Nat):Nat->Prop
 | zero:Sp B 0
 | add {x b:Nat} (h:Sp B x) (hb:b∈B):Sp B (x^^^b)
section
variable {B C:List Nat}{x y b:Nat}
theorem Sp.mem(h:b∈B):Sp B b:=by
 have:=Sp.add .zero h;rw[Nat.zero_xor]at this;exact this
theorem Sp.xor(h:Sp B x)(h' : Sp B y):Sp B (x^^^y):=by
 induction h' with
 | zero=>rw[Nat.xor_zero];exact h
 | add _ hb ih=>rw[<-Nat.xor_assoc];exact .add ih hb
theorem Sp.mono(h:Sp B x)(hc:∀ b∈B,Sp C b):Sp C x:=by
 induction h with
 | zero=>exact .zero
 | add _ hb ih=>exact ih.xor (hc _ hb)
theorem kW(x b:Nat):x^^^b^^^b=x:=by rw[Nat.xor_assoc,Nat.xor_self,Nat.xor_zero]
theorem Sp.nZ:Sp (b::B) x↔Sp B x\/Sp B (x^^^b):=by
 constructor
 ·intro h
  induction h with
  | zero=>exact .inl .zero
  | add h hc ih =>
    rename_i x c
    rcases List.mem_cons.mp hc with e|e
    ·subst e;rcases ih with ih|ih
     ·exact .inr (by rw[kW];exact ih)
     ·exact .inl ih
    ·rcases ih with ih|ih
     ·exact .inl (.add ih e)
     ·exact .inr (by rw[Nat.xor_assoc,Nat.xor_comm c,<-Nat.xor_assoc];exact .add ih e)
 ·rintro(h|h)
  ·exact h.mono fun c hc=>.mem (List.mem_cons_of_mem _ hc)
  ·have h2:Sp (b::B) (x^^^b):=h.mono fun c hc=>.mem (List.mem_cons_of_mem _ hc)
   have:=h2.add (b:=b) List.mem_cons_self;rw[kW]at this;exact this
theorem Sp.off{t:Nat}(h:Sp B x)(hz:∀ b∈B,b.testBit t=false):x.testBit t=false:=by
 induction h with
 | zero=>exact Nat.zero_testBit t
 | add _ hb ih=>rw[Nat.testBit_xor,ih,hz _ hb];rfl
theorem Sp.lt{n:Nat}(h:Sp B x)(hz:∀ b∈B,b<2^n):x<2^n:=by
 induction h with
 | zero=>exact Nat.two_pow_pos n
 | add _ hb ih=>exact Nat.xor_lt_two_pow ih (hz _ hb)
end
inductive ND:List (Nat×Nat)->Prop
 | nil:ND []
 | cons {t r:Nat} {rest:List (Nat×Nat)} (h:ND rest) (hr:r.testBit t=true) (hz:∀ q∈rest,q.2.testBit t=false):ND ((t,r)::rest)
def B9(rows:List (Nat×Nat))(x:Nat):Nat:=rows.foldl (fun x q=>if x.testBit q.1=true then x^^^q.2 else x) x
section
variable {rows:List (Nat×Nat)}{x t:Nat}
theorem FU(rows:List (Nat×Nat)):∀ x,Sp (rows.map (·.2)) (x^^^B9 rows x):=by
 induction rows with
 | nil=>intro x;show Sp [] (x^^^x);rw[Nat.xor_self];exact .zero
 | cons q rest ih =>
   intro x;show Sp (q.2::rest.map (·.2)) (x^^^B9 rest (if x.testBit q.1=true then x^^^q.2 else x))
   have h:=ih (if x.testBit q.1=true then x^^^q.2 else x)
   by_cases e:x.testBit q.1=true
   ·rw[if_pos e]at h ⊢;refine Sp.nZ.mpr (.inr ?_);rw[Nat.xor_assoc,Nat.xor_comm _ q.2,<-Nat.xor_assoc];exact h
   ·rw[if_neg e]at h ⊢;exact Sp.nZ.mpr (.inl h)
theorem G8(hz:∀ q∈rows,q.2.testBit t=false):∀{x},x.testBit t=false->(B9 rows x).testBit t=false:=by
 induction rows with
 | nil=>intro x h;exact h
 | cons q rest ih =>
   intro x h;have h2:(if x.testBit q.1=true then x^^^q.2 else x).testBit t=false:=by
    by_cases e:x.testBit q.1=true
    ·rw[if_pos e,Nat.testBit_xor,h,hz q List.mem_cons_self];rfl
    ·rw[if_neg e];exact h
   exact ih (fun q' hq=>hz q' (List.mem_cons_of_mem _ hq)) h2
theorem zf(h:ND rows):∀ x,∀ q∈rows,(B9 rows x).testBit q.1=false:=by
 induction h with
 | nil=>intro x q hq;cases hq
 | cons h hr hz ih =>
   rename_i t r rest
   intro x q hq;show(B9 rest (if x.testBit t=true then x^^^r else x)).testBit q.1=false
   rcases List.mem_cons.mp hq with e|e
   ·subst e;refine G8 hz ?_
    by_cases e:x.testBit t=true
    ·rw[if_pos e,Nat.testBit_xor,e,hr];rfl
    ·rw[if_neg e];exact Bool.eq_false_iff.mpr e
   ·exact ih _ q e
theorem Km(h:ND rows):∀{x},Sp (rows.map (·.2)) x->(∀ q∈rows,x.testBit q.1=false)->x=0:=by
 induction h with
 | nil=>intro x hs _;cases hs with
   | zero=>rfl
   | add _ hb=>cases hb
 | cons h hr hz ih =>
   rename_i t r rest
   intro x hs hx;have off:∀ y,Sp (rest.map (·.2)) y->y.testBit t=false:=fun y hy=>hy.off fun b hb=>by
    obtain⟨q,hq,rfl⟩:=List.mem_map.mp hb;exact hz q hq
   rcases Sp.nZ.mp hs with hs|hs
   ·exact ih hs fun q hq=>hx q (List.mem_cons_of_mem _ hq)
   ·exfalso
    have h1:=off _ hs;have h2:=hx (t,r) List.mem_cons_self;rw[Nat.testBit_xor]at h1;have h2:x.testBit t=false:=h2;rw[h2,hr]at h1;cases h1
theorem G9(h:ND rows)(x:Nat):B9 rows x=0↔Sp (rows.map (·.2)) x:=by
 have hs:=FU rows x
 constructor
 ·intro e;rw[e,Nat.xor_zero]at hs;exact hs
 ·intro hx;refine Km h ?_ (zf h x);have:=hx.xor hs;rw[<-Nat.xor_assoc,Nat.xor_self,Nat.zero_xor]at this;exact this
end
open Classical in
open Classical in
theorem MK{x:Nat}(h:x≠0):x.testBit x.log2=true:=Nat.testBit_log2 h
end RM
namespace RM
open Ring (xorL xorL_cons maskOf)
variable {N:Net}
theorem Hf:N.bx.Nodup:=List.Pairwise.filter _ List.nodup_range
theorem o9{c:Nat}(hc:c<N.n)(hf:N.nV c=false):N.Ring (N.ring c):=by
 refine⟨fun z=>?_,o4 hc,fun q hq ev=>?_⟩
 ·have h:=vU hf;rw[z]at h;simp at h
 ·have hqn:q<2^N.n:=dR fun k hk=>cS (o5 hc) (hq k hk)
  cases qc:q.testBit c with
  | true =>
    refine .inr (JL hqn (o5 hc) ev (o4 hc) fun d hd hfd=>?_)
    rw[qx hf hfd]
    by_cases e:c=d
    ·subst e;simp[qc]
    ·rw[decide_eq_false e];cases qd:q.testBit d with
     | false=>rfl
     | true =>
       have:=hq d qd;rw[qx hf hfd,decide_eq_false e]at this;cases this
  | false =>
    refine .inl (gM (fun k hk=>?_) ev)
    rcases nW (hq k hk) with e|e
    ·subst e;rw[qc]at hk;cases hk
    ·exact e
end RM
namespace L2
open PySem PySem.Spec PyProof.Rows
section
variable {X:Cx}
theorem FW:∀{bs:List Bool} {its:List Value},Vals (bs.map V.bl) its->its=bs.map Value.bool
 | [],_,.nil=>rfl
 | b::bs,_,.cons r rr=>by
   cases r;rw[FW rr];rfl
theorem Ed:∀ bs:List Bool,((List.range bs.length).all fun i=>(bs[i]?).getD true)=bs.all id:=fun bs=>by
 rw[Bool.eq_iff_iff,List.all_eq_true,List.all_eq_true]
 constructor
 ·intro h b hb;obtain⟨i,hi,e⟩:=List.getElem_of_mem hb;have:=h i (List.mem_range.mpr hi);rw[List.getElem?_eq_getElem hi,e]at this;exact this
 ·intro h i hi;have hi:=List.mem_range.mp hi;rw[List.getElem?_eq_getElem hi];exact h _ (List.getElem_mem hi)
theorem Wg(K:PySem.W.Frag)(hc:X.calm=true)(hK:X.K=K:=by rfl):gW X (.builtin "all") (fun xs H Q=>∃(p:Addr) (bs:List Bool),xs=[.ref p]/\aS K H p (bs.map V.bl)/\Q (.bl (bs.all id)) H):=by
 subst hK;intro pins s σ H xs us Q I r h;obtain⟨p,bs,rfl,hq,q⟩:=h;obtain⟨u,rfl,rx⟩:=vals1 r;cases rx;obtain⟨its,rv,pl,hz⟩:=I.list hq;obtain rfl:=FW rv;have lt:p<s.heap.objs.size:=by obtain⟨_,e,_⟩:=pl.isList;exact Heap.lt_size e
 refine call_all_walk (wpAny_pyIter_list pl.isList ⟨_,[_,p],[_],_,_,_,fun i=>(bs[i]?).getD true,rfl,Walks.list (A:=X.A.in1) (I.ok.hd hc) _ p (Nat.ne_of_lt lt) _,
  ⟨⟨_,Heap.get?_push_size _ rfl,rfl,rfl⟩,pl.isList.push _⟩,fun i v s' Q' E' hP hQ=>?_,fun h' tk hk=>?_⟩)
 ·have hP:(bs.map Value.bool)[i]?=some v:=by simpa using hP
  rw[List.getElem?_map]at hP;obtain⟨b,e,rfl⟩:=Option.map_eq_some_iff.mp hP;simp only[e,Option.getD_some]at hQ;exact wpAny_truthy_bool hQ
 ·have z:(bs.map Value.bool).toArray.size=bs.length:=by simp
  rw[z,Ed];refine⟨.bl _,H,I.kept fun b o e=>hk b o (fun hm=>?_) (Heap.get?_push_of_some _ e),rfl,q⟩
  rw[List.mem_singleton.mp hm]at e;exact Nat.lt_irrefl _ (Heap.lt_size e)
end
section
variable {X:Cx}{tg:Expr}
end
section
variable {X:Cx}
end
end L2
namespace RM
def lsum(L:Nat->Int)(f:Nat->Bool):Nat->Int
 | 0=>0
 | n+1=>lsum L f n+(if f n=true then L n else 0)
section
variable {L:Nat->Int}
theorem qz{f g:Nat->Bool}:∀{n:Nat},(∀ k,k<n->f k=g k)->lsum L f n=lsum L g n
 | 0,_=>rfl
 | n+1,h=>by
   unfold lsum;rw[qz fun k hk=>h k (by lia),h n (by lia)]
theorem sZ{f:Nat->Bool}:∀{n:Nat},(∀ k,k<n->f k=false)->lsum L f n=0
 | 0,_=>rfl
 | n+1,h=>by
   unfold lsum;rw[sZ fun k hk=>h k (by lia),h n (by lia)]
   simp
theorem Ca{f:Nat->Bool}{a:Nat}:∀{n:Nat},a<n->(∀ k,k<n->f k=decide (k=a))->lsum L f n=L a
 | 0,h,_=>by lia
 | n+1,ha,h=>by
   unfold lsum
   by_cases e:a=n
   ·subst e;rw[sZ fun k hk=>by rw[h k (by lia)];exact decide_eq_false (by lia),h a (by lia),decide_eq_true rfl]
    simp
   ·rw[Ca (show a<n by lia) fun k hk=>h k (by lia),h n (by lia),decide_eq_false (by lia)]
    simp
theorem tu{f g:Nat->Bool}:∀{n:Nat},(∀ k,k<n->0<=L k)->(∀ k,k<n->f k=true->g k=true)->lsum L f n<=lsum L g n
 | 0,_,_=>Int.le_refl _
 | n+1,hL,h=>by
   unfold lsum;have ih:=tu (n:=n) (fun k hk=>hL k (by lia)) fun k hk=>h k (by lia)
   have h0:=hL n (by lia)
   have hn:=h n (by lia)
   cases hf:f n with
   | false=>cases g n<;>simp<;>lia
   | true=>rw[hn hf];simp;lia
theorem Cb{f g:Nat->Bool}:∀{n:Nat},(∀ k,k<n->0<=L k)->lsum L (fun k=>f k^^g k) n<=lsum L f n+lsum L g n
 | 0,_=>Int.le_refl _
 | n+1,hL=>by
   unfold lsum;have ih:=Cb (f:=f) (g:=g) (n:=n) fun k hk=>hL k (by lia)
   have h0:=hL n (by lia)
   cases f n<;>cases g n<;>simp<;>lia
theorem wF{f g:Nat->Bool}:∀{n:Nat},(∀ k,k<n->f k=true->g k=false)->lsum L (fun k=>f k^^g k) n=lsum L f n+lsum L g n
 | 0,_=>rfl
 | n+1,h=>by
   unfold lsum;rw[wF (f:=f) (g:=g) (n:=n) fun k hk=>h k (by lia)]
   have hn:=h n (by lia)
   cases hf:f n with
   | false=>cases g n<;>simp<;>lia
   | true=>rw[hn hf];simp;lia
theorem wG{k n:Nat}(h:k<n):lsum L (fun j=>(2^k).testBit j) n=L k:=Ca h fun j _=>by
 rw[Nat.testBit_two_pow];exact decide_eq_decide.mpr eq_comm
end
theorem qA{m n k:Nat}(h:m<2^n)(hb:m.testBit k=true):k<n:=by
 apply Classical.byContradiction;intro hk;rw[Nat.testBit_lt_two_pow (Nat.lt_of_lt_of_le h (Nat.pow_le_pow_right (by decide) (by lia)))]at hb
 cases hb
def cd(x:Nat)(s:Bool):Nat:=2*x+s.toNat
def Jn(N:Net)(k v w:Nat):Prop:=(N.a k=v/\N.b k=w)\/(N.b k=v/\N.a k=w)
theorem Jn.lt{N:Net}{k v w:Nat}(hk:k<N.n)(h:Jn N k v w):w<N.p:=by
 rcases h with⟨_,rfl⟩|⟨_,rfl⟩
 ·exact N.bl k hk
 ·exact N.al k hk
inductive Wl(N:Net)(L:Nat->Int)(m u:Nat):List Nat->Nat->Bool->Int->Nat->Prop
 | nil:Wl N L m u [] u false 0 0
 | go {pre:List Nat} {v w k e:Nat} {s:Bool} {z:Int} (h:Wl N L m u pre v s z e) (hk:k<N.n) (hj:Jn N k v w):Wl N L m u (pre++[cd v s]) w (s^^m.testBit k) (z+L k) (e^^^2^k)
def Wy(N:Net)(L:Nat->Int)(m u x:Nat)(s:Bool)(z:Int):Prop:=∃ pre e,Wl N L m u pre x s z e
section
variable {N:Net}{L:Nat->Int}{m u:Nat}
theorem rE(hL:∀ k,k<N.n->0<=L k)(hu:u<N.p){pre:List Nat}{v e:Nat}{s:Bool}{z:Int}(h:Wl N L m u pre v s z e):
 v<N.p/\e<2^N.n/\(∀ x,N.bd e x=(decide (u=x)^^decide (v=x)))/\N.par e m=s/\lsum L (fun k=>e.testBit k) N.n<=z/\0<=z:=by
 induction h with
 | nil =>
   refine⟨hu,Nat.two_pow_pos _,fun x=>?_,kU m,?_,Int.le_refl _⟩
   ·rw[oZ];cases decide (u=x)<;>rfl
   ·rw[sZ fun k _=>Nat.zero_testBit k]
    exact Int.le_refl _
 | @go pre v w k e s z h hk hj ih =>
   obtain⟨i1,i2,i3,i4,i5,i6⟩:=ih;have h0:=hL k hk;refine⟨hj.lt hk,Nat.xor_lt_two_pow i2 (Nat.pow_lt_pow_right (by decide) hk),fun x=>?_,?_,?_,by lia⟩
   ·rw[g7,i3,nU hk];unfold Net.inc;rcases hj with⟨rfl,rfl⟩|⟨rfl,rfl⟩
    ·cases decide (u=x)<;>cases decide (N.a k=x)<;>cases decide (N.b k=x)<;>rfl
    ·cases decide (u=x)<;>cases decide (N.a k=x)<;>cases decide (N.b k=x)<;>rfl
   ·rw[o8,i4,FL hk]
   ·have:=Cb (L:=L) (f:=fun j=>e.testBit j) (g:=fun j=>(2^k).testBit j) hL
    rw[wG hk]at this;rw[qz (g:=fun j=>e.testBit j^^(2^k).testBit j) fun j _=>Nat.testBit_xor ..]
    lia
def Hg(N:Net)(L:Nat->Int)(m u x:Nat)(s:Bool):Option Int->Prop
 | none=>∀ z,¬ Wy N L m u x s z
 | some d=>Wy N L m u x s d/\∀ z,Wy N L m u x s z->d<=z
theorem n5(hL:∀ k,k<N.n->0<=L k)(m:Nat){r:Nat}(hr:N.Ring r)(hm:r<2^N.n):∃ x,x<N.p/\Wy N L m x x (N.par r m) (lsum L (fun k=>r.testBit k) N.n):=by
 obtain⟨t0,hb⟩:∃ t0,r.testBit t0=true:=by
  apply Classical.byContradiction;intro h;exact hr.1 (Nat.eq_of_testBit_eq fun i=>by
   rw[Nat.zero_testBit];cases e:r.testBit i with
   | false=>rfl
   | true=>exact absurd ⟨i,e⟩ h)
 have Ue:t0<N.n:=qA hm hb;obtain⟨acc,v,w⟩:=G4 hm hr hb;have key:∀{acc v left},Wk N r t0 acc v left->(∀ k,left.testBit k=true->r.testBit k=true)/\∃ pre s,Wl N L m (N.a t0) pre v s (lsum L (fun k=>(r^^^left).testBit k) N.n) (r^^^left):=by
  intro acc v left w
  induction w with
  | start =>
    have e:r^^^(r^^^2^t0)=2^t0:=by rw[<-Nat.xor_assoc,Nat.xor_self,Nat.zero_xor]
    refine⟨fun k hk=>?_,[]++[cd (N.a t0) false],false^^m.testBit t0,?_⟩
    ·rw[Nat.testBit_xor,Nat.testBit_two_pow]at hk
     by_cases e:t0=k
     ·rw[<-e];exact hb
     ·rw[decide_eq_false e,Bool.xor_false]at hk;exact hk
    ·rw[e,wG Ue];have:=Wl.go (m:=m) (L:=L) (.nil (u:=N.a t0)) Ue (.inl ⟨rfl,rfl⟩)
     rwa [Int.zero_add,Nat.zero_xor]at this
  | @next acc v left t w h0 ht ih =>
    obtain⟨sub,pre,s,wl⟩:=ih;have hm2:=jL.mp (List.mem_of_getElem? ht);have htr:=sub t hm2.2.1;have Qe:=qA hm htr;refine⟨fun k hk=>?_,pre++[cd v s],s^^m.testBit t,?_⟩
    ·rw[Nat.testBit_xor,Nat.testBit_two_pow]at hk
     by_cases e:t=k
     ·rw[<-e];exact htr
     ·rw[decide_eq_false e,Bool.xor_false]at hk;exact sub k hk
    ·have e:r^^^(left^^^2^t)=r^^^left^^^2^t:=by rw[Nat.xor_assoc]
     have hs:lsum L (fun k=>(r^^^left^^^2^t).testBit k) N.n=lsum L (fun k=>(r^^^left).testBit k) N.n+L t:=by
      rw[qz (g:=fun j=>(r^^^left).testBit j^^(2^t).testBit j) fun j _=>Nat.testBit_xor ..,wF,wG Qe]
      intro k _ hk;rw[Nat.testBit_two_pow];refine decide_eq_false fun e=>?_
      subst e;rw[Nat.testBit_xor,htr,hm2.2.1]at hk;cases hk
     rw[e,hs];exact wl.go Qe (B7 hm2.2.2)
 obtain⟨_,pre,s,wl⟩:=key w;rw[Nat.xor_zero]at wl;have f:=rE hL (N.al t0 Ue) wl;have hv:N.a t0=v:=by
  have:=f.2.2.1 v;rw[hr.2.1 v f.1,decide_eq_true (rfl:v=v)]at this;cases h:decide (N.a t0=v) with
  | true=>exact of_decide_eq_true h
  | false=>rw[h]at this;cases this
 refine⟨N.a t0,N.al t0 Ue,pre,r,?_⟩;have hs:=f.2.2.2.1;rw[hs];rw[<-hv]at wl;exact wl
theorem Ef{m:Nat}:∀(c e:Nat),cnt (fun k=>e.testBit k) N.n=c->e<2^N.n->N.fh e->N.par e m=true->∃ r,N.Ring r/\(∀ k,r.testBit k=true->e.testBit k=true)/\N.par r m=true:=by
 intro c
 induction c using Nat.strongRecOn with
 | _ c ih =>
   intro e hc he ev hp
   by_cases hr:N.Ring e
   ·exact⟨e,hr,fun _ h=>h,hp⟩
   have h0:e≠0:=fun z=>by rw[z,kU]at hp;cases hp
   obtain⟨q,hq,Qf,q0,qe⟩:∃ q,(∀ k,q.testBit k=true->e.testBit k=true)/\N.fh q/\q≠0/\q≠e:=by
    apply Classical.byContradiction;intro h;refine hr ⟨h0,ev,fun q hq Qf=>?_⟩
    apply Classical.byContradiction;intro h2;exact h ⟨q,hq,Qf,fun z=>h2 (.inl z),fun z=>h2 (.inr z)⟩
   have small:∀ q,(∀ k,q.testBit k=true->e.testBit k=true)->q≠e->cnt (fun k=>q.testBit k) N.n<c:=by
    intro q hq qe;have h1:=D0 (f:=fun k=>q.testBit k) (g:=fun k=>e.testBit k) (n:=N.n) fun k _ h=>hq k h
    have h2:cnt (fun k=>q.testBit k) N.n≠cnt (fun k=>e.testBit k) N.n:=fun h=>qe (Nat.eq_of_testBit_eq fun k=>by
     by_cases hk:k<N.n
     ·have:=BS (f:=fun k=>q.testBit k) (g:=fun k=>e.testBit k) (fun k _ h=>hq k h) h k hk
      cases h3:e.testBit k with
      | true=>exact this h3
      | false=>cases h4:q.testBit k with
        | false=>rfl
        | true=>rw[hq k h4]at h3;cases h3
     ·cases h3:e.testBit k with
      | true=>exact absurd (qA he h3) hk
      | false=>cases h4:q.testBit k with
        | false=>rfl
        | true=>rw[hq k h4]at h3;cases h3)
    lia
   have lt:∀ q,(∀ k,q.testBit k=true->e.testBit k=true)->q<2^N.n:=fun q hq=>dR fun k hk=>qA he (hq k hk)
   have hq2:∀ k,(e^^^q).testBit k=true->e.testBit k=true:=fun k hk=>by
    rw[Nat.testBit_xor]at hk;cases h3:e.testBit k with
    | true=>rfl
    | false =>
      cases h4:q.testBit k with
      | false=>rw[h3,h4]at hk;cases hk
      | true=>rw[hq k h4]at h3;cases h3
   have fin:∀ q,(∀ k,q.testBit k=true->e.testBit k=true)->q≠e->N.fh q->N.par q m=true->∃ r,N.Ring r/\(∀ k,r.testBit k=true->e.testBit k=true)/\N.par r m=true:=by
    intro q hq qe Qf hpq;obtain⟨r,h1,h2,h3⟩:=ih _ (small q hq qe) q rfl (lt q hq) Qf hpq;exact⟨r,h1,fun k hk=>hq k (h2 k hk),h3⟩
   cases hpq:N.par q m with
   | true=>exact fin q hq qe Qf hpq
   | false =>
     refine fin (e^^^q) hq2 (fun z=>q0 ?_) (fh.xor ev Qf) (by rw[o8,hp,hpq];rfl)
     have:e^^^(e^^^q)=e^^^e:=by rw[z]
     rwa [<-Nat.xor_assoc,Nat.xor_self,Nat.zero_xor]at this
end
end RM
namespace Ring
open PySem L2
def bz(ts:List dZ)(k:Nat):Int:=(bM ts k).2.2
theorem zg(ts:List dZ)(f:Nat->Bool):∀ n,GN ts f n=RM.lsum (bz ts) f n
 | 0=>rfl
 | n+1=>by
   show GN ts f n+_=RM.lsum (bz ts) f n+_;rw[zg ts f n];rfl
theorem Eg{ts:List dZ}{m:Nat}(hm:m<2^ts.length):lenOf ts m=RM.lsum (bz ts) (fun k=>m.testBit k) ts.length:=by
 rw[GO hm,zg]
theorem tw{p:Nat}{ts:List dZ}(g:aF p ts):∀ k,k<(ae p ts g).n->0<=bz ts k:=fun k hk=>by
 have:=(g.Al _ (gr hk)).l0;unfold bz
 lia
structure Eh(H0:Hp)(D:Addr)(es:List Addr)(F:Nat->Bool->Option Int)(H:Hp):Prop where
 same:av H0 H
 nd:es.Nodup
 ne:D∉es
 fr:∀ b∈es,H0 b=none
 Dn:H0 D=none
 lst:H D=some (.lst (es.map V.ref))
 at_:∀ i b,es[i]?=some b->H b=some (.lst [oV (F i false),oV (F i true)])
theorem Eh.go{H0 H H' : Hp}{D:Addr}{es:List Addr}{F:Nat->Bool->Option Int}(h:Eh H0 D es F H)(s:av H H'):Eh H0 D es F H' :=
 ⟨h.same.trans s,h.nd,h.ne,h.fr,h.Dn,s _ _ h.lst,fun i b e=>s _ _ (h.at_ i b e)⟩
theorem Eh.off{H0 H:Hp}{D L:Addr}{es:List Addr}{F:Nat->Bool->Option Int}(h:Eh H0 D es F H)(hL:H L=none):L∉es:=fun z=>by
 obtain⟨j,hj⟩:=List.getElem?_of_mem z;have:=h.at_ j L hj;rw[hL]at this;cases this
def Cc(H0:Hp)(D:Addr)(i:Nat)(acc:List V)(H:Hp):Prop:=∃ es,acc=es.map V.ref/\es.length=i/\Eh H0 D es (fun _ _=>none) H
theorem Cc.start{H0:Hp}{D:Addr}(hD:H0 D=none):Cc H0 D 0 [] (upd H0 D (.lst [])) :=
 ⟨[],rfl,rfl,av.new hD,List.nodup_nil,List.not_mem_nil,fun _ h=>(List.not_mem_nil h).elim,hD,ah,fun i b e=>by cases e⟩
theorem Cc.len{H0 H:Hp}{D:Addr}{i:Nat}{acc:List V}(h:Cc H0 D i acc H):H D=some (.lst acc)/\acc.length<=i:=by
 obtain⟨es,rfl,e,r⟩:=h;exact⟨r.lst,by rw[List.length_map];lia⟩
theorem Cc.next{H0 H:Hp}{D b:Addr}{i:Nat}{acc:List V}(h:Cc H0 D i acc H)(hb:H b=none):upd H b (.lst [.gf,.gf]) D=some (.lst acc)/\Cc H0 D (i+1) (acc++[.ref b]) (upd (upd H b (.lst [.gf,.gf])) D (.lst (acc++[.ref b]))):=by
 obtain⟨es,rfl,e,r⟩:=h;have OZ:D≠b:=fun z=>by
  have:=r.lst;rw[z,hb]at this;cases this
 have hbn:b∉es:=r.off hb;have hb0:H0 b=none:=r.same.free hb;refine⟨by rw[aq OZ];exact r.lst,es++[b],by simp,by simp[e],(r.same.put hb0).put r.Dn,?_,?_,fun c hc=>?_,r.Dn,by rw[ah];simp,fun j c hc=>?_⟩
 ·exact List.nodup_append.mpr ⟨r.nd,by simp,fun x hx y hy=>by rw[List.mem_singleton.mp hy];exact fun z=>hbn (z▸hx)⟩
 ·intro hm;rcases List.mem_append.mp hm with z|z
  ·exact r.ne z
  ·exact OZ (List.mem_singleton.mp z)
 ·rcases List.mem_append.mp hc with z|z
  ·exact r.fr c z
  ·rw[List.mem_singleton.mp z];exact hb0
 ·have Wh:c≠D:=fun z=>by
   subst z;rcases List.mem_append.mp (List.mem_of_getElem? hc) with z|z
   ·exact r.ne z
   ·exact OZ (List.mem_singleton.mp z)
  rw[aq Wh]
  by_cases ec:c=b
  ·rw[ec,ah];rfl
  ·rw[aq ec]
   by_cases hj:j<es.length
   ·rw[List.getElem?_append_left hj]at hc;exact r.at_ j c hc
   ·rw[List.getElem?_append_right (by lia)]at hc
    have:=List.mem_of_getElem? hc;exact absurd (List.mem_singleton.mp this) ec
def kX(F:Nat->Bool->Option Int)(p:Nat):List Pr:=(List.range p).map fun i=>(F i false,F i true)
theorem Kn{F:Nat->Bool->Option Int}{p x:Nat}(h:x<p)(s:Bool):sel (Ka (kX F p) x) s=F x s:=by
 unfold Ka kX;rw[List.getD_eq_getElem?_getD,List.getElem?_map,List.getElem?_range h];cases s<;>rfl
theorem Ko(F:Nat->Bool->Option Int)(i:Nat):kX F (i+1)=kX F i++[(F i false,F i true)]:=by
 unfold kX;rw[List.range_succ,List.map_append];rfl
theorem As(F:Nat->Bool->Option Int)(i:Nat):(kX F i).length=i:=by
 unfold kX;rw[List.length_map,List.length_range]
end Ring
namespace RM
variable {N:Net}{L:Nat->Int}{m u:Nat}
end RM
namespace Ring
open PySem L2
variable {p:Nat}{ts:List dZ}{g:aF p ts}{m:Nat}{W:List (List Pr)}
def FY(p:Nat)(ts:List dZ)(g:aF p ts)(m:Nat)(W:List (List Pr)):Prop:=∀ i,i<p->∀ x s,x<p->RM.Hg (ae p ts g) (bz ts) m i x s (sel (Ka (W.getD i []) x) s)
end Ring
namespace RM
open Ring (maskOf mask_bit mask_lt)
theorem iM{a b:Nat}(h:a^^^b=0):a=b:=by
 have:=congrArg (fun y=>y^^^b) h
 simp only[Nat.zero_xor]at this
 rwa [Nat.xor_assoc,Nat.xor_self,Nat.xor_zero]at this
def comb:List Nat->Nat->Nat
 | [],_=>0
 | b::B,z=>(if z.testBit 0=true then b else 0)^^^comb B (z/2)
theorem Kp(a b c d:Nat):(a^^^b)^^^(c^^^d)=(a^^^c)^^^(b^^^d):=Nat.eq_of_testBit_eq fun i=>by
 simp only[Nat.testBit_xor];cases a.testBit i<;>cases b.testBit i<;>cases c.testBit i<;>cases d.testBit i<;>rfl
theorem Kq(z y:Nat):(z^^^y)/2=z/2^^^y/2:=Nat.eq_of_testBit_eq fun i=>by
 rw[Nat.testBit_xor,<-Nat.testBit_succ,<-Nat.testBit_succ,<-Nat.testBit_succ,Nat.testBit_xor]
theorem jM:∀(B:List Nat) (z y:Nat),comb B (z^^^y)=comb B z^^^comb B y
 | [],_,_=>by simp[comb]
 | b::B,z,y=>by
   unfold comb;rw[Kq,jM B,Nat.testBit_xor,Kp]
   congr 1
   cases z.testBit 0<;>cases y.testBit 0<;>simp
theorem kY:∀(B:List Nat),comb B 0=0
 | []=>rfl
 | b::B=>by
   unfold comb;rw[Nat.zero_testBit,show 0/2=0 from rfl,kY B]
   simp
theorem Ks(i:Nat):2^(i+1)/2=2^i:=by
 rw[Nat.pow_succ,Nat.mul_div_cancel _ (by decide)]
theorem wH:∀{B:List Nat} {i b:Nat},B[i]?=some b->comb B (2^i)=b
 | [],i,b,h=>by simp at h
 | b'::B,0,b,h=>by
   have:b' = b:=by simpa using h
   subst this;unfold comb;rw[show(2^0:Nat).testBit 0=true from rfl,if_pos rfl,show(2^0:Nat)/2=0 from rfl,kY,Nat.xor_zero]
 | b'::B,i+1,b,h=>by
   unfold comb;have h0:(2^(i+1)).testBit 0=false:=by rw[Nat.testBit_two_pow];simp
   rw[h0,if_neg (by decide),Nat.zero_xor,Ks]
   exact wH (B:=B) h
theorem jn:∀(B:List Nat) (b z:Nat),comb (B++[b]) z=comb B z^^^(if z.testBit B.length=true then b else 0)
 | [],b,z=>by
   show(if z.testBit 0=true then b else 0)^^^0=0^^^_
   rw[Nat.xor_zero,Nat.zero_xor];rfl
 | b'::B,b,z=>by
   show(if z.testBit 0=true then b' else 0)^^^comb (B++[b]) (z/2)=((if z.testBit 0=true then b' else 0)^^^comb B (z/2))^^^_
   rw[jn B b (z/2),Nat.xor_assoc,<-Nat.testBit_succ];rfl
theorem tD:∀(B:List Nat) {z:Nat},(∀ i,i<B.length->z.testBit i=false)->comb B z=0
 | [],_,_=>rfl
 | b::B,z,h=>by
   unfold comb;rw[h 0 (by simp),if_neg (by decide),Nat.zero_xor]
   exact tD B fun i hi=>by rw[<-Nat.testBit_succ];exact h (i+1) (by simp;lia)
theorem rF(B:List Nat):∀ z,Sp B (comb B z):=by
 induction B with
 | nil=>intro z;exact .zero
 | cons b B ih =>
   intro z;have h:Sp (b::B) (comb B (z/2)):=(ih (z/2)).mono fun c hc=>.mem (List.mem_cons_of_mem _ hc)
   unfold comb;rw[Nat.xor_comm]
   by_cases e:z.testBit 0=true
   ·rw[if_pos e];exact h.add List.mem_cons_self
   ·rw[if_neg e,Nat.xor_zero];exact h
theorem Au{B:List Nat}{x:Nat}(h:Sp B x):∃ z,z<2^B.length/\comb B z=x:=by
 induction h with
 | zero=>exact⟨0,Nat.two_pow_pos _,kY B⟩
 | add h hb ih =>
   obtain⟨z,hz,e⟩:=ih;obtain⟨i,hi⟩:=List.getElem?_of_mem hb;have Qc:=(List.getElem?_eq_some_iff.mp hi).1;exact⟨z^^^2^i,Nat.xor_lt_two_pow hz (Nat.pow_lt_pow_right (by decide) Qc),by rw[jM,e,wH hi]⟩
def Hh(B:List Nat):Prop:=∀ z,z<2^B.length->comb B z=0->z=0
theorem wI{B:List Nat}{b:Nat}:Hh (B++[b])↔Hh B/\¬ Sp B b:=by
 have hl:(B++[b]).length=B.length+1:=by simp
 constructor
 ·intro h;refine⟨fun z hz e=>h z ?_ ?_,fun hs=>?_⟩
  ·rw[hl,Nat.pow_succ];lia
  ·rw[jn,e,Nat.testBit_lt_two_pow hz];simp
  ·obtain⟨y,hy,e⟩:=Au hs;have hlt:2^B.length<2^(B.length+1):=Nat.pow_lt_pow_right (by decide) (by lia)
   have:=h (y^^^2^B.length) (by rw[hl];exact Nat.xor_lt_two_pow (by lia) hlt) (by
    have h1:(y^^^2^B.length).testBit B.length=true:=by
     rw[Nat.testBit_xor,Nat.testBit_lt_two_pow hy,Nat.testBit_two_pow_self];rfl
    have h2:comb B (2^B.length)=0:=tD B fun i hi=>by
     rw[Nat.testBit_two_pow];exact decide_eq_false (by lia)
    rw[jn,h1,if_pos rfl,jM,h2,e,Nat.xor_zero,Nat.xor_self])
   have h3:(y^^^2^B.length).testBit B.length=false:=by rw[this,Nat.zero_testBit]
   rw[Nat.testBit_xor,Nat.testBit_lt_two_pow hy,Nat.testBit_two_pow_self]at h3;cases h3
 ·rintro⟨h,hs⟩ z hz e;rw[jn]at e
  by_cases hb:z.testBit B.length=true
  ·rw[if_pos hb]at e;have e2:comb B z=b:=by
    have:=congrArg (fun y=>y^^^b) e
    simp only[kW,Nat.zero_xor]at this;exact this
   exact absurd (e2▸rF B z) hs
  ·rw[if_neg hb,Nat.xor_zero]at e;refine h z ?_ e;refine dR fun k hk=>?_
   have:=cS hz hk;rw[hl]at this;have:k≠B.length:=fun e=>hb (e▸hk)
   lia
theorem Cd(B:List Nat)(h:Hh B){z y:Nat}(hz:z<2^B.length)(hy:y<2^B.length)(e:comb B z=comb B y):z=y:=by
 have:=h (z^^^y) (Nat.xor_lt_two_pow hz hy) (by rw[jM,e,Nat.xor_self])
 exact iM this
section
variable {N:Net}
theorem zh{B:List Nat}(h:∀ b∈B,N.fh b/\b<2^N.n)(z:Nat):N.fh (comb B z)/\comb B z<2^N.n:=by
 have hs:=rF B z;refine⟨?_,hs.lt fun b hb=>(h b hb).2⟩
 generalize comb B z=x at hs
 induction hs with
 | zero=>exact fh.zero
 | add _ hb ih=>exact fh.xor ih (h _ hb).1
theorem ML{f:Nat->Nat}{a b:Nat}(hf:∀ z,z<2^a->f z<2^b)(inj:∀ z y,z<2^a->y<2^a->f z=f y->z=y):a<=b:=by
 have nd:((List.range (2^a)).map f).Nodup:=by
  refine List.pairwise_map.mpr ?_;refine List.Pairwise.imp_of_mem (fun {z y} hz hy hne e=>?_) List.nodup_range
  exact hne (inj z y (List.mem_range.mp hz) (List.mem_range.mp hy) e)
 have:=JO nd fun x hx=>by
  obtain⟨z,hz,rfl⟩:=List.mem_map.mp hx;exact hf z (List.mem_range.mp hz)
 rw[List.length_map,List.length_range]at this;exact(Nat.pow_le_pow_iff_right (by decide)).mp this
def meets(ks:List Nat)(m:Nat):Nat:=maskOf (fun i=>m.testBit (ks.getD i 0)) ks.length
theorem Ku(ks:List Nat)(m:Nat):meets ks m<2^ks.length:=mask_lt _ _
theorem Hi{ks:List Nat}{m i k:Nat}(h:ks[i]?=some k):(meets ks m).testBit i=m.testBit k:=by
 unfold meets;rw[mask_bit,List.getD_eq_getElem?_getD,h,decide_eq_true (List.getElem?_eq_some_iff.mp h).1];rfl
theorem O0{B:List Nat}(hi:Hh B)(h:∀ b∈B,N.fh b/\b<2^N.n):B.length<=N.bx.length:=by
 refine ML (f:=fun z=>meets N.bx (comb B z)) (fun z _=>Ku _ _) fun z y hz hy e=>Cd B hi hz hy ?_
 have h1:=zh h z;have h2:=zh h y;refine iM (gM (N:=N) (fun k hk=>?_) (fh.xor h1.1 h2.1))
 have hkn:=cS (Nat.xor_lt_two_pow h1.2 h2.2) hk;refine⟨hkn,?_⟩;cases hf:N.nV k with
 | true=>rfl
 | false =>
   obtain⟨j,hj⟩:=List.getElem?_of_mem (bU.mpr ⟨hkn,hf⟩);have e:meets N.bx (comb B z)=meets N.bx (comb B y):=e;have:=congrArg (fun x=>x.testBit j) e
   simp only[Hi hj]at this;rw[Nat.testBit_xor,this,Bool.xor_self]at hk;cases hk
structure Base(N:Net)(rs:List Nat):Prop where
 len:rs.length=N.bx.length
 ring:∀ r∈rs,N.Ring r/\r<2^N.n
 ind:Hh rs
open Classical in
end
end RM
namespace RM
abbrev Row3:=Nat×Nat×Nat
def two(q:Row3):Nat×Nat:=(q.1,q.2.1)
def eg(rows:List Row3)(x u:Nat):Nat×Nat:=rows.foldl (fun s q=>if s.1.testBit q.1=true then(s.1^^^q.2.1,s.2^^^q.2.2) else s) (x,u)
theorem tE(q:Row3)(rows:List Row3)(x u:Nat):eg (q::rows) x u=if x.testBit q.1=true then eg rows (x^^^q.2.1) (u^^^q.2.2) else eg rows x u:=by
 unfold eg;rw[List.foldl_cons]
 by_cases h:x.testBit q.1=true
 ·rw[if_pos h,if_pos h]
 ·rw[if_neg h,if_neg h]
theorem n6:∀(rows:List Row3) (x u:Nat),(eg rows x u).1=B9 (rows.map two) x
 | [],_,_=>rfl
 | q::rows,x,u=>by
   rw[tE];show _=B9 (rows.map two) (if x.testBit q.1=true then x^^^q.2.1 else x)
   by_cases h:x.testBit q.1=true
   ·rw[if_pos h,if_pos h];exact n6 rows _ _
   ·rw[if_neg h,if_neg h];exact n6 rows _ _
def Ce(rows:List Row3)(a:Row3):List Row3:=a::rows.map fun q=>if q.2.1.testBit a.1=true then(q.1,q.2.1^^^a.2.1,q.2.2^^^a.2.2) else q
structure Rw(B:List Nat)(rows:List Row3):Prop where
 own:∀ q∈rows,q.2.1.testBit q.1=true
 Hj:rows.Pairwise fun q q'=>q'.2.1.testBit q.1=false/\q.2.1.testBit q'.1=false
 NF:∀ q∈rows,q.2.2<2^B.length/\comb B q.2.2=q.2.1
 span:∀ b∈B,Sp (rows.map fun q=>q.2.1) b
 le:rows.length<=B.length
 len:rows.length=B.length↔Hh B
section
variable {B:List Nat}{rows:List Row3}
theorem Rw.start:Rw [] []:=⟨(fun q hq=>nomatch hq),.nil,(fun q hq=>nomatch hq),(fun b hb=>nomatch hb),Nat.le_refl _,⟨fun _ z hz _=>by simp at hz;exact hz,fun _=>rfl⟩⟩
theorem O1(own:∀ q∈rows,q.2.1.testBit q.1=true)(Hj:rows.Pairwise fun q q'=>q'.2.1.testBit q.1=false/\q.2.1.testBit q'.1=false):ND (rows.map two):=by
 induction rows with
 | nil=>exact .nil
 | cons q rows ih =>
   obtain⟨h1,h2⟩:=List.pairwise_cons.mp Hj;refine .cons (ih (fun q' hq=>own q' (List.mem_cons_of_mem _ hq)) h2) (own q List.mem_cons_self) fun x hx=>?_
   obtain⟨q',O2,rfl⟩:=List.mem_map.mp hx;exact(h1 q' O2).1
theorem Rw.Qg(h:Rw B rows):ND (rows.map two):=O1 h.own h.Hj
theorem map_two(rows:List Row3):(rows.map two).map (fun q=>q.2)=rows.map fun q=>q.2.1:=by
 rw[List.map_map];rfl
theorem Rw.tF(h:Rw B rows)(x u:Nat):(eg rows x u).1=0↔Sp B x:=by
 rw[n6,G9 h.Qg,map_two]
 constructor
 ·intro hs;refine hs.mono fun b hb=>?_
  obtain⟨q,hq,rfl⟩:=List.mem_map.mp hb;rw[<-(h.NF q hq).2];exact rF B _
 ·exact fun hs=>hs.mono h.span
theorem Rw.Kv(h:Rw B rows)(x u:Nat):∀ q∈rows,(eg rows x u).1.testBit q.1=false:=fun q hq=>by
 rw[n6];exact zf h.Qg x (two q) (List.mem_map.mpr ⟨q,hq,rfl⟩)
theorem zj(hc:∀ q∈rows,q.2.2<2^B.length/\comb B q.2.2=q.2.1):∀(x u:Nat),u<2^B.length->(eg rows x u).2<2^B.length/\comb B (eg rows x u).2=comb B u^^^(x^^^(eg rows x u).1):=by
 induction rows with
 | nil=>intro x u hu;exact⟨hu,by show _=_^^^(x^^^x);rw[Nat.xor_self,Nat.xor_zero];rfl⟩
 | cons q rows ih =>
   intro x u hu;have hq:=hc q List.mem_cons_self;have ih:=ih fun q' O2=>hc q' (List.mem_cons_of_mem _ O2)
   rw[tE]
   by_cases h:x.testBit q.1=true
   ·rw[if_pos h];obtain⟨i1,i2⟩:=ih (x^^^q.2.1) (u^^^q.2.2) (Nat.xor_lt_two_pow hu hq.1);refine⟨i1,?_⟩;rw[i2,jM,hq.2];refine Nat.eq_of_testBit_eq fun i=>?_
    simp only[Nat.testBit_xor];generalize (eg rows (x^^^q.2.1) (u^^^q.2.2)).1.testBit i=y;cases(comb B u).testBit i<;>cases q.2.1.testBit i<;>cases x.testBit i<;>cases y<;>rfl
   ·rw[if_neg h];exact ih x u hu
theorem O3(h:Rw B rows){x:Nat}(hx:∀ b∈B,b<2^x):∀ q∈rows,q.2.1<2^x:=fun q hq=>by
 rw[<-(h.NF q hq).2];exact(rF B _).lt hx
theorem wJ{z:Nat}(b:Nat)(hz:z<2^B.length):comb (B++[b]) z=comb B z:=by
 rw[jn,Nat.testBit_lt_two_pow hz];simp
theorem Rw.skip{b:Nat}(h:Rw B rows)(hs:Sp B b):Rw (B++[b]) rows:=by
 have hl:(B++[b]).length=B.length+1:=by simp
 refine⟨h.own,h.Hj,fun q hq=>⟨?_,?_⟩,fun c hc=>?_,?_,?_⟩
 ·have:=(h.NF q hq).1;rw[hl,Nat.pow_succ]
  lia
 ·rw[wJ b (h.NF q hq).1];exact(h.NF q hq).2
 ·rcases List.mem_append.mp hc with hc|hc
  ·exact h.span c hc
  ·have e:c=b:=by simpa using hc
   rw[e];exact hs.mono h.span
 ·have:=h.le
  lia
 ·rw[wI];have:=h.le;exact⟨fun e=>by lia,fun z=>absurd hs z.2⟩
theorem Rw.put{b:Nat}(h:Rw B rows)(h0:(eg rows b 0).1≠0):Rw (B++[b]) (Ce rows ((eg rows b 0).1.log2,(eg rows b 0).1,(eg rows b 0).2^^^2^B.length)):=by
 have hl:(B++[b]).length=B.length+1:=by simp
 have hns : ¬ Sp B b:=fun z=>h0 ((h.tF b 0).mpr z)
 have off:=h.Kv b 0;obtain⟨c1,c2⟩:=zj h.NF b 0 (Nat.two_pow_pos _);rw[kY,Nat.zero_xor]at c2;have yN:Sp (rows.map fun q=>q.2.1) (b^^^(eg rows b 0).1):=by
  rw[n6];have:=FU (rows.map two) b
  rwa [map_two]at this
 generalize eg rows b 0=lu at *;obtain⟨l,u⟩:=lu;have h0:l≠0:=h0;have top:=MK h0;have c1:u<2^B.length:=c1;have c2:comb B u=b^^^l:=c2;have off:∀ q∈rows,l.testBit q.1=false:=off;have yN:Sp (rows.map fun q=>q.2.1) (b^^^l):=yN
 show Rw (B++[b]) (Ce rows (l.log2,l,u^^^2^B.length));generalize l.log2=t at top;have p2:2^B.length<2^(B++[b]).length:=by rw[hl];exact Nat.pow_lt_pow_right (by decide) (by lia)
 have hc:comb (B++[b]) (u^^^2^B.length)=l:=by
  have h1:(u^^^2^B.length).testBit B.length=true:=by
   rw[Nat.testBit_xor,Nat.testBit_lt_two_pow c1,Nat.testBit_two_pow_self];rfl
  have h2:comb B (2^B.length)=0:=tD B fun i hi=>by
   rw[Nat.testBit_two_pow];exact decide_eq_false (by lia)
  rw[jn,h1,if_pos rfl,jM,h2,c2,Nat.xor_zero];refine Nat.eq_of_testBit_eq fun i=>?_
  simp only[Nat.testBit_xor];cases b.testBit i<;>cases l.testBit i<;>rfl
 unfold Ce;refine⟨fun q hq=>?_,List.pairwise_cons.mpr ⟨fun q hq=>?_,?_⟩,fun q hq=>?_,fun c hc=>?_,?_,?_⟩
 ·rcases List.mem_cons.mp hq with e|hq
  ·rw[e];exact top
  ·obtain⟨q0,D3,rfl⟩:=List.mem_map.mp hq
   by_cases e:q0.2.1.testBit t=true
   ·rw[if_pos e];show(q0.2.1^^^l).testBit q0.1=true;rw[Nat.testBit_xor,h.own q0 D3,off q0 D3];rfl
   ·rw[if_neg e];exact h.own q0 D3
 ·obtain⟨q0,D3,rfl⟩:=List.mem_map.mp hq
  by_cases e:q0.2.1.testBit t=true
  ·rw[if_pos e];refine⟨?_,off q0 D3⟩;show(q0.2.1^^^l).testBit t=false;rw[Nat.testBit_xor,e,top];rfl
  ·rw[if_neg e];exact⟨Bool.eq_false_iff.mpr e,off q0 D3⟩
 ·refine List.pairwise_map.mpr (List.Pairwise.imp_of_mem (fun {q q'} hq O2 hz=>?_) h.Hj)
  obtain⟨z1,z2⟩:=hz;have o1:=off q hq;have o2:=off q' O2;have fst:∀ q:Row3,(if q.2.1.testBit t=true then(q.1,q.2.1^^^l,q.2.2^^^(u^^^2^B.length)) else q).1=q.1:=fun q=>by
   split<;>rfl
  have snd:∀(q:Row3) (k:Nat),l.testBit k=false->(if q.2.1.testBit t=true then(q.1,q.2.1^^^l,q.2.2^^^(u^^^2^B.length)) else q).2.1.testBit k=q.2.1.testBit k:=fun q k hk=>by
   split
   ·show(q.2.1^^^l).testBit k=_;rw[Nat.testBit_xor,hk,Bool.xor_false]
   ·rfl
  refine⟨?_,?_⟩
  ·rw[snd q' _ (by rw[fst];exact o1),fst]
   exact z1
  ·rw[snd q _ (by rw[fst];exact o2),fst]
   exact z2
 ·rcases List.mem_cons.mp hq with e|hq
  ·rw[e];exact⟨Nat.xor_lt_two_pow (by lia) p2,hc⟩
  ·obtain⟨q0,D3,rfl⟩:=List.mem_map.mp hq;obtain⟨d1,d2⟩:=h.NF q0 D3
   by_cases e:q0.2.1.testBit t=true
   ·rw[if_pos e];refine⟨Nat.xor_lt_two_pow (by lia) (Nat.xor_lt_two_pow (by lia) p2),?_⟩
    show comb (B++[b]) (q0.2.2^^^(u^^^2^B.length))=q0.2.1^^^l;rw[jM,hc,wJ b d1,d2]
   ·rw[if_neg e];exact⟨by lia,by rw[wJ b d1,d2]⟩
 ·have inL:l∈(((t,l,u^^^2^B.length):Row3)::rows.map fun q=>if q.2.1.testBit t=true then(q.1,q.2.1^^^l,q.2.2^^^(u^^^2^B.length)) else q).map fun q=>q.2.1:=by
   rw[List.map_cons];exact List.mem_cons_self
  have old:∀ x∈rows.map (fun q=>q.2.1),Sp ((((t,l,u^^^2^B.length):Row3)::rows.map fun q=>if q.2.1.testBit t=true then(q.1,q.2.1^^^l,q.2.2^^^(u^^^2^B.length)) else q).map fun q=>q.2.1) x:=fun x hx=>by
   obtain⟨q0,D3,rfl⟩:=List.mem_map.mp hx;have hm:(if q0.2.1.testBit t=true then(q0.1,q0.2.1^^^l,q0.2.2^^^(u^^^2^B.length)) else q0).2.1∈(((t,l,u^^^2^B.length):Row3)::rows.map fun q=>if q.2.1.testBit t=true then(q.1,q.2.1^^^l,q.2.2^^^(u^^^2^B.length)) else q).map fun q=>q.2.1 :=
    List.mem_map.mpr ⟨_,List.mem_cons_of_mem _ (List.mem_map.mpr ⟨q0,D3,rfl⟩),rfl⟩
   by_cases e:q0.2.1.testBit t=true
   ·rw[if_pos e]at hm;have:=(Sp.mem hm).xor (Sp.mem inL)
    rwa [kW]at this
   ·rw[if_neg e]at hm;exact .mem hm
  rcases List.mem_append.mp hc with hc|hc
  ·exact(h.span c hc).mono old
  ·have e:c=b:=by simpa using hc
   rw[e];have:=(yN.mono old).xor (Sp.mem inL)
   rwa [kW]at this
 ·rw[List.length_cons,List.length_map,hl];have:=h.le
  lia
 ·rw[List.length_cons,List.length_map,hl,wI];have:=h.len
  constructor
  ·exact fun e=>⟨this.mp (by lia),hns⟩
  ·exact fun e=>by have:=this.mpr e.1;lia
def rx(f:Row3->Bool):List Row3->Bool
 | []=>false
 | q::rows=>f q^^rx f rows
theorem Cf{f g:Row3->Bool}:∀{rows:List Row3},(∀ q∈rows,f q=g q)->rx f rows=rx g rows
 | [],_=>rfl
 | q::rows,h=>by
   unfold rx;rw[h q List.mem_cons_self,Cf fun q' hq=>h q' (List.mem_cons_of_mem _ hq)]
theorem zk(i:Nat):∀{rows:List Row3},(rows.Pairwise fun q q'=>q'.2.1.testBit q.1=false/\q.2.1.testBit q'.1=false)->∀(x u:Nat),(eg rows x u).2.testBit i=(u.testBit i^^rx (fun q=>x.testBit q.1&&q.2.2.testBit i) rows)
 | [],_,x,u=>by show u.testBit i=(u.testBit i^^false);rw[Bool.xor_false]
 | q::rows,Hj,x,u=>by
   obtain⟨h1,h2⟩:=List.pairwise_cons.mp Hj;have ih:=zk i h2;rw[tE];unfold rx
   by_cases h:x.testBit q.1=true
   ·rw[if_pos h,ih,h,Bool.true_and,Nat.testBit_xor,Bool.xor_assoc]
    congr 2
    exact Cf fun q' hq=>by rw[Nat.testBit_xor,(h1 q' hq).2,Bool.xor_false]
   ·rw[if_neg h,ih,Bool.eq_false_iff.mpr h,Bool.false_and,Bool.false_xor]
def dS(rows:List Row3)(i:Nat):List Nat:=(rows.filter fun q=>q.2.2.testBit i).map fun q=>q.1
theorem Cg(own:∀ q∈rows,q.2.1.testBit q.1=true)(Hj:rows.Pairwise fun q q'=>q'.2.1.testBit q.1=false/\q.2.1.testBit q'.1=false)(i:Nat):(dS rows i).Nodup:=by
 unfold dS;refine List.pairwise_map.mpr ((List.Pairwise.imp_of_mem (fun {q q'} hq O2 hz e=>?_) Hj).filter _)
 have:=own q' O2;rw[<-e,hz.1]at this;cases this
theorem zl(f:Nat->Bool)(n:Nat):∀{l:List Nat},l.Nodup->(∀ k∈l,k<n)->bf (fun k=>f k&&decide (k∈l)) n=l.foldr (fun k acc=>f k^^acc) false
 | [],_,_=>gn fun k _=>by simp
 | a::l,nd,h=>by
   obtain⟨n1,n2⟩:=List.nodup_cons.mp nd;have ih:=zl f n n2 fun k hk=>h k (List.mem_cons_of_mem _ hk)
   have:bf (fun k=>f k&&decide (k∈a::l)) n=bf (fun k=>(f k&&decide (a=k))^^(f k&&decide (k∈l))) n:=bh fun k _=>by
    by_cases e:a=k
    ·subst e;rw[decide_eq_true List.mem_cons_self,decide_eq_true rfl,decide_eq_false n1,Bool.and_false,Bool.xor_false]
    ·have:(k∈a::l)↔k∈l:=⟨fun z=>(List.mem_cons.mp z).resolve_left fun z=>e z.symm,List.mem_cons_of_mem _⟩
     rw[decide_eq_false e,Bool.and_false,Bool.false_xor,decide_eq_decide.mpr this]
   rw[this,iJ,gh f (h a List.mem_cons_self),ih];rfl
theorem Ci(f:Nat->Bool)(i:Nat):∀ rows:List Row3,(dS rows i).foldr (fun k acc=>f k^^acc) false=rx (fun q=>f q.1&&q.2.2.testBit i) rows
 | []=>rfl
 | q::rows=>by
   have ih:=Ci f i rows;unfold dS at ih ⊢;unfold rx;cases h:q.2.2.testBit i with
   | true =>
     rw[List.filter_cons,if_pos h,List.map_cons,List.foldr_cons,ih,Bool.and_true]
   | false =>
     rw[List.filter_cons,if_neg (by rw[h];decide),ih,Bool.and_false,Bool.false_xor]
theorem Rw.marks{N:Net}(h:Rw B rows)(hi:Hh B)(hb:∀ b∈B,b<2^N.n){i j b:Nat}(hj:B[j]?=some b):N.par b (Ring.orM (dS rows i))=decide (i=j)/\∀ k∈dS rows i,k<N.n:=by
 have lt:∀ k∈dS rows i,k<N.n:=fun k hk=>by
  obtain⟨q,hq,rfl⟩:=List.mem_map.mp hk;have hq:=(List.mem_filter.mp hq).1;exact cS (O3 h hb q hq) (h.own q hq)
 refine⟨?_,lt⟩;have e1:N.par b (Ring.orM (dS rows i))=rx (fun q=>b.testBit q.1&&q.2.2.testBit i) rows:=by
  rw[<-Ci (fun k=>b.testBit k),<-zl (fun k=>b.testBit k) N.n (Cg h.own h.Hj i) lt]
  exact bh fun k _=>by rw[Ring.i0]
 have hz:(eg rows b 0).1=0:=(h.tF b 0).mpr (.mem (List.mem_of_getElem? hj));obtain⟨c1,c2⟩:=zj h.NF b 0 (Nat.two_pow_pos _);rw[kY,Nat.zero_xor,hz,Nat.xor_zero]at c2
 replace c2:=c2.trans (wH hj).symm
 have NG:=(List.getElem?_eq_some_iff.mp hj).1;have e2:=Cd B hi c1 (Nat.pow_lt_pow_right (by decide) NG) c2
 have e3:=zk i h.Hj b 0;rw[e2,Nat.zero_testBit,Bool.false_xor,Nat.testBit_two_pow]at e3;rw[e1,<-e3];exact decide_eq_decide.mpr eq_comm
end
end RM
namespace Ring
open PySem L2
def uN(q:RM.Row3):List V:=[.int (q.1:Int),.int (q.2.1:Int),.int (q.2.2:Int)]
def wK(H:Hp)(x:V)(q:RM.Row3):Prop:=∃ b,x = .ref b/\H b=some (.tup (uN q))
theorem wK.tups{H H' : Hp}(s:dH H H'){x:V}{q:RM.Row3}(h:wK H x q):wK H' x q:=let⟨b,e,z⟩:=h;⟨b,e,s _ _ z⟩
def i7(H:Hp)(l:Addr)(rows:List RM.Row3):Prop:=∃ xs,H l=some (.lst xs)/\Paired (wK H) xs rows
theorem i7.same{H H' : Hp}(s:av H H'){l:Addr}{rows:List RM.Row3}(h:i7 H l rows):i7 H' l rows:=let⟨xs,e,z⟩:=h;⟨xs,s _ _ e,Paired.imp' (fun _ _ z=>z.tups s.tups) z⟩
theorem Hl(rows:List RM.Row3)(q:RM.Row3)(x u:Nat):RM.eg (rows++[q]) x u=if(RM.eg rows x u).1.testBit q.1=true then((RM.eg rows x u).1^^^q.2.1,(RM.eg rows x u).2^^^q.2.2) else RM.eg rows x u:=by
 unfold RM.eg;rw[List.foldl_append];rfl
theorem take3{α:Type}{l:List α}{i:Nat}{q:α}(h:l[i]?=some q):l.take (i+1)=l.take i++[q]:=by
 rw[List.take_add_one,h];rfl
theorem Kw{m:Nat}(h:m≠0):((Builtin.Int.intBits (m:Int):Nat):Int)-1=((m.log2:Nat):Int):=by
 rw[vO,if_neg h]
 lia
end Ring
namespace L2
open PySem PySem.Spec PyProof.Rows
theorem Ei{K:PySem.W.Frag}{a:Addr}{xs:List V}{g:TG}{tt:TT}{te:TE}{n:Nat}{fr:St}{D:Addr}{Q:Hp->Prop}{H1:Hp}(Pv:Nat->List V->Hp->Prop)(h0:Pv 0 [] H1)(hl:∀ i acc H,i<=xs.length->Pv i acc H->aS K H a xs/\H D=some (.lst acc)/\acc.length<=i)(hz:xs.length<=sizeLine)
 (hs:∀ i x T acc H,xs[i]?=some x->Pv i acc H->H T=none->g (.ref T) (List.replicate n none++fr) (upd H T (.tup [.int (i:Int),x])) fun σ2 H2=>σ2.drop n=fr/\tt σ2 H2 fun b H3 =>
  if b=true then te σ2 H3 fun v H4=>H4 D=some (.lst acc)/\Pv (i+1) (acc++[v]) (upd H4 D (.lst (acc++[v]))) else Pv (i+1) acc H3)
 (hd:∀ acc H,Pv xs.length acc H->Q H):iI (P8 K a) g tt te n fr D Q H1:=by
 refine⟨fun i m acc H=>m=xs.length-i/\i<=xs.length/\Pv i acc H,⟨xs.length,by simp,Nat.zero_le _,h0⟩,?_⟩
 rintro i m acc H ⟨rfl,hi,p⟩;obtain⟨q,hD,ha⟩:=hl i acc H hi p;refine⟨hD,?_⟩
 by_cases hlt:i<xs.length
 ·refine .inr ⟨⟨xs,xs[i],q,by simp[hlt]⟩,by lia,Pv (i+1),fun acc' H' p'=>⟨xs.length-(i+1),by lia,rfl,hlt,p'⟩,fun v H' y=>?_⟩
  obtain⟨T,x,rfl,hT,rfl,y⟩:=y;exact hs i x T acc _ (y xs q) p hT
 ·have e:i=xs.length:=by lia
  subst e;exact .inl ⟨⟨xs,q,Nat.le_refl _⟩,hd acc H p⟩
end L2
namespace RM
variable {N:Net}{S:Nat->Bool}
def wL(N:Net)(S:Nat->Bool)(L:Nat->Nat)(k:Nat):Prop:=∀ x y,x<N.p->y<N.p->(L x=L y↔N.aN S k x=N.aN S k y)
theorem wL.start:wL N S (fun x=>x) 0:=fun _ _ _ _=>Iff.rfl
theorem wL.skip{L:Nat->Nat}{k:Nat}(h:wL N S L k)(hs:S k=false):wL N S L (k+1):=by
 intro x y hx hy;rw[gq,if_neg (by rw[hs];decide)]
 exact h x y hx hy
theorem wL.put{L:Nat->Nat}{k:Nat}(h:wL N S L k)(hk:k<N.n)(hs:S k=true):wL N S (ON L (N.a k) (N.b k)) (k+1):=by
 intro x y hx hy;have ha:=N.al k hk;have hb:=N.bl k hk;rw[gq,if_pos hs,Mw,JP,h x y hx hy,h x _ hx ha,h y _ hy hb,h x _ hx hb,h y _ hy ha]
open Classical in
theorem FZ(val:Nat->Int):∀ n,(PyProof.Rows.firstMet val n).length=cnt (fun i=>!decide (∃ j,j<i/\val j=val i)) n/\∀ z,z∈PyProof.Rows.firstMet val n↔∃ j,j<n/\val j=z
 | 0=>by
   rw[PyProof.Rows.firstMet_zero];exact⟨rfl,fun z=>⟨fun h=>(nomatch h),fun⟨j,hj,_⟩=>absurd hj (Nat.not_lt_zero _)⟩⟩
 | n+1=>by
   obtain⟨h1,h2⟩:=FZ val n;rw[PyProof.Rows.firstMet_succ];unfold PyProof.Rows.step_dedup;have hm:=h2 (val n);have ha:((PyProof.Rows.firstMet val n).any fun x=>x==val n)=true↔val n∈PyProof.Rows.firstMet val n:=by simp
   have mem:∀ z,(∃ j,j<n+1/\val j=z)↔(∃ j,j<n/\val j=z)\/val n=z:=fun z=>by
    constructor
    ·rintro⟨j,hj,e⟩
     by_cases ej:j=n
     ·subst ej;exact .inr e
     ·exact .inl ⟨j,by lia,e⟩
    ·rintro(⟨j,hj,e⟩|e)
     ·exact⟨j,by lia,e⟩
     ·exact⟨n,by lia,e⟩
   by_cases hin:val n∈PyProof.Rows.firstMet val n
   ·rw[if_pos (ha.mpr hin)];refine⟨?_,fun z=>?_⟩
    ·show _=cnt _ n+(if(!decide (∃ j,j<n/\val j=val n))=true then 1 else 0)
     rw[h1,decide_eq_true (hm.mp hin)];rfl
    ·rw[mem,h2];exact⟨.inl,fun h=>h.elim id fun e=>e▸hm.mp hin⟩
   ·rw[if_neg (fun z=>hin (ha.mp z))]
    refine⟨?_,fun z=>?_⟩
    ·show _=cnt _ n+(if(!decide (∃ j,j<n/\val j=val n))=true then 1 else 0)
     rw[List.length_append,h1,decide_eq_false (fun z=>hin (hm.mpr z))]
     rfl
    ·rw[mem,List.mem_append,h2];exact⟨fun h=>h.elim .inl fun e=>.inr (List.mem_singleton.mp e).symm,fun h=>h.elim .inl fun e=>.inr (by simp[e])⟩
theorem MM{L:Nat->Nat}(h:wL N S L N.n):(PyProof.Rows.firstMet (fun i=>((L i:Nat):Int)) N.p).length=cnt (N.root S N.n) N.p:=by
 rw[(FZ _ N.p).1];refine gp fun x hx=>?_
 unfold Net.root;rw[Bool.eq_iff_iff,Bool.not_eq_true',decide_eq_false_iff_not,decide_eq_true_iff]
 constructor
 ·intro hn;apply Classical.byContradiction;intro hne;have hle:=rm (N:=N) (S:=S) N.n x;have hlt:N.aN S N.n x<x:=by lia
  exact hn ⟨N.aN S N.n x,hlt,by
   have:=(h (N.aN S N.n x) x (by lia) hx).mpr (bT N.n x)
   rw[this]⟩
 ·rintro hr ⟨j,hj,e⟩;have e:L j=L x:=by lia
  have e2:=(h j x (by lia) hx).mp e
  have:=rm (N:=N) (S:=S) N.n j
  lia
theorem Kx{m:Nat}(hm:m<2^N.n)(h0:m≠0)(d2:N.D2 m):N.Ring m↔cnt (N.root (fun k=>m.testBit k) N.n) N.p+cnt (fun x=>decide (N.dg m x=2)) N.p=N.p+1:=by
 have hR:∀ x,x<N.p->N.dg m x=0->N.root (fun k=>m.testBit k) N.n x=true:=fun x hx hd=>by
  unfold Net.root;rw[decide_eq_true_iff];exact alone hd (bJ _ _ _ (bT N.n x).symm)
 have split:cnt (N.root (fun k=>m.testBit k) N.n) N.p=cnt (fun x=>!decide (N.dg m x=2)) N.p+cnt (fun x=>decide (N.dg m x=2)&&N.root (fun k=>m.testBit k) N.n x) N.p:=by
  rw[<-wk (fun x hx=>by cases decide (N.dg m x=2)<;>simp)]
  refine gp fun x hx=>?_
  rcases d2 x hx with h|h
  ·rw[hR x hx h,decide_eq_false (by lia)]
   rfl
  ·rw[decide_eq_true h];simp
 have cn:=mz (fun x=>decide (N.dg m x=2)) N.p
 obtain⟨k0,hk0⟩:∃ k,m.testBit k=true:=by
  apply Classical.byContradiction;intro h;exact h0 (Nat.eq_of_testBit_eq fun i=>by
   rw[Nat.zero_testBit];cases e:m.testBit i with
   | false=>rfl
   | true=>exact absurd ⟨i,e⟩ h)
 have hkn:=cS hm hk0;have G7:=N.al k0 hkn;have hd0:N.dg m (N.a k0)=2:=by
  have:=wm hkn hk0 (.inl rfl:N.a k0=N.a k0\/N.b k0=N.a k0);rcases d2 _ G7 with h|h<;>lia
 rw[OY hm d2 G7 hd0];generalize hx:N.a k0=x0 at G7 hd0;have up:∀ x,x<N.p->N.dg m x=2->N.dg m (N.aN (fun k=>m.testBit k) N.n x)=2:=fun x hx hd=>by
  have hl:=jX (N:=N) (S:=fun k=>m.testBit k) (k:=N.n) hx
  rcases d2 _ hl with h|h
  ·have e:x=N.aN (fun k=>m.testBit k) N.n x:=alone h (bJ _ _ _ (bT N.n x))
   rw[<-e]at h
   lia
  ·exact h
 have r0:N.aN (fun k=>m.testBit k) N.n x0<N.p:=jX G7
 constructor
 ·intro h;have one:cnt (fun x=>decide (N.dg m x=2)&&N.root (fun k=>m.testBit k) N.n x) N.p=1:=by
   have:cnt (fun x=>decide (N.dg m x=2)&&N.root (fun k=>m.testBit k) N.n x) N.p=cnt (fun x=>decide (N.aN (fun k=>m.testBit k) N.n x0=x)) N.p:=gp fun x hx=>by
    rw[Bool.eq_iff_iff,Bool.and_eq_true,decide_eq_true_iff,decide_eq_true_iff];unfold Net.root;rw[decide_eq_true_iff]
    constructor
    ·rintro⟨h1,h2⟩;rw[<-(h x hx).mpr h1];exact h2
    ·rintro rfl;exact⟨up x0 G7 hd0,bT N.n x0⟩
   rw[this,wj,if_pos r0]
  lia
 ·intro h x hx;have one:cnt (fun x=>decide (N.dg m x=2)&&N.root (fun k=>m.testBit k) N.n x) N.p=1:=by lia
  have at0:(decide (N.dg m (N.aN (fun k=>m.testBit k) N.n x0)=2)&&N.root (fun k=>m.testBit k) N.n (N.aN (fun k=>m.testBit k) N.n x0))=true:=by
   rw[Bool.and_eq_true,decide_eq_true_iff];unfold Net.root;rw[decide_eq_true_iff];exact⟨up x0 G7 hd0,bT N.n x0⟩
  constructor
  ·intro e;rcases d2 x hx with h|h
   ·have e2:x0=x:=alone h (bJ _ _ _ e);rw[<-e2]at h
    lia
   ·exact h
  ·intro hd;have at1:(decide (N.dg m (N.aN (fun k=>m.testBit k) N.n x)=2)&&N.root (fun k=>m.testBit k) N.n (N.aN (fun k=>m.testBit k) N.n x))=true:=by
    rw[Bool.and_eq_true,decide_eq_true_iff];unfold Net.root;rw[decide_eq_true_iff];exact⟨up x hx hd,bT N.n x⟩
   apply Classical.byContradiction;intro hne;have:=vh (f:=fun x=>decide (N.dg m x=2)&&N.root (fun k=>m.testBit k) N.n x) at1 at0 hne (jX hx) r0
   lia
end RM
namespace RM
variable {N:Net}{s u:Nat}
end RM
namespace Ring
open PySem L2
end Ring
namespace L2
open PySem PySem.Spec PySem.Calls PyProof.Rows PySem.W
end L2
namespace RM
theorem Ky(n:Nat):∀ e,bf (fun j=>n.testBit j) (e+1)=(decide (n%2=1)^^bf (fun j=>(n/2).testBit j) e)
 | 0=>by
   show(false^^n.testBit 0)=(decide (n%2=1)^^false);rw[Nat.testBit_zero,Bool.false_xor,Bool.xor_false]
 | e+1=>by
   have ih:=Ky n e;show(bf (fun j=>n.testBit j) (e+1)^^n.testBit (e+1))=(decide (n%2=1)^^(bf (fun j=>(n/2).testBit j) e^^(n/2).testBit e))
   rw[ih,Nat.testBit_succ,Bool.xor_assoc]
theorem Kz(a b:Nat):(a&&&b)/2=a/2&&&b/2:=Nat.eq_of_testBit_eq fun i=>by
 rw[Nat.testBit_and,<-Nat.testBit_succ,<-Nat.testBit_succ,<-Nat.testBit_succ,Nat.testBit_and]
theorem MN:∀(e n:Nat),n≠0->n<2^e->bf (fun j=>(n&&&(n-1)).testBit j) e = !bf (fun j=>n.testBit j) e:=by
 intro e
 induction e with
 | zero=>intro n h0 hn;simp at hn;exact absurd hn h0
 | succ e ih =>
   intro n h0 hn;have hb:(n&&&(n-1))%2=1↔False:=by
    have:=Nat.testBit_zero (n&&&(n-1));rw[Nat.testBit_and,Nat.testBit_zero,Nat.testBit_zero]at this
    constructor
    ·intro z;rw[decide_eq_true z,Bool.and_eq_true,decide_eq_true_iff,decide_eq_true_iff]at this
     lia
    ·exact False.elim
   rw[Ky,Ky,Kz,decide_eq_false (fun z=>hb.mp z),Bool.false_xor]
   by_cases h2:n%2=1
   ·rw[decide_eq_true h2,show(n-1)/2=n/2 by lia,Nat.and_self]
    cases bf (fun j=>(n/2).testBit j) e<;>rfl
   ·rw[decide_eq_false h2,Bool.false_xor,show(n-1)/2=n/2-1 by lia]
    exact ih (n/2) (by lia) (by rw[Nat.pow_succ]at hn;lia)
theorem kZ{b:Nat}{B:List Nat}:Hh (b::B)↔Hh B/\¬ Sp B b:=by
 have dbl:∀ z,(2*z).testBit 0=false:=fun z=>by rw[Nat.testBit_zero];exact decide_eq_false (by lia)
 have Wi:∀ z,(2*z+1).testBit 0=true:=fun z=>by rw[Nat.testBit_zero];exact decide_eq_true (by lia)
 constructor
 ·intro h;refine⟨fun z hz e=>?_,fun hs=>?_⟩
  ·have:=h (2*z) (by rw[List.length_cons,Nat.pow_succ];lia) (by
    unfold comb;rw[dbl,if_neg (by decide),Nat.zero_xor,show 2*z/2=z by lia]
    exact e)
   lia
  ·obtain⟨y,hy,e⟩:=Au hs;have:=h (2*y+1) (by rw[List.length_cons,Nat.pow_succ];lia) (by
    unfold comb;rw[Wi,if_pos rfl,show(2*y+1)/2=y by lia,e,Nat.xor_self])
   lia
 ·rintro⟨h,hs⟩ z hz e;unfold comb at e;rw[List.length_cons,Nat.pow_succ]at hz
  by_cases hb:z.testBit 0=true
  ·rw[if_pos hb]at e;have e2:=iM e;exact absurd (e2▸rF B (z/2)) hs
  ·rw[if_neg hb,Nat.zero_xor]at e;have h0:=h (z/2) (by lia) e
   rw[Nat.testBit_zero,decide_eq_true_iff]at hb
   lia
theorem MO{B C:List Nat}(h:B.Perm C)(x:Nat):Sp B x↔Sp C x :=
 ⟨fun z=>z.mono fun b hb=>.mem (h.mem_iff.mp hb),fun z=>z.mono fun b hb=>.mem (h.mem_iff.mpr hb)⟩
theorem KA{B C:List Nat}(h:B.Perm C):Hh B↔Hh C:=by
 induction h with
 | nil=>exact Iff.rfl
 | cons x h ih=>rw[kZ,kZ,ih,MO h]
 | swap x y l =>
   rw[kZ,kZ,kZ,kZ,Sp.nZ,Sp.nZ,Nat.xor_comm y x]
   constructor
   ·rintro⟨⟨h1,h2⟩,h3⟩;exact⟨⟨h1,fun z=>h3 (.inl z)⟩,fun z=>z.elim h2 fun z=>h3 (.inr z)⟩
   ·rintro⟨⟨h1,h2⟩,h3⟩;exact⟨⟨h1,fun z=>h3 (.inl z)⟩,fun z=>z.elim h2 fun z=>h3 (.inr z)⟩
 | trans _ _ i1 i2=>exact i1.trans i2
theorem Base.perm{N:Net}{rs rs' : List Nat}(b:Base N rs)(h:rs'.Perm rs):Base N rs' :=
 ⟨by rw[h.length_eq];exact b.len,fun r hr=>b.ring r (h.mem_iff.mp hr),(KA h).mpr b.ind⟩
end RM
namespace L2
open PySem PySem.Spec PyProof.Rows
section
variable {prog:Program}{w:World}{A:Around}{E:Value->Shared->Prop}{s:Shared}{I l:Addr}
end
section
variable {X:Cx}
end
end L2
namespace L2
open PySem PySem.Spec PyProof.Rows
def fk(q:Str)(pos:Pos):Array Value:=#[.str q 0,rawInt pos.line,rawInt pos.col]
def pX(pos:Pos)(c:Addr):Array Value:=#[rawInt pos.line,rawInt pos.col,.ref c]
def gi(H:Hp)(P c:Addr)(oc:Obj)(q:Str)(pos:Pos):Hp:=upd (upd H c (.nH oc (.own P))) P (.jT (fk q pos++pX pos c))
def given(H:Hp)(P c:Addr)(q:Str)(pos:Pos):Hp:=upd (upd H c (.own P)) P (.jT (fk q pos))
def CodeObj(oc:Obj)(q:Str):Prop:=∃ vs t,oc.data = .fields vs/\vs[1]?=some (.str q t)
theorem CodeObj.rec{h:Heap}{c:Addr}{oc:Obj}{q:Str}(x:CodeObj oc q)(e:h.get? c=some oc):h.CodeRec (.ref c) q :=
 let⟨vs,t,e1,e2⟩:=x
 ⟨c,oc,vs,t,rfl,e,e1,e2⟩
theorem O4{P:Program}{w:World}{H:Hp}{h:Heap}{a:Addr}{q:Str}{pos:Pos}(x:bI P w H h a (.jT (fk q pos))):
 h.get? a=some (PySem.W.tabObj #[])\/∃ c oc,h.get? a=some (PySem.W.tabObj (pX pos c))/\H c=some (.own a)/\h.get? c=some oc/\CodeObj oc q:=by
 obtain⟨ps,e,f⟩:=x;rcases f with⟨_,f|⟨c,e1,e2,c',oc,vs,tq,hc,ho,hd,hv⟩⟩|⟨q',l,k,f,z⟩
 ·subst f;exact .inl e
 ·cases hc;subst e1;exact .inr ⟨c,oc,e,e2,ho,vs,tq,hd,hv⟩
 ·have:=congrArg Array.size f;rw[Array.size_append,z]at this;exact absurd this (by simp[fk])
theorem KC{P:Program}{w:World}{H:Hp}{h:Heap}{a c:Addr}{q:Str}{pos:Pos}(x:bI P w H h a (.jT (fk q pos++pX pos c))):h.get? a=some (PySem.W.tabObj (pX pos c)):=by
 obtain⟨ps,e,f⟩:=x;rcases f with⟨f,_⟩|⟨q',l,k,f,z⟩
 ·rw[Array.size_append]at f;exact absurd f (by simp[fk,pX])
 ·have e2:=congrArg (fun a=>a.toList.drop 3) f
  simp only[Array.toList_append,fk,pX,List.cons_append,List.nil_append,List.drop_succ_cons,List.drop_zero]at e2;have e3:ps=pX pos c:=by
   apply Array.toList_inj.mp;exact e2.symm
  rw[<-e3];exact e
abbrev Cj(X:Cx)(params:Arguments)(body:Expr)(scope:Scope)(c:Addr)(ctv:Value):FuncData :=
 PySem.W.kla_fn "<lambda>" (X.env.qual ++ "<lambda>") params body scope (dz X.env.cells scope.names []) ((X.mg "__name__").getD .none) (.ref c) ctv
abbrev eM(X:Cx)(params:Arguments)(body:Expr)(scope:Scope)(c:Addr)(ctv:Value):Obj :=
 { cls:=.type "function",data:=.func (Cj X params body scope c ctv)}
section
variable {X:Cx}{pins:List (Addr×Obj)}{σ:St}{H H2:Hp}{s:Shared}{params:Arguments}{body:Expr}{scope:Scope}{pos:Pos}{own frees:List Str}{js:List Nat}{c P:Addr}
theorem Ck{Q:Value->Shared->Prop}{E:Value->Shared->Prop}
 (I:Inv X pins σ H s) (T:d9 X scope own frees js) (hcode:X.env.code = .ref c) (hK:PySem.W.codeHdIn X.K c P=true) (hP:H P=some (.jT (fk (X.env.qual ++ "<lambda>") pos)))
 (hdef:defaultsOf params X.env=([],[]))
 (h:∀ f c' oc ctv s',(H c' = none\/H c' = some (.own P))->c'≠P->CodeObj oc (X.env.qual ++ "<lambda>")->Inv X ((f,eM X params body scope c' ctv)::pins) σ (gi H P c' oc (X.env.qual ++ "<lambda>") pos) s'->Q (.ref f) s') :
 wpAny (model X.prog X.w) X.A (eval (.Lambda params body scope pos) X.env) Q E s:=by
 have G7:=O4 (show bI X.prog X.w H s.heap P (.jT (fk (X.env.qual ++ "<lambda>") pos)) from I.hok P _ hP)
 have C:PySem.W.CodeHd s.heap c P:=PySem.W.codeHd_of_K I.N9 hK;have hg:=I.mod.glob.keeps I.bk;have neP:∀ b o,X.base.get? b=some o->b≠P:=fun b o q z=>by
  have:=(I.bs b o q).2;rw[z,hP]at this;cases this
 have hgP:mainGlobals≠P:=by
  obtain⟨o,es,ep,q,_⟩:=I.mod.glob;exact neP _ o q
 have hb:s.heap.BuiltinsAt X.mg P:=by
  obtain⟨bm,ob,b1,b2,b3,b4,b5,b6⟩:=I.mod.bmain;refine⟨bm,ob,b1,b2,fun z=>?_,neP _ _ b3,I.bk _ _ b3,b4,b5,b6⟩
  obtain⟨o,es,ep,q,hd,_⟩:=I.mod.glob;rw[z,q]at b3;cases b3;rw[hd]at b6;cases b6
 have hcl:=qv (gZ I T);have fin:∀(f c' : Addr) (oc:Obj) (ctv:Value) (h2:Heap) (tk:Nat),(H c' = none\/H c' = some (.own P))->c'≠P->(H c' = none->s.heap.objs.size<=c')->CodeObj oc (X.env.qual ++ "<lambda>")->(∀ b o,b≠P->s.heap.get? b=some o->h2.get? b=some o)->
  h2.get? P=some (PySem.W.tabObj (pX pos c'))->h2.get? c' = some oc->s.heap.objs.size<=f->f≠c'->h2.get? f=some (eM X params body scope c' ctv)->
  Inv X ((f,eM X params body scope c' ctv)::pins) σ (gi H P c' oc (X.env.qual ++ "<lambda>") pos) { s with heap:=h2,toks:=tk}:=by
  intro f c' oc ctv h2 tk hc Cm hnew hoc hx Ug hct hf hfc hft;have nP:∀ b,H b=none->b≠P:=fun b n z=>by rw[z,hP]at n;cases n
  have MP:∀ b u,H b=some u->(∀ y,u≠.own y)->(∀ qs,u≠.jT qs)->gi H P c' oc (X.env.qual ++ "<lambda>") pos b=some u:=fun b u e n1 n2=>by
   unfold gi;rw[aq (fun z=>by rw[z,hP]at e;exact n2 _ (Option.some.inj e).symm),aq (fun z=>by
    rw[z]at e;rcases hc with q|q
    ·rw[q]at e;cases e
    ·rw[q]at e;exact n1 _ (Option.some.inj e).symm)]
   exact e
  have O5:∀ b,H b=none->(b<s.heap.objs.size\/b≠c')->gi H P c' oc (X.env.qual ++ "<lambda>") pos b=none:=fun b n hb=>by
   unfold gi;rw[aq (nP b n),aq (fun z=>by
    rcases hb with q|q
    ·rw[z]at q n;exact absurd (hnew n) (Nat.not_le.mpr q)
    ·exact q z)]
   exact n
  have un:Un X.fs [] H (gi H P c' oc (X.env.qual ++ "<lambda>") pos) s.heap h2:=by
   refine⟨fun b o q n _ _=>hx b o (nP b n) q,fun b o q n _ _=>⟨o.slots,hx b o (nP b n) q⟩,fun b o q n _=>O5 b n (.inl (Heap.lt_size q)),fun b o q _=>?_,fun b xs q=>MP b _ q (by intro y z;cases z) (by intro y z;cases z),fun b o u q=>MP b _ q (by intro y z;cases z) (by intro y z;cases z),fun b ps q=>?_⟩
   ·by_cases hb:b=P
    ·exact⟨_,by rw[hb];exact Ug⟩
    ·exact⟨o,hx b o hb q⟩
   ·by_cases hb:b=P
    ·subst hb;rw[hP]at q;cases q;exact⟨pX pos c',ah⟩
    ·refine⟨#[],?_⟩;unfold gi;rw[aq hb,aq (fun z=>by
      rw[z]at q;rcases hc with r|r<;>(rw[r]at q;cases q)),q]
     simp
  have hok:oY X.prog X.w (gi H P c' oc (X.env.qual ++ "<lambda>") pos) h2:=fun b u q=>by
   by_cases Ho:b=P
   ·subst Ho;unfold gi at q;rw[ah]at q;cases q;exact⟨_,Ug,.inr ⟨_,_,_,rfl,rfl⟩⟩
   ·by_cases hbc:b=c'
    ·subst hbc;unfold gi at q;rw[aq Ho,ah]at q;cases q;exact⟨hct,oc,hct⟩
    ·have q' : H b=some u:=by
      unfold gi at q;rw[aq Ho,aq hbc]at q;exact q
     have ow:∀ d,H d=some (.own b)->d≠P/\d≠c':=fun d qd=>⟨aY qd hP (by intro z;cases z),fun z=>by
      rw[z]at qd;rcases hc with r|r
      ·rw[r]at qd;cases qd
      ·rw[r]at qd;cases qd;exact Ho rfl⟩
     refine(I.hok b u q').stay (fun d v hd qd=>hx d v ?_ qd) (fun d qd=>?_) fun d xs qd=>MP d _ qd (by intro y z;cases z) (by intro y z;cases z)
     ·rcases hd with rfl|hd
      ·exact Ho
      ·exact(ow d hd).1
     ·unfold gi;rw[aq (ow d qd).1,aq (ow d qd).2];exact qd
  have J:=I.un (t':=tk) un hok;have hfH:H f=none:=I.hok.fresh hf;refine J.fV fun p hp=>?_
  rcases List.mem_cons.mp hp with rfl|hp
  ·exact⟨hft,O5 _ hfH (.inr hfc),Nat.ne_of_gt (Nat.lt_of_lt_of_le I.lt hf),I.Qz hf,fun v z=>by cases z⟩
  ·exact J.pin p (List.mem_append_right _ hp)
 refine PySem.W.kla_eval hdef ?_;rcases G7 with e|⟨c',oc,e,ho,hct,hoc⟩
 ·refine PySem.W.kla_makeFunction (mg:=X.mg) hcl I.ok.glob hg hcode C e trivial rfl hgP hb fun c' ctv h' tk hx hge hlt hrec htb=>?_
  obtain⟨c2,oc,vs,t,e2,hct,hd,hv⟩:=hrec;cases e2;have hf:s.heap.objs.size<=h'.objs.size:=Nat.le_trans hge (Nat.le_of_lt hlt);have Cm:c'≠P:=Nat.ne_of_gt (Nat.lt_of_lt_of_le (Heap.lt_size e) hge);exact h _ c' oc ctv _ (.inl (I.hok.fresh hge)) Cm ⟨vs,t,hd,hv⟩ (fin _ c' oc ctv _ tk (.inl (I.hok.fresh hge)) Cm (fun _=>hge) ⟨vs,t,hd,hv⟩ (fun b o hb q=>Heap.get?_push_of_some _ (hx b o hb q)) (Heap.get?_push_of_some _ htb) (Heap.get?_push_of_some _ hct) hf (Nat.ne_of_gt hlt) (Heap.get?_push_size _ rfl))
 ·have hf:codeAmong pos (pX pos c').toList=some (.ref c'):=codeAmong_snoc [] trivial rfl;have tr:TriplesOk (pX pos c').toList:=TriplesOk_snoc pos.line pos.col (.ref c') [] trivial;refine PySem.W.kla_makeFunctionHit (mg:=X.mg) hcl I.ok.glob hg hcode C e tr hf hb fun ctv h' tk hk hsz=>?_
  have Cm:c'≠P:=aY ho hP (by intro z;cases z)
  have hk' : ∀ b o,s.heap.get? b=some o->(h'.push (eM X params body scope c' ctv)).get? b=some o:=fun b o q=>Heap.get?_push_of_some _ (hk b o q)
  exact h _ c' oc ctv _ (.inr ho) Cm hoc (fin _ c' oc ctv _ tk (.inr ho) Cm (fun z=>by rw[ho]at z;cases z) hoc (fun b o _ q=>hk' b o q) (hk' _ _ e) (hk' _ _ hct) hsz (Nat.ne_of_gt (Nat.lt_of_lt_of_le (Heap.lt_size hct) hsz)) (Heap.get?_push_size _ rfl))
theorem Cn{wM:List (Addr×Obj)}{σ0:St}{s0:Shared}{q:Str}{oc:Obj}(I0:Inv X wM σ0 H s0)(hP:H P=some (.jT (fk q pos)))(hc:H c=none\/H c=some (.own P))(Cm:c≠P)(hoc:CodeObj oc q)
 (I:Inv X pins σ H2 s) (e1:H2 P=some (.jT (fk q pos++pX pos c))) (e2:H2 c=some (.nH oc (.own P))):Inv X pins σ (given H2 P c q pos) s:=by
 have Ug:=KC (show bI X.prog X.w H2 s.heap P (.jT (fk q pos++pX pos c)) from I.hok P _ e1)
 obtain⟨hct,_⟩:=(show bI X.prog X.w H2 s.heap c (.nH oc (.own P)) from I.hok c _ e2)
 have O5:∀ b,H2 b=none->given H2 P c q pos b=none:=fun b n=>by
  unfold given;rw[aq (fun z=>by rw[z,e1]at n;cases n),aq (fun z=>by rw[z,e2]at n;cases n)]
  exact n
 have MP:∀ b u,b≠P->b≠c->H2 b=some u->given H2 P c q pos b=some u:=fun b u n1 n2 e=>by
  unfold given;rw[aq n1,aq n2];exact e
 refine⟨I.ok,I.os,I.bare,⟨I.base.keep,I.base.slot,fun b o z n hx=>O5 b (I.base.free b o z n hx),I.base.there,fun b xs z=>?_,fun b o u z=>?_,fun b ps z=>?_⟩,I.loc,I.cell,O5 _ I.free,fun x c' z=>O5 _ (I.fP x c' z),fun p hp=>?_,fun b u z=>?_,I.len⟩
 ·have r:=I.base.tups b xs z;exact MP b _ (aY r e1 (by intro z;cases z)) (aY r e2 (by intro z;cases z)) r
 ·have r:=I.base.mj b o u z;refine MP b _ (aY r e1 (by intro z;cases z)) (fun y=>?_) r
  have r0:=I0.base.mj b o u z;rw[y]at r0;rcases hc with hc|hc<;>(rw[hc]at r0;cases r0)
 ·by_cases hb:b=P
  ·subst hb;obtain⟨more,r0⟩:=I0.base.nJ b ps z;rw[hP]at r0;exact⟨more,by unfold given;rw[ah];exact r0⟩
  ·obtain⟨more,r⟩:=I.base.nJ b ps z;exact⟨more,MP b _ hb (aY r e2 (by intro z;cases z)) r⟩
 ·obtain⟨a1,a2,a3⟩:=I.pin p hp;exact⟨a1,O5 _ a2,a3⟩
 ·by_cases Ho:b=P
  ·subst Ho;unfold given at z;rw[ah]at z;cases z;refine⟨_,Ug,.inl ⟨rfl,.inr ⟨c,rfl,?_,hoc.rec hct⟩⟩⟩;unfold given;rw[aq Cm,ah]
  ·by_cases hbc:b=c
   ·subst hbc;unfold given at z;rw[aq Ho,ah]at z;cases z;exact⟨oc,hct⟩
   ·have z' : H2 b=some u:=by
     unfold given at z;rw[aq Ho,aq hbc]at z;exact z
    refine(I.hok b u z').stay (fun _ _ _ r=>r) (fun d r=>MP d _ (aY r e1 (by intro z;cases z)) (aY r e2 (by intro z;cases z)) r) fun d xs r=>MP d _ (aY r e1 (by intro z;cases z)) (aY r e2 (by intro z;cases z)) r
theorem Co{q:Str}{oc:Obj}(hP:H P=some (.jT (fk q pos)))(hc:H c=none\/H c=some (.own P))(Cm:c≠P)(S:av (gi H P c oc q pos) H2):av H (given H2 P c q pos):=fun b u e=>by
 unfold given
 by_cases Ho:b=P
 ·subst Ho;rw[ah,<-hP];exact e
 ·rw[aq Ho]
  by_cases hbc:b=c
  ·subst hbc;rw[ah];rcases hc with hc|hc
   ·rw[hc]at e;cases e
   ·rw[<-hc];exact e
  ·rw[aq hbc];refine S b u ?_;unfold gi;rw[aq Ho,aq hbc];exact e
theorem vq{q:Str}{oc:Obj}{b:Addr}{u:HO}(hP:H P=some (.jT (fk q pos)))(hc:H c=none\/H c=some (.own P))(e:H b=some u)(n1:∀ y,u≠.own y)(n2:∀ qs,u≠.jT qs):gi H P c oc q pos b=some u:=by
 unfold gi;rw[aq (fun z=>by rw[z,hP]at e;exact n2 _ (Option.some.inj e).symm),aq (fun z=>by
  rw[z]at e;rcases hc with q|q
  ·rw[q]at e;cases e
  ·rw[q]at e;exact n1 _ (Option.some.inj e).symm)]
 exact e
def wN(X:Cx)(N:List Str)(scope:Scope)(f c:Addr)(A:Around)(s:Shared)(H:Hp):Cx where
 prog:=X.prog
 w:=X.w
 K:=X.K
 mg:=X.mg
 base:=X.base
 A:=A.deeper (PySem.W.envX (X.env.qual ++ "<lambda>") scope s.heap.objs.size f (.ref c) (dz X.env.cells scope.names []))
 N:=N
 s₀:=s
 H₀:=H
 env:=PySem.W.envX (X.env.qual ++ "<lambda>") scope s.heap.objs.size f (.ref c) (dz X.env.cells scope.names [])
 outer:=X.stack
 stack:=PySem.W.envX (X.env.qual ++ "<lambda>") scope s.heap.objs.size f (.ref c) (dz X.env.cells scope.names [])::X.stack
 ex:=[]
 fn:=fun _=>false
 calm:=X.calm
 pn:=[]
 xe:=fun _ _=>False
theorem MQ{f:Addr}{A:Around}{x:Str}{v:V}{u:Value}{h1:Heap}{t1:Nat}(I:Inv X pins σ H s)(T:d9 X scope [x] frees js)(hx:scope.names.lookup x=some .local)
 (hfr:A.frames=some X.stack) (hh:A.handled=X.A.handled) (r:RelV v u) (old:∀ b o,s.heap.get? b=some o->h1.get? b=some o) (hn:h1.Ns s.heap.objs.size (fun y=>[(x,u)].reverse.lookup y)) :
 Inv (wN X ([x]++frees) scope f c A s H) [] (some v::fN σ js) H { s with heap:=h1,toks:=t1}:=by
 have cells:∀ x c,(dz X.env.cells scope.names []).lookup x=some c->X.env.cells.lookup x=some c:=fun x c h=>by
  rcases jV h with q|⟨q1,q2⟩
  ·cases q
  ·obtain⟨c',hc'⟩:=gZ I T x .free q1 rfl;rw[hc']at q2;rw[hc'];exact congrArg some q2
 refine⟨⟨I.ok.mod,T.kind,rfl,rfl,Nat.le_refl _,fun x y c a b=>I.ok.inj x y c (cells x c a) (cells y c b),fun y hy=>?_,fun x c z _=>(nomatch z),fun hc=>hh.trans (I.ok.hd hc),Around.frames_deeper hfr,.inr ⟨rfl,rfl⟩,fun b hb=>absurd (show b∈([]:List Addr) from hb) (by simp),
  fun b o e=>I.bs b o e,Nat.le_trans I.ok.Ni I.sz,fun b o _ hb=>absurd (show b∈([]:List Addr) from hb) (by simp),fun b hb=>absurd (show b∈([]:List Addr) from hb) (by simp),I.stack,I.z6⟩,
  rfl,I.bare,Un.kept old,⟨_,hn,fun i y v' e1 e2 e3=>?_⟩,fun y c e=>?_,I.hok.fresh (Nat.le_refl _),fun y c e=>I.fP y c (cells y c e),fun p hp=>absurd (show p∈([]:List (Addr×Obj)) from hp) (by simp),I.hok.kept old,?_⟩
 ·have hy:scope.names.lookup y=some .cell\/scope.names.lookup y=some .free:=hy;rcases hy with hy|hy
  ·exact absurd rfl (T.Af _ (PySem.mem_of_lookup hy))
  ·exact jF (.inl (PySem.mem_of_lookup hy))
 ·replace e1:([x]++frees)[i]?=some y:=e1
  cases i with
  | zero =>
    have e1:x=y:=by simpa using e1
    have e2:v=v':=by simpa using e2
    subst e1 e2;exact⟨u,r,.inl ⟨hx,by simp⟩⟩
  | succ i =>
    have e1:frees[i]?=some y:=by simpa using e1
    have e2:(fN σ js)[i]?=some (some v'):=by simpa using e2
    obtain⟨j,hj,hσ⟩:=vJ e2;have hN:X.N[j]?=some y:=by
     have q:=congrArg (fun l=>l[i]?) T.at_
     simp only[List.getElem?_map,hj,e1,Option.map_some]at q;exact Option.some.inj q
    have hfx:=T.fr y (List.mem_of_getElem? e1);have hm:=PySem.mem_of_lookup hfx;have hk:=T.free (y,.free) hm rfl;obtain⟨m0,hn0,BC⟩:=I.loc;obtain⟨u',r',l⟩:=BC j y v' hN hσ (by rcases hk with k|k;exact .inr (.inl k);exact .inr (.inr k))
    refine⟨u',r',.inr ⟨.inr hfx,?_⟩⟩;rcases l with⟨qO,_⟩|⟨_,c1,hc,hcell⟩
    ·have qO:X.env.scope.names.lookup y=some .local:=qO;rcases hk with k|k<;>(rw[qO]at k;cases k)
    ·obtain⟨c',hc'⟩:=jF (cells:=X.env.cells) (names:=scope.names) (cs:=[]) (x:=y) (.inl hm);have q:=cells y c' hc';rw[hc]at q;cases q;exact⟨c1,hc',hcell.keeps old⟩
 ·obtain⟨v',q⟩:=I.cell y c (cells y c e);exact⟨v',q.keeps old⟩
 ·show _=([x]++frees).length;have q:=congrArg List.length T.at_;rw[List.length_map,List.length_map]at q;simp only[List.length_cons,List.length_append,List.length_nil];unfold fN;rw[List.length_map]
  lia
theorem Cp{f:Addr}{ctv:Value}{A:Around}{te:TE}{x:Str}{v:V}{u:Value}{Q:VK}{E:Value->Shared->Prop}(I:Inv X pins σ H s)(T:d9 X scope [x] frees js)(hx:scope.names.lookup x=some .local)
 (hfr:A.frames=some X.stack) (hh:A.handled=X.A.handled) (hroom:A.depth<recursionLimit) (hp:(f,eM X params body scope c ctv)∈pins) (hcd:s.heap.CodeRec (.ref c) (X.env.qual ++ "<lambda>"))
 (hb:bindArgs (Cj X params body scope c ctv) ⟨[u],[]⟩=pure [(x,u)]) (hco:scope.isCoroutine=false) (hgen:scope.isGenerator=false)
 (he:PE (wN X ([x]++frees) scope f c A s H) body te) (r:RelV v u) (h:te (some v::fN σ js) H Q) :
 wpAny (model X.prog X.w) A (call (.ref f) [u]) (fun u' s'=>∃ v' H',Inv X pins σ H' s'/\RelV v' u'/\Q v' H') E s:=by
 have hf:=I.pin _ (List.mem_append_right _ hp);refine wpAny_call (PySem.W.kla_callFunE hroom hf.1 rfl hco hgen rfl hcd ?_);rw[hb];refine wpAny_pure (wpAny_newFunctionEnv (fun y hy=>T.Af y hy) (by intro y hy;have:=List.mem_singleton.mp hy;subst this;exact hx) (fun h₁ hns RE=>⟨I.nolimit.fresh _ RE,?_⟩) T.kind)
 show codeAny _ _ (.expr body (PySem.W.envX (X.env.qual ++ "<lambda>") scope s.heap.objs.size f (.ref c) (dz X.env.cells scope.names []))) _ _;have old:∀ b o,s.heap.get? b=some o->h₁.get? b=some o:=fun b o e=>RE.extBut b o (Nat.ne_of_lt (Heap.lt_size e)) (Heap.get?_push_of_some _ e)
 have J:=MQ (f:=f) (c:=c) (A:=A) (t1:=s.toks+[(x,u)].length) I T hx hfr hh r old hns;refine PySem.W.kla_codeExpr (wpAny_mono (he [] _ _ H Q J h) (fun u' s' hq=>?_) fun _ _ z=>z.elim)
 obtain⟨v',H',J',r',q'⟩:=hq;exact⟨v',H',I.IV (ch:=[]) J'.os J'.base J'.hok J'.bare (fun b z=>absurd z (by simp)),r',q'⟩
end
end L2
namespace HT
theorem gO:∀ a:List Int,lexLt a a=false
 | []=>rfl
 | x::xs=>by rw[gY,if_pos rfl];exact gO xs
theorem uO:∀{a b c:List Int},lexLt a b=true->lexLt b c=true->lexLt a c=true
 | [],[],_,h,_=>by rw[pZ]at h;cases h
 | [],_::_,[],_,h=>by rw[gH]at h;cases h
 | [],_::_,_::_,_,_=>rfl
 | _::_,[],_,h,_=>by rw[gH]at h;cases h
 | _::_,_::_,[],_,h=>by rw[gH]at h;cases h
 | x::xs,y::ys,z::zs,h1,h2=>by
   rw[gY]at h1 h2 ⊢
   by_cases e1:x=y
   ·rw[if_pos e1]at h1
    by_cases e2:y=z
    ·rw[if_pos e2]at h2;rw[if_pos (e1.trans e2)];exact uO h1 h2
    ·rw[if_neg e2]at h2;rw[if_neg (fun q=>e2 (e1.symm.trans q)),e1]
     exact h2
   ·rw[if_neg e1]at h1;have h1:=of_decide_eq_true h1
    by_cases e2:y=z
    ·subst e2;rw[if_neg e1];exact decide_eq_true h1
    ·rw[if_neg e2]at h2;have h2:=of_decide_eq_true h2;rw[if_neg (by lia)]
     exact decide_eq_true (by lia)
theorem wO{a b c:List Int}(h1:lexLt c b=false)(h2:lexLt a b=true):lexLt c a=false:=by
 cases q:lexLt c a with
 | false=>rfl
 | true=>rw[uO q h2]at h1;cases h1
end HT
namespace L2
open PySem PySem.Spec PyProof.Rows
def Uh(h:Heap)(a:Addr)(es:Array DictEntry)(ep:Nat):Prop:=∃ o,h.get? a=some o/\o.ExactDict/\o.data = .dict es ep
def Ui(o:Obj)(a:Addr)(i n ep:Nat):Prop:=o.cls = .type "dict_keyiterator"/\o.data = .fields #[.ref a,.int i 0,.int n 0,.int ep 0]
section
variable {P:Program}{w:World}{A:Around}{E:Value->Shared->Prop}{s:Shared}{a it:Addr}{es:Array DictEntry}{ep i:Nat}{oi:Obj}
theorem KD{Q:Value->Shared->Prop}(hs:(a==sysModules)=false)(g:Uh s.heap a es ep)
 (q:Q (.ref s.heap.objs.size) { s with heap:=s.heap.push { cls:=.type "dict_keyiterator",data:=.fields #[.ref a,.int 0 0,.int es.size 0,.int ep 0]}}):wpAny (model P w) A (pyIter (.ref a)) Q E s:=by
 obtain⟨o,ho,hc,hd⟩:=g;have hT:s.TypeIs (.ref a) "dict":=⟨o,ho,hc.1⟩;refine wpAny_pyIter_slot hT PySem.F.slot_dict_iter (wpAny_call_entry PySem.F.slot_dict_iter hT PySem.F.entry_dict_iter ?_ (PySem.F.args_dict_iter_1 _));unfold Builtin.«dict.__iter__» Builtin.Dict.dictSlotNone;refine wpAny_bind (wpAny_bind (wpAny_notOrdered_dict hT ?_));show wpAny _ _ (pure (Value.ref a)) _ _ s;refine wpAny_pure ?_;show wpAny _ _ (Builtin.Dict.showsAll a >>= _) _ _ s;unfold Builtin.Dict.showsAll;rw[hs];refine wpAny_bind (wpAny_pure (wpAny_bind (wpAny_dictEntries ho hd (wpAny_bind (wpAny_dictEpoch ho hd ?_)))));exact wpAny_bind (wpAny_newObj_type (wpAny_pure ⟨_,rfl,"dict_keyiterator",_,⟨_,Heap.get?_push_size _ rfl,rfl⟩,PySem.F.slot_dict_keyiterator_next.lookup,q⟩))
theorem wQ{Q:Option Value->Shared->Prop}(hi:s.heap.get? it=some oi)(g:Ui oi a i es.size ep)(gd:Uh s.heap a es ep)
 (q:match (es[i]?:Option DictEntry) with
  | some e=>∀ h' oi',h'.get? it=some oi'->Ui oi' a (i+1) es.size ep->Heap.SameBut it s.heap h'->Q (some e.key) { s with heap:=h'}
  | none=>A.handled=none/\∀ h',Heap.ExtBut it s.heap h'->Q none { s with heap:=h'}):wpAny (model P w) A (pyNext (.ref it)) Q E s:=by
 obtain⟨hc,hd⟩:=g;obtain⟨o,ho,hx,hdd⟩:=gd;have hT:s.TypeIs (.ref it) "dict_keyiterator":=⟨oi,hi,hc⟩;unfold pyNext;refine wpAny_bind (wpAny_attempt (wpAny_callSpecial?_slot (name:=Str.ofString "__next__") hT PySem.F.slot_dict_keyiterator_next (wpAny_call_entry PySem.F.slot_dict_keyiterator_next hT PySem.F.entry_dict_keyiterator_next ?_ (PySem.F.args_dict_keyiterator_next_1 _))));refine wpAny_bind (wpAny_pure (wpAny_bind (wpAny_bind ?_)))
 first | refine wpAny_bind (wpAny_typeNameOfWhole_keyiter hT (wpAny_pure ?_)) | refine wpAny_bind (wpAny_typeNameOf_keyiter hT (wpAny_pure ?_))
 refine wpAny_bind (wpAny_fieldsOf hi hd ?_);have hown:Builtin.Dict_items.ownsTuple "dict_keyiterator"=false:=by decide
 simp only[hown,Bool.false_eq_true,if_false];show wpAny _ _ (if(Value.ref a==Value.none)=true then _ else _) _ _ s
 rw[if_neg (show ¬((Value.ref a==Value.none)=true) from Bool.false_ne_true)]
 refine wpAny_bind (wpAny_pure (wpAny_bind (wpAny_dictEntries ho hdd ?_)));rw[if_neg (by simp)]
 refine wpAny_bind (wpAny_pure (wpAny_bind (wpAny_dictEpoch ho hdd ?_)));rw[if_neg (by simp)]
 refine wpAny_pure ?_;simp only[show ¬((i:Int)<0) from by lia,if_false,Int.toNat_natCast]
 cases hei:(es[i]?:Option DictEntry) with
 | some e =>
   rw[hei]at q;refine wpAny_bind ?_
   first | refine wpAny_bind (wpAny_typeNameOfWhole_keyiter hT (wpAny_pure ?_)) | refine wpAny_bind (wpAny_typeNameOf_keyiter hT (wpAny_pure ?_))
   refine wpAny_bind (wpAny_isOneOf_keyiter hT ?_);show wpAny _ _ (setField (.ref it) 1 (rawInt ((i:Int)+1)) >>= _) _ _ s;refine wpAny_bind (wpAny_setField hi hd (by simp) ?_)
   have d1:=Obj.data_mapFields hd (·.setIfInBounds 1 (rawInt ((i:Int)+1)));have g1:=Heap.get?_update_self (Obj.mapFields (·.setIfInBounds 1 (rawInt ((i:Int)+1)))) hi (Obj.isFreed_of_fields d1);have c1:(Obj.mapFields (·.setIfInBounds 1 (rawInt ((i:Int)+1))) oi).cls = .type "dict_keyiterator":=(Obj.cls_mapFields ..).trans hc;refine wpAny_bind (wpAny_holding ?_);refine wpAny_bind (wpAny_isOneOf_keyiter (s:={ s with heap:=s.heap.update it (Obj.mapFields (·.setIfInBounds 1 (rawInt ((i:Int)+1))))}) ⟨_,g1,c1⟩ ?_)
   show wpAny _ _ (pure e.key) _ _ _;exact wpAny_pure (wpAny_pure ⟨_,rfl,wpAny_pure (q _ _ g1 ⟨c1,by rw[d1];simp[rawInt]⟩ (Heap.SameBut.update ..))⟩)
 | none =>
   rw[hei]at q;obtain⟨hh,q⟩:=q;refine wpAny_bind ?_
   first | refine wpAny_bind (wpAny_typeNameOfWhole_keyiter hT (wpAny_pure ?_)) | refine wpAny_bind (wpAny_typeNameOf_keyiter hT (wpAny_pure ?_))
   show wpAny _ _ (setField (.ref it) 0 .none >>= _) _ _ s;refine wpAny_bind (wpAny_setField hi hd (by simp) ?_)
   show wpAny _ _ (newExc (.type "StopIteration") [] >>= _) _ _ _;refine wpAny_bind ?_;simp only[newExc,newTuple];refine wpAny_bind (wpAny_newObj_type (wpAny_bind (m:=firstArgMember _ _) (wpAny_of_eq (a:=Value.none) (by first | rfl | (simp only[firstArgMember];rfl)) (wpAny_newObj_type ?_ (by size_fits)))) (by size_fits))
   simp only[raiseNew];refine wpAny_bind (wpAny_handled ?_);rw[show A.in1.handled=none from hh]
   refine wpAny_bind (wpAny_pure (wpAny_throw ?_));refine wpAny_bind (wpAny_isInstance (T:="StopIteration") (b:=true) ⟨_,Heap.get?_push_size _ rfl,rfl⟩ isSubtype_stop (wpAny_pure ?_));exact q _ (((Heap.SameBut.update ..).extBut.push _).push _)
end
end L2
namespace L2
open PySem PySem.Spec PyProof.Rows
section
variable {X:Cx}{pins:List (Addr×Obj)}{σ:St}{H H2:Hp}{s:Shared}
theorem Inv.MR{a:Addr}{kvs:List (List Key×V)}{ob:Obj}(I:Inv X pins σ H s)(e:H a=some (.dT kvs))(ho:s.heap.get? a=some ob):Inv X pins σ (upd H a (.nH ob (.dT kvs))) s:=by
 have ne:∀ b,H b=none->b≠a:=fun b h z=>by rw[z,e]at h;cases h
 refine⟨I.ok,I.os,I.bare,⟨I.base.keep,I.base.slot,fun b o q n hx=>?_,I.base.there,fun b xs q=>?_,fun b o u q=>?_,fun b ps q=>?_⟩,I.loc,I.cell,?_,fun x c q=>?_,fun p hp=>?_,fun b u q=>?_,I.len⟩
 ·have z:=I.base.free b o q n hx;rw[aq (ne b z)];exact z
 ·have z:=I.base.tups b xs q;rw[aq (aY z e (by intro z;cases z))]
  exact z
 ·have z:=I.base.mj b o u q;rw[aq (aY z e (by intro z;cases z))]
  exact z
 ·obtain⟨more,z⟩:=I.base.nJ b ps q;exact⟨more,by rw[aq (aY z e (by intro z;cases z))];exact z⟩
 ·rw[aq (ne _ I.free)];exact I.free
 ·rw[aq (ne _ (I.fP x c q))];exact I.fP x c q
 ·obtain⟨a1,a2,a3⟩:=I.pin p hp;exact⟨a1,by rw[aq (ne _ a2)];exact a2,a3⟩
 ·by_cases hb:b=a
  ·subst hb;rw[ah]at q;cases q;exact⟨ho,(I.hok b _ e).stay (fun _ _ _ q=>q) (fun c q=>by rw[aq (aY q e (by intro z;cases z))];exact q) fun c xs q=>by rw[aq (aY q e (by intro z;cases z))];exact q⟩
  ·rw[aq hb]at q;exact(I.hok b u q).stay (fun _ _ _ q=>q) (fun c q=>by rw[aq (aY q e (by intro z;cases z))];exact q) fun c xs q=>by rw[aq (aY q e (by intro z;cases z))];exact q
theorem Inv.RG{wM:List (Addr×Obj)}{σ0:St}{s0:Shared}{a:Addr}{kvs:List (List Key×V)}{ob:Obj}(I0:Inv X wM σ0 H s0)(e0:H a=some (.dT kvs))(I:Inv X pins σ H2 s)(e:H2 a=some (.nH ob (.dT kvs))):
 Inv X pins σ (upd H2 a (.dT kvs)) s:=by
 have ne:∀ b,H2 b=none->b≠a:=fun b h z=>by rw[z,e]at h;cases h
 obtain⟨ho,hd⟩:=(show bI X.prog X.w H2 s.heap a (.nH ob (.dT kvs)) from I.hok a _ e)
 refine⟨I.ok,I.os,I.bare,⟨I.base.keep,I.base.slot,fun b o q n hx=>?_,I.base.there,fun b xs q=>?_,fun b o u q=>?_,fun b ps q=>?_⟩,I.loc,I.cell,?_,fun x c q=>?_,fun p hp=>?_,fun b u q=>?_,I.len⟩
 ·have z:=I.base.free b o q n hx;rw[aq (ne b z)];exact z
 ·have z:=I.base.tups b xs q;rw[aq (aY z e (by intro z;cases z))]
  exact z
 ·have z:=I.base.mj b o u q;rw[aq (fun y=>by
   have z0:=I0.base.mj b o u q;rw[y,e0]at z0;cases z0)]
  exact z
 ·obtain⟨more,z⟩:=I.base.nJ b ps q;exact⟨more,by rw[aq (aY z e (by intro z;cases z))];exact z⟩
 ·rw[aq (ne _ I.free)];exact I.free
 ·rw[aq (ne _ (I.fP x c q))];exact I.fP x c q
 ·obtain⟨a1,a2,a3⟩:=I.pin p hp;exact⟨a1,by rw[aq (ne _ a2)];exact a2,a3⟩
 ·by_cases hb:b=a
  ·subst hb;rw[ah]at q;cases q;exact hd.stay (fun _ _ _ q=>q) (fun c q=>by rw[aq (aY q e (by intro z;cases z))];exact q) fun c xs q=>by rw[aq (aY q e (by intro z;cases z))];exact q
  ·rw[aq hb]at q;exact(I.hok b u q).stay (fun _ _ _ q=>q) (fun c q=>by rw[aq (aY q e (by intro z;cases z))];exact q) fun c xs q=>by rw[aq (aY q e (by intro z;cases z))];exact q
def Av(X:Cx)(b:Addr):Prop:=X.s₀.heap.objs.size<=b/\b≠X.env.locals/\b∉X.fs/\(∀ x c,X.env.cells.lookup x=some c->c≠b)/\∀ p∈X.pn,p.1≠b
theorem Inv.Ej(I:Inv X pins σ H s){b:Addr}(hb:s.heap.objs.size<=b):Av X b :=
 let⟨_,f1,f2,_,f4,f5⟩:=I.DG hb (I.hok.fresh hb)
 ⟨Nat.le_trans I.sz hb,f1,f2,f4,fun p hp=>f5 p (List.mem_append_left _ hp)⟩
theorem Inv.gv{pa pb:List (Addr×Obj)}{b:Addr}{o:Obj}{h' : Heap}{t' : Nat}(I:Inv X pa σ H s)(hb:Av X b)(hin:(b,o)∈pa)(k:∀ c u,c≠b->s.heap.get? c=some u->h'.get? c=some u)
 (hp:∀ p∈pb,(p.1=b/\h'.get? b=some p.2/\∀ v,p.2.data≠.cell v)\/(p∈pa/\p.1≠b)):Inv X pb σ H { s with heap:=h',toks:=t'}:=by
 obtain⟨b1,b2,b3,b4,b5⟩:=hb;have n:=(I.pin (b,o) (List.mem_append_right _ hin)).2.1;have J:=(I.fV (E5:=pa.filter fun p=>decide (p.1≠b)) fun p hp=>I.pin p (List.mem_append_right _ (List.mem_filter.mp hp).1)).turned (t':=t') k n b2 (.inr b1) b4 (fun p hp=>by
  rcases List.mem_append.mp hp with hp|hp
  ·exact b5 p hp
  ·exact of_decide_eq_true (List.mem_filter.mp hp).2)
 refine J.fV fun p h=>?_
 rcases hp p h with⟨e,g,d⟩|⟨m,ne⟩
 ·refine⟨by rw[e];exact g,by rw[e];exact n,by rw[e];exact b2,by rw[e];exact b3,d⟩
 ·exact J.pin p (List.mem_append_right _ (List.mem_filter.mpr ⟨m,decide_eq_true ne⟩))
end
section
variable {X:Cx}{pins:List (Addr×Obj)}{σ:St}{H2:Hp}{params:Arguments}{body:Expr}{scope:Scope}{frees:List Str}{js:List Nat}{x:Str}{te:TE}{f c a It S:Addr}{oc ob:Obj}{ctv:Value}{q:Str}{kvs:List (List Key×V)}
 {es:Array DictEntry} {ep:Nat} {ka:Nat->Addr} {ks:Nat->List Int} {PZ:Addr} {R:Result->Shared->Prop}
structure Ek(X:Cx)(σ:St)(H2:Hp)(params:Arguments)(body:Expr)(scope:Scope)(frees:List Str)(js:List Nat)(x:Str)(te:TE)(f c a It S:Addr)(oc ob:Obj)(ctv:Value)(kvs:List (List Key×V))(es:Array DictEntry)(ep:Nat)(ka:Nat->Addr)(ks:Nat->List Int)(PZ:Addr):Prop where
 T:d9 X scope [x] frees js
 hx:scope.names.lookup x=some .local
 hh:X.A.handled=none
 dp:X.A.in1.depth<recursionLimit
 un:X.A.in1.units<cLine
 hb:∀ u,bindArgs (Cj X params body scope c ctv) ⟨[u],[]⟩=pure [(x,u)]
 co:scope.isCoroutine=false
 gen:scope.isGenerator=false
 he:∀ s H,PE (wN X ([x]++frees) scope f c X.A.in1 s H) body te
 code:CodeObj oc (X.env.qual ++ "<lambda>")
 hc:H2 c=some (.nH oc (.own PZ))
 ha:H2 a=some (.nH ob (.dT kvs))
 hob:ob.ExactDict/\ob.data = .dict es ep
 key:∀(i:Nat) (e:DictEntry),(es[i]?:Option DictEntry)=some e->e.key = .ref (ka i)
 turn:∀ i H3,i<es.size->av H2 H3->te (some (.ref (ka i))::fN σ js) H3 fun v H4=>av H3 H4/\∃ d,v = .ref d/\aX X.K H4 d ((ks i).map V.int)
 oS:Av X S
 oI:Av X It
 SI:S≠It
 fS:f≠S
 fI:f≠It
theorem Cq{pa:List (Addr×Obj)}{s:Shared}{H3:Hp}{i:Nat}{E:Value->Shared->Prop}(F:Ek X σ H2 params body scope frees js x te f c a It S oc ob ctv kvs es ep ka ks PZ)(hi:i<es.size)(hs:av H2 H3)(I:Inv X pa σ H3 s)
 (hf:(f,eM X params body scope c ctv)∈pa) :
 wpAny (model X.prog X.w) X.A.in1 (call (.ref f) [.ref (ka i)]) (fun u s'=>∃ d H4,u = .ref d/\Inv X pa σ H4 s'/\av H2 H4/\av H3 H4/\aX X.K H4 d ((ks i).map V.int)) E s:=by
 obtain⟨hct,_⟩:=(show bI X.prog X.w H3 s.heap c (.nH oc (.own PZ)) from I.hok c _ (hs _ _ F.hc))
 refine wpAny_mono (Cp (v:=.ref (ka i)) I F.T F.hx I.ok.frames rfl F.dp hf (F.code.rec hct) (F.hb _) F.co F.gen (F.he s H3) rfl (F.turn i H3 hi hs)) (fun u s' ⟨v,H4,J,r,q1,d,e,q2⟩=>?_) fun _ _ z=>z
 subst e;cases r;exact⟨d,H4,rfl,J,fun b o z=>q1 _ _ (hs _ _ z),q1,q2⟩
theorem KG{pa:List (Addr×Obj)}{s:Shared}{H3:Hp}{d d' : Addr}{ns ms:List Int}{A:Around}{E:Value->Shared->Prop}{Q:Value->Shared->Prop}(I:Inv X pa σ H3 s)(h1:aX X.K H3 d (ns.map V.int))(h2:aX X.K H3 d' (ms.map V.int))(hu:A.units<cLine)
 (q:Q (.bool (HT.lexLt ns ms)) s):wpAny (model X.prog X.w) A (richCompare .Lt (.ref d) (.ref d')) Q E s:=by
 obtain⟨its,r1,p1,_⟩:=I.tuple h1;obtain⟨its2,r2,p2,_⟩:=I.tuple h2;exact(HT.DN p1 p2 (intsAre_of r1) (intsAre_of r2) hu q:wpAny (model X.prog X.w) A (compareOp .Lt (.ref d) (.ref d')) Q E s)
abbrev pe(pins:List (Addr×Obj))(S It f:Addr)(oS oI lo:Obj):List (Addr×Obj):=(S,oS)::(It,oI)::(f,lo)::pins
theorem KH(F:Ek X σ H2 params body scope frees js x te f c a It S oc ob ctv kvs es ep ka ks PZ)(pI:∀ p∈pins,p.1≠It)(pS:∀ p∈pins,p.1≠S)
 (hR:∀ i s' H3,i<es.size->(∀ j,j<es.size->HT.lexLt (ks j) (ks i)=false)->av H2 H3->Inv X pins σ H3 s'->R (.ok (.ret (.ref (ka i)))) s') :
 ∀(r j i:Nat) (s:Shared) (H3:Hp) (d:Addr) (n:Nat) (oI:Obj),es.size-j=r->j<=es.size->i<j->av H2 H3->Inv X (pe pins S It f (seqObj "list" #[.ref (ka i),.ref d] n) oI (eM X params body scope c ctv)) σ H3 s->Ui oI a j es.size ep->
  aX X.K H3 d ((ks i).map V.int)->(∀ j',j'<j->HT.lexLt (ks j') (ks i)=false)->codeAny (model X.prog X.w) X.A (.builtin "min.loop" ⟨[.ref It,.ref f,.ref S],[]⟩) R s:=by
 have hname:(toString "min" ++ toString ".loop":String)="min.loop":=by decide
 intro r
 induction r with
 | zero =>
   intro j i s H3 d n oI hr hj hij hs I hk hd j7;have yb:j=es.size:=by lia
   have n8:=I.pin (S,_) (List.mem_append_right _ (.head _));have KI:=I.pin (It,oI) (List.mem_append_right _ (.tail _ (.head _)));obtain⟨hob,_⟩:=(show bI X.prog X.w H3 s.heap a (.nH ob (.dT kvs)) from I.hok a _ (hs _ _ F.ha))
   refine codeAny_builtin PySem.F.entry_min_loop ?_;rw[Around.under_plainId PySem.F.plain_min_loop _];show wpAny _ X.A.in1 (seqItems? (.ref S) >>= _) _ _ _;refine wpAny_bind (wpAny_seqItems n8.1 rfl ?_);show wpAny _ X.A.in1 (tryCatch (pyNext (.ref It)) _ >>= _) _ _ _;refine wpAny_bind (wpAny_tryCatch (wQ KI.1 hk ⟨ob,hob,F.hob⟩ ?_));rw[yb,Array.getElem?_eq_none (Nat.le_refl _)];refine⟨F.hh,fun h' eb=>?_⟩
   have I1:=I.gv (t':=s.toks) (h':=h') (pb:=(S,seqObj "list" #[.ref (ka i),.ref d] n)::pins) F.oI (List.Mem.tail _ (.head _)) (fun b u hb e=>eb b u hb e) (fun p hp=>by
    rcases List.mem_cons.mp hp with rfl|hp
    ·exact .inr ⟨.head _,F.SI⟩
    ·exact .inr ⟨.tail _ (.tail _ (.tail _ hp)),pI p hp⟩)
   have Cr:=I1.pin (S,_) (List.mem_append_right _ (.head _));show wpAny _ X.A.in1 (updateSeq S (fun _=>#[]) >>= _) _ _ _
   refine wpAny_bind (wpAny_updateSeq Cr.1 rfl (wpAny_bind (wpAny_letGo (wpAny_pure ?_))));have s1:=Heap.SameBut.update h' S (Obj.mapSeq fun _=>(#[]:Array Value))
   exact hR i _ H3 (by lia) (fun j' hj'=>j7 j' (by lia)) hs (I1.gv (t':=s.toks) (pb:=pins) F.oS (.head _) (fun b u hb e=>(s1.2 b hb).trans e) fun p hp=>.inr ⟨.tail _ hp,pS p hp⟩)
 | succ r ih =>
   intro j i s H3 d n oI hr hj hij hs I hk hd j7;have yb:j<es.size:=by lia
   have n8:=I.pin (S,_) (List.mem_append_right _ (.head _));have KI:=I.pin (It,oI) (List.mem_append_right _ (.tail _ (.head _)));obtain⟨hob,_⟩:=(show bI X.prog X.w H3 s.heap a (.nH ob (.dT kvs)) from I.hok a _ (hs _ _ F.ha))
   refine codeAny_builtin PySem.F.entry_min_loop ?_;rw[Around.under_plainId PySem.F.plain_min_loop _];show wpAny _ X.A.in1 (seqItems? (.ref S) >>= _) _ _ _;refine wpAny_bind (wpAny_seqItems n8.1 rfl ?_);show wpAny _ X.A.in1 (tryCatch (pyNext (.ref It)) _ >>= _) _ _ _;refine wpAny_bind (wpAny_tryCatch (wQ KI.1 hk ⟨ob,hob,F.hob⟩ ?_));have hget:(es[j]?:Option DictEntry)=some es[j]:=Array.getElem?_eq_getElem yb;rw[hget];intro h' DB Wj hk' sb;have I1:=I.gv (t':=s.toks) (h':=h') (pb:=pe pins S It f (seqObj "list" #[.ref (ka i),.ref d] n) DB (eM X params body scope c ctv)) F.oI (List.Mem.tail _ (.head _)) (fun b u hb e=>(sb.2 b hb).trans e) (fun p hp=>by
    rcases List.mem_cons.mp hp with rfl|hp
    ·exact .inr ⟨.head _,F.SI⟩
    ·rcases List.mem_cons.mp hp with rfl|hp
     ·exact .inl ⟨rfl,Wj,fun v z=>by rw[hk'.2]at z;cases z⟩
     ·rcases List.mem_cons.mp hp with rfl|hp
      ·exact .inr ⟨.tail _ (.tail _ (.head _)),F.fI⟩
      ·exact .inr ⟨.tail _ (.tail _ (.tail _ hp)),pI p hp⟩)
   rw[F.key j _ hget];show wpAny _ X.A.in1 (tryCatch (holding [.ref (ka j)] (call (.ref f) [.ref (ka j)])) _ >>= _) _ _ _;refine wpAny_bind (wpAny_tryCatch (wpAny_holding (wpAny_mono (Cq F yb hs I1 (List.Mem.tail _ (.tail _ (.head _)))) (fun u s2 hu=>?_) fun _ _ z=>z)))
   obtain⟨d2,H4,rfl,I2,Jz,h34,hd2⟩:=hu;have hdo:aX X.K H4 d ((ks i).map V.int):=h34.sqT hd;show wpAny _ X.A.in1 (tryCatch (holding [.ref (ka j),.ref d2] (richCompare .Lt (.ref d2) (.ref d) >>= _)) _ >>= _) _ _ _;refine wpAny_bind (wpAny_tryCatch (wpAny_holding (wpAny_bind (KG I2 hd2 hdo F.un ?_))));refine wpAny_bind (wpAny_holding (wpAny_truthy_bool (wpAny_bind (wpAny_letGo (wpAny_pure ?_)))));have iN:=I2.pin (S,_) (List.mem_append_right _ (.head _));cases hl:HT.lexLt (ks j) (ks i) with
   | true =>
     have s1:=Heap.SameBut.update s2.heap S (Obj.mapSeq fun _=>(#[.ref (ka j),.ref d2]:Array Value))
     obtain⟨n2,hn2⟩:∃ n2,(s2.heap.update S (Obj.mapSeq fun _=>(#[.ref (ka j),.ref d2]:Array Value))).get? S=some (seqObj "list" #[.ref (ka j),.ref d2] n2):=⟨_,get?_update_seq iN.1 fun _=>#[.ref (ka j),.ref d2]⟩
     simp only[if_true];refine wpAny_bind (wpAny_updateSeq iN.1 rfl (wpAny_bind (wpAny_letGo ?_)));rw[hname];have I3:=I2.gv (t':=s2.toks) (pb:=pe pins S It f (seqObj "list" #[.ref (ka j),.ref d2] n2) DB (eM X params body scope c ctv)) F.oS (.head _) (fun b u hb e=>(s1.2 b hb).trans e) (fun p hp=>by
      rcases List.mem_cons.mp hp with rfl|hp
      ·exact .inl ⟨rfl,hn2,fun v z=>by cases z⟩
      ·rcases List.mem_cons.mp hp with rfl|hp
       ·exact .inr ⟨.tail _ (.head _),F.SI.symm⟩
       ·rcases List.mem_cons.mp hp with rfl|hp
        ·exact .inr ⟨.tail _ (.tail _ (.head _)),F.fS⟩
        ·exact .inr ⟨.tail _ (.tail _ (.tail _ hp)),pS p hp⟩)
     refine wpAny_pure ⟨plainId_quiet PySem.F.plain_min_loop _,ih (j+1) j _ H4 d2 n2 DB (by lia) (by lia) (by lia) Jz I3 hk' hd2 fun j' hj'=>?_⟩
     by_cases e:j' = j
     ·rw[e];exact HT.gO _
     ·exact HT.wO (j7 j' (by lia)) hl
   | false =>
     simp only[Bool.false_eq_true,if_false];refine wpAny_bind (wpAny_letGo ?_);rw[hname];refine wpAny_pure ⟨plainId_quiet PySem.F.plain_min_loop _,ih (j+1) i _ H4 d n DB (by lia) (by lia) (by lia) Jz I2 hk' hdo fun j' hj'=>?_⟩
     by_cases e:j' = j
     ·rw[e];exact hl
     ·exact j7 j' (by lia)
end
end L2
namespace L2
open PySem PySem.Spec PyProof.Rows
theorem boot_min:bootBuiltins "min"=some (.builtin "min"):=by kernel_rfl
def RH(K:PySem.W.Frag)(P:Addr)(q:Str)(lp:Pos)(ta:TA)(te:TE)(js:List Nat):TE:=fun σ H Q=>ta σ H fun vs H1=>∃ a kvs,∃ ks:Nat->List Int,vs=[.ref a]/\H1 a=some (.dT kvs)/\0<kvs.length/\H1 P=some (.jT (fk q lp))/\
 (∀ ob H3,(∀ b u,H1 b=some u->b≠a->(∀ y,u≠.own y)->(∀ qs,u≠.jT qs)->H3 b=some u)->H3 a=some (.nH ob (.dT kvs))->
  ∀(i:Nat) kv b,kvs[i]?=some kv->H3 b=some (.tup (kv.1.map kV))->te (some (.ref b)::fN σ js) H3 fun v H4=>av H3 H4/\∃ d,v = .ref d/\aX K H4 d ((ks i).map V.int))/\
 ∀(i:Nat) kv b H4,kvs[i]?=some kv->(∀ j,j<kvs.length->HT.lexLt (ks j) (ks i)=false)->av H1 H4->H4 b=some (.tup (kv.1.map kV))->Q (.ref b) H4
theorem tG{α β:Type}{R:α->β->Prop}:∀{l₁:List α} {l₂:List β},Paired R l₁ l₂->∀{i:Nat} {a:α} {b:β},l₁[i]?=some a->l₂[i]?=some b->R a b
 | _,_,.nil,i,_,_,h,_=>by simp at h
 | _,_,.cons r t,0,_,_,h1,h2=>by
   simp at h1 h2;subst h1 h2;exact r
 | _,_,.cons r t,i+1,_,_,h1,h2=>tG t (by simpa using h1) (by simpa using h2)
section
variable {X:Cx}{params:Arguments}{body e:Expr}{scope:Scope}{lp p pos kp:Pos}{frees:List Str}{js:List Nat}{x:Str}{ta:TA}{te:TE}{c0 P:Addr}{k:Nat}
theorem MS(hr:gG (k+2) X.A)(T:d9 X scope [x] frees js)(hx:scope.names.lookup x=some .local)(hg:Gl X "min")(hm:X.mg "min"=none)(hcode:X.env.code = .ref c0)(hK:PySem.W.codeHdIn X.K c0 P=true)(ha:PA X [e] ta)
 (he:∀ f c s H,gG k (wN X ([x]++frees) scope f c X.A.in1 s H).A->PE (wN X ([x]++frees) scope f c X.A.in1 s H) body te)
 (hb:∀ c ctv u,bindArgs (Cj X params body scope c ctv) ⟨[u],[]⟩=pure [(x,u)]:=by intro _ _ _;rfl) (hco:scope.isCoroutine=false:=by rfl) (hgen:scope.isGenerator=false:=by rfl)
 (hdef:defaultsOf params X.env=([],[]):=by rfl)
 (hs:backTo pos (starEach [e] X.env)=(false,eval e X.env)::backTo pos (starEach [] X.env):=by rfl) (hs2:(backTo pos (starEach [e] X.env)).any (·.1)=false:=by rfl) :
 PE X (.Call (.Name "min" p) [e] [⟨some (Str.ofString "key"),.Lambda params body scope lp,kp⟩] pos) (RH X.K P (X.env.qual ++ "<lambda>") lp ta te js):=by
 intro pins s σ H Q I h;refine wpAny_Call_Name_kw (nK I hg hm boot_min (callWith_kw (dP (ha pos pins s σ H _ I h) fun us s1 hq=>?_) hs hs2 rfl rfl))
 obtain⟨vs,H1,I1,r1,a,kvs,ks,rfl,hda,hne,hP,hturn,O6⟩:=hq;obtain⟨u,rfl,rx⟩:=vals1 r1;cases rx;refine kws_cons (Ck I1 T hcode hK hP hdef fun f c oc ctv s2 hc Cm hoc J=>kws_nil ?_)
 show wpAny _ X.A (call (.builtin "min") [.ref a] [(Str.ofString "key",.ref f)]) _ _ s2;have hname:(toString "min" ++ toString ".loop":String)="min.loop":=by decide
 have hla:=vq (oc:=oc) hP hc hda (by intro y z;cases z) (by intro y z;cases z)
 obtain⟨hz,hsys,xs,pr,ob,es,ep,hgo,hex,hdat,hes,hnd⟩:=(show bI X.prog X.w (gi H1 P c oc (X.env.qual ++ "<lambda>") lp) s2.heap a (.dT kvs) from J.hok a _ hla)
 have J2:=J.MR hla hgo;have hsz:es.size=kvs.length:=by
  have:=congrArg List.length hes;rw[List.length_map,<-pr.length]at this
  simpa using this
 have hxs:xs.length=kvs.length:=pr.length.symm;have hka:∀ i,i<kvs.length->∃ kv y,kvs[i]?=some kv/\xs[i]?=some y/\gi H1 P c oc (X.env.qual ++ "<lambda>") lp y.2.1=some (.tup (kv.1.map kV)):=fun i hi=>by
  have e1:kvs[i]?=some kvs[i]:=List.getElem?_eq_getElem hi;have e2:xs[i]?=some (xs[i]'(by lia)):=List.getElem?_eq_getElem _
  exact⟨_,_,e1,e2,(tG pr e1 e2).2.1⟩
 have O7:gi H1 P c oc (X.env.qual ++ "<lambda>") lp P=some (.jT (fk (X.env.qual ++ "<lambda>") lp++pX lp c)):=ah;have MT:gi H1 P c oc (X.env.qual ++ "<lambda>") lp c=some (.nH oc (.own P)):=by unfold gi;rw[aq Cm,ah]
 have ca:c≠a:=aY MT hla (by intro z;cases z)
 have pa:P≠a:=aY O7 hla (by intro z;cases z)
 generalize Mh:upd (gi H1 P c oc (X.env.qual ++ "<lambda>") lp) a (.nH ob (.dT kvs))=H2 at J2;have at2:∀ b u,b≠a->gi H1 P c oc (X.env.qual ++ "<lambda>") lp b=some u->H2 b=some u:=fun b u n e=>by rw[<-Mh,aq n];exact e
 have a2:H2 a=some (.nH ob (.dT kvs)):=by rw[<-Mh,ah]
 let ka:Nat->Addr:=fun i=>((xs[i]?).map (·.2.1)).getD 0
 have O8:∀{i:Nat} {y:List Key×Addr×Value},xs[i]?=some y->ka i=y.2.1:=fun {i y} e=>by show((xs[i]?).map (·.2.1)).getD 0=_;rw[e];rfl
 refine kmk_tree PySem.F.kind_min PySem.F.plain_min PySem.F.entry_min (kmk_min_key _ _) ?_;show wpAny _ X.A.in1 (Builtin.Builtins.bindParams "min" ["key","default"] 0 ⟨[],[(Str.ofString "key",.ref f)]⟩ >>= _) _ _ s2;refine wpAny_bind (wpAny_of_eq (show Builtin.Builtins.bindParams "min" ["key","default"] 0 ⟨[],[(Str.ofString "key",.ref f)]⟩=pure [some (.ref f),none] from rfl) ?_)
 refine wpAny_bind (wpAny_pure (wpAny_bind (KD hsys ⟨ob,hgo,hex,hdat⟩ (wpAny_bind (wpAny_newList ?_ (Nat.zero_le _))))));rw[hname];refine wpAny_pure ⟨plainId_quiet PySem.F.plain_min_loop _,?_⟩;generalize IP:({ cls:=.type "dict_keyiterator",data:=.fields #[.ref a,.int 0 0,.int es.size 0,.int ep 0]}:Obj)=oI;have hkI:Ui oI a 0 es.size ep:=by rw[<-IP];exact⟨rfl,rfl⟩
 have hS:(s2.heap.push oI).objs.size=s2.heap.objs.size+1:=size_push' ..;have hk2:∀ b o,s2.heap.get? b=some o->((s2.heap.push oI).push (seqObj "list" #[] 0)).get? b=some o:=fun b o e=>Heap.get?_push_of_some _ (Heap.get?_push_of_some _ e)
 have gI:((s2.heap.push oI).push (seqObj "list" #[] 0)).get? s2.heap.objs.size=some oI:=Heap.get?_push_of_some _ (Heap.get?_push_size _ (by rw[<-IP];rfl))
 have gS:((s2.heap.push oI).push (seqObj "list" #[] 0)).get? (s2.heap.push oI).objs.size=some (seqObj "list" #[] 0):=Heap.get?_push_size _ rfl;have IQ:∀ p∈(f,eM X params body scope c ctv)::pins,p.1<s2.heap.objs.size:=fun p hp=>Heap.lt_size (J2.pin p (List.mem_append_right _ hp)).1
 have Hq:=J2.Ej (Nat.le_refl s2.heap.objs.size);have oS:=J2.Ej (b:=(s2.heap.push oI).objs.size) (by rw[hS];exact Nat.le_succ _)
 have F:Ek X σ H2 params body scope frees js x te f c a s2.heap.objs.size (s2.heap.push oI).objs.size oc ob ctv kvs es ep ka ks P:=by
  refine⟨T,hx,hr.hd,(hr.in1).depth,(hr.in1).DM,fun u=>hb c ctv u,hco,hgen,fun s H=>he f c s H ((hr.in1).deeper _),hoc,at2 c _ ca MT,a2,⟨hex,hdat⟩,fun i e hi=>?_,fun i H3 hi DC=>?_,oS,Hq,by rw[hS];exact Nat.succ_ne_self _,?_,Nat.ne_of_lt (IQ _ (.head _))⟩
  ·have hi' : i<kvs.length:=by rw[<-hsz];exact(Array.getElem?_eq_some_iff.mp hi).1
   obtain⟨kv,y,e1,e2,_⟩:=hka i hi';have e3:=congrArg (fun l=>l[i]?) hes
   simp only[List.getElem?_map,e2,Option.map_some,Array.getElem?_toList]at e3;rw[hi]at e3;have e4:=Option.some.inj e3;rw[e4,O8 e2];rfl
  ·obtain⟨kv,y,e1,e2,e3⟩:=hka i (by lia)
   refine hturn ob H3 (fun b u eb nb n1 n2=>DC _ _ (at2 b u nb (vq hP hc eb n1 n2))) (DC _ _ a2) i kv (ka i) e1 ?_
   rw[O8 e2];exact DC _ _ (at2 _ _ (aY e3 hla (by intro z;cases z)) e3)
  ·rw[hS];exact Nat.ne_of_lt (Nat.lt_succ_of_lt (IQ _ (.head _)))
 have pI:∀ p∈pins,p.1≠s2.heap.objs.size:=fun p hp=>Nat.ne_of_lt (IQ p (.tail _ hp))
 have pS:∀ p∈pins,p.1≠(s2.heap.push oI).objs.size:=fun p hp=>by rw[hS];exact Nat.ne_of_lt (Nat.lt_succ_of_lt (IQ p (.tail _ hp)))
 have J3:Inv X (pe pins (s2.heap.push oI).objs.size s2.heap.objs.size f (seqObj "list" #[] 0) oI (eM X params body scope c ctv)) σ H2 { s2 with heap:=(s2.heap.push oI).push (seqObj "list" #[] 0)}:=by
  have K:=J2.kept (t':=s2.toks) hk2;refine K.fV fun p hp=>?_
  rcases List.mem_cons.mp hp with rfl|hp
  ·exact⟨gS,J2.hok.fresh (by rw[hS];exact Nat.le_succ _),oS.2.1,oS.2.2.1,fun v z=>by cases z⟩
  ·rcases List.mem_cons.mp hp with rfl|hp
   ·exact⟨gI,J2.hok.fresh (Nat.le_refl _),Hq.2.1,Hq.2.2.1,fun v z=>by rw[hkI.2]at z;cases z⟩
   ·exact K.pin p (List.mem_append_right _ hp)
 have h0:0<es.size:=by lia
 have hget:(es[0]?:Option DictEntry)=some es[0]:=Array.getElem?_eq_getElem h0;have n8:=J3.pin ((s2.heap.push oI).objs.size,seqObj "list" #[] 0) (List.mem_append_right _ (.head _));have KI:=J3.pin (s2.heap.objs.size,oI) (List.mem_append_right _ (.tail _ (.head _)));refine codeAny_builtin PySem.F.entry_min_loop ?_;rw[Around.under_plainId PySem.F.plain_min_loop _];show wpAny _ X.A.in1 (seqItems? (.ref _) >>= _) _ _ _;refine wpAny_bind (wpAny_seqItems n8.1 rfl ?_);show wpAny _ X.A.in1 (tryCatch (pyNext (.ref s2.heap.objs.size)) _ >>= _) _ _ _;refine wpAny_bind (wpAny_tryCatch (wQ KI.1 hkI ⟨ob,hk2 _ _ hgo,hex,hdat⟩ ?_));rw[hget];intro h' DB Wj hk' sb;have I4:=J3.gv (t':=s2.toks) (h':=h') (pb:=pe pins (s2.heap.push oI).objs.size s2.heap.objs.size f (seqObj "list" #[] 0) DB (eM X params body scope c ctv)) F.oI (List.Mem.tail _ (.head _)) (fun b u hb e=>(sb.2 b hb).trans e) (fun p hp=>by
  rcases List.mem_cons.mp hp with rfl|hp
  ·exact .inr ⟨.head _,F.SI⟩
  ·rcases List.mem_cons.mp hp with rfl|hp
   ·exact .inl ⟨rfl,Wj,fun v z=>by rw[hk'.2]at z;cases z⟩
   ·rcases List.mem_cons.mp hp with rfl|hp
    ·exact .inr ⟨.tail _ (.tail _ (.head _)),F.fI⟩
    ·exact .inr ⟨.tail _ (.tail _ (.tail _ hp)),pI p hp⟩)
 rw[F.key 0 _ hget];show wpAny _ X.A.in1 (tryCatch (holding [.ref (ka 0)] (call (.ref f) [.ref (ka 0)])) _ >>= _) _ _ _;refine wpAny_bind (wpAny_tryCatch (wpAny_holding (wpAny_mono (Cq F h0 (av.refl _) I4 (List.Mem.tail _ (.tail _ (.head _)))) (fun u s3 hu=>?_) fun _ _ z=>z)))
 obtain⟨d2,H4,rfl,I5,Jz,_,hd2⟩:=hu;have iN:=I5.pin ((s2.heap.push oI).objs.size,_) (List.mem_append_right _ (.head _));have s1':=Heap.SameBut.update s3.heap (s2.heap.push oI).objs.size (Obj.mapSeq fun _=>(#[.ref (ka 0),.ref d2]:Array Value))
 obtain⟨n2,hn2⟩:∃ n2,(s3.heap.update (s2.heap.push oI).objs.size (Obj.mapSeq fun _=>(#[.ref (ka 0),.ref d2]:Array Value))).get? (s2.heap.push oI).objs.size=some (seqObj "list" #[.ref (ka 0),.ref d2] n2):=⟨_,get?_update_seq iN.1 fun _=>#[.ref (ka 0),.ref d2]⟩
 show wpAny _ X.A.in1 (updateSeq (s2.heap.push oI).objs.size (fun _=>#[.ref (ka 0),.ref d2]) >>= _) _ _ _
 refine wpAny_bind (wpAny_updateSeq iN.1 rfl ?_);rw[hname];have I6:=I5.gv (t':=s3.toks) (pb:=pe pins (s2.heap.push oI).objs.size s2.heap.objs.size f (seqObj "list" #[.ref (ka 0),.ref d2] n2) DB (eM X params body scope c ctv)) F.oS (.head _) (fun b u hb e=>(s1'.2 b hb).trans e) (fun p hp=>by
  rcases List.mem_cons.mp hp with rfl|hp
  ·exact .inl ⟨rfl,hn2,fun v z=>by cases z⟩
  ·rcases List.mem_cons.mp hp with rfl|hp
   ·exact .inr ⟨.tail _ (.head _),F.SI.symm⟩
   ·rcases List.mem_cons.mp hp with rfl|hp
    ·exact .inr ⟨.tail _ (.tail _ (.head _)),F.fS⟩
    ·exact .inr ⟨.tail _ (.tail _ (.tail _ hp)),pS p hp⟩)
 refine wpAny_pure ⟨plainId_quiet PySem.F.plain_min_loop _,KH F pI pS (fun i s' H3 hi best DC I7=>?_) _ 1 0 _ H4 d2 n2 DB rfl h0 (Nat.lt_succ_self _) Jz I6 hk' hd2 fun j hj=>?_⟩
 ·obtain⟨kv,y,e1,e2,e3⟩:=hka i (by lia)
  have i3:=DC _ _ a2;have I8:=Inv.RG J hla I7 i3;have p3:upd H3 a (.dT kvs) P=some (.jT (fk (X.env.qual ++ "<lambda>") lp++pX lp c)):=by rw[aq pa];exact DC _ _ (at2 _ _ pa O7)
  have c3:upd H3 a (.dT kvs) c=some (.nH oc (.own P)):=by rw[aq ca];exact DC _ _ (at2 _ _ ca MT)
  have I9:=Cn I1 hP hc Cm hoc I8 p3 c3;have ya:y.2.1≠a:=aY e3 hla (by intro z;cases z)
  have y3:upd H3 a (.dT kvs) y.2.1=some (.tup (kv.1.map kV)):=by rw[aq ya];exact DC _ _ (at2 _ _ ya e3)
  refine⟨.ref (ka i),_,I9,rfl,O6 i kv (ka i) _ e1 (fun j hj=>best j (by lia)) (Co hP hc Cm (oc:=oc) fun b u eb=>?_) ?_⟩
  ·by_cases hb:b=a
   ·subst hb;rw[hla]at eb;rw[ah];exact eb
   ·rw[aq hb];exact DC _ _ (at2 _ _ hb eb)
  ·rw[O8 e2];unfold given;rw[aq (aY y3 p3 (by intro z;cases z)),aq (aY y3 c3 (by intro z;cases z))]
   exact y3
 ·have e:j=0:=by lia
  rw[e];exact HT.gO _
end
end L2
namespace L2
open PySem PySem.Spec PyProof.Rows
section
variable {P:Program}{w:World}{A:Around}{E:Value->Shared->Prop}{s:Shared}{a:Addr}{es:Array DictEntry}{ep:Nat}
theorem O9(hd:(a==sysModules)=false):MeetsIn P w (Builtin.«dict.__len__» ⟨[.ref a],[]⟩) (fun _ R s=>∃ es ep,Uh s.heap a es ep/\R (.ok (.ret (.int es.size s.toks))) { s with toks:=s.toks+1}) :=
 .of_wp fun A R s ⟨es,ep,⟨o,ho,_,hdat⟩,h⟩=>by
  show wpAny _ _ (dictSize a >>= _) _ _ s;unfold dictSize;refine wpAny_bind (wpAny_bind (wpAny_dictEntries ho hdat (wpAny_pure ?_)));show wpAny _ _ (Builtin.Dict.pendingCount a >>= _) _ _ s;refine wpAny_bind (wpAny_pendingCount_other hd (wpAny_ret_mkInt ?_));rw[Nat.add_zero];exact h
theorem Hr{Q:Value->Shared->Prop}(hd:(a==sysModules)=false)(g:Uh s.heap a es ep)(hfit:(es.size:Int)<2^63)(h:Q (.int es.size (s.toks+1)) { s with toks:=s.toks+1+1}):
 wpAny (model P w) A (call (.builtin "len") [.ref a]) Q E s:=by
 have hT:s.TypeIs (.ref a) "dict":=let⟨o,ho,hc,_⟩:=g;⟨o,ho,hc.1⟩;refine Calls.call_function_entry kind_len plain_len entry_len (args_len1 _) ?_;unfold Builtin.«len»;refine wpAny_bind (m:=oneArg "len" _) (wpAny_pure ?_);refine wpAny_bind (m:=callSpecial? (.ref a) (Str.ofString "__len__")) (wpAny_callSpecial?_slot (name:=Str.ofString "__len__") hT PySem.F.slot_dict_len
  (call_meetsIn PySem.F.slot_dict_len hT PySem.F.entry_dict_len (PySem.F.args_dict_len_1 _) (O9 hd) ⟨es,ep,g,?_⟩))
 show wpAny _ _ _ _ _ { s with toks:=s.toks+1}
 refine wpAny_bind (wpAny_holding (wpAny_pure (wpAny_bind (wpAny_letGo ?_))));show wpAny _ _ (if((es.size:Nat):Int)<0 then _ else _) _ _ _
 rw[if_neg (by lia)]
 show wpAny _ _ (if((es.size:Nat):Int) ≥ 2^63 then _ else _) _ _ _
 rw[if_neg (by lia)]
 exact wpAny_bind (wpAny_mkInt (wpAny_pure ⟨_,rfl,h⟩))
end
theorem erase_filter{K α:Type}[DecidableEq K]{k:K}{p:α}:∀{xs:List (K×α)} {j:Nat},(xs.map (·.1)).Nodup->xs[j]?=some (k,p)->xs.eraseIdx j=xs.filter fun x=>decide (x.1≠k)
 | [],j,_,h=>by simp at h
 | x::r,0,nd,h=>by
   simp at h;subst h;rw[List.map_cons,List.nodup_cons]at nd;rw[List.eraseIdx_cons_zero,List.filter_cons,if_neg (by simp)]
   refine(List.filter_eq_self.mpr fun y hy=>?_).symm
   have z:y.1≠k:=fun z=>nd.1 (List.mem_map.mpr ⟨y,hy,z⟩)
   simp[z]
 | x::r,j+1,nd,h=>by
   rw[List.map_cons,List.nodup_cons]at nd;have h:r[j]?=some (k,p):=by simpa using h
   have hx:x.1≠k:=fun z=>nd.1 (by rw[z];exact List.mem_map_of_mem (f:=(·.1)) (List.mem_of_getElem? h))
   rw[List.eraseIdx_cons_succ,List.filter_cons,if_pos (decide_eq_true hx),erase_filter nd.2 h]
theorem p8{α β:Type}(f:α->β):∀(l:List α) (i:Nat),(l.map f).eraseIdx i=(l.eraseIdx i).map f
 | [],_=>rfl
 | _::_,0=>rfl
 | x::r,i+1=>by rw[List.map_cons,List.eraseIdx_cons_succ,List.eraseIdx_cons_succ,List.map_cons,p8 f r i]
theorem KT.drop{H:Hp}{kvs:List (List Key×V)}{xs:List (List Key×Addr×Value)}(r:KT H kvs xs)(k:List Key):KT H (ee kvs k) (xs.filter fun x=>decide (x.1≠k)):=by
 unfold ee
 induction r with
 | nil=>exact .nil
 | @cons p q ps qs h t ih =>
   rw[List.filter_cons,List.filter_cons]
   by_cases e:p.1=k
   ·rw[if_neg (by simp[e]),if_neg (by simp[h.1.symm.trans e])];exact ih
   ·have e' : ¬ q.1=k:=fun z=>e (h.1.trans z)
    rw[if_pos (by simp[e]),if_pos (by simp[e'])];exact .cons h ih
section
variable {P:Program}{w:World}{A:Around}{E:Value->Shared->Prop}{s:Shared}{K:Type}[DecidableEq K]{knd:HeapKind P w K}{d b:Addr}{xs:List (K×Addr×Value)}{k:K}{j:Nat}{p:Addr×Value}
theorem Pa{Q:Option DictEntry->Shared->Prop}(hu:knd.room A)(hkey:knd.is s.heap k b)(hm:s.heap.DictOfH knd d xs)(hj:xs[j]?=some (k,p))(hsz:xs.length<=sizeLine)
 (h:∀ e h' o' es' Gr,e.val=p.2->h'.get? d=some o'->o'.ExactDict->o'.data = .dict es' Gr->es'.toList=(xs.eraseIdx j).map (entryOfKey knd)->Heap.SameBut d s.heap h'->Q (some e) { s with heap:=h',toks:=s.toks+knd.draws k}) :
 wpAny (model P w) A (Builtin.Dict.takeOut d (.ref b)) Q E s:=by
 obtain⟨o,es,ep,ho,hc,hd,he,his,hn⟩:=hm;unfold Builtin.Dict.takeOut
 try with_reducible refine wpAny_holding ?_
 refine wpAny_bind (knd.pyHash hu hkey (wpAny_bind (wpAny_dictFind_heap (s:={ s with toks:=s.toks+knd.draws k}) hu hkey ho hd he his hn (fun hno=>absurd hj (hno j p)) fun j' p' hj'=>?_)))
 have hjj:j' = j:=idxH_unique hn hj' hj;subst hjj;refine wpAny_bind (wpAny_dictEntries (s:={ s with toks:=s.toks+knd.draws k}) ho hd ?_)
 rw[entry_at he j',hj];refine wpAny_bind (wpAny_updateDictKeys (hz:=by have e:=size_of_entries he;lia) (s:={ s with toks:=s.toks+knd.draws k}) ho hd (wpAny_pure (h _ _ _ _ (ep+1) rfl (Heap.get?_update_self _ ho (Obj.isFreed_of_dict (Obj.data_mapDictKeys hd _))) (hc.mapDictKeys _) (Obj.data_mapDictKeys hd _) ?_ (Heap.SameBut.update ..))))
 rw[<-p8,<-he];obtain⟨l⟩:=es;simp
theorem RI{Q:Value->Shared->Prop}(hu:knd.room A.in1)(hkey:knd.is s.heap k b)(hm:s.heap.DictOfH knd d xs)(hj:xs[j]?=some (k,p))(hsz:xs.length<=sizeLine)
 (h:∀ h' o' es' Gr,h'.get? d=some o'->o'.ExactDict->o'.data = .dict es' Gr->es'.toList=(xs.eraseIdx j).map (entryOfKey knd)->Heap.SameBut d s.heap h'->Q p.2 { s with heap:=h',toks:=s.toks+knd.draws k}) :
 wpAny (model P w) A (call (.builtin "dict.pop") [.ref d,.ref b]) Q E s:=by
 have hT:=hm.typeIs;refine wpAny_call_entry PySem.F.slot_dict_pop hT PySem.F.entry_dict_pop ?_ (PySem.F.args_dict_pop_2 _ _);unfold Builtin.«dict.pop» Builtin.Dict.keyAndDefault;refine wpAny_bind (wpAny_bind (wpAny_notOrdered_dict hT ?_));show wpAny _ _ (pure (d,Value.ref b,(none:Option Value))) _ _ s;refine wpAny_pure ?_;obtain⟨o,es,ep,ho,hc,hd,he,his,hn⟩:=id hm;have hne:es.isEmpty=false:=by
  have e:=size_of_entries he;have hl:=(List.getElem?_eq_some_iff.mp hj).1;rw[Array.isEmpty_eq_false_iff_exists_mem];exact⟨es[j]'(by lia),Array.getElem_mem _⟩
 have hkp:(keyPart (Value.ref b)).isSome=false:=rfl;simp only[hkp,Bool.false_eq_true,if_false];refine wpAny_bind (wpAny_dictEntries ho hd (wpAny_bind (wpAny_pure ?_)));rw[hne];simp only[Bool.false_eq_true,if_false];refine wpAny_bind (Pa hu hkey hm hj hsz fun e h' o' es' Gr e1 e2 e3 e4 e5 e6=>?_)
 simp only[Option.isNone_some,Bool.false_eq_true,if_false];refine wpAny_bind (wpAny_letGo (wpAny_pure ⟨e.val,rfl,?_⟩));rw[e1];exact h h' o' es' Gr e2 e3 e4 e5 e6
end
section
variable {X:Cx}{pins:List (Addr×Obj)}{σ:St}{H:Hp}{s:Shared}
theorem Wm:gW X (.builtin "len") (fun xs H Q=>∃ a kvs,xs=[.ref a]/\Rd H a (.dT kvs)/\Q (.int kvs.length) H):=by
 intro pins s σ H xs us Q I r h;obtain⟨a,kvs,rfl,e,q⟩:=h;obtain⟨u,rfl,rx⟩:=vals1 r;cases rx;obtain⟨z,hsys,ys,pr,ob,es,ep,hgo,hex,hdat,hes,hnd⟩:=(show bI X.prog X.w H s.heap a (.dT kvs) from e.ok I.hok)
 have hsz:es.size=kvs.length:=by
  have:=congrArg List.length hes;rw[List.length_map,<-pr.length]at this
  simpa using this
 refine Hr hsys ⟨ob,hgo,hex,hdat⟩ (by rw[hsz];rw[sizeLine_eq]at z;lia) ?_
 rw[hsz];exact⟨.int kvs.length,H,I.tok _,⟨_,rfl⟩,q⟩
def Pb(td ty:TE):TE:=fun σ H Q=>td σ H fun x H1=>∃ a,x = .ref a/\We H1 a/\ty σ H1 fun y H2=>∃ kvs k b v,H2 a=some (.dT kvs)/\y = .ref b/\H2 b=some (.tup (k.map kV))/\eV kvs k=some v/\Q v (upd H2 a (.dT (ee kvs k)))
theorem Pc{A:Around}{E:Value->Shared->Prop}{a b:Addr}{kvs:List (List Key×V)}{k:List Key}{v:V}{Q:Value->Shared->Prop}(hu:A.units+1<cLine)(I:Inv X pins σ H s)(e:H a=some (.dT kvs))(eb:H b=some (.tup (k.map kV)))(l:eV kvs k=some v)
 (h:∀ w' s',Inv X pins σ (upd H a (.dT (ee kvs k))) s'->RelV v w'->Q w' s'):wpAny (model X.prog X.w) A (call (.builtin "dict.pop") [.ref a,.ref b]) Q E s:=by
 obtain⟨z,hd,xs,rel,dd⟩:=JX I.hok e;have hv:=rel.val k;rw[l]at hv;obtain⟨w',hw,rw'⟩:=sC.some_of hv;obtain⟨p,Uj,P7⟩:=Option.map_eq_some_iff.mp hw;obtain⟨j,hj⟩:∃ j,xs[j]?=some (k,p):=by
  unfold atKey at Uj;obtain⟨y,hy1,hy2⟩:=Option.map_eq_some_iff.mp Uj;have hk:=List.find?_some hy1;have hm:=List.mem_of_find?_eq_some hy1;obtain⟨j,hj⟩:=List.getElem?_of_mem hm;have hk' : y.1=k:=of_decide_eq_true hk;exact⟨j,by rw[hj,<-hk',<-hy2]⟩
 have hnd:(xs.map (·.1)).Nodup:=let⟨_,_,_,_,_,_,_,_,hn⟩:=dd;hn;refine RI (tupleKind_room_in1 hu) (sV I.hok eb) dd hj (by rw[<-rel.length];exact z) fun h' o' es' Gr g1 g2 g3 g4 sb=>?_
 rw[P7];refine h w' _ ?_ rw';have hne:∀ b ys,H b=some (.tup ys)->upd H a (.dT (ee kvs k)) b=some (.tup ys):=fun b ys q=>by rw[aq (aY q e (by intro z;cases z))];exact q
 rw[erase_filter hnd hj]at g4;refine vo I (by rw[e];exact True.intro) sb ⟨o',g1⟩ ⟨Nat.le_trans (JW kvs k) z,hd,_,(rel.drop k).keeps hne,o',es',Gr,g1,g2,g3,g4,?_⟩
 exact hnd.sublist (List.filter_sublist.map _)
variable {o e:Expr}{apos cpos:Pos}{td ty:TE}
theorem KJ(hu:X.A.units+1<cLine)(ho:PE X o td)(he:PE X e ty)(m:M1 X o "pop" apos e cpos):PE X (.Call (.Attribute o "pop" apos) [e] [] cpos) (Pb td ty):=by
 intro pins s σ H Q I h;refine wpAny_Call_method m.base m.few m.line PySem.F.plainAttrs_dict PySem.F.slot_dict_pop PySem.F.type_dict_pop (dP (ho pins s σ H _ I h) fun u s1 ⟨x,H1,I1,rx,a,ex,d,q1⟩=>?_)
 subst ex;obtain rfl:u=Value.ref a:=rx;obtain⟨t1,t2,_⟩:=J7 I1 d;refine⟨t1,t2,?_⟩;rw[m.trees];refine Calls.callWith_builtin rfl (Calls.evalArgs_plain (Calls.spliced_cons (dP (he pins s1 σ H1 _ I1 q1) fun iv s2 ⟨y,H2,I2,ry,kvs,k,b,v,ea,ey,eb,l,q2⟩=>Calls.spliced_nil ?_)))
 subst ey;obtain rfl:iv=Value.ref b:=ry;exact Pc hu I2 ea eb l fun w' s3 I3 rw'=>⟨v,_,I3,rw',q2⟩
def Pd(tk tv:TE):TE:=fun σ H Q=>∀ p,H p=none->tk σ (upd H p (.dT [])) fun y H1=>tv σ H1 fun v H2=>∃ b k,y = .ref b/\H2 b=some (.tup (k.map kV))/\H2 p=some (.dT [])/\Q (.ref p) (upd H2 p (.dT [(k,v)]))
end
end L2
namespace L2
open PySem PySem.Spec PyProof.Rows
section
variable {X:Cx}{k v:Expr}{pos:Pos}{tk tv:TE}
theorem KL(hu:X.A.units+1<cLine)(hk:PE X k tk)(hv:PE X v tv):PE X (.Dict [some k] [v] pos) (Pd tk tv):=by
 intro pins s σ H Q I q;have hn:=I.hok.fresh (Nat.le_refl s.heap.objs.size);have I1:=I.laid (a:=s.heap.objs.size) (o:=.dT []) (h':=s.heap.push { cls:=.type "dict",data:=.dict #[]}) (t':=s.toks) (fun _ _ q=>Heap.get?_push_of_some _ q) (Nat.le_refl _) (J0 s.heap I.big)
 rw[arm_eval_Dict,zip_pairTrees [some k] [v] X.env pos rfl rfl,dictDisplay_pairs (pairTrees [some k] [v] X.env pos) (by intro z;cases z) (show 1<17 by decide)]
 refine wpAny_bind (wpAny_standAt (wpAny_bind ?_));unfold subDict;refine wpAny_bind (wpAny_alloc (wpAny_bind (wpAny_holding ?_)));rw[if_pos (show(pairTrees [some k] [v] X.env pos).length<=15 from(show 1<=15 by decide))]
 refine wpAny_bind (pairTrees_cons_walk (dP (hk pins _ σ _ _ I1 (q _ hn)) fun u s1 ⟨y,H1,I2,ry,q1⟩=>dP (hv pins s1 σ H1 _ I2 q1) fun u2 s2 ⟨vv,H2,I3,rv,b,ks,ey,eb,ep,q2⟩=>pairTrees_nil_walk ?_))
 subst ey;obtain rfl:u=Value.ref b:=ry;obtain⟨z,hd,xs,rel,dd⟩:=JX I3.hok ep;cases rel;refine wpAny_holding (wpAny_bind ?_);rw[List.forIn_cons];refine wpAny_bind (wpAny_bind (wpAny_dictSet_heap (hsz:=Nat.zero_le _) (show X.A.units<cLine from Nat.lt_of_succ_lt hu) (sV I3.hok eb) dd fun h' Qd hs=>wpAny_pure ?_))
 show wpAny _ _ (forIn [] PUnit.unit _) _ _ _;rw[List.forIn_nil];refine wpAny_pure (wpAny_pure (wpAny_pure (wpAny_pure ?_)));obtain⟨o',es',Gr,g1,g2,g3,g4,g5,g6⟩:=Qd;have hb:upd H2 s.heap.objs.size (.dT [(ks,vv)]) b=some (.tup (ks.map kV)):=by
  rw[aq (aY eb ep (by intro z;cases z))]
  exact eb
 have new:bI X.prog X.w (upd H2 s.heap.objs.size (.dT [(ks,vv)])) h' s.heap.objs.size (.dT [(ks,vv)]):=⟨(show 1<=sizeLine by decide),hd,[(ks,b,u2)],.cons ⟨rfl,hb,rv⟩ .nil,o',es',Gr,g1,g2,g3,g4,g6⟩
 exact⟨.ref s.heap.objs.size,_,vo I3 (by rw[ep];exact True.intro) hs ⟨o',g1⟩ new,rfl,q2⟩
end
end L2
namespace HT
open PySem PyProof.Rows
def MU(a b c d:Int):Bool:=if a=c then(if b=d then true else decide (b<=d)) else decide (a<=c)
theorem Aw(a b c d:Int):MU a b c d=true↔a<c\/(a=c/\b<=d):=by
 unfold MU
 by_cases h:a=c
 ·rw[if_pos h]
  by_cases h2:b=d
  ·rw[if_pos h2];simp[h,h2]
  ·rw[if_neg h2];simp only[decide_eq_true_eq];lia
 ·rw[if_neg h];simp only[decide_eq_true_eq];lia
theorem KN(A:Around)(s:Shared)(a:Int)(t:Tok)(c:Int)(u:Tok)(prog:Program)(w:World)(E:Value->Shared->Prop)(Q:Value->Shared->Prop)(h:Q (.bool (decide (a<=c))) s):
 wpAny (model prog w) A (richCompare .LtE (.int a t) (.int c u)) Q E s :=
 (PyProof.Rows.le_int h:wpAny (model prog w) A (compareOp .LtE (.int a t) (.int c u)) Q E s)
section
open PySem.SeqAt
open PySem.AutoSeq1 (wpAny_loadPart')
open PySem.MeetsSeq PySem.MeetsSeq2 PySem.MeetsSeq3
theorem Hs(l b:Addr)(items items2:Array Value)(n n2:Nat)(dd dd2:Option Addr)(sl sl2:Array (Option Value))(x1 y1 x2 y2:Int)(t1 u1 t2 u2:Tok)(hi:items.toList=[.int x1 t1,.int y1 u1])(hj:items2.toList=[.int x2 t2,.int y2 u2]):
 Meets (Builtin.«tuple.__le__» ⟨[.ref l,.ref b],[]⟩)
  (fun _ R s=>s.heap.get? l=some { cls:=.type "tuple",dict:=dd,data:=.seq items n,slots:=sl}/\s.heap.get? b=some { cls:=.type "tuple",dict:=dd2,data:=.seq items2 n2,slots:=sl2}/\
   R (.ok (.ret (.bool (MU x1 y1 x2 y2)))) s) :=
 .of_wp fun prog w A R s h=>by
  obtain⟨hp,g,d,tk,os⟩:=s;obtain⟨hl,hb,h⟩:=h;have f2:=AutoSeq1.sub_tuple_tuple;have z1:items.size=2:=by rw[<-Array.length_toList,hi];rfl
  have z2:items2.size=2:=by rw[<-Array.length_toList,hj];rfl
  wp_walk using wpAny_loadPart' hl,wpAny_loadPart' hb,wpAny_forIn_list _ (fun rest b s'=>b.1=none/\s' = ⟨hp,g,d,tk,os⟩/\
   ((rest=[((Value.int x1 t1:Value),(Value.int x2 t2:Value)),(.int y1 u1,.int y2 u2)]/\R (.ok (.ret (.bool (MU x1 y1 x2 y2)))) ⟨hp,g,d,tk,os⟩)\/
    (rest=[((Value.int y1 u1:Value),(Value.int y2 u2:Value))]/\R (.ok (.ret (.bool (if y1=y2 then true else decide (y1<=y2))))) ⟨hp,g,d,tk,os⟩)\/(rest=[]/\R (.ok (.ret (.bool true))) ⟨hp,g,d,tk,os⟩))) _
  case turn =>
   rintro⟨y,x⟩ rest b s' ⟨hb',rfl,hh⟩;obtain⟨a,c,t,u,vv,hy,hx,hR,hN⟩:∃(a c:Int) (t u:Tok) (vv:Bool),y = .int a t/\x = .int c u/\R (.ok (.ret (.bool (if a=c then vv else decide (a<=c))))) ⟨hp,g,d,tk,os⟩/\
    (R (.ok (.ret (.bool vv))) ⟨hp,g,d,tk,os⟩->(rest=[((Value.int y1 u1:Value),(Value.int y2 u2:Value))]/\R (.ok (.ret (.bool (if y1=y2 then true else decide (y1<=y2))))) ⟨hp,g,d,tk,os⟩)\/(rest=[]/\R (.ok (.ret (.bool true))) ⟨hp,g,d,tk,os⟩)):=by
    rcases hh with⟨hz,hR⟩|⟨hz,hR⟩|⟨hz,_⟩
    ·injection hz with ha hr
     obtain⟨hy,hx⟩:=Prod.mk.inj ha;exact⟨x1,x2,t1,t2,_,hy,hx,hR,fun Wn=>.inl ⟨hr,Wn⟩⟩
    ·injection hz with ha hr
     obtain⟨hy,hx⟩:=Prod.mk.inj ha;exact⟨y1,y2,u1,u2,true,hy,hx,hR,fun Wn=>.inr ⟨hr,Wn⟩⟩
    ·cases hz
   subst hy hx;obtain⟨e,he,Ji⟩:=Bw A.in1 ⟨hp,g,d,tk,os⟩ a t c u;refine wpAny_bind (he prog w _ _ ?_);cases e with
   | true =>
     rw[if_pos (Ji.mp rfl)]at hR
     wp_walk
     exact⟨rfl,rfl,.inr (hN hR)⟩
   | false =>
     rw[if_neg (fun q=>absurd (Ji.mpr q) Bool.false_ne_true)]at hR
     have QZ:=KN A.in1 ⟨hp,g,d,tk,os⟩ a t c u prog w
     wp_walk using QZ
     exact⟨_,rfl,by simpa using hR⟩
  case fin =>
   rintro⟨b1,b2⟩ s' ⟨hb',rfl,hh⟩;simp only at hb';subst hb';rcases hh with⟨hz,_⟩|⟨hz,_⟩|⟨_,hR⟩
   ·cases hz
   ·cases hz
   ·wp_walk
    refine⟨_,rfl,?_⟩
    simpa[Builtin.Tuple.tupleCompareSizes,z1,z2]using hR
  case h =>
   refine⟨rfl,rfl,.inl ⟨?_,h⟩⟩;rw[hi,hj];rfl
end
section
variable {prog:Program}{w:World}{A:Around}{E:Value->Shared->Prop}{s:Shared}
theorem KO{l b:Addr}{items items2:Array Value}{x1 y1 x2 y2:Int}{Q:Value->Shared->Prop}(hl:IsTup s.heap l items)(hb:IsTup s.heap b items2)(hi:IntsAre items.toList [x1,y1])(hj:IntsAre items2.toList [x2,y2])
 (hu:A.units<cLine) (h:Q (.bool (MU x1 y1 x2 y2)) s):wpAny (model prog w) A (compareOp .LtE (.ref l) (.ref b)) Q E s:=by
 obtain⟨⟨cls,dd,data,sl⟩,ho,hc,n,hd⟩:=id hl;obtain⟨⟨Q0,dd2,data2,sl2⟩,ho2,hc2,n2,hd2⟩:=id hb;simp only at hc hd hc2 hd2;subst hc hd hc2 hd2;have two:∀{vs:List Value} {a c:Int},IntsAre vs [a,c]->∃ t u,vs=[.int a t,.int c u]:=fun {vs a c} q=>by
  cases q with
  | cons n t r=>cases r with
    | cons n' t' r'=>cases r';exact⟨t,t',rfl⟩
 obtain⟨t1,u1,e1⟩:=two hi;obtain⟨t2,u2,e2⟩:=two hj;exact richCompare_meets_room (op:=.LtE) ⟨_,ho,rfl⟩ ⟨_,ho2,rfl⟩ PySem.F.slot_tuple_le PySem.F.entry_tuple_le (PySem.F.args_tuple_le_2 _ _) (Hs l b items items2 n n2 dd dd2 sl sl2 x1 y1 x2 y2 t1 u1 t2 u2 e1 e2)
  ⟨ho,ho2,show Value.bool (MU x1 y1 x2 y2)≠Value.notImplemented/\Q (.bool (MU x1 y1 x2 y2)) s from⟨(fun x=>nomatch x),h⟩⟩ hu
end
end HT
namespace L2
open PySem PySem.Spec PyProof.Rows
section
variable {X:Cx}
def Wo(K:PySem.W.Frag):R2:=fun x y H Q=>∃ a b x1 y1 x2 y2,x = .ref a/\y = .ref b/\aX K H a [.int x1,.int y1]/\aX K H b [.int x2,.int y2]/\Q (.bl (HT.MU x1 y1 x2 y2)) H
theorem Pe(hu:X.A.units<cLine):nF X (compareOp .LtE) (Wo X.K):=by
 intro pins s σ H x y v u Q I rx ry h;obtain⟨a,b,x1,y1,x2,y2,rfl,rfl,ha,hb,q⟩:=h;cases rx;cases ry;obtain⟨its,r1,p1,_⟩:=I.tuple ha;obtain⟨its2,r2,p2,_⟩:=I.tuple hb;exact HT.KO p1 p2 (intsAre_of (ns:=[x1,y1]) r1) (intsAre_of (ns:=[x2,y2]) r2) hu ⟨.bl (HT.MU x1 y1 x2 y2),H,I,rfl,q⟩
end
end L2
namespace L2
open PySem PySem.Spec PyProof.Rows
abbrev vd:=List (Addr×Str×Pos)
structure TabsOk(K:PySem.W.Frag)(h:Heap)(tb:vd):Prop where
 nd:(tb.map (·.1)).Nodup
 mt:∀ p∈tb,h.get? p.1=some (PySem.W.tabObj #[])
 code:∀ p∈tb,∃ c,PySem.W.CodeHd h c p.1
 out:∀ p∈tb,K.lookup p.1=none
def TabsAt(tb:vd)(H:Hp):Prop:=∀ p∈tb,H p.1=some (.jT (fk p.2.1 p.2.2))
def Cs(tb:vd):Hp:=fun b=>(tb.find? fun p=>p.1==b).map fun p=>.jT (fk p.2.1 p.2.2)
theorem pg{tb:vd}{b:Addr}{u:HO}(e:Cs tb b=some u):∃ p∈tb,p.1=b/\u = .jT (fk p.2.1 p.2.2):=by
 unfold Cs at e;obtain⟨p,h1,h2⟩:=Option.map_eq_some_iff.mp e;have h3:(p.1==b)=true:=List.find?_some (p:=fun p:Addr×Str×Pos=>p.1==b) h1
 exact⟨p,List.mem_of_find?_eq_some h1,eq_of_beq h3,h2.symm⟩
theorem Ax:∀{tb:vd},(tb.map (·.1)).Nodup->TabsAt tb (Cs tb)
 | [],_=>fun p hp=>nomatch hp
 | q::r,nd=>fun p hp=>by
   rw[List.map_cons,List.nodup_cons]at nd;rcases List.mem_cons.mp hp with rfl|hp
   ·unfold Cs;rw[List.find?_cons_of_pos (by simp)];rfl
   ·have ne:(q.1==p.1)=false:=beq_eq_false_iff_ne.mpr fun z=>nd.1 (by rw[z];exact List.mem_map_of_mem hp)
    unfold Cs;rw[List.find?_cons_of_neg (by rw[ne];exact Bool.false_ne_true)]
    exact Ax nd.2 p hp
theorem Ht{P:Program}{w:World}{K:PySem.W.Frag}{mg mb:Str->Option Value}{CX:IJ}{k:Nat}{fa a:Addr}{fd:FuncData}{x:Str}{sp:Sp}{s₁:Shared}{vs:List Value}{ns:List Int}{tb:vd}
 (KX:K.In s₁.heap) (TB:TabsOk K s₁.heap tb) (hns:s₁.heap.Ns mainGlobals mg) (hb:s₁.heap.Ns builtinsNs mb) (Qh:∀ x:Str,x≠"__name__"->mb x=bootBuiltins x) (hlim:s₁.heap.NoLimit)
 (hbm:∃ bm ob,mg "__builtins__"=some (.ref bm)/\bm≠builtinsNs/\s₁.heap.get? bm=some ob/\ob.cls = .type "module"/\ob.dict=some builtinsNs/\ob.data = .plain) (hg:s₁.gens = #[])
 (ha:s₁.heap.get? a=some { cls:=.type "list",data:=.seq vs.toArray}) (hi:IntsAre vs ns) (hl:ns.length<=sizeLine) (hr:gG k callerA)
 (F:∀ base:Heap,K.In base->base.Ns mainGlobals mg->bE P w K mg base CX k fa fd [x] sp) (hbind:∀(s:Shared) (u:Value),BindsTo s fd ⟨[u],[]⟩ [(x,u)])
 (yN:∀ H:Hp,TabsAt tb H->aS K H a (ns.map V.int)->sp [.ref a] H (fun v _=>v = .bl true) fun _ _ _=>False)
 (Wq:∀ H e s',CX [] H s₁ (fun _ _ _=>False) e s'->False) :
 codeAny (model P w) callerA (.call (.ref fa) ⟨[.ref a],[]⟩) (fun r s'=>r = .ok (.ret (.bool true))/\OldK s₁.heap s'.heap/\s'.os=s₁.os/\AllBare s'.gens) s₁:=by
 have rv:=yO hi;have Wr:=hi.length;have aT:∀ p∈tb,p.1≠a:=fun p hp z=>by
  have:=TB.mt p hp;rw[z,ha]at this;cases this
 let fz:HO:=.nH { cls:=.type "list",data:=.seq vs.toArray} (.lst (ns.map V.int))
 have core:∀ H:Hp,aS K H a (ns.map V.int)->TabsAt tb H->oY P w H s₁.heap->(∀ b u,H b=some u->(b=a/\K.lookup a=none/\u=fz)\/∃ p∈tb,p.1=b/\u = .jT (fk p.2.1 p.2.2))->
  codeAny (model P w) callerA (.call (.ref fa) ⟨[.ref a],[]⟩) (fun r s'=>r = .ok (.ret (.bool true))/\OldK s₁.heap s'.heap/\s'.os=s₁.os/\AllBare s'.gens) s₁:=by
  intro H hS hT hok hA;have free:∀{b:Addr} {o:Obj},s₁.heap.get? b=some o->(∀ xs n,o.data≠.seq xs n)->(∀ xs,o.data≠.fields xs)->H b=none:=fun {b o} e n1 n2=>by
   cases q:H b with
   | none=>rfl
   | some u =>
     rcases hA b u q with⟨z,_⟩|⟨p,hp,z,_⟩
     ·rw[z,ha]at e;cases e;exact absurd rfl (n1 _ _)
     ·rw[<-z,TB.mt p hp]at e;cases e;exact absurd rfl (n2 _)
  have Uk:∀{b:Addr} {m:Str->Option Value},s₁.heap.Ns b m->(Br s₁.heap H).Ns b m:=fun {b m} ⟨o,es,ep,e,d,r⟩=>⟨o,es,ep,vA e (free e (by intro _ _ z;rw[d]at z;cases z) (by intro _ z;rw[d]at z;cases z)),d,r⟩
  have hKb:K.In (Br s₁.heap H):=fun b o e=>vA (KX b o e) (by
   cases q:H b with
   | none=>rfl
   | some u =>
     rcases hA b u q with⟨z,n,_⟩|⟨p,hp,z,_⟩
     ·rw[z,n]at e;cases e
     ·rw[<-z,TB.out p hp]at e;cases e)
  have hM:Mod K mg (Br s₁.heap H):=⟨hKb,Uk hns,⟨mb,Uk hb,Qh⟩,(let⟨mc,h1,h2⟩:=hlim;⟨mc,Uk h1,h2⟩),
   let⟨bm,ob,b1,b2,b3,b4,b5,b6⟩:=hbm;⟨bm,ob,b1,b2,vA b3 (free b3 (by intro _ _ z;rw[b6]at z;cases z) (by intro _ z;rw[b6]at z;cases z)),b4,b5,b6⟩⟩
  have e0:L1 P w K mg (Br s₁.heap H) callerA [] s₁ H:=⟨rfl,hM,fun b o e=>LQ e,Nat.le_of_eq (Gq _ _),trivial,fun b hb=>absurd (show b∈([]:List Addr) from hb) (by simp),hok,.of_eq hg⟩
  refine codeAny_mono ((F _ hKb (Uk hns)).run callerA [] s₁ H ⟨[.ref a],[]⟩ [.ref a] [.ref a] _ _ hr e0 (hbind s₁ (.ref a)) (.cons rfl .nil) (yN H hT hS)) fun r s' h=>?_
  cases r with
  | error e=>exact(Wq H e s' h).elim
  | ok fl =>
    cases fl with
    | next=>exact False.elim h
    | brk=>exact False.elim h
    | cont=>exact False.elim h
    | ret u =>
      obtain⟨v,H',os,bare,un,RJ,r',q⟩:=h;have q' : v = .bl true:=q;subst q';obtain rfl:u=Value.bool true:=r';have all:∀ b o,s₁.heap.get? b=some o->s'.heap.get? b=some o\/∃ p∈tb,p.1=b/\∃ ps,s'.heap.get? b=some (PySem.W.tabObj ps):=fun b o e=>by
       cases q:H b with
       | none=>exact .inl (un.keep b o e q (by intro z;exact absurd (show b∈([]:List Addr) from z) (by simp)) (by simp))
       | some u =>
         rcases hA b u q with⟨z,_,z2⟩|⟨p,hp,z,z2⟩
         ·rw[z2]at q;obtain⟨e1,_⟩:=hok b _ q;obtain⟨e2,_⟩:=RJ b _ (un.mj b _ _ q);rw[e]at e1;cases e1;exact .inl e2
         ·rw[z2]at q;obtain⟨more,q2⟩:=un.nJ b _ q;obtain⟨ps,e2,_⟩:=RJ b _ q2;exact .inr ⟨p,hp,z,ps,e2⟩
      refine⟨rfl,⟨fun b o e=>?_,fun b o e=>?_⟩,os,bare⟩
      ·rcases all b o e with z|⟨p,hp,z,ps,e2⟩
       ·exact .inl z
       ·obtain⟨c,hc⟩:=TB.code p hp;have e1:=TB.mt p hp;subst z;rw[e]at e1;cases e1;exact .inr (.inl ⟨(hc.tab e).isCodeTable,rfl,#[],ps,rfl,by rw[e2,Array.empty_append]⟩)
      ·rcases all b o e with z|⟨p,hp,z,ps,e2⟩
       ·exact⟨o,z⟩
       ·exact⟨_,e2⟩
 have tok:∀{H:Hp} {b:Addr} {p},p∈tb->p.1=b->bI P w H s₁.heap b (.jT (fk p.2.1 p.2.2)):=fun {H b p} hp z=>⟨#[],by rw[<-z];exact TB.mt p hp,.inl ⟨rfl,.inl rfl⟩⟩
 cases hk:K.lookup a with
 | some o =>
   have e:=KX a o hk;rw[ha]at e;cases e;refine core (Cs tb) (.inr ⟨_,vs.toArray,_,hk,rfl,rfl,rfl,by rw[List.size_toArray,Wr];exact hl,by simpa using rv⟩) (Ax TB.nd) (fun b u e=>?_) fun b u e=>.inr (pg e)
   obtain⟨p,hp,z,rfl⟩:=pg e;exact tok hp z
 | none =>
   refine core (fun b=>if b=a then some fz else Cs tb b) (.inl (.inr ⟨{ cls:=.type "list",data:=.seq vs.toArray},if_pos rfl⟩)) (fun p hp=>?_) (fun b u e=>?_) fun b u e=>?_
   ·show(if p.1=a then some fz else Cs tb p.1)=_
    rw[if_neg (aT p hp)];exact Ax TB.nd p hp
   ·by_cases hb:b=a
    ·have z:=(if_pos hb).symm.trans e;cases z;subst hb;exact⟨ha,by rw[List.length_map];exact hl,vs,_,rv,ha⟩
    ·have z:=(if_neg hb).symm.trans e;obtain⟨p,hp,z2,rfl⟩:=pg z;exact tok hp z2
   ·by_cases hb:b=a
    ·have z:=(if_pos hb).symm.trans e;exact .inl ⟨hb,hk,(Option.some.inj z).symm⟩
    ·exact .inr (pg ((if_neg hb).symm.trans e))
theorem KP{l:PySem.W.OpenLaw}{n k:Nat}{q:Program}{loose:List Str}{XP:(Str->Option Value)->Heap->Prop}{YP:World->Heap->Prop}{d:DefRec}{K:Params->PySem.W.Frag}{CX:World->IJ}{sp:World->vd->Sp}{x:Str}{ts:List Addr}
 (hn:l.most=some n) (hn2:n<=sizeLine) (Ra:d.params.defaults=[]) (hr:gG k callerA)
 (hY:∀(w:World) (h:Heap),YP w h->(K w.params).In h/\∀ P∈ts,h.get? P=some (PySem.W.tabObj #[]))
 (F:∀(w:World) (mg:Str->Option Value) (fa:Addr) (h:Heap),(K w.params).In h->h.Ns mainGlobals mg->mg d.name=some (.ref fa)->
  ∃(fd:FuncData) (tb:vd),((tb.map (·.1)).Nodup/\PySem.W.noTabs (K w.params)=true/\∀ p∈tb,p.1∈ts/\∃ c,PySem.W.codeHdIn (K w.params) c p.1=true)/\(∀(s:Shared) (u:Value),BindsTo s fd ⟨[u],[]⟩ [(x,u)])/\
   ∀ base:Heap,(K w.params).In base->base.Ns mainGlobals mg->bE l.prog w (K w.params) mg base (CX w) k fa fd [x] (sp w tb))
 (yN:∀(w:World) (H:Hp) (a:Addr) (ns:List Int) (tb:vd),ns.length<=n->TabsAt tb H->aS (K w.params) H a (ns.map V.int)->sp w tb [.ref a] H (fun v _=>v = .bl true) fun _ _ _=>False)
 (Wq:∀(w:World) (H:Hp) (s:Shared) (e:Value) (s' : Shared),CX w [] H s (fun _ _ _=>False) e s'->False) :
 PySem.W.WalkO q loose XP YP l.row.toRowW d [] (fun f vs=>PySem.call f vs):=by
 refine Att.BA hn Ra fun w s₀ s₁ mg mb fa o pm cd doc a vs ns G Y ho hd hcd hmg hobj hints hlen hg=>?_
 obtain⟨KX,hts⟩:=hY w _ Y;obtain⟨fd,tb,⟨nd,nt,ht⟩,hb,hF⟩:=F w mg fa _ KX G.T.g hmg;have TB:TabsOk (K w.params) s₁.heap tb:=⟨nd,fun p hp=>hts _ (ht p hp).1,fun p hp=>let⟨_,c,e⟩:=ht p hp;⟨c,PySem.W.codeHd_of_K KX e⟩,fun p hp=>by
  cases e:(K w.params).lookup p.1 with
  | none=>rfl
  | some ob =>
    have e1:=KX _ _ e;rw[hts _ (ht p hp).1]at e1;cases e1;have z:=List.all_eq_true.mp nt (p.1,PySem.W.tabObj #[]) (PySem.W.mem_of_lookupK e);exact absurd (show false=true from z) Bool.false_ne_true⟩
 exact Ht KX TB G.T.g G.T.b G.T.builtins G.T.nolimit G.T.bmain hg hobj hints (Nat.le_trans hlen hn2) hr hF hb (fun H hT hS=>yN w H a ns tb hlen hT hS) fun H e s'=>Wq w H s₁ e s'
end L2
namespace L2
open PySem PySem.Spec PyProof.Rows
def rG(f:Str):Str:=f ++ ".<locals>." ++ "<lambda>"
structure El(K:PySem.W.Frag)(x qual:Str)(st:Stmt)(f:Addr)(fd:FuncData)(c0 P:Addr):Prop where
 ex:∃(oc:Value) (od:Option Addr) (kV doc pm:Value) (an:Option Addr) (ct:Value) (osl:Array (Option Value)),
  fd=PySem.W.fnOf x qual (aE st) (aD st) (af st) .none kV doc pm an (.ref c0) ct/\K.lookup f=some ⟨oc,od,.func fd,osl⟩/\PySem.W.codeIn K (.ref c0) qual=true
 kp:PySem.W.keepIn K (.ref f)=true
 hd:PySem.W.codeHdIn K c0 P=true
section
variable {P:Program}{w:World}{K:PySem.W.Frag}{mg:Str->Option Value}{base:Heap}{x qual:Str}{st:Stmt}{f c0 p0:Addr}{fd:FuncData}
theorem El.ok{N ps:List Str}{k:Nat}{sp:Sp}(F:El K x qual st f fd c0 p0)(S:aJ N ps (af st))(len:∀ vs H Q E,sp vs H Q E->vs.length=ps.length)
 (hbody:∀(A:Around) (outer:List Env) (s:Shared) (H:Hp) (vs:List V) (Q:VK) (E:XK),gG k (A.deeper (envOfC qual (af st) s.heap.objs.size f (.ref c0)))->sp vs H Q E->
  ∃ t,Bt (Aa iP P w K mg base N qual (af st) f (.ref c0) A outer s H E).E8 (aD st) t/\t { nx:=fun _ H'=>Q .gf H',rt:=Q} (start N vs) H):bE P w K mg base iP (k+1) f fd ps sp:=by
 obtain⟨oc,od,kV,doc,pm,an,ct,osl,rfl,lk,hcd⟩:=F.ex;refine Jf lk hcd S len fun A outer s H vs Q E hr yN=>?_
 obtain⟨t,h,q⟩:=hbody A outer s H vs Q E hr yN;exact⟨t,h.E8,q⟩
theorem El.binds{ps:List Str}(F:El K x qual st f fd c0 p0)
 (h:∀(kV doc pm:Value) (an:Option Addr) (cdv ct:Value) (us:List Value),us.length=ps.length->bindArgs (PySem.W.fnOf x qual (aE st) (aD st) (af st) .none kV doc pm an cdv ct) ⟨us,[]⟩=pure (ps.zip us)):Binds K fd ps []:=by
 obtain⟨oc,od,kV,doc,pm,an,ct,osl,rfl,lk,hcd⟩:=F.ex;exact .all (h kV doc pm an (.ref c0) ct)
theorem Ga{oc:Value}{od an:Option Addr}{osl:Array (Option Value)}{kV doc pm ct:Value}(l:K.lookup f=some ⟨oc,od,.func (PySem.W.fnOf x qual (aE st) (aD st) (af st) .none kV doc pm an (.ref c0) ct),osl⟩)
 (c:PySem.W.codeIn K (.ref c0) qual=true) (k:PySem.W.keepIn K (.ref f)=true) (hd:PySem.W.codeHdIn K c0 p0=true):El K x qual st f (PySem.W.fnOf x qual (aE st) (aD st) (af st) .none kV doc pm an (.ref c0) ct) c0 p0 :=
 ⟨⟨oc,od,kV,doc,pm,an,ct,osl,rfl,l,c⟩,k,hd⟩
end
end L2
namespace RM
abbrev OW:=Nat->Bool->Option (Int×Nat)
def jN(F:OW)(x:Nat)(s:Bool)(d:Int×Nat):OW:=fun y t=>if y=x/\t=s then some d else F y t
def Ay(F:OW)(x:Nat)(s:Bool):OW:=fun y t=>if y=x/\t=s then none else F y t
theorem bO(F:OW)(x:Nat)(s:Bool)(d:Int×Nat):jN F x s d x s=some d:=if_pos ⟨rfl,rfl⟩
theorem bq{F:OW}{x y:Nat}{s t:Bool}{d:Int×Nat}(h : ¬(y=x/\t=s)):jN F x s d y t=F y t:=if_neg h
theorem vt(F:OW)(x:Nat)(s:Bool):Ay F x s x s=none:=if_pos ⟨rfl,rfl⟩
theorem pq{F:OW}{x y:Nat}{s t:Bool}(h : ¬(y=x/\t=s)):Ay F x s y t=F y t:=if_neg h
def Wz(N:Net)(L:Nat->Int)(m u v:Nat)(s:Bool)(z:Int)(e:Nat):Prop:=∃ pre,Wl N L m u pre v s z e
structure Dj(N:Net)(L:Nat->Int)(m u:Nat)(F W:OW)(now:Option (Nat×Bool))(done:Nat->Nat->Prop):Prop where
 fw:∀ x s d,F x s=some d->Wz N L m u x s d.1 d.2
 ww:∀ x s d,W x s=some d->Wz N L m u x s d.1 d.2
 dj:∀ x s d,W x s=some d->F x s=none
 le:∀ x s d y t d',F x s=some d->W y t=some d'->d.1<=d'.1
 mx:∀ x s d y t d',now=some (x,s)->F x s=some d->F y t=some d'->d'.1<=d.1
 cl:∀ x s d k y,F x s=some d->k<N.n->Jn N k x y->(now=some (x,s)->done k y)->∃ d',(F y (s^^m.testBit k)=some d'\/W y (s^^m.testBit k)=some d')/\d'.1<=d.1+L k
 st:∃ d,(F u false=some d\/W u false=some d)/\d.1<=0
section
variable {N:Net}{L:Nat->Int}{m u:Nat}{F W:OW}
theorem Dj.start:Dj N L m u (fun _ _=>none) (jN (fun _ _=>none) u false (0,0)) none (fun _ _=>False):=by
 refine⟨fun _ _ _ h=>(nomatch h),fun x s d h=>?_,fun _ _ _ _=>rfl,fun _ _ _ _ _ _ h=>(nomatch h),fun _ _ _ _ _ _ h=>(nomatch h),fun _ _ _ _ _ h=>(nomatch h),⟨(0,0),.inr (bO _ _ _ _),Int.le_refl _⟩⟩
 by_cases e:x=u/\s=false
 ·obtain⟨rfl,rfl⟩:=e;rw[bO]at h;cases h;exact⟨[],.nil⟩
 ·rw[bq e]at h;cases h
theorem Dj.pop(h:Dj N L m u F W none (fun _ _=>False)){x:Nat}{s:Bool}{d:Int×Nat}(e:W x s=some d)(hmin:∀ y t d',W y t=some d'->d.1<=d'.1):Dj N L m u (jN F x s d) (Ay W x s) (some (x,s)) (fun _ _=>False):=by
 have hF:=h.dj x s d e;have of:∀ y t d',jN F x s d y t=some d'->(y=x/\t=s/\d' = d)\/F y t=some d':=fun y t d' q=>by
  by_cases z:y=x/\t=s
  ·obtain⟨rfl,rfl⟩:=z;rw[bO]at q;exact .inl ⟨rfl,rfl,(Option.some.inj q).symm⟩
  ·rw[bq z]at q;exact .inr q
 have ow:∀ y t d',Ay W x s y t=some d'->¬(y=x/\t=s)/\W y t=some d':=fun y t d' q=>by
  by_cases z:y=x/\t=s
  ·obtain⟨rfl,rfl⟩:=z;rw[vt]at q;cases q
  ·rw[pq z]at q;exact⟨z,q⟩
 have moved:∀ y t d',F y t=some d'\/W y t=some d'->jN F x s d y t=some d'\/Ay W x s y t=some d':=fun y t d' q=>by
  by_cases z:y=x/\t=s
  ·obtain⟨rfl,rfl⟩:=z;rcases q with q|q
   ·rw[hF]at q;cases q
   ·rw[e]at q;cases q;exact .inl (bO _ _ _ _)
  ·rw[bq z,pq z];exact q
 refine⟨fun y t d' q=>?_,fun y t d' q=>h.ww y t d' (ow y t d' q).2,fun y t d' q=>?_,fun y t d' y2 t2 d2 q q2=>?_,fun y t d' y2 t2 d2 hn q q2=>?_,fun y t d' k y2 q hk hj hd=>?_,?_⟩
 ·rcases of y t d' q with⟨rfl,rfl,rfl⟩|q
  ·exact h.ww _ _ _ e
  ·exact h.fw y t d' q
 ·obtain⟨z,q⟩:=ow y t d' q;rw[bq z];exact h.dj y t d' q
 ·obtain⟨_,q2⟩:=ow y2 t2 d2 q2;rcases of y t d' q with⟨_,_,rfl⟩|q
  ·exact hmin _ _ _ q2
  ·exact h.le _ _ _ _ _ _ q q2
 ·cases hn;rw[bO]at q;cases q;rcases of y2 t2 d2 q2 with⟨_,_,rfl⟩|q2
  ·exact Int.le_refl _
  ·exact h.le _ _ _ _ _ _ q2 e
 ·rcases of y t d' q with⟨rfl,rfl,rfl⟩|q
  ·exact(hd rfl).elim
  ·obtain⟨d2,q2,l2⟩:=h.cl y t d' k y2 q hk hj (fun z=>nomatch z)
   exact⟨d2,moved _ _ _ q2,l2⟩
 ·obtain⟨d2,q2,l2⟩:=h.st;exact⟨d2,moved _ _ _ q2,l2⟩
theorem Dj.put{done:Nat->Nat->Prop}{x:Nat}{s:Bool}(h:Dj N L m u F W (some (x,s)) done){d:Int×Nat}{k y:Nat}(e:F x s=some d)(hk:k<N.n)(hL:0<=L k)(hj:Jn N k x y)(hF:F y (s^^m.testBit k)=none)
 (hW:∀ d',W y (s^^m.testBit k)=some d'->d.1+L k<=d'.1):Dj N L m u F (jN W y (s^^m.testBit k) (d.1+L k,d.2^^^2^k)) (some (x,s)) (fun k' y'=>done k' y'\/(k' = k/\y' = y)):=by
 have ow:∀ v t d',jN W y (s^^m.testBit k) (d.1+L k,d.2^^^2^k) v t=some d'->(v=y/\t=(s^^m.testBit k)/\d' = (d.1+L k,d.2^^^2^k))\/W v t=some d':=fun v t d' q=>by
  by_cases z:v=y/\t=(s^^m.testBit k)
  ·obtain⟨rfl,rfl⟩:=z;rw[bO]at q;exact .inl ⟨rfl,rfl,(Option.some.inj q).symm⟩
  ·rw[bq z]at q;exact .inr q
 have moved:∀ v t d',F v t=some d'\/W v t=some d'->∃ d2,(F v t=some d2\/jN W y (s^^m.testBit k) (d.1+L k,d.2^^^2^k) v t=some d2)/\d2.1<=d'.1:=fun v t d' q=>by
  rcases q with q|q
  ·exact⟨d',.inl q,Int.le_refl _⟩
  ·by_cases z:v=y/\t=(s^^m.testBit k)
   ·obtain⟨rfl,rfl⟩:=z;exact⟨_,.inr (bO _ _ _ _),hW d' q⟩
   ·exact⟨d',.inr (by rw[bq z];exact q),Int.le_refl _⟩
 refine⟨h.fw,fun v t d' q=>?_,fun v t d' q=>?_,fun v t d' v2 t2 d2 q q2=>?_,h.mx,fun v t d' k2 y2 q hk2 LO hd=>?_,?_⟩
 ·rcases ow v t d' q with⟨rfl,rfl,rfl⟩|q
  ·obtain⟨pre,w⟩:=h.fw x s d e;exact⟨_,w.go hk hj⟩
  ·exact h.ww v t d' q
 ·rcases ow v t d' q with⟨rfl,rfl,rfl⟩|q
  ·exact hF
  ·exact h.dj v t d' q
 ·rcases ow v2 t2 d2 q2 with⟨rfl,rfl,rfl⟩|q2
  ·have:=h.mx x s d v t d' rfl e q;show d'.1<=d.1+L k
   lia
  ·exact h.le _ _ _ _ _ _ q q2
 ·by_cases hd2:some (x,s)=some (v,t)->done k2 y2
  ·obtain⟨d2,q2,l2⟩:=h.cl v t d' k2 y2 q hk2 LO hd2;obtain⟨d3,q3,l3⟩:=moved _ _ _ q2;exact⟨d3,q3,Int.le_trans l3 l2⟩
  ·have hn:some (x,s)=some (v,t):=Classical.byContradiction fun z=>hd2 fun z2=>absurd z2 z
   rcases hd hn with z|⟨rfl,rfl⟩
   ·exact absurd (fun _=>z) hd2
   ·cases hn;rw[e]at q;cases q;exact⟨_,.inr (bO _ _ _ _),Int.le_refl _⟩
 ·obtain⟨d2,q2,l2⟩:=h.st;obtain⟨d3,q3,l3⟩:=moved _ _ _ q2;exact⟨d3,q3,Int.le_trans l3 l2⟩
theorem Dj.skip{done:Nat->Nat->Prop}{x:Nat}{s:Bool}(h:Dj N L m u F W (some (x,s)) done){d d2:Int×Nat}{k y:Nat}(e:F x s=some d)(hL:0<=L k)(q2:F y (s^^m.testBit k)=some d2\/(W y (s^^m.testBit k)=some d2/\d2.1<=d.1+L k)):
 Dj N L m u F W (some (x,s)) (fun k' y'=>done k' y'\/(k' = k/\y' = y)):=by
 refine⟨h.fw,h.ww,h.dj,h.le,h.mx,fun v t d' k2 y2 q hk2 LO hd=>?_,h.st⟩
 by_cases hd2:some (x,s)=some (v,t)->done k2 y2
 ·exact h.cl v t d' k2 y2 q hk2 LO hd2
 ·have hn:some (x,s)=some (v,t):=Classical.byContradiction fun z=>hd2 fun z2=>absurd z2 z
  rcases hd hn with z|⟨rfl,rfl⟩
  ·exact absurd (fun _=>z) hd2
  ·cases hn;rw[e]at q;cases q;rcases q2 with q2|⟨q2,l2⟩
   ·have:=h.mx x s d _ _ d2 rfl e q2;exact⟨d2,.inl q2,by lia⟩
   ·exact⟨d2,.inr q2,l2⟩
theorem Dj.all{done:Nat->Nat->Prop}{x:Nat}{s:Bool}(h:Dj N L m u F W (some (x,s)) done)(ha:∀ k y,k<N.n->Jn N k x y->done k y):Dj N L m u F W none (fun _ _=>False) :=
 ⟨h.fw,h.ww,h.dj,h.le,fun _ _ _ _ _ _ z=>(nomatch z),fun v t d k y q hk hj _=>h.cl v t d k y q hk hj fun z=>by cases z;exact ha k y hk hj,h.st⟩
theorem Dj.best(h:Dj N L m u F W none (fun _ _=>False))(hW:∀ x s,W x s=none)(x:Nat)(s:Bool):Hg N L m u x s ((F x s).map (·.1)):=by
 have low:∀{pre:List Nat} {v e:Nat} {t:Bool} {z:Int},Wl N L m u pre v t z e->∃ d,F v t=some d/\d.1<=z:=fun {pre v e t z} w=>by
  induction w with
  | nil =>
    obtain⟨d,q,l⟩:=h.st;rcases q with q|q
    ·exact⟨d,q,l⟩
    ·rw[hW]at q;cases q
  | @go pre v w k e s z _ hk hj ih =>
    obtain⟨d,q,l⟩:=ih;obtain⟨d2,q2,l2⟩:=h.cl _ _ d k _ q hk hj (fun z=>nomatch z)
    rcases q2 with q2|q2
    ·exact⟨d2,q2,by lia⟩
    ·rw[hW]at q2;cases q2
 cases q:F x s with
 | none =>
   intro z ⟨_,_,w⟩;obtain⟨d,q2,_⟩:=low w;rw[q]at q2;cases q2
 | some d =>
   obtain⟨pre,w⟩:=h.fw x s d q;refine⟨⟨_,_,w⟩,fun z ⟨_,_,w2⟩=>?_⟩
   obtain⟨d2,q2,l2⟩:=low w2;rw[q]at q2;cases q2;exact l2
end
end RM
namespace L2
open PySem Ring
abbrev ky(x:Nat)(s:Bool):List Key:=[.inl (x:Int),.inl (s.toNat:Int)]
theorem Em{x y:Nat}{s t:Bool}(h:ky x s=ky y t):x=y/\s=t:=by
 injection h with h1 h2
 injection h2 with h2 _
 injection h1 with h1
 injection h2 with h2
 refine⟨by lia,?_⟩
 cases s<;>cases t<;>first | rfl | (simp at h2)
def wV(H:Hp):Option (Int×Nat)->V->Prop
 | none,v=>v = .gf
 | some d,v=>∃ c,v = .ref c/\H c=some (.tup [.int d.1,.int (d.2:Int)])
theorem wV.tups{H H' : Hp}{o:Option (Int×Nat)}{v:V}(h:wV H o v)(s:dH H H'):wV H' o v:=by
 cases o with
 | none=>exact h
 | some d=>obtain⟨c,e,q⟩:=h;exact⟨c,e,s _ _ q⟩
structure wR(p:Nat)(H0:Hp)(D wd:Addr)(es:List Addr)(kvs:List (List Key×V))(F W:RM.OW)(H:Hp):Prop where
 same:av H0 H
 nd:es.Nodup
 ne:D∉es
 fr:∀ b∈es,H0 b=none
 Dn:H0 D=none
 wn:H0 wd=none
 wD:wd≠D
 wE:wd∉es
 lst:H D=some (.lst (es.map V.ref))
 at_:∀ i b,es[i]?=some b->∃ v0 v1,H b=some (.lst [v0,v1])/\wV H (F i false) v0/\wV H (F i true) v1
 dt:H wd=some (.dT kvs)
 kn:(kvs.map (·.1)).Nodup
 keys:∀ kv∈kvs,∃ x s,x<p/\kv.1=ky x s
 out:∀ x s d,W x s=some d->x<p
 val:∀ x s,(W x s=none/\eV kvs (ky x s)=none)\/∃ d c,W x s=some d/\eV kvs (ky x s)=some (.ref c)/\H c=some (.tup [.int d.1,.int (d.2:Int)])
section
variable {p:Nat}{H0 H H' : Hp}{D wd:Addr}{es:List Addr}{kvs:List (List Key×V)}{F W:RM.OW}
theorem wR.go(h:wR p H0 D wd es kvs F W H)(s:av H H'):wR p H0 D wd es kvs F W H' :=
 ⟨h.same.trans s,h.nd,h.ne,h.fr,h.Dn,h.wn,h.wD,h.wE,s _ _ h.lst,fun i b e=>let⟨v0,v1,a,b1,c⟩:=h.at_ i b e;⟨v0,v1,s _ _ a,b1.tups s.tups,c.tups s.tups⟩,s _ _ h.dt,h.kn,h.keys,h.out,
  fun x t=>(h.val x t).imp (fun z=>z) fun⟨d,c,a,b,e⟩=>⟨d,c,a,b,s _ _ e⟩⟩
theorem wR.len(h:wR p H0 D wd es kvs F W H):kvs.length<=2*p:=by
 have hn:=h.kn;have hk:=h.keys
 let code:List Key->Nat:=fun k=>match k with | [.inl x,.inl s]=>2*x.toNat+s.toNat | _=>0
 have inj:∀ a∈kvs.map (·.1),∀ b∈kvs.map (·.1),code a=code b->a=b:=fun a ha b hb e=>by
  obtain⟨u,hu,rfl⟩:=List.mem_map.mp ha;obtain⟨v,hv,rfl⟩:=List.mem_map.mp hb;obtain⟨x,s,_,ex⟩:=hk u hu;obtain⟨y,t,_,ey⟩:=hk v hv;rw[ex,ey]at e ⊢;have e:2*((x:Int)).toNat+((s.toNat:Int)).toNat=2*((y:Int)).toNat+((t.toNat:Int)).toNat:=e;rw[Int.toNat_natCast,Int.toNat_natCast,Int.toNat_natCast,Int.toNat_natCast]at e;have hs:s.toNat<2:=by cases s<;>decide
  have ht:t.toNat<2:=by cases t<;>decide
  have e1:x=y:=by lia
  have e2:s.toNat=t.toNat:=by lia
  have e3:s=t:=by cases s<;>cases t<;>first | rfl | (simp at e2)
  rw[e1,e3]
 have nd:((kvs.map (·.1)).map code).Nodup:=by
  revert inj
  generalize kvs.map (·.1)=l at hn;intro inj
  induction hn with
  | nil=>exact List.nodup_nil
  | @cons a l h1 h2 ih =>
    rw[List.map_cons,List.nodup_cons];refine⟨fun hm=>?_,ih fun a ha b hb e=>inj a (List.mem_cons_of_mem _ ha) b (List.mem_cons_of_mem _ hb) e⟩
    obtain⟨b,hb,e⟩:=List.mem_map.mp hm;exact h1 b hb (inj a List.mem_cons_self b (List.mem_cons_of_mem _ hb) e.symm)
 have sub:∀ c∈(kvs.map (·.1)).map code,c∈List.range (2*p):=fun c hc=>by
  obtain⟨a,ha,rfl⟩:=List.mem_map.mp hc;obtain⟨u,hu,rfl⟩:=List.mem_map.mp ha;obtain⟨x,s,hx,ex⟩:=hk u hu;rw[ex,List.mem_range];show 2*((x:Int)).toNat+((s.toNat:Int)).toNat<2*p;rw[Int.toNat_natCast,Int.toNat_natCast];have hs:s.toNat<2:=by cases s<;>decide
  lia
 have:=nd.length_le_of_subset sub
 simpa using this
theorem wR.row(h:wR p H0 D wd es kvs F W H){i:Nat}(hi:i<es.length):∃ b v0 v1,(es.map V.ref)[i]?=some (.ref b)/\es[i]?=some b/\H b=some (.lst [v0,v1])/\wV H (F i false) v0/\wV H (F i true) v1:=by
 have e:es[i]?=some es[i]:=List.getElem?_eq_getElem hi;obtain⟨v0,v1,a,b,c⟩:=h.at_ i _ e;exact⟨es[i],v0,v1,by rw[List.getElem?_map,e];rfl,e,a,b,c⟩
theorem tH{κ:Type}[DecidableEq κ](k j:κ):∀ kvs:List (κ×V),eV (ee kvs k) j=if j=k then none else eV kvs j
 | []=>by rw[show ee ([]:List (κ×V)) k=[] from rfl,wA];split<;>rfl
 | q::r=>by
   by_cases e:q.1=k
   ·rw[zb e,tH k j r]
    by_cases e2:j=k
    ·rw[if_pos e2,if_pos e2]
    ·rw[if_neg e2,if_neg e2,cH (fun z=>e2 (z.symm.trans e))]
   ·rw[zc e]
    by_cases e3:q.1=j
    ·rw[cR e3,if_neg (fun z=>e (e3.trans z)),cR e3]
    ·rw[cH e3,tH k j r,cH e3]
theorem wR.take(h:wR p H0 D wd es kvs F W H){x:Nat}{s:Bool}{d:Int×Nat}{b c:Addr}{v0 v1:V}(e:W x s=some d)(hc:H c=some (.tup [.int d.1,.int (d.2:Int)]))(hb:es[x]?=some b)(hv:H b=some (.lst [v0,v1])):
 wR p H0 D wd es (ee kvs (ky x s)) (RM.jN F x s d) (RM.Ay W x s) (upd (upd H wd (.dT (ee kvs (ky x s)))) b (.lst (([v0,v1]:List V).set s.toNat (.ref c)))):=by
 have hm:=List.mem_of_getElem? hb;have bw:b≠wd:=fun z=>h.wE (z▸hm)
 have bD:D≠b:=fun z=>h.ne (z▸hm)
 have tp:dH H (upd (upd H wd (.dT (ee kvs (ky x s)))) b (.lst (([v0,v1]:List V).set s.toNat (.ref c)))):=fun a ys q=>by
  rw[aq (aY q hv (by intro z;cases z)),aq (aY q h.dt (by intro z;cases z))]
  exact q
 refine⟨(h.same.put h.wn).put (h.fr b hm),h.nd,h.ne,h.fr,h.Dn,h.wn,h.wD,h.wE,by rw[aq bD,aq (Ne.symm h.wD)];exact h.lst,fun i b' hb'=>?_,by rw[aq (Ne.symm bw),ah],wB h.kn,fun kv hkv=>h.keys kv (zd hkv),fun y t d' q=>?_,fun y t=>?_⟩
 ·by_cases ei:i=x
  ·subst ei;rw[hb]at hb';cases hb';obtain⟨w0,w1,q1,q2,q3⟩:=h.at_ _ _ hb;rw[hv]at q1;cases q1;cases s with
   | false=>exact⟨.ref c,v1,ah,by rw[RM.bO];exact⟨c,rfl,tp _ _ hc⟩,by rw[RM.bq (fun z=>by cases z.2)];exact q3.tups tp⟩
   | true=>exact⟨v0,.ref c,ah,by rw[RM.bq (fun z=>by cases z.2)];exact q2.tups tp,by rw[RM.bO];exact⟨c,rfl,tp _ _ hc⟩⟩
  ·have bb:b'≠b:=fun z=>by
    subst z;obtain⟨h1,h2⟩:=List.getElem?_eq_some_iff.mp hb';obtain⟨h3,h4⟩:=List.getElem?_eq_some_iff.mp hb;exact ei ((List.getElem_inj h.nd).mp (h2.trans h4.symm))
   obtain⟨w0,w1,q1,q2,q3⟩:=h.at_ _ _ hb';exact⟨w0,w1,by rw[aq bb,aq (show b'≠wd from fun z=>h.wE (z▸List.mem_of_getElem? hb'))];exact q1,by rw[RM.bq (fun z=>ei z.1)];exact q2.tups tp,by rw[RM.bq (fun z=>ei z.1)];exact q3.tups tp⟩
 ·by_cases z:y=x/\t=s
  ·obtain⟨rfl,rfl⟩:=z;rw[RM.vt]at q;cases q
  ·rw[RM.pq z]at q;exact h.out y t d' q
 ·rw[tH]
  by_cases z:y=x/\t=s
  ·obtain⟨rfl,rfl⟩:=z;exact .inl ⟨RM.vt _ _ _,if_pos rfl⟩
  ·rw[RM.pq z,if_neg (fun q=>z (Em q))]
   rcases h.val y t with q|⟨d',c',q1,q2,q3⟩
   ·exact .inl q
   ·exact .inr ⟨d',c',q1,q2,tp _ _ q3⟩
theorem wR.wait(h:wR p H0 D wd es kvs F W H){x:Nat}{s:Bool}{d:Int×Nat}{c:Addr}(hx:x<p)(hc:H c=some (.tup [.int d.1,.int (d.2:Int)])):
 wR p H0 D wd es (putK kvs (ky x s) (.ref c)) F (RM.jN W x s d) (upd H wd (.dT (putK kvs (ky x s) (.ref c)))):=by
 have tp:dH H (upd H wd (.dT (putK kvs (ky x s) (.ref c)))):=fun a ys q=>by
  rw[aq (aY q h.dt (by intro z;cases z))]
  exact q
 have NH:(∀ kv∈putK kvs (ky x s) (.ref c),∃ x s,x<p/\kv.1=ky x s)/\((putK kvs (ky x s) (.ref c)).map (·.1)).Nodup:=by
  cases q:eV kvs (ky x s) with
  | none =>
    refine⟨fun kv hkv=>?_,MF _ h.kn q⟩
    rw[B3 _ q]at hkv;rcases List.mem_append.mp hkv with z|z
    ·exact h.keys kv z
    ·rw[List.mem_singleton.mp z];exact⟨x,s,hx,rfl⟩
  | some v =>
    have hany:(kvs.any fun kv=>decide (kv.1=ky x s))=true:=by rw[iL,q];rfl
    have e:putK kvs (ky x s) (.ref c)=kvs.map fun kv=>if kv.1=ky x s then(kv.1,.ref c) else kv:=by unfold putK;rw[if_pos hany]
    have ek:(putK kvs (ky x s) (.ref c)).map (·.1)=kvs.map (·.1):=by
     rw[e,List.map_map];refine List.map_congr_left fun kv _=>?_
     show(if kv.1=ky x s then(kv.1,V.ref c) else kv).1=kv.1
     split<;>rfl
    refine⟨fun kv hkv=>?_,by rw[ek];exact h.kn⟩
    have hm:kv.1∈kvs.map (·.1):=by rw[<-ek];exact List.mem_map_of_mem hkv
    obtain⟨kv',h1,h2⟩:=List.mem_map.mp hm;rw[<-h2];exact h.keys kv' h1
 refine⟨h.same.put h.wn,h.nd,h.ne,h.fr,h.Dn,h.wn,h.wD,h.wE,by rw[aq (Ne.symm h.wD)];exact h.lst,fun i b hb=>?_,ah,NH.2,NH.1,fun y t d' q=>?_,fun y t=>?_⟩
 ·obtain⟨w0,w1,q1,q2,q3⟩:=h.at_ _ _ hb;exact⟨w0,w1,by rw[aq (show b≠wd from fun z=>h.wE (z▸List.mem_of_getElem? hb))];exact q1,q2.tups tp,q3.tups tp⟩
 ·by_cases z:y=x/\t=s
  ·rw[z.1];exact hx
  ·rw[RM.bq z]at q;exact h.out y t d' q
 ·rw[JV]
  by_cases z:y=x/\t=s
  ·obtain⟨rfl,rfl⟩:=z;exact .inr ⟨d,c,RM.bO _ _ _ _,if_pos rfl,tp _ _ hc⟩
  ·rw[RM.bq z,if_neg (fun q=>z (Em q))]
   rcases h.val y t with q|⟨d',c',q1,q2,q3⟩
   ·exact .inl q
   ·exact .inr ⟨d',c',q1,q2,tp _ _ q3⟩
end
end L2
namespace L2
open PySem Ring
abbrev jO(m:Nat)(H:Hp)(c:Addr)(kw:Nat×Nat):Prop:=H c=some (.tup [.int (kw.1:Int),.int (kw.2:Int),.int ((m.testBit kw.1).toNat:Int)])
structure Hu(m:Nat)(H0:Hp)(D:Addr)(es:List Addr)(S:Nat->List (Nat×Nat))(H:Hp):Prop where
 same:av H0 H
 nd:es.Nodup
 ne:D∉es
 fr:∀ b∈es,H0 b=none
 Dn:H0 D=none
 lst:H D=some (.lst (es.map V.ref))
 at_:∀ i b,es[i]?=some b->∃ cs,H b=some (.lst (cs.map V.ref))/\Paired (jO m H) cs (S i)
section
variable {m:Nat}{H0 H H' : Hp}{D b:Addr}{es:List Addr}{S:Nat->List (Nat×Nat)}{i:Nat}
theorem Hu.go(h:Hu m H0 D es S H)(s:av H H'):Hu m H0 D es S H' :=
 ⟨h.same.trans s,h.nd,h.ne,h.fr,h.Dn,s _ _ h.lst,fun i b e=>let⟨cs,a,q⟩:=h.at_ i b e;⟨cs,s _ _ a,Paired.z5 q fun _ _ z=>s _ _ z⟩⟩
def wU(S:Nat->List (Nat×Nat))(x:Nat)(kw:Nat×Nat):Nat->List (Nat×Nat):=fun i=>if i=x then S i++[kw] else S i
theorem Hu.get(h:Hu m H0 D es S H)(hi:i<es.length):∃ b cs,(es.map V.ref)[i]?=some (.ref b)/\es[i]?=some b/\H b=some (.lst (cs.map V.ref))/\Paired (jO m H) cs (S i):=by
 have e:es[i]?=some es[i]:=List.getElem?_eq_getElem hi;obtain⟨cs,a,q⟩:=h.at_ i _ e;exact⟨es[i],cs,by rw[List.getElem?_map,e];rfl,e,a,q⟩
theorem Hu.put(h:Hu m H0 D es S H){cs:List Addr}{c:Addr}{kw:Nat×Nat}(hb:es[i]?=some b)(hcs:H b=some (.lst (cs.map V.ref)))(q:Paired (jO m H) cs (S i))(hc:jO m H c kw):
 Hu m H0 D es (wU S i kw) (upd H b (.lst (cs.map V.ref++[.ref c]))):=by
 have hm:=List.mem_of_getElem? hb;have hne:D≠b:=fun z=>h.ne (z▸hm)
 have tp:∀ c kw,jO m H c kw->jO m (upd H b (.lst (cs.map V.ref++[.ref c]))) c kw:=fun c kw z=>by
  show upd H b _ c=_;rw[aq (aY z hcs (by intro z;cases z))]
  exact z
 have tp' : ∀ x kw,jO m H x kw->jO m (upd H b (.lst (cs.map V.ref++[.ref c]))) x kw:=fun x kw z=>by
  show upd H b _ x=_;rw[aq (aY z hcs (by intro z;cases z))]
  exact z
 refine⟨h.same.put (h.fr b hm),h.nd,h.ne,h.fr,h.Dn,by rw[aq hne];exact h.lst,fun j b' hb'=>?_⟩
 by_cases e:j=i
 ·subst e;rw[hb]at hb';cases hb';refine⟨cs++[c],by rw[ah];simp,?_⟩
  unfold wU;rw[if_pos rfl];exact Paired.snoc (Paired.z5 q fun _ _ z=>tp' _ _ z) (tp' _ _ hc)
 ·have bb:b'≠b:=fun z=>by
   subst z;obtain⟨h1,h2⟩:=List.getElem?_eq_some_iff.mp hb';obtain⟨h3,h4⟩:=List.getElem?_eq_some_iff.mp hb;exact e ((List.getElem_inj h.nd).mp (h2.trans h4.symm))
  obtain⟨cs',q1,q2⟩:=h.at_ j b' hb';refine⟨cs',by rw[aq bb];exact q1,?_⟩
  unfold wU;rw[if_neg e];exact Paired.z5 q2 fun _ _ z=>tp' _ _ z
theorem Hu.off(h:Hu m H0 D es S H){L:Addr}(hL:H L=none):L∉es:=fun z=>by
 obtain⟨j,hj⟩:=List.getElem?_of_mem z;obtain⟨_,q,_⟩:=h.at_ j L hj;rw[hL]at q;cases q
def NI(m:Nat)(H0:Hp)(D:Addr)(i:Nat)(acc:List V)(H:Hp):Prop:=∃ es,acc=es.map V.ref/\es.length=i/\Hu m H0 D es (fun _=>[]) H
theorem NI.start(hD:H0 D=none):NI m H0 D 0 [] (upd H0 D (.lst [])) :=
 ⟨[],rfl,rfl,av.new hD,List.nodup_nil,List.not_mem_nil,fun _ h=>(List.not_mem_nil h).elim,hD,ah,fun i b e=>by cases e⟩
theorem NI.len{acc:List V}(h:NI m H0 D i acc H):H D=some (.lst acc)/\acc.length<=i:=by
 obtain⟨es,rfl,e,r⟩:=h;exact⟨r.lst,by rw[List.length_map];lia⟩
theorem NI.next{acc:List V}(h:NI m H0 D i acc H)(hb:H b=none):upd H b (.lst []) D=some (.lst acc)/\NI m H0 D (i+1) (acc++[.ref b]) (upd (upd H b (.lst [])) D (.lst (acc++[.ref b]))):=by
 obtain⟨es,rfl,e,r⟩:=h;have OZ:D≠b:=fun z=>by
  have:=r.lst;rw[z,hb]at this;cases this
 have hbn:b∉es:=r.off hb;have hb0:H0 b=none:=r.same.free hb;refine⟨by rw[aq OZ];exact r.lst,es++[b],by simp,by simp[e],(r.same.put hb0).put r.Dn,?_,?_,fun c hc=>?_,r.Dn,by rw[ah];simp,fun j c hc=>?_⟩
 ·exact List.nodup_append.mpr ⟨r.nd,by simp,fun x hx y hy=>by rw[List.mem_singleton.mp hy];exact fun z=>hbn (z▸hx)⟩
 ·intro hm;rcases List.mem_append.mp hm with z|z
  ·exact r.ne z
  ·exact OZ (List.mem_singleton.mp z)
 ·rcases List.mem_append.mp hc with z|z
  ·exact r.fr c z
  ·rw[List.mem_singleton.mp z];exact hb0
 ·have Wh:c≠D:=fun z=>by
   subst z;rcases List.mem_append.mp (List.mem_of_getElem? hc) with z|z
   ·exact r.ne z
   ·exact OZ (List.mem_singleton.mp z)
  refine⟨[],?_,.nil⟩;rw[aq Wh]
  by_cases ec:c=b
  ·rw[ec,ah];rfl
  ·rw[aq ec]
   by_cases hj:j<es.length
   ·rw[List.getElem?_append_left hj]at hc;obtain⟨cs,q1,q2⟩:=r.at_ j c hc;cases q2;exact q1
   ·rw[List.getElem?_append_right (by lia)]at hc
    have:=List.mem_of_getElem? hc;exact absurd (List.mem_singleton.mp this) ec
end
structure NJ(N:RM.Net)(k:Nat)(S:Nat->List (Nat×Nat)):Prop where
 mem:∀ i kw,kw∈S i↔(kw.1<k/\RM.Jn N kw.1 i kw.2)
 len:∀ i,(S i).length<=2*k
theorem NJ.start{N:RM.Net}:NJ N 0 (fun _=>[]):=⟨fun i kw=>⟨fun h=>(nomatch h),fun h=>absurd h.1 (Nat.not_lt_zero _)⟩,fun _=>Nat.zero_le _⟩
theorem NJ.next{N:RM.Net}{k:Nat}{S:Nat->List (Nat×Nat)}(h:NJ N k S):NJ N (k+1) (wU (wU S (N.a k) (k,N.b k)) (N.b k) (k,N.a k)):=by
 refine⟨fun i kw=>?_,fun i=>?_⟩
 ·have one:∀(S:Nat->List (Nat×Nat)) (x:Nat) (q:Nat×Nat),kw∈wU S x q i↔kw∈S i\/(i=x/\kw=q):=fun S x q=>by
   unfold wU
   by_cases e:i=x
   ·rw[if_pos e,List.mem_append,List.mem_singleton];simp[e]
   ·rw[if_neg e];simp[e]
  rw[one,one,h.mem];obtain⟨k',w⟩:=kw
  constructor
  ·rintro((⟨h1,h2⟩|⟨rfl,h2⟩) | ⟨rfl,h2⟩)
   ·exact⟨Nat.lt_succ_of_lt h1,h2⟩
   ·cases h2;exact⟨Nat.lt_succ_self _,.inl ⟨rfl,rfl⟩⟩
   ·cases h2;exact⟨Nat.lt_succ_self _,.inr ⟨rfl,rfl⟩⟩
  ·rintro⟨h1,h2⟩
   by_cases e:k'<k
   ·exact .inl (.inl ⟨e,h2⟩)
   ·have e:k' = k:=by have:k'<k+1:=h1;lia
    subst e;rcases h2 with⟨h3,h4⟩|⟨h3,h4⟩
    ·exact .inl (.inr ⟨h3.symm,by have h4:N.b k' = w:=h4;rw[h4]⟩)
    ·exact .inr ⟨h3.symm,by have h4:N.a k' = w:=h4;rw[h4]⟩
 ·have one:∀(S:Nat->List (Nat×Nat)) (x:Nat) (q:Nat×Nat),(wU S x q i).length<=(S i).length+1:=fun S x q=>by
   unfold wU
   split
   ·simp
   ·lia
  have h1:=one (wU S (N.a k) (k,N.b k)) (N.b k) (k,N.a k);have h2:=one S (N.a k) (k,N.b k);have h3:=h.len i
  lia
end L2
namespace RM
def left(F:OW):Nat->Nat
 | 0=>0
 | p+1=>left F p+(if(F p false).isNone then 1 else 0)+(if(F p true).isNone then 1 else 0)
theorem zm{F G:OW}:∀{p:Nat},(∀ x,x<p->∀ s,F x s=G x s)->left F p=left G p
 | 0,_=>rfl
 | p+1,h=>by
   unfold left;rw[zm fun x hx=>h x (by lia),h p (by lia),h p (by lia)]
theorem Ct{F:OW}{x:Nat}{s:Bool}{d:Int×Nat}(hn:F x s=none):∀{p:Nat},x<p->left (jN F x s d) p<left F p
 | 0,h=>absurd h (Nat.not_lt_zero _)
 | p+1,h=>by
   unfold left
   by_cases e:x=p
   ·subst e;rw[zm (F:=jN F x s d) (G:=F) fun y hy t=>bq fun z=>by lia]
    cases s with
    | false=>rw[bO,bq (fun z=>by cases z.2),hn];simp
    | true=>rw[bO,bq (fun z=>by cases z.2),hn];simp
   ·have ih:=Ct (F:=F) (x:=x) (s:=s) (d:=d) hn (p:=p) (by lia)
    rw[bq (fun z=>e z.1.symm),bq (fun z=>e z.1.symm)]
    lia
end RM
namespace L2
open PySem Ring
def Ul(W:RM.OW)(k:List Key):List Int:=match k with
 | [.inl x,.inl s]=>(match W x.toNat (decide (s=1)) with | some d=>[d.1,(d.2:Int)] | none=>[])
 | _=>[]
theorem KQ{W:RM.OW}{x:Nat}{s:Bool}{d:Int×Nat}(h:W x s=some d):Ul W (ky x s)=[d.1,(d.2:Int)]:=by
 have e:(decide (((s.toNat:Nat):Int)=1))=s:=by cases s<;>rfl
 show(match W ((x:Int)).toNat (decide (((s.toNat:Nat):Int)=1)) with | some d=>[d.1,(d.2:Int)] | none=>[])=_
 rw[Int.toNat_natCast,e,h]
def KR(W:RM.OW)(kvs:List (List Key×V))(i:Nat):List Int:=Ul W ((kvs[i]?.map (·.1)).getD [])
theorem Az{a b c d:Int}(h:HT.lexLt [a,b] [c,d]=false):c<=a:=by
 rw[HT.gY]at h
 by_cases e:a=c
 ·lia
 ·rw[if_neg e]at h;have:=of_decide_eq_false h
  lia
theorem zo{κ:Type}[DecidableEq κ]:∀{kvs:List (κ×V)} {k:κ} {v:V},(kvs.map (·.1)).Nodup->(k,v)∈kvs->eV kvs k=some v
 | [],_,_,_,h=>nomatch h
 | q::r,k,v,nd,h=>by
   rw[List.map_cons,List.nodup_cons]at nd;rcases List.mem_cons.mp h with e|h
   ·subst e;exact cR rfl
   ·have ne : ¬ q.1=k:=fun z=>nd.1 (by rw[z];exact List.mem_map_of_mem (f:=(·.1)) h)
    rw[cH ne];exact zo nd.2 h
theorem wR.entry{p:Nat}{H0 H:Hp}{D wd:Addr}{es:List Addr}{kvs:List (List Key×V)}{F W:RM.OW}(h:wR p H0 D wd es kvs F W H){i:Nat}{kv:List Key×V}(e:kvs[i]?=some kv):
 ∃ x s d c,x<p/\kv.1=ky x s/\W x s=some d/\eV kvs (ky x s)=some (.ref c)/\kv.2 = .ref c/\H c=some (.tup [.int d.1,.int (d.2:Int)])/\KR W kvs i=[d.1,(d.2:Int)]:=by
 have hm:=List.mem_of_getElem? e;obtain⟨x,s,hx,ek⟩:=h.keys kv hm;have hv:eV kvs (ky x s)=some kv.2:=zo h.kn (by rw[<-ek];exact hm)
 rcases h.val x s with⟨_,z⟩|⟨d,c,h1,h2,h3⟩
 ·rw[hv]at z;cases z
 ·rw[hv]at h2;refine⟨x,s,d,c,hx,ek,h1,hv.trans h2,Option.some.inj h2,h3,?_⟩;unfold KR;rw[e];show Ul W kv.1=_;rw[ek];exact KQ h1
theorem wR.find{p:Nat}{H0 H:Hp}{D wd:Addr}{es:List Addr}{kvs:List (List Key×V)}{F W:RM.OW}(h:wR p H0 D wd es kvs F W H){x:Nat}{s:Bool}{d:Int×Nat}(e:W x s=some d):∃(i:Nat) (kv:List Key×V),kvs[i]?=some kv/\kv.1=ky x s/\KR W kvs i=[d.1,(d.2:Int)]:=by
 rcases h.val x s with⟨z,_⟩|⟨d',c,h1,h2,h3⟩
 ·rw[e]at z;cases z
 ·have hm:=ME h2;obtain⟨kv,hkv,ek⟩:=List.mem_map.mp hm;obtain⟨i,hi⟩:=List.getElem?_of_mem hkv;refine⟨i,kv,hi,ek,?_⟩;unfold KR;rw[hi];show Ul W kv.1=_;rw[ek];exact KQ e
theorem wR.start{p:Nat}{H0 H:Hp}{D wd c:Addr}{es:List Addr}{u:Nat}(f:Eh H0 D es (fun _ _=>none) H)(hu:u<p)(hw:H wd=some (.dT []))(h0:H0 wd=none)(hc:H c=some (.tup [.int 0,.int 0])):
 wR p H0 D wd es [(ky u false,.ref c)] (fun _ _=>none) (RM.jN (fun _ _=>none) u false (0,0)) (upd H wd (.dT [(ky u false,.ref c)])):=by
 have wD:wd≠D:=fun z=>by rw[z,f.lst]at hw;cases hw
 have wE:wd∉es:=fun z=>by
  obtain⟨j,hj⟩:=List.getElem?_of_mem z;have:=f.at_ j wd hj;rw[hw]at this;cases this
 refine⟨f.same.put h0,f.nd,f.ne,f.fr,f.Dn,h0,wD,wE,by rw[aq (Ne.symm wD)];exact f.lst,fun i b hb=>?_,ah,by simp,fun kv hkv=>?_,fun x s d e=>?_,fun x s=>?_⟩
 ·have nb:b≠wd:=fun z=>wE (z▸List.mem_of_getElem? hb)
  exact⟨.gf,.gf,by rw[aq nb];exact f.at_ i b hb,rfl,rfl⟩
 ·rw[List.mem_singleton.mp hkv];exact⟨u,false,hu,rfl⟩
 ·by_cases z:x=u/\s=false
  ·rw[z.1];exact hu
  ·rw[RM.bq z]at e;cases e
 ·by_cases z:x=u/\s=false
  ·obtain⟨rfl,rfl⟩:=z;exact .inr ⟨(0,0),c,RM.bO _ _ _ _,cR rfl,by rw[aq (aY hc hw (by intro z;cases z))];exact hc⟩
  ·refine .inl ⟨RM.bq z,?_⟩;rw[cH (fun q=>z ?_),wA]
   obtain⟨e1,e2⟩:=Em q;exact⟨e1.symm,e2.symm⟩
end L2
namespace L2
open PySem PySem.Spec PyProof.Rows
section
variable {P:Program}{w:World}{A:Around}{E:Value->Shared->Prop}{s:Shared}
theorem KS{l:Addr}{u0 u1:Value}{Q:List Value->Shared->Prop}(hh:A.handled=none)(hl:s.heap.IsList l #[u0,u1])
 (hQ:∀ h' tk,(∀ b o,s.heap.get? b=some o->h'.get? b=some o)->Q [u0,u1] { s with heap:=h',toks:=tk}):wpAny (model P w) A (unpackItems (.ref l) 2 none) Q E s:=by
 obtain⟨ol,Pf,hcl,nl,hdl⟩:=id hl;have hT:s.TypeIs (.ref l) "list":=⟨ol,Pf,hcl⟩;have hne:l≠s.heap.objs.size:=Nat.ne_of_lt (Heap.lt_size Pf);unfold unpackItems;refine wpAny_bind ?_;unfold notIterableAtAll;refine wpAny_bind (wpAny_specialOf hT PySem.F.slot_list_iter.lookup (wpAny_pure ?_));simp only[Bool.false_eq_true,if_false];refine wpAny_bind (wpAny_holding (wpAny_pyIter_list hl ?_));have W:=Walks.list (prog:=P) (w:=w) (A:=A) hh s.heap.objs.size l hne #[u0,u1];generalize hg:s.heap.push { cls:=.type "list_iterator",data:=.fields #[.ref l,.int 0 0]}=g0;have g0k:∀ b o,s.heap.get? b=some o->g0.get? b=some o:=fun b o e=>by rw[<-hg];exact Heap.get?_push_of_some _ e
 have g0i:g0.IsListIter s.heap.objs.size l 0:=by rw[<-hg];exact⟨_,Heap.get?_push_size _ rfl,rfl,rfl⟩
 have g0l:g0.IsList l #[u0,u1]:=by rw[<-hg];exact⟨ol,Heap.get?_push_of_some _ Pf,hcl,nl,hdl⟩
 have nI:∀ b o,s.heap.get? b=some o->b∉[s.heap.objs.size]:=fun b o e z=>Nat.ne_of_lt (Heap.lt_size e) (List.mem_singleton.mp z)
 refine wpAny_bind (wpAny_holding ?_);show wpAny _ _ (pyNext (.ref s.heap.objs.size) >>= _) _ _ _;refine wpAny_bind (W.item 0 _ _ _ (by simp) ⟨g0i,g0l⟩ fun v1 h1 tk1 hv1 st1 k1=>?_)
 obtain rfl:u0=v1:=by simpa using hv1
 refine wpAny_bind (wpAny_holding ?_);show wpAny _ _ (pyNext (.ref s.heap.objs.size) >>= _) _ _ _;refine wpAny_bind (W.item 1 _ _ _ (by simp) st1 fun v2 h2 tk2 hv2 st2 k2=>?_)
 obtain rfl:u1=v2:=by simpa using hv2
 refine wpAny_bind (wpAny_holding ?_);show wpAny _ _ (pure []) _ _ _;refine wpAny_pure (wpAny_pure (wpAny_pure ?_));rw[if_neg (by simp)]
 refine wpAny_bind (wpAny_holding (W.done _ _ _ st2 fun h3 tk3 k3=>?_))
 simp only[Option.isSome_none,Bool.false_eq_true,if_false];exact wpAny_pure (hQ h3 tk3 fun b o e=>k3 b o (nI b o e) (k2 b o (nI b o e) (k1 b o (nI b o e) (g0k b o e))))
theorem KU{env:Env}{elts:List Expr}{x1}{pos:Pos}{l:Addr}{u0 u1:Value}{Q:Unit->Shared->Prop}(hh:A.handled=none)(hl:s.heap.IsList l #[u0,u1])
 (hn:(assignEach elts env).length=2) (hstar:(assignEach elts env).findIdx? (·.1)=none)
 (h:∀ h' tk,(∀ b o,s.heap.get? b=some o->h'.get? b=some o)->wpAny (model P w) A (assignInOrder ((assignEach elts env).map (·.2)) [u0,u1]) Q E { s with heap:=h',toks:=tk}) :
 wpAny (model P w) A (assign (.Tuple elts x1 pos) env (.ref l)) Q E s:=by
 rw[arm_assign_Tuple];refine wpAny_bind (wpAny_standAt ?_);unfold unpack;rw[hn,hstar];exact wpAny_bind (wpAny_holding (KS hh hl h))
end
section
variable {X:Cx}{es:List Expr}{pos:Pos}
def RK(K:PySem.W.Frag)(t:LJ):TG:=fun v σ H Q=>∃ a x y,v = .ref a/\aS K H a [x,y]/\t [x,y] σ H Q
theorem Ws(K:PySem.W.Frag){k:Nat}{t:LJ}(hc:X.calm=true)(h:P5 X es t)
 (hn:(assignEach es X.env).length=2:=by rfl) (hst:(assignEach es X.env).findIdx? (·.1)=none:=by rfl) (hK:X.K=K:=by rfl):PG X (.Tuple es k pos) (RK K t):=by
 subst hK;intro pins s σ H v u Q I r hw;obtain⟨a,x,y,e1,hq,hw⟩:=hw;subst e1;cases r;obtain⟨its,rv,ht,hz⟩:=I.list hq;cases rv with
 | cons r1 rr=>cases rr with
   | cons r2 rr2 =>
     cases rr2;refine KU (I.ok.hd hc) ht.isList hn hst fun h' tk hx=>?_
     exact h pins _ σ H [x,y] _ Q (I.kept (t':=tk) hx) (.cons r1 (.cons r2 .nil)) hw
end
end L2
namespace RM
section
variable {N:Net}{L:Nat->Int}{m u:Nat}
theorem uP{f g:Nat->Bool}:∀{n:Nat},(∀ k,k<n->0<L k)->(∀ k,k<n->f k=true->g k=true)->∀ k,k<n->f k=false->g k=true->lsum L f n<lsum L g n
 | 0,_,_,k,hk,_,_=>absurd hk (Nat.not_lt_zero _)
 | n+1,hL,h,k,hk,hf,hg=>by
   unfold lsum;have hn:=h n (by lia)
   have h0:=hL n (by lia)
   by_cases e:k=n
   ·subst e;have:=tu (L:=L) (f:=f) (g:=g) (n:=k) (fun j hj=>Int.le_of_lt (hL j (by lia))) fun j hj=>h j (by lia)
    rw[hf,hg];simp only[Bool.false_eq_true,if_false,if_true]
    lia
   ·have ih:=uP (n:=n) (fun j hj=>hL j (by lia)) (fun j hj=>h j (by lia)) k (by lia) hf hg
    cases hfn:f n with
    | false=>cases g n<;>simp<;>lia
    | true=>rw[hn hfn];simp;lia
theorem En(hL:∀ k,k<N.n->0<L k)(hu:u<N.p){z:Int}{e:Nat}(h:Wz N L m u u true z e)(hmin:∀ x z',x<N.p->Wy N L m x x true z'->z<=z'):
 N.Ring e/\e<2^N.n/\N.par e m=true/\lsum L (fun k=>e.testBit k) N.n=z:=by
 have RL:∀ k,k<N.n->0<=L k:=fun k hk=>Int.le_of_lt (hL k hk)
 obtain⟨pre,h⟩:=h;obtain⟨_,h2,h3,h4,h5,_⟩:=rE RL hu h;obtain⟨r,r1,r2,r3⟩:=Ef _ e rfl h2 (fun x _=>by rw[h3,Bool.xor_self]) h4
 have rlt:r<2^N.n:=dR fun k hk=>qA h2 (r2 k hk)
 obtain⟨x,hx,hw⟩:=n5 RL m r1 rlt;rw[r3]at hw;have hz:=hmin x _ hx hw;have hle:=tu (L:=L) (f:=fun k=>r.testBit k) (g:=fun k=>e.testBit k) RL fun k _ hk=>r2 k hk
 have er:e=r:=Nat.eq_of_testBit_eq fun k=>by
  cases hr:r.testBit k with
  | true=>exact r2 k hr
  | false =>
    cases he:e.testBit k with
    | false=>rfl
    | true =>
      have:=uP (L:=L) (f:=fun k=>r.testBit k) (g:=fun k=>e.testBit k) hL (fun k _ hk=>r2 k hk) k (qA h2 he) hr he
      lia
 rw[er];exact⟨r1,rlt,r3,by lia⟩
theorem KW(hL:∀ k,k<N.n->0<=L k)(hno:∀ x z',x<N.p->¬ Wy N L m x x true z'){r:Nat}(hr:N.Ring r)(hm:r<2^N.n):N.par r m=false:=by
 cases hp:N.par r m with
 | false=>rfl
 | true =>
   obtain⟨x,hx,hw⟩:=n5 hL m hr hm;rw[hp]at hw;exact absurd hw (hno x _ hx)
end
end RM
namespace L2
open PySem PySem.Spec PyProof.Rows
section
variable {X:Cx}{pins:List (Addr×Obj)}{σ:St}{H:Hp}{l It S:Addr}{cs:List Addr}{ks:Nat->List Int}{R:Result->Shared->Prop}
theorem mD{pa:List (Addr×Obj)}{s:Shared}(I:Inv X pa σ H s)(hl:aS X.K H l (cs.map V.ref)):s.heap.IsList l (cs.map Value.ref).toArray:=by
 obtain⟨its,rv,p,hz⟩:=I.list hl;have e:its=cs.map Value.ref:=by
  clear hl p hz
  induction cs generalizing its with
  | nil=>cases rv;rfl
  | cons c r ih =>
    rw[List.map_cons]at rv;cases rv with
    | cons h t=>cases h;rw[ih _ t];rfl
 rw[e]at p;exact p.isList
theorem Hv(hh:X.A.handled=none)(un:X.A.in1.units<cLine)(hl:aS X.K H l (cs.map V.ref))(hk:∀(i:Nat) c,cs[i]?=some c->aX X.K H c ((ks i).map V.int))(oS:Av X S)(oI:Av X It)(SI:S≠It)(lI:l≠It)
 (pI:∀ p∈pins,p.1≠It) (pS:∀ p∈pins,p.1≠S)
 (hR:∀(i:Nat) c s',cs[i]?=some c->(∀ j,j<cs.length->HT.lexLt (ks j) (ks i)=false)->Inv X pins σ H s'->R (.ok (.ret (.ref c))) s') :
 ∀(r j i:Nat) (c:Addr) (s:Shared) (n:Nat) (DB:Obj),cs.length-j=r->j<=cs.length->i<j->cs[i]?=some c->Inv X ((S,seqObj "list" #[.ref c,.ref c] n)::(It,DB)::pins) σ H s->s.heap.IsListIter It l j->
  (∀ j',j'<j->HT.lexLt (ks j') (ks i)=false)->codeAny (model X.prog X.w) X.A (.builtin "min.loop" ⟨[.ref It,.none,.ref S],[]⟩) R s:=by
 have hname:(toString "min" ++ toString ".loop":String)="min.loop":=by decide
 have W:=Walks.list (prog:=X.prog) (w:=X.w) (A:=X.A.in1) hh It l lI (cs.map Value.ref).toArray;have hsz:(cs.map Value.ref).toArray.size=cs.length:=by simp
 intro r
 induction r with
 | zero =>
   intro j i c s n DB hr hj hij hc I hit j7;have yb:j=cs.length:=by lia
   have n8:=I.pin (S,_) (List.mem_append_right _ (.head _));refine codeAny_builtin PySem.F.entry_min_loop ?_;rw[Around.under_plainId PySem.F.plain_min_loop _];show wpAny _ X.A.in1 (seqItems? (.ref S) >>= _) _ _ _;refine wpAny_bind (wpAny_seqItems n8.1 rfl ?_);show wpAny _ X.A.in1 (tryCatch (pyNext (.ref It)) _ >>= _) _ _ _;refine wpAny_bind (wpAny_tryCatch (W.done _ _ _ ⟨by rw[hsz,<-yb];exact hit,mD I hl⟩ fun h' tk' hk'=>?_))
   have I1:=I.gv (t':=tk') (h':=h') (pb:=(S,seqObj "list" #[.ref c,.ref c] n)::pins) oI (List.Mem.tail _ (.head _)) (fun b u hb e=>hk' b u (by simpa using hb) e) (fun p hp=>by
    rcases List.mem_cons.mp hp with rfl|hp
    ·exact .inr ⟨.head _,SI⟩
    ·exact .inr ⟨.tail _ (.tail _ hp),pI p hp⟩)
   have Cr:=I1.pin (S,_) (List.mem_append_right _ (.head _));show wpAny _ X.A.in1 (updateSeq S (fun _=>#[]) >>= _) _ _ _
   refine wpAny_bind (wpAny_updateSeq Cr.1 rfl (wpAny_bind (wpAny_letGo (wpAny_pure ?_))));have s1:=Heap.SameBut.update h' S (Obj.mapSeq fun _=>(#[]:Array Value))
   exact hR i c _ hc (fun j' hj'=>j7 j' (by lia)) (I1.gv (t':=tk') (pb:=pins) oS (.head _) (fun b u hb e=>(s1.2 b hb).trans e) fun p hp=>.inr ⟨.tail _ hp,pS p hp⟩)
 | succ r ih =>
   intro j i c s n DB hr hj hij hc I hit j7;have yb:j<cs.length:=by lia
   have n8:=I.pin (S,_) (List.mem_append_right _ (.head _));refine codeAny_builtin PySem.F.entry_min_loop ?_;rw[Around.under_plainId PySem.F.plain_min_loop _];show wpAny _ X.A.in1 (seqItems? (.ref S) >>= _) _ _ _;refine wpAny_bind (wpAny_seqItems n8.1 rfl ?_);show wpAny _ X.A.in1 (tryCatch (pyNext (.ref It)) _ >>= _) _ _ _;refine wpAny_bind (wpAny_tryCatch (W.item j _ _ _ (by rw[hsz];exact yb) ⟨hit,mD I hl⟩ fun v h' tk' hv st' hk'=>?_))
   have Hw:cs[j]?=some cs[j]:=List.getElem?_eq_getElem yb;obtain rfl:v = .ref cs[j]:=by
    have:(cs.map Value.ref)[j]?=some v:=by simpa using hv
    rw[List.getElem?_map,Hw]at this;exact(Option.some.inj this).symm
   obtain⟨yc,wW,hoc,hod⟩:=id st'.1;have I1:=I.gv (t':=tk') (h':=h') (pb:=(S,seqObj "list" #[.ref c,.ref c] n)::(It,yc)::pins) oI (List.Mem.tail _ (.head _)) (fun b u hb e=>hk' b u (by simpa using hb) e) (fun p hp=>by
    rcases List.mem_cons.mp hp with rfl|hp
    ·exact .inr ⟨.head _,SI⟩
    ·rcases List.mem_cons.mp hp with rfl|hp
     ·exact .inl ⟨rfl,wW,fun v z=>by rw[hod]at z;cases z⟩
     ·exact .inr ⟨.tail _ (.tail _ hp),pI p hp⟩)
   have iN:=I1.pin (S,_) (List.mem_append_right _ (.head _));show wpAny _ X.A.in1 (tryCatch (holding [.ref cs[j],.ref cs[j]] (richCompare .Lt (.ref cs[j]) (.ref c) >>= _)) _ >>= _) _ _ _;refine wpAny_bind (wpAny_tryCatch (wpAny_holding (wpAny_bind (KG I1 (hk j _ Hw) (hk i c hc) un ?_))));refine wpAny_bind (wpAny_holding (wpAny_truthy_bool (wpAny_bind (wpAny_letGo (wpAny_pure ?_)))));cases hlt:HT.lexLt (ks j) (ks i) with
   | true =>
     have s1:=Heap.SameBut.update h' S (Obj.mapSeq fun _=>(#[.ref cs[j],.ref cs[j]]:Array Value))
     obtain⟨n2,hn2⟩:∃ n2,(h'.update S (Obj.mapSeq fun _=>(#[.ref cs[j],.ref cs[j]]:Array Value))).get? S=some (seqObj "list" #[.ref cs[j],.ref cs[j]] n2):=⟨_,get?_update_seq iN.1 fun _=>#[.ref cs[j],.ref cs[j]]⟩
     simp only[if_true];refine wpAny_bind (wpAny_updateSeq iN.1 rfl (wpAny_bind (wpAny_letGo ?_)));rw[hname];have I3:=I1.gv (t':=tk') (pb:=(S,seqObj "list" #[.ref cs[j],.ref cs[j]] n2)::(It,yc)::pins) oS (.head _) (fun b u hb e=>(s1.2 b hb).trans e) (fun p hp=>by
      rcases List.mem_cons.mp hp with rfl|hp
      ·exact .inl ⟨rfl,hn2,fun v z=>by cases z⟩
      ·rcases List.mem_cons.mp hp with rfl|hp
       ·exact .inr ⟨.tail _ (.head _),SI.symm⟩
       ·exact .inr ⟨.tail _ (.tail _ hp),pS p hp⟩)
     refine wpAny_pure ⟨plainId_quiet PySem.F.plain_min_loop _,ih (j+1) j cs[j] _ n2 yc (by lia) (by lia) (by lia) Hw I3 ⟨yc,(s1.2 It SI.symm).trans wW,hoc,hod⟩ fun j' hj'=>?_⟩
     by_cases e:j' = j
     ·rw[e];exact HT.gO _
     ·exact HT.wO (j7 j' (by lia)) hlt
   | false =>
     simp only[Bool.false_eq_true,if_false];refine wpAny_bind (wpAny_letGo ?_);rw[hname];refine wpAny_pure ⟨plainId_quiet PySem.F.plain_min_loop _,ih (j+1) i c _ n yc (by lia) (by lia) (by lia) hc I1 st'.1 fun j' hj'=>?_⟩
     by_cases e:j' = j
     ·rw[e];exact hlt
     ·exact j7 j' (by lia)
theorem Wu(hr:X.A.handled=none)(un:X.A.in1.units<cLine):gW X (.builtin "min") (fun xs H Q=>∃(l:Addr) (cs:List Addr) (ks:Nat->List Int),xs=[.ref l]/\aS X.K H l (cs.map V.ref)/\0<cs.length/\(∀(i:Nat) c,cs[i]?=some c->aX X.K H c ((ks i).map V.int))/\
 ∀(i:Nat) c,cs[i]?=some c->(∀ j,j<cs.length->HT.lexLt (ks j) (ks i)=false)->Q (.ref c) H):=by
 intro pins s σ H xs us Q I r h;obtain⟨l,cs,ks,rfl,hl,hne,hk,q⟩:=h;obtain⟨u,rfl,rx⟩:=vals1 r;cases rx;have hname:(toString "min" ++ toString ".loop":String)="min.loop":=by decide
 have hls:=mD I hl;obtain⟨ol,Pf,_⟩:=id hls;have Um:l<s.heap.objs.size:=Heap.lt_size Pf;refine call_function_tree PySem.F.kind_min PySem.F.plain_min PySem.F.entry_min (PySem.F.args_min1 _) ?_;show wpAny _ X.A.in1 (Builtin.Builtins.bindParams "min" ["key","default"] 0 ⟨[],[]⟩ >>= _) _ _ s;refine wpAny_bind (wpAny_of_eq (show Builtin.Builtins.bindParams "min" ["key","default"] 0 ⟨[],[]⟩=pure [none,none] from rfl) ?_)
 refine wpAny_bind (wpAny_pure (wpAny_bind (wpAny_pyIter_list hls (wpAny_bind (wpAny_newList ?_ (Nat.zero_le _))))));rw[hname];refine wpAny_pure ⟨plainId_quiet PySem.F.plain_min_loop _,?_⟩;generalize IP:({ cls:=.type "list_iterator",data:=.fields #[.ref l,.int 0 0]}:Obj)=oI;have hS:(s.heap.push oI).objs.size=s.heap.objs.size+1:=size_push' ..;have hk2:∀ b o,s.heap.get? b=some o->((s.heap.push oI).push (seqObj "list" #[] 0)).get? b=some o:=fun b o e=>Heap.get?_push_of_some _ (Heap.get?_push_of_some _ e)
 have gI:((s.heap.push oI).push (seqObj "list" #[] 0)).get? s.heap.objs.size=some oI:=Heap.get?_push_of_some _ (Heap.get?_push_size _ (by rw[<-IP];rfl))
 have gS:((s.heap.push oI).push (seqObj "list" #[] 0)).get? (s.heap.push oI).objs.size=some (seqObj "list" #[] 0):=Heap.get?_push_size _ rfl;have IQ:∀ p∈pins,p.1<s.heap.objs.size:=fun p hp=>Heap.lt_size (I.pin p (List.mem_append_right _ hp)).1
 have Hq:=I.Ej (Nat.le_refl s.heap.objs.size);have oS:=I.Ej (b:=(s.heap.push oI).objs.size) (by rw[hS];exact Nat.le_succ _)
 have SI:(s.heap.push oI).objs.size≠s.heap.objs.size:=by rw[hS];exact Nat.succ_ne_self _
 have lI:l≠s.heap.objs.size:=Nat.ne_of_lt Um;have pI:∀ p∈pins,p.1≠s.heap.objs.size:=fun p hp=>Nat.ne_of_lt (IQ p hp)
 have pS:∀ p∈pins,p.1≠(s.heap.push oI).objs.size:=fun p hp=>by rw[hS];exact Nat.ne_of_lt (Nat.lt_succ_of_lt (IQ p hp))
 have J:Inv X (((s.heap.push oI).objs.size,seqObj "list" #[] 0)::(s.heap.objs.size,oI)::pins) σ H { s with heap:=(s.heap.push oI).push (seqObj "list" #[] 0)}:=by
  have K:=I.kept (t':=s.toks) hk2;refine K.fV fun p hp=>?_
  rcases List.mem_cons.mp hp with rfl|hp
  ·exact⟨gS,I.hok.fresh (by rw[hS];exact Nat.le_succ _),oS.2.1,oS.2.2.1,fun v z=>by cases z⟩
  ·rcases List.mem_cons.mp hp with rfl|hp
   ·exact⟨gI,I.hok.fresh (Nat.le_refl _),Hq.2.1,Hq.2.2.1,fun v z=>by rw[<-IP]at z;cases z⟩
   ·exact K.pin p (List.mem_append_right _ hp)
 have W:=Walks.list (prog:=X.prog) (w:=X.w) (A:=X.A.in1) hr s.heap.objs.size l lI (cs.map Value.ref).toArray;have n8:=J.pin ((s.heap.push oI).objs.size,seqObj "list" #[] 0) (List.mem_append_right _ (.head _));refine codeAny_builtin PySem.F.entry_min_loop ?_;rw[Around.under_plainId PySem.F.plain_min_loop _];show wpAny _ X.A.in1 (seqItems? (.ref _) >>= _) _ _ _;refine wpAny_bind (wpAny_seqItems n8.1 rfl ?_);show wpAny _ X.A.in1 (tryCatch (pyNext (.ref s.heap.objs.size)) _ >>= _) _ _ _;refine wpAny_bind (wpAny_tryCatch (W.item 0 _ _ _ (by simpa using hne) ⟨⟨oI,gI,by rw[<-IP],by rw[<-IP];rfl⟩,mD J hl⟩ fun v h' tk' hv st' hk'=>?_))
 have Hw:cs[0]?=some cs[0]:=List.getElem?_eq_getElem hne;obtain rfl:v = .ref cs[0]:=by
  have:(cs.map Value.ref)[0]?=some v:=by simpa using hv
  rw[List.getElem?_map,Hw]at this;exact(Option.some.inj this).symm
 obtain⟨yc,wW,hoc,hod⟩:=id st'.1;have I1:=J.gv (t':=tk') (h':=h') (pb:=((s.heap.push oI).objs.size,seqObj "list" #[] 0)::(s.heap.objs.size,yc)::pins) Hq (List.Mem.tail _ (.head _)) (fun b u hb e=>hk' b u (by simpa using hb) e) (fun p hp=>by
  rcases List.mem_cons.mp hp with rfl|hp
  ·exact .inr ⟨.head _,SI⟩
  ·rcases List.mem_cons.mp hp with rfl|hp
   ·exact .inl ⟨rfl,wW,fun v z=>by rw[hod]at z;cases z⟩
   ·exact .inr ⟨.tail _ (.tail _ hp),pI p hp⟩)
 have iN:=I1.pin ((s.heap.push oI).objs.size,_) (List.mem_append_right _ (.head _));have s1:=Heap.SameBut.update h' (s.heap.push oI).objs.size (Obj.mapSeq fun _=>(#[.ref cs[0],.ref cs[0]]:Array Value))
 obtain⟨n2,hn2⟩:∃ n2,(h'.update (s.heap.push oI).objs.size (Obj.mapSeq fun _=>(#[.ref cs[0],.ref cs[0]]:Array Value))).get? (s.heap.push oI).objs.size=some (seqObj "list" #[.ref cs[0],.ref cs[0]] n2):=⟨_,get?_update_seq iN.1 fun _=>#[.ref cs[0],.ref cs[0]]⟩
 show wpAny _ X.A.in1 (updateSeq (s.heap.push oI).objs.size (fun _=>#[.ref cs[0],.ref cs[0]]) >>= _) _ _ _
 refine wpAny_bind (wpAny_updateSeq iN.1 rfl ?_);rw[hname];have I3:=I1.gv (t':=tk') (pb:=((s.heap.push oI).objs.size,seqObj "list" #[.ref cs[0],.ref cs[0]] n2)::(s.heap.objs.size,yc)::pins) oS (.head _) (fun b u hb e=>(s1.2 b hb).trans e) (fun p hp=>by
  rcases List.mem_cons.mp hp with rfl|hp
  ·exact .inl ⟨rfl,hn2,fun v z=>by cases z⟩
  ·rcases List.mem_cons.mp hp with rfl|hp
   ·exact .inr ⟨.tail _ (.head _),SI.symm⟩
   ·exact .inr ⟨.tail _ (.tail _ hp),pS p hp⟩)
 refine wpAny_pure ⟨plainId_quiet PySem.F.plain_min_loop _,Hv hr un hl hk oS Hq SI lI pI pS (fun i c s' hc best I7=>⟨.ref c,H,I7,rfl,q i c hc best⟩) _ 1 0 cs[0] _ n2 yc rfl hne (Nat.lt_succ_self _) Hw I3 ⟨yc,(s1.2 _ SI.symm).trans wW,hoc,hod⟩ fun j hj=>?_⟩
 have e:j=0:=by lia
 rw[e];exact HT.gO _
end
end L2
namespace RM
def lx(a b:Int×Nat):Prop:=a.1<b.1\/(a.1=b.1/\a.2<=b.2)
def stp(L:Nat->Int)(d:Int×Nat)(k:Nat):Int×Nat:=(d.1+L k,d.2^^^2^k)
structure Fx(N:Net)(L:Nat->Int)(m u:Nat)(F:OW):Prop where
 st:F u false=some (0,0)
 cx:∀ x s d k y,F x s=some d->k<N.n->Jn N k x y->∃ d',F y (s^^m.testBit k)=some d'/\lx d' (stp L d k)
 org:∀ y t d,F y t=some d->(y=u/\t=false/\d=(0,0))\/∃ x s d0 k,F x s=some d0/\k<N.n/\Jn N k x y/\t=(s^^m.testBit k)/\d=stp L d0 k
 nn:∀ y t d,F y t=some d->0<=d.1
section
variable {N:Net}{L:Nat->Int}{m u:Nat}{F G:OW}
end
end RM
namespace RM
def RN(N:Net)(L:Nat->Int)(m u:Nat)(F:OW)(y:Nat)(t:Bool)(d:Int×Nat):Prop:=(y=u/\t=false/\d=(0,0))\/∃ x s d0 k,F x s=some d0/\k<N.n/\Jn N k x y/\t=(s^^m.testBit k)/\d=stp L d0 k
structure Dx(N:Net)(L:Nat->Int)(m u:Nat)(F W:OW)(now:Option (Nat×Bool))(done:Nat->Nat->Prop):Prop where
 dj:Dj N L m u F W now done
 cx:∀ x s d k y,F x s=some d->k<N.n->Jn N k x y->(now=some (x,s)->done k y)->∃ d',(F y (s^^m.testBit k)=some d'\/W y (s^^m.testBit k)=some d')/\lx d' (stp L d k)
 fo:∀ y t d,F y t=some d->RN N L m u F y t d
 wo:∀ y t d,W y t=some d->RN N L m u F y t d
 s0:F u false=some (0,0)\/W u false=some (0,0)
section
variable {N:Net}{L:Nat->Int}{m u:Nat}{F W:OW}
theorem RN.grow{y x:Nat}{t s:Bool}{d e:Int×Nat}(h:RN N L m u F y t d)(hF:F x s=none):RN N L m u (jN F x s e) y t d:=by
 rcases h with h|⟨x',s',d0,k,h0,r⟩
 ·exact .inl h
 ·refine .inr ⟨x',s',d0,k,?_,r⟩;rw[bq (fun z=>by rw[z.1,z.2,hF]at h0;cases h0)]
  exact h0
theorem Dx.start:Dx N L m u (fun _ _=>none) (jN (fun _ _=>none) u false (0,0)) none (fun _ _=>False):=by
 refine⟨.start,fun _ _ _ _ _ h=>(nomatch h),fun _ _ _ h=>(nomatch h),fun y t d h=>?_,.inr (bO _ _ _ _)⟩
 by_cases e:y=u/\t=false
 ·obtain⟨rfl,rfl⟩:=e;rw[bO]at h;exact .inl ⟨rfl,rfl,(Option.some.inj h).symm⟩
 ·rw[bq e]at h;cases h
theorem Dx.pop(h:Dx N L m u F W none (fun _ _=>False)){x:Nat}{s:Bool}{d:Int×Nat}(e:W x s=some d)(hmin:∀ y t d',W y t=some d'->d.1<=d'.1):Dx N L m u (jN F x s d) (Ay W x s) (some (x,s)) (fun _ _=>False):=by
 have hF:=h.dj.dj x s d e;have moved:∀ y t d',F y t=some d'\/W y t=some d'->jN F x s d y t=some d'\/Ay W x s y t=some d':=fun y t d' q=>by
  by_cases z:y=x/\t=s
  ·obtain⟨rfl,rfl⟩:=z;rcases q with q|q
   ·rw[hF]at q;cases q
   ·rw[e]at q;cases q;exact .inl (bO _ _ _ _)
  ·rw[bq z,pq z];exact q
 refine⟨h.dj.pop e hmin,fun y t d' k y2 q hk hj hd=>?_,fun y t d' q=>?_,fun y t d' q=>?_,moved _ _ _ h.s0⟩
 ·by_cases z:y=x/\t=s
  ·obtain⟨rfl,rfl⟩:=z;exact(hd rfl).elim
  ·rw[bq z]at q;obtain⟨d2,q2,l2⟩:=h.cx y t d' k y2 q hk hj (fun z=>nomatch z)
   exact⟨d2,moved _ _ _ q2,l2⟩
 ·by_cases z:y=x/\t=s
  ·obtain⟨rfl,rfl⟩:=z;rw[bO]at q;cases q;exact(h.wo _ _ _ e).grow hF
  ·rw[bq z]at q;exact(h.fo y t d' q).grow hF
 ·by_cases z:y=x/\t=s
  ·obtain⟨rfl,rfl⟩:=z;rw[vt]at q;cases q
  ·rw[pq z]at q;exact(h.wo y t d' q).grow hF
theorem lx.trans{a b c:Int×Nat}(h1:lx a b)(h2:lx b c):lx a c:=by
 unfold lx at *
 lia
theorem Dx.put{done:Nat->Nat->Prop}{x:Nat}{s:Bool}(h:Dx N L m u F W (some (x,s)) done){d:Int×Nat}{k y:Nat}(e:F x s=some d)(h0:0<=d.1)(hk:k<N.n)(hL:0<L k)(hj:Jn N k x y)(hF:F y (s^^m.testBit k)=none)
 (hW:∀ d',W y (s^^m.testBit k)=some d'->lx (stp L d k) d'):Dx N L m u F (jN W y (s^^m.testBit k) (stp L d k)) (some (x,s)) (fun k' y'=>done k' y'\/(k' = k/\y' = y)):=by
 have moved:∀ v t d',F v t=some d'\/W v t=some d'->∃ d2,(F v t=some d2\/jN W y (s^^m.testBit k) (stp L d k) v t=some d2)/\lx d2 d':=fun v t d' q=>by
  rcases q with q|q
  ·exact⟨d',.inl q,.inr ⟨rfl,Nat.le_refl _⟩⟩
  ·by_cases z:v=y/\t=(s^^m.testBit k)
   ·obtain⟨rfl,rfl⟩:=z;exact⟨_,.inr (bO _ _ _ _),hW d' q⟩
   ·exact⟨d',.inr (by rw[bq z];exact q),.inr ⟨rfl,Nat.le_refl _⟩⟩
 refine⟨h.dj.put e hk (Int.le_of_lt hL) hj hF fun d' q=>?_,fun v t d' k2 y2 q hk2 LO hd=>?_,h.fo,fun v t d' q=>?_,?_⟩
 ·have:=hW d' q;unfold lx stp at this;simp only at this
  lia
 ·by_cases hd2:some (x,s)=some (v,t)->done k2 y2
  ·obtain⟨d2,q2,l2⟩:=h.cx v t d' k2 y2 q hk2 LO hd2;obtain⟨d3,q3,l3⟩:=moved _ _ _ q2;exact⟨d3,q3,l3.trans l2⟩
  ·have hn:some (x,s)=some (v,t):=Classical.byContradiction fun z=>hd2 fun z2=>absurd z2 z
   rcases hd hn with z|⟨rfl,rfl⟩
   ·exact absurd (fun _=>z) hd2
   ·cases hn;rw[e]at q;cases q;exact⟨_,.inr (bO _ _ _ _),.inr ⟨rfl,Nat.le_refl _⟩⟩
 ·by_cases z:v=y/\t=(s^^m.testBit k)
  ·obtain⟨rfl,rfl⟩:=z;rw[bO]at q;cases q;exact .inr ⟨x,s,d,k,e,hk,hj,rfl,rfl⟩
  ·rw[bq z]at q;exact h.wo v t d' q
 ·rcases h.s0 with q|q
  ·exact .inl q
  ·right
   rw[bq (fun z=>?_)]
   ·exact q
   ·obtain⟨z1,z2⟩:=z;have q':=q;rw[z1,z2]at q';have:=hW _ q';unfold lx stp at this;simp only at this
    lia
theorem Dx.skip{done:Nat->Nat->Prop}{x:Nat}{s:Bool}(h:Dx N L m u F W (some (x,s)) done){d d2:Int×Nat}{k y:Nat}(e:F x s=some d)(hL:0<L k)(q2:F y (s^^m.testBit k)=some d2\/(W y (s^^m.testBit k)=some d2/\lx d2 (stp L d k))):
 Dx N L m u F W (some (x,s)) (fun k' y'=>done k' y'\/(k' = k/\y' = y)):=by
 have q3:F y (s^^m.testBit k)=some d2\/(W y (s^^m.testBit k)=some d2/\d2.1<=d.1+L k):=by
  rcases q2 with q2|⟨q2,l2⟩
  ·exact .inl q2
  ·refine .inr ⟨q2,?_⟩;unfold lx stp at l2;simp only at l2
   lia
 refine⟨h.dj.skip e (Int.le_of_lt hL) q3,fun v t d' k2 y2 q hk2 LO hd=>?_,h.fo,h.wo,h.s0⟩
 by_cases hd2:some (x,s)=some (v,t)->done k2 y2
 ·exact h.cx v t d' k2 y2 q hk2 LO hd2
 ·have hn:some (x,s)=some (v,t):=Classical.byContradiction fun z=>hd2 fun z2=>absurd z2 z
  rcases hd hn with z|⟨rfl,rfl⟩
  ·exact absurd (fun _=>z) hd2
  ·cases hn;rw[e]at q;cases q;rcases q2 with q2|⟨q2,l2⟩
   ·have:=h.dj.mx x s d _ _ d2 rfl e q2;refine⟨d2,.inl q2,.inl ?_⟩;show d2.1<d.1+L k2
    lia
   ·exact⟨d2,.inr q2,l2⟩
theorem Dx.all{done:Nat->Nat->Prop}{x:Nat}{s:Bool}(h:Dx N L m u F W (some (x,s)) done)(ha:∀ k y,k<N.n->Jn N k x y->done k y):Dx N L m u F W none (fun _ _=>False) :=
 ⟨h.dj.all ha,fun v t d k y q hk hj _=>h.cx v t d k y q hk hj fun z=>by cases z;exact ha k y hk hj,h.fo,h.wo,h.s0⟩
theorem Dj.less{now:Option (Nat×Bool)}{done done' : Nat->Nat->Prop}(h:Dj N L m u F W now done)(hd:∀ k y,done' k y->done k y):Dj N L m u F W now done' :=
 ⟨h.fw,h.ww,h.dj,h.le,h.mx,fun v t d k y q hk hj z=>h.cl v t d k y q hk hj fun z2=>hd _ _ (z z2),h.st⟩
theorem Dx.less{now:Option (Nat×Bool)}{done done' : Nat->Nat->Prop}(h:Dx N L m u F W now done)(hd:∀ k y,done' k y->done k y):Dx N L m u F W now done' :=
 ⟨h.dj.less hd,fun v t d k y q hk hj z=>h.cx v t d k y q hk hj fun z2=>hd _ _ (z z2),h.fo,h.wo,h.s0⟩
theorem Dx.fin(hL:∀ k,k<N.n->0<L k)(hu:u<N.p)(h:Dx N L m u F W none (fun _ _=>False))(hW:∀ x s,W x s=none):Fx N L m u F:=by
 refine⟨?_,fun x s d k y e hk hj=>?_,h.fo,fun y t d e=>?_⟩
 ·rcases h.s0 with q|q
  ·exact q
  ·rw[hW]at q;cases q
 ·obtain⟨d',q,l⟩:=h.cx x s d k y e hk hj (fun z=>nomatch z)
  rcases q with q|q
  ·exact⟨d',q,l⟩
  ·rw[hW]at q;cases q
 ·obtain⟨pre,w⟩:=h.dj.fw y t d e;exact(rE (fun k hk=>Int.le_of_lt (hL k hk)) hu w).2.2.2.2.2
end
end RM
namespace RM
section
variable {N:Net}{L:Nat->Int}{m:Nat}
def Lo(N:Net)(L:Nat->Int)(m:Nat)(z:Int)(e:Nat):Prop:=∃ Fs:Nat->OW,(∀ i,i<N.p->Fx N L m i (Fs i))/\(∃ i,i<N.p/\Fs i i true=some (z,e))/\∀ j d,j<N.p->Fs j j true=some d->lx (z,e) d
structure wX(N:Net)(L:Nat->Int)(m:Nat)(z:Int)(e:Nat):Prop where
 ring:N.Ring e
 lt:e<2^N.n
 par:N.par e m=true
 len:lsum L (fun k=>e.testBit k) N.n=z
 way:∃ x,x<N.p/\Wy N L m x x true z
 min:∀ x z',x<N.p->Wy N L m x x true z'->z<=z'
theorem wX.least(hL:∀ k,k<N.n->0<=L k){z:Int}{e r:Nat}(h:wX N L m z e)(hr:N.Ring r)(lr:r<2^N.n)(pr:N.par r m=true):z<=lsum L (fun k=>r.testBit k) N.n:=by
 obtain⟨x,hx,hw⟩:=n5 hL m hr lr;rw[pr]at hw;exact h.min x _ hx hw
end
end RM
namespace RM
section
variable {N:Net}{A A0:Ap}{q x:Nat}{b:Bool}
end
end RM
namespace Ring
open PySem L2
end Ring
namespace L2
open PySem PySem.Spec PyProof.Rows PySem.W
def SRun(r:Nat->Int){α:Type}:KasT α->α
 | .ret a=>a
 | .ask i j k=>SRun r (k (decide (r i<r j)))
section
variable {r:Nat->Int}
theorem jo{α β:Type}{f:α->KasT β}:∀(t:KasT α),SRun r (t.bind f)=SRun r (f (SRun r t))
 | .ret a=>by rw[KasT.bind.eq_1];rfl
 | .ask i j k=>by
   rw[KasT.bind.eq_2];exact jo (k _)
theorem Gb{n:Nat}{α:Type}{R:α->Prop}{cmp:Nat->Nat->(Bool->Shared->Prop)->Shared->Prop}{Q:α->Shared->Prop}{s:Shared}(hc:∀ i j C,i<n->j<n->C (decide (r i<r j)) s->cmp i j C s):∀{t:KasT α},x9 n R t->(R (SRun r t)->Q (SRun r t) s)->KasT.kasWp cmp t Q s
 | .ret a,h,q=>q h
 | .ask i j k,h,q=>hc i j _ h.1 h.2.1 (Gb hc (h.2.2 _) q)
def Kr(r:Nat->Int)(p:Array Nat)(i:Nat):Int:=r (p.getD i 0)
theorem wY(p:Array Nat)(i:Nat):Kr r p i=r ((p[i]?).getD 0):=by
 unfold Kr;rw[Array.getD_eq_getD_getElem?]
theorem AA{p:Array Nat}{i j:Nat}(hj:j<=p.size)(k:Nat):Kr r (kas_rev p i j) k=if i<=k/\k<j then Kr r p (i+j-1-k) else Kr r p k:=by
 have e:=getElem?_mirror_all (i:=i) hj k;unfold kas_rev;rw[wY,e]
 split
 ·rw[wY]
 ·rw[wY]
theorem KY{p:Array Nat}{src d:Nat}(hs:src<p.size)(hd:d<=src)(k:Nat):Kr r (bubble p src d) k=if k=src-d then Kr r p src else if src-d<k/\k<=src then Kr r p (k-1) else Kr r p k:=by
 have e:=getElem?_bubble hs d hd k;rw[wY,e]
 split
 ·rw[wY]
 ·split
  ·rw[wY]
  ·rw[wY]
theorem oh(p:Array Nat)(i j:Nat):(kas_rev p i j).size=p.size:=mirror_size _ _ _ _
def Up(r:Nat->Int)(p:Array Nat)(n:Nat):Prop:=∀ i,1<=i->i<n->Kr r p (i-1)<=Kr r p i
theorem Up.le{p:Array Nat}{n:Nat}(h:Up r p n):∀{i j:Nat},i<=j->j<n->Kr r p i<=Kr r p j:=by
 intro i j hij;obtain⟨d,rfl⟩:=Nat.exists_eq_add_of_le hij;clear hij
 induction d with
 | zero=>intro _;exact Int.le_refl _
 | succ d ih =>
   intro hj;have h1:=ih (by lia)
   have h2:=h (i+(d+1)) (by lia) hj
   rw[show i+(d+1)-1=i+d by lia]at h2
   lia
theorem Eo{p:Array Nat}:∀(f n:Nat),1<=n->Up r p n->n<=SRun r (kas_asc p f n)/\SRun r (kas_asc p f n)<=n+f/\Up r p (SRun r (kas_asc p f n))/\(SRun r (kas_asc p f n)<n+f->Kr r p (SRun r (kas_asc p f n))<Kr r p (SRun r (kas_asc p f n)-1))
 | 0,n,_,h=>by
   rw[kas_asc.eq_1];exact⟨Nat.le_refl n,Nat.le_refl n,h,fun z=>absurd z (Nat.lt_irrefl n)⟩
 | f+1,n,h1,h=>by
   rw[kas_asc.eq_2];show n<=SRun r (if decide (Kr r p n<Kr r p (n-1))=true then _ else _)/\SRun r (if decide (Kr r p n<Kr r p (n-1))=true then _ else _)<=_/\Up r p (SRun r (if decide (Kr r p n<Kr r p (n-1))=true then _ else _))/\_
   by_cases c:Kr r p n<Kr r p (n-1)
   ·show n<=SRun r (if decide (Kr r p n<Kr r p (n-1))=true then _ else _)/\SRun r (if decide (Kr r p n<Kr r p (n-1))=true then _ else _)<=_/\Up r p (SRun r (if decide (Kr r p n<Kr r p (n-1))=true then _ else _))/\(SRun r (if decide (Kr r p n<Kr r p (n-1))=true then _ else _)<_->Kr r p (SRun r (if decide (Kr r p n<Kr r p (n-1))=true then _ else _))<Kr r p (SRun r (if decide (Kr r p n<Kr r p (n-1))=true then _ else _)-1))
    rw[if_pos (decide_eq_true c)];exact⟨Nat.le_refl n,Nat.le_add_right _ _,h,fun _=>c⟩
   ·show n<=SRun r (if decide (Kr r p n<Kr r p (n-1))=true then _ else _)/\SRun r (if decide (Kr r p n<Kr r p (n-1))=true then _ else _)<=_/\Up r p (SRun r (if decide (Kr r p n<Kr r p (n-1))=true then _ else _))/\(SRun r (if decide (Kr r p n<Kr r p (n-1))=true then _ else _)<_->Kr r p (SRun r (if decide (Kr r p n<Kr r p (n-1))=true then _ else _))<Kr r p (SRun r (if decide (Kr r p n<Kr r p (n-1))=true then _ else _)-1))
    rw[if_neg (by simpa using c)]
    have ih:=Eo (p:=p) f (n+1) (by lia) (fun i hi hn=>by
     by_cases e:i=n
     ·rw[e];lia
     ·exact h i hi (by lia))
    refine⟨by lia,by lia,ih.2.2.1,fun z=>ih.2.2.2 (by lia)⟩
def Down(r:Nat->Int)(p:Array Nat)(n q:Nat):Prop:=(∀ i,1<=i->i<n->Kr r p i<=Kr r p (i-1))/\q+1<=n/\∀ i,n-(q+1)<=i->i<n->Kr r p i=Kr r p (n-1)
theorem Down.rev{p:Array Nat}{n q:Nat}(h:Down r p n q)(hn:n<=p.size)(k:Nat):Kr r (kas_rev p (n-(q+1)) n) k=Kr r p k:=by
 rw[AA hn]
 split
 ·rename_i hk
  rw[h.2.2 _ (by lia) (by have:=h.2.1;lia),h.2.2 k hk.1 hk.2]
 ·rfl
theorem pA:∀(f:Nat) {p:Array Nat} {n q:Nat},n+f<=p.size->Down r p n q->
 (SRun r (kas_desc f p n q)).1.size=p.size/\n<=(SRun r (kas_desc f p n q)).2.1/\(SRun r (kas_desc f p n q)).2.1<=n+f/\Down r (SRun r (kas_desc f p n q)).1 (SRun r (kas_desc f p n q)).2.1 (SRun r (kas_desc f p n q)).2.2
 | 0,p,n,q,_,h=>by
   rw[kas_desc.eq_1];exact⟨rfl,Nat.le_refl n,Nat.le_refl n,h⟩
 | f+1,p,n,q,hs,h=>by
   rw[kas_desc.eq_2];obtain⟨h1,h2,h3⟩:=id h
   by_cases c:Kr r p n<Kr r p (n-1)
   ·have dn:∀ p' : Array Nat,(∀ k,Kr r p' k=Kr r p k)->Down r p' (n+1) 0:=fun p' e=>by
     refine⟨fun i hi hn=>?_,by lia,fun i hi hn=>by rw[show i=n+1-1 by lia]⟩
     rw[e,e]
     by_cases z:i=n
     ·rw[z];lia
     ·exact h1 i hi (by lia)
    have e0:∀(T1 T2:KasT (Array Nat×Nat×Nat)),SRun r (KasT.ask (p.getD n 0) (p.getD (n-1) 0) fun c=>if c=true then T1 else T2)=SRun r T1:=fun T1 T2=>by
     show SRun r (if decide (Kr r p n<Kr r p (n-1))=true then T1 else T2)=_
     rw[if_pos (decide_eq_true c)]
    rw[e0]
    by_cases hq:q > 0
    ·rw[if_pos hq];have ih:=pA f (p:=kas_rev p (n-(q+1)) n) (n:=n+1) (q:=0) (by rw[oh];lia) (dn _ (h.rev (by lia)))
     rw[oh]at ih;exact⟨ih.1,by lia,by lia,ih.2.2.2⟩
    ·rw[if_neg hq];have ih:=pA f (p:=p) (n:=n+1) (q:=0) (by lia) (dn _ fun _=>rfl)
     exact⟨ih.1,by lia,by lia,ih.2.2.2⟩
   ·have e0:∀(T1 T2:KasT (Array Nat×Nat×Nat)),SRun r (KasT.ask (p.getD n 0) (p.getD (n-1) 0) fun c=>if c=true then T1 else T2)=SRun r T2:=fun T1 T2=>by
     show SRun r (if decide (Kr r p n<Kr r p (n-1))=true then T1 else T2)=_
     rw[if_neg (by simpa using c)]
    rw[e0]
    by_cases d:Kr r p (n-1)<Kr r p n
    ·have e1:∀(T1 T2:KasT (Array Nat×Nat×Nat)),SRun r (KasT.ask (p.getD (n-1) 0) (p.getD n 0) fun c=>if c=true then T1 else T2)=SRun r T1:=fun T1 T2=>by
      show SRun r (if decide (Kr r p (n-1)<Kr r p n)=true then T1 else T2)=_
      rw[if_pos (decide_eq_true d)]
     rw[e1];exact⟨rfl,Nat.le_refl n,Nat.le_add_right _ _,h⟩
    ·have e1:∀(T1 T2:KasT (Array Nat×Nat×Nat)),SRun r (KasT.ask (p.getD (n-1) 0) (p.getD n 0) fun c=>if c=true then T1 else T2)=SRun r T2:=fun T1 T2=>by
      show SRun r (if decide (Kr r p (n-1)<Kr r p n)=true then T1 else T2)=_
      rw[if_neg (by simpa using d)]
     rw[e1];have ih:=pA f (p:=p) (n:=n+1) (q:=q+1) (by lia) ⟨fun i hi hn=>by
      by_cases z:i=n
      ·rw[z];lia
      ·exact h1 i hi (by lia),by lia,fun i hi hn=>by
      rw[show n+1-1=n by lia]
      by_cases z:i=n
      ·rw[z]
      ·have:=h3 i (by lia) (by lia)
       lia⟩
     exact⟨ih.1,by lia,by lia,ih.2.2.2⟩
def Cu(r:Nat->Int)(n:Nat)(x:Nat×Array Nat):Prop:=x.2.size=n/\1<=x.1/\x.1<=n/\Up r x.2 x.1
theorem Cv{n nrem:Nat}{p:Array Nat}{q:Nat}(h:Down r p n q)(hn:1<=n)(hle:n<=nrem)(hs:p.size=nrem):Cu r nrem (SRun r (kas_tail3 n nrem p)):=by
 have up:Up r (kas_rev p 0 n) n:=fun i hi hi2=>by
  rw[AA (by lia),AA (by lia),if_pos (by lia),if_pos (by lia)]
  have:=h.1 (0+n-1-(i-1)) (by lia) (by lia)
  rw[show 0+n-1-(i-1)-1=0+n-1-i by lia]at this
  exact this
 have a:=Eo (nrem-n) n hn up;unfold kas_tail3;rw[jo];exact⟨by show(kas_rev p 0 n).size=nrem;rw[oh,hs],by show 1<=SRun r _;lia,by show SRun r _<=nrem;lia,a.2.2.1⟩
theorem Down.congr{p p' : Array Nat}{n q:Nat}(h:Down r p n q)(e:∀ k,Kr r p' k=Kr r p k):Down r p' n q:=⟨fun i h1 h2=>by rw[e,e];exact h.1 i h1 h2,h.2.1,fun i h1 h2=>by rw[e,e];exact h.2.2 i h1 h2⟩
theorem Cw{n nrem:Nat}{p:Array Nat}(hn:1<=n)(hle:n+1<=nrem)(hs:p.size=nrem)(heq:∀ i,i<n->Kr r p i=Kr r p (n-1))(hlt:Kr r p n<Kr r p (n-1)):Cu r nrem (SRun r (kas_descPart n nrem p)):=by
 have d0:Down r p (n+1) 0:=⟨fun i h1 h2=>by
  by_cases z:i=n
  ·rw[z];lia
  ·rw[heq i (by lia),heq (i-1) (by lia)]
   exact Int.le_refl _,by lia,fun i h1 h2=>by rw[show i=n+1-1 by lia]⟩
 have d:=pA (nrem-(n+1)) (p:=p) (n:=n+1) (q:=0) (by lia) d0
 unfold kas_descPart;rw[jo];generalize SRun r (kas_desc (nrem-(n+1)) p (n+1) 0)=x at d;obtain⟨d1,d2,d3,d4⟩:=d
 by_cases hq:x.2.2 > 0
 ·rw[if_pos hq];exact Cv (d4.congr (d4.rev (by lia))) (by lia) (by lia) (by rw[oh,d1,hs])
 ·rw[if_neg hq];exact Cv d4 (by lia) (by lia) (by rw[d1,hs])
theorem Hx{nrem:Nat}{p:Array Nat}(h1:1<=nrem)(hs:p.size=nrem):Cu r nrem (SRun r (kas_count nrem p)):=by
 have a:=Eo (r:=r) (p:=p) (nrem-1) 1 (Nat.le_refl 1) (fun i hi hn=>by lia)
 unfold kas_count;rw[jo];generalize SRun r (kas_asc p (nrem-1) 1)=n at a;obtain⟨a1,a2,a3,a4⟩:=a
 by_cases e:(n==nrem)=true
 ·rw[if_pos e];exact⟨hs,a1,by show n<=nrem;lia,a3⟩
 ·rw[if_neg e];have e:n≠nrem:=by simpa using e
  have hlt:=a4 (by lia)
  by_cases h2:n > 1
  ·rw[if_pos h2]
   by_cases c:Kr r p 0<Kr r p (n-1)
   ·show Cu r nrem (SRun r (if decide (Kr r p 0<Kr r p (n-1))=true then _ else _))
    rw[if_pos (decide_eq_true c)];exact⟨hs,a1,by show n<=nrem;lia,a3⟩
   ·show Cu r nrem (SRun r (if decide (Kr r p 0<Kr r p (n-1))=true then _ else _))
    rw[if_neg (by simpa using c)]
    have all:∀ i,i<n->Kr r p i=Kr r p (n-1):=fun i hi=>by
     have l1:=a3.le (show 0<=i by lia) hi
     have l2:=a3.le (show i<=n-1 by lia) (by lia)
     lia
    have er:∀ k,Kr r (kas_rev p 0 n) k=Kr r p k:=fun k=>by
     rw[AA (by lia)]
     split
     ·rw[all _ (by lia),all k (by lia)]
     ·rfl
    exact Cw a1 (by lia) (by rw[oh,hs]) (fun i hi=>by rw[er,er];exact all i hi) (by rw[er,er];exact hlt)
  ·rw[if_neg h2];have e1:n=1:=by lia
   subst e1;exact Cw a1 (by lia) hs (fun i hi=>by rw[show i=1-1 by lia]) hlt
theorem wZ{p:Array Nat}{k:Nat}(up:Up r p k):∀(f l u:Nat),u-l<=f->l<=u->u<=k->(∀ i,i<l->Kr r p i<=Kr r p k)->(∀ i,u<=i->i<k->Kr r p k<Kr r p i)->
 SRun r (kas_place p k f l u)<=k/\(∀ i,i<SRun r (kas_place p k f l u)->Kr r p i<=Kr r p k)/\∀ i,SRun r (kas_place p k f l u)<=i->i<k->Kr r p k<Kr r p i
 | 0,l,u,hf,hlu,huk,h1,h2=>by
   rw[kas_place.eq_1];have e:l=u:=by lia
   subst e;exact⟨huk,h1,h2⟩
 | f+1,l,u,hf,hlu,huk,h1,h2=>by
   rw[kas_place.eq_2]
   by_cases hx:l ≥ u
   ·rw[if_pos hx];have e:l=u:=by lia
    subst e;exact⟨huk,h1,h2⟩
   ·rw[if_neg hx]
    by_cases c:Kr r p k<Kr r p ((l+u)/2)
    ·have e0:∀(T1 T2:KasT Nat),SRun r (KasT.ask (p.getD k 0) (p.getD ((l+u)/2) 0) fun c=>if c=true then T1 else T2)=SRun r T1:=fun T1 T2=>by
      show SRun r (if decide (Kr r p k<Kr r p ((l+u)/2))=true then T1 else T2)=_
      rw[if_pos (decide_eq_true c)]
     rw[e0];exact wZ up f l ((l+u)/2) (by lia) (by lia) (by lia) h1 fun i hi hk=>by
      have:=up.le hi hk
      lia
    ·have e0:∀(T1 T2:KasT Nat),SRun r (KasT.ask (p.getD k 0) (p.getD ((l+u)/2) 0) fun c=>if c=true then T1 else T2)=SRun r T2:=fun T1 T2=>by
      show SRun r (if decide (Kr r p k<Kr r p ((l+u)/2))=true then T1 else T2)=_
      rw[if_neg (by simpa using c)]
     rw[e0];exact wZ up f ((l+u)/2+1) u (by lia) (by lia) huk (fun i hi=>by
      have:=up.le (show i<=(l+u)/2 by lia) (by lia)
      lia) h2
theorem KZ:∀(f:Nat) {p:Array Nat} {k:Nat},k+f<=p.size->Up r p k->Up r (SRun r (kas_bin f p k)) (k+f)
 | 0,p,k,_,h=>by
   rw[kas_bin.eq_1];exact h
 | f+1,p,k,hs,h=>by
   rw[kas_bin.eq_2,jo];have pl:=wZ h k 0 k (by lia) (by lia) (Nat.le_refl k) (fun i hi=>by lia) (fun i h1 h2=>by lia)
   generalize SRun r (kas_place p k k 0 k)=l at pl;obtain⟨p1,p2,p3⟩:=pl;have up:Up r (bubble p k (k-l)) (k+1):=fun i hi hk=>by
    rw[KY (by lia) (by lia),KY (by lia) (by lia),show k-(k-l)=l by lia]
    by_cases c1:i=l
    ·rw[if_neg (by lia),if_neg (by lia),if_pos c1]
     exact p2 (i-1) (by lia)
    ·rw[if_neg c1]
     by_cases c2:l<i/\i<=k
     ·rw[if_pos c2]
      by_cases c3:i-1=l
      ·rw[if_pos c3];exact Int.le_of_lt (p3 (i-1) (by lia) (by lia))
      ·rw[if_neg c3,if_pos (by lia)]
       exact h (i-1) (by lia) (by lia)
     ·rw[if_neg c2,if_neg (by lia),if_neg (by lia)]
      exact h i hi (by lia)
   have:=KZ f (p:=bubble p k (k-l)) (k:=k+1) (by rw[bubble_size];lia) up
   rw[show k+(f+1)=k+1+f by lia]
   exact this
theorem MV{n:Nat}(hn:1<=n):Up r (SRun r (kas_sort n)) n:=by
 unfold kas_sort;rw[jo];have c:=Hx (r:=r) (p:=List.toArray (List.range n)) hn (by simp)
 generalize SRun r (kas_count n (List.toArray (List.range n)))=x at c;obtain⟨c1,c2,c3,c4⟩:=c
 by_cases hx:x.1<n
 ·rw[if_pos hx];have:=KZ (n-max x.1 1) (p:=x.2) (k:=max x.1 1) (by lia) (by rw[show max x.1 1=x.1 by lia];exact c4)
  rw[show max x.1 1+(n-max x.1 1)=n by lia]at this
  exact this
 ·rw[if_neg hx];have e:x.1=n:=by lia
  rw[e]at c4;exact c4
end
end L2
namespace L2
open PySem PySem.Spec PyProof.Rows PySem.W
theorem AB:bootBuiltins "sorted"=some (.builtin "sorted"):=by kernel_rfl
def kx(z:Int×Int):Int:=z.1*1073741824+z.2
def RO(z:Int×Int):Prop:=0<=z.2/\z.2<1073741824
section
variable {X:Cx}{pins:List (Addr×Obj)}{σ:St}{H H2:Hp}{s:Shared}
theorem Inv.MW{a:Addr}{xs:List V}{ob:Obj}(I:Inv X pins σ H s)(e:H a=some (.lst xs))(ho:s.heap.get? a=some ob):Inv X pins σ (upd H a (.nH ob (.lst xs))) s:=by
 have ne:∀ b,H b=none->b≠a:=fun b h z=>by rw[z,e]at h;cases h
 refine⟨I.ok,I.os,I.bare,⟨I.base.keep,I.base.slot,fun b o q n hx=>?_,I.base.there,fun b xs q=>?_,fun b o u q=>?_,fun b ps q=>?_⟩,I.loc,I.cell,?_,fun x c q=>?_,fun p hp=>?_,fun b u q=>?_,I.len⟩
 ·have z:=I.base.free b o q n hx;rw[aq (ne b z)];exact z
 ·have z:=I.base.tups b xs q;rw[aq (aY z e (by intro z;cases z))]
  exact z
 ·have z:=I.base.mj b o u q;rw[aq (aY z e (by intro z;cases z))]
  exact z
 ·obtain⟨more,z⟩:=I.base.nJ b ps q;exact⟨more,by rw[aq (aY z e (by intro z;cases z))];exact z⟩
 ·rw[aq (ne _ I.free)];exact I.free
 ·rw[aq (ne _ (I.fP x c q))];exact I.fP x c q
 ·obtain⟨a1,a2,a3⟩:=I.pin p hp;exact⟨a1,by rw[aq (ne _ a2)];exact a2,a3⟩
 ·by_cases hb:b=a
  ·subst hb;rw[ah]at q;cases q;exact⟨ho,(I.hok b _ e).stay (fun _ _ _ q=>q) (fun c q=>by rw[aq (aY q e (by intro z;cases z))];exact q) fun c xs q=>by rw[aq (aY q e (by intro z;cases z))];exact q⟩
  ·rw[aq hb]at q;exact(I.hok b u q).stay (fun _ _ _ q=>q) (fun c q=>by rw[aq (aY q e (by intro z;cases z))];exact q) fun c xs q=>by rw[aq (aY q e (by intro z;cases z))];exact q
theorem Inv.RP{wM:List (Addr×Obj)}{σ0:St}{s0:Shared}{a:Addr}{xs:List V}{ob:Obj}(I0:Inv X wM σ0 H s0)(e0:H a=some (.lst xs))(I:Inv X pins σ H2 s)(e:H2 a=some (.nH ob (.lst xs))):
 Inv X pins σ (upd H2 a (.lst xs)) s:=by
 have ne:∀ b,H2 b=none->b≠a:=fun b h z=>by rw[z,e]at h;cases h
 obtain⟨ho,hd⟩:=(show bI X.prog X.w H2 s.heap a (.nH ob (.lst xs)) from I.hok a _ e)
 refine⟨I.ok,I.os,I.bare,⟨I.base.keep,I.base.slot,fun b o q n hx=>?_,I.base.there,fun b xs q=>?_,fun b o u q=>?_,fun b ps q=>?_⟩,I.loc,I.cell,?_,fun x c q=>?_,fun p hp=>?_,fun b u q=>?_,I.len⟩
 ·have z:=I.base.free b o q n hx;rw[aq (ne b z)];exact z
 ·have z:=I.base.tups b xs q;rw[aq (aY z e (by intro z;cases z))]
  exact z
 ·have z:=I.base.mj b o u q;rw[aq (fun y=>by
   have z0:=I0.base.mj b o u q;rw[y,e0]at z0;cases z0)]
  exact z
 ·obtain⟨more,z⟩:=I.base.nJ b ps q;exact⟨more,by rw[aq (aY z e (by intro z;cases z))];exact z⟩
 ·rw[aq (ne _ I.free)];exact I.free
 ·rw[aq (ne _ (I.fP x c q))];exact I.fP x c q
 ·obtain⟨a1,a2,a3⟩:=I.pin p hp;exact⟨a1,by rw[aq (ne _ a2)];exact a2,a3⟩
 ·by_cases hb:b=a
  ·subst hb;rw[ah]at q;cases q;exact hd.stay (fun _ _ _ q=>q) (fun c q=>by rw[aq (aY q e (by intro z;cases z))];exact q) fun c xs q=>by rw[aq (aY q e (by intro z;cases z))];exact q
  ·rw[aq hb]at q;exact(I.hok b u q).stay (fun _ _ _ q=>q) (fun c q=>by rw[aq (aY q e (by intro z;cases z))];exact q) fun c xs q=>by rw[aq (aY q e (by intro z;cases z))];exact q
end
def Gd(h:Heap)(v:Value)(z:Int×Int):Prop:=∃(a:Addr) (o:Obj) (t u:Tok) (k:Nat),v = .ref a/\h.get? a=some o/\o.cls = .type "tuple"/\o.data = .seq #[.int z.1 t,.int z.2 u] k
theorem Gd.pair{h:Heap}{v:Value}{z:Int×Int}(q:Gd h v z):NC h v:=let⟨a,o,t,u,k,q⟩:=q;⟨a,o,z.1,z.2,t,u,k,q⟩
theorem Hy{prog:Program}{w:World}{A:Around}{s:Shared}{vs:List Value}{n:Nat}{zs:Nat->Int×Int}(hz:∀ i,i<n->RO (zs i))(hv:∀ i,i<n->Gd s.heap (vs.getD i Value.none) (zs i)):
 ∀ i j C,i<n->j<n->C (decide (kx (zs i)<kx (zs j))) s->kas_ask prog w A (tuples' true) vs i j C s:=by
 intro i j C hi hj hC;unfold kas_ask;obtain⟨a,o,t,u,k,e,ho,_,hd⟩:=hv i hi;obtain⟨a',o',t',u',k',e',ho',_,hd'⟩:=hv j hj;have oi:=hz i hi;have oj:=hz j hj;generalize zs i=z at hd hC oi;generalize zs j=z' at hd' hC oj;obtain⟨x,y⟩:=z;obtain⟨x',y'⟩:=z';unfold kx at hC;unfold RO at oi oj;dsimp only at hd hd' hC oi oj;rw[e,e'];refine kat_lt ho hd ho' hd' ?_;show KatLex prog w A true _ C [(.int x t,.int x' t'),(.int y u,.int y' u')] 0 s;rw[KatLex.eq_2];refine wpAny_eqBool_int ?_
 by_cases ex:x=x'
 ·rw[show(x==x')=true by simpa using ex]
  rw[if_pos rfl,KatLex.eq_2];refine wpAny_eqBool_int ?_
  by_cases ey:y=y'
  ·rw[show(y==y')=true by simpa using ey]
   rw[if_pos rfl,KatLex.eq_1];rw[decide_eq_false (by lia)]at hC
   exact hC
  ·rw[show(y==y')=false by simpa using ey]
   rw[if_neg Bool.false_ne_true];refine kat_one _ _ (lt_int ?_);have e2:decide (y<y')=decide (x*1073741824+y<x'*1073741824+y'):=decide_eq_decide.mpr (by lia)
   rw[<-e2]at hC;exact hC
 ·rw[show(x==x')=false by simpa using ex]
  rw[if_neg Bool.false_ne_true];refine oneLt_int ?_;have e2:decide (x<x')=decide (x*1073741824+y<x'*1073741824+y'):=decide_eq_decide.mpr (by lia)
  rw[<-e2]at hC;exact hC
def Pg(P:Addr)(q:Str)(lp:Pos)(ta:TA)(te:TE)(js:List Nat):TE:=fun σ H Q=>ta σ H fun vs H1=>∃(a:Addr) (ns:List Int) (kf:Int->Int×Int),vs=[.ref a]/\H1 a=some (.lst (ns.map V.int))/\ns.length<64/\(∀ n∈ns,RO (kf n))/\H1 P=some (.jT (fk q lp))/\
 (∀ H3,(∀ b u,H1 b=some u->(∀ y,u≠.own y)->(∀ qs,u≠.jT qs)->H3 b=some u)->∀ n∈ns,te (some (.int n)::fN σ js) H3 fun v H4=>av H3 H4/\∃ d,v = .ref d/\H4 d=some (.tup [.int (kf n).1,.int (kf n).2]))/\
 ∀(l:Addr) (ns' : List Int) H4,H1 l=none->av H1 H4->H4 l=some (.lst (ns'.map V.int))->ns'.Perm ns->ns'.Pairwise (fun x y=>kx (kf x)<=kx (kf y))->Q (.ref l) H4
end L2
namespace L2
open PySem PySem.Spec PyProof.Rows PySem.W
section
variable {X:Cx}{pins:List (Addr×Obj)}{σ:St}{H2:Hp}
theorem Hz{A:Around}{E:Value->Shared->Prop}{P:PySem.Fin->Shared->Prop}{s:Shared}{H3:Hp}{D kS:Addr}{e e1:Nat}{its:List Value}{ns:List Int}{ds:List Addr}{kf:Int->Int×Int}
 (I:Inv X ((kS,seqObj "list" (ds.map Value.ref).toArray e)::pins) σ H3 s) (oK:Av X kS) (pK:∀ p∈pins,p.1≠kS) (hD:H3 D=some (.nH (seqObj "list" #[] e1) (.lst []))) (rv:Vals (ns.map V.int) its) (hn:ns.length<64) (hdl:ds.length=ns.length)
 (hk:∀(j:Nat) d n,ds[j]?=some d->ns[j]?=some n->H3 d=some (.tup [.int (kf n).1,.int (kf n).2])) (hok:∀ n∈ns,RO (kf n))
 {wM:List (Addr×Obj)} {σ0:St} {s0:Shared} {H0:Hp} (I0:Inv X wM σ0 H0 s0) (e0:H0 D=some (.lst []))
 (fin:∀(s' : Shared) (ns' : List Int),ns'.Perm ns->ns'.Pairwise (fun x y=>kx (kf x)<=kx (kf y))->Inv X pins σ (upd (upd H3 D (.lst [])) D (.lst (ns'.map V.int))) s'->P (.done (.ret .none)) s') :
 wpAny (model X.prog X.w) A (ksk_end D false its.toArray e1 (.ref kS) ((ds.map Value.ref).toArray)) P E s:=by
 have hl:its.length=ns.length:=by have:=rv.length;rw[List.length_map]at this;lia
 obtain⟨hDo,_⟩:=(show bI X.prog X.w H3 s.heap D (.nH (seqObj "list" #[] e1) (.lst [])) from I.hok D _ hD)
 have Ep:=I.pin (kS,seqObj "list" (ds.map Value.ref).toArray e) (List.mem_append_right _ (.head _));have hDK:D≠kS:=fun z=>by
  have:=Ep.2.1;rw[<-z,hD]at this;cases this
 have tail:∀(st:SortSt) (ns' : List Int) (out:List Value),(arrOf st).map (·.2)=out.toArray->out.length<64->failedOf st=none->ns'.Perm ns->ns'.Pairwise (fun x y=>kx (kf x)<=kx (kf y))->Vals (ns'.map V.int) out->wpAny (model X.prog X.w) A (ksk_tail D false e1 (.ref kS) st) P E s:=by
  intro st ns' out hout hz hf hp hs hv;have s1:=Heap.SameBut.update s.heap kS (Obj.mapSeq fun _=>(#[]:Array Value))
  have xT:(s.heap.update kS (Obj.mapSeq fun _=>(#[]:Array Value))).get? D=some (seqObj "list" #[] e1):=(s1.2 D hDK).trans hDo
  have s2:=Heap.SameBut.update (s.heap.update kS (Obj.mapSeq fun _=>(#[]:Array Value))) D (Obj.mapSeq fun _=>out.toArray)
  obtain⟨c2,hc2⟩:∃ c2,((s.heap.update kS (Obj.mapSeq fun _=>(#[]:Array Value))).update D (Obj.mapSeq fun _=>out.toArray)).get? D=some (seqObj "list" out.toArray c2):=⟨_,get?_update_seq xT fun _=>out.toArray⟩
  unfold ksk_tail
  try dsimp only
  rw[hout];refine wpAny_bind (listUpdate_at Ep.1 rfl ?_ (by rw[List.size_toArray,List.length_map,sizeLine_eq];lia) (Nat.zero_le _))
  refine wpAny_bind (wpAny_letGo ?_);refine wpAny_bind (seqEpoch_at xT rfl ?_);refine wpAny_bind (listUpdate_at xT rfl ?_ (Nat.zero_le _) (by show out.toArray.size<=_;rw[List.size_toArray,sizeLine_eq];lia))
  rw[hf];simp only[bne_self_eq_false,Bool.false_eq_true,if_false];have J1:=I.gv (t':=s.toks) (h':=s.heap.update kS (Obj.mapSeq fun _=>(#[]:Array Value))) (pb:=pins) oK (.head _) (fun c u ne e=>(s1.2 c ne).trans e) (fun p hp=>.inr ⟨.tail _ hp,pK p hp⟩)
  have J2:=Inv.RP I0 e0 J1 hD;have J3:=J2.write (x:=D) (e:=D) (o:=.lst (ns'.map V.int)) (t':=s.toks) (h':=(s.heap.update kS (Obj.mapSeq fun _=>(#[]:Array Value))).update D (Obj.mapSeq fun _=>out.toArray)) (by rw[ah];trivial) (.inl rfl) (fun b u nb eb=>(s2.2 b nb).trans eb) ⟨_,hc2⟩
   ⟨by rw[List.length_map,hp.length_eq,sizeLine_eq];lia,out,c2,hv,hc2⟩
  exact wpAny_pure (fin _ ns' hp hs J3)
 by_cases h2:2<=ns.length
 ·have kv:∀ i,i<its.length->Gd s.heap ((ds.map Value.ref).getD i Value.none) (kf (ns.getD i 0)):=fun i hi=>by
   have e1:ds[i]?=some (ds[i]'(by lia)):=List.getElem?_eq_getElem _
   have e2:ns[i]?=some (ns[i]'(by lia)):=List.getElem?_eq_getElem _
   have hd:=hk i _ _ e1 e2;obtain⟨ts,rt,⟨o,eo,hc,n,hdt⟩,_⟩:=I.tuple (aX.of hd);have g1:(ds.map Value.ref).getD i Value.none = .ref (ds[i]'(by lia)):=by rw[List.getD_eq_getElem?_getD,List.getElem?_map,e1];rfl
   have g2:ns.getD i 0=ns[i]'(by lia):=by rw[List.getD_eq_getElem?_getD,e2];rfl
   rw[g1,g2]
   match ts,rt with
   | [_,_],.cons ⟨t,rfl⟩ (.cons ⟨u,rfl⟩ .nil)=>exact⟨_,o,t,u,n,rfl,eo,hc,hdt⟩
  have kz:∀ i,i<its.length->RO (kf (ns.getD i 0)):=fun i hi=>by
   have e2:ns[i]?=some (ns[i]'(by lia)):=List.getElem?_eq_getElem _
   rw[List.getD_eq_getElem?_getD,e2];exact hok _ (List.getElem_mem _)
  have hlk:(ds.map Value.ref).length=its.length:=by rw[List.length_map];lia
  have hn2 : ¬ its.toArray.size<2:=by rw[List.size_toArray];lia
  unfold ksk_end
  try dsimp only
  rw[if_neg Bool.false_ne_true,if_neg hn2,if_neg hn2,if_neg Bool.false_ne_true];refine wpAny_bind (G6 (by rw[List.length_map];lia) (fun v hv=>?_) ?_)
  ·obtain⟨i,hi,rfl⟩:=List.mem_iff_getElem.mp hv;have:=(kv i (by lia)).pair
   rw[List.getD_eq_getElem?_getD,List.getElem?_eq_getElem hi]at this;exact this
  refine wpAny_bind (wpAny_mono (kat_run (Q:=fun st' s'=>s' = s/\∃ p:Array Nat,dD its.length p/\Up (fun i=>kx (kf (ns.getD i 0))) p its.length/\(arrOf st').map (·.2)=(p.toList.map fun i=>its.getD i Value.none).toArray/\failedOf st' = none) (G:=fun p s'=>s' = s/\dD its.length p/\Up (fun i=>kx (kf (ns.getD i 0))) p its.length)
   hlk (by lia) (by lia) (fun p st' s' a1 a2 a3 a4=>⟨a4.1,p,a4.2.1,a4.2.2,kat_snds hlk a2,a3⟩) ?_) ?_ fun _ _ x=>x)
  ·exact Gb (r:=fun i=>kx (kf (ns.getD i 0))) (n:=its.length) (Hy kz kv) (MJ (by lia)) fun hg=>⟨rfl,hg,MV (by lia)⟩
  ·rintro⟨⟨⟩,st'⟩ s' ⟨rfl,p,hg,hu,har,hf⟩
   try dsimp only
   have hpl:p.toList.length=its.length:=by have:=hg.length_eq;rw[List.length_range]at this;exact this
   refine tail st' (p.toList.map fun i=>ns.getD i 0) _ har (by rw[List.length_map];lia) hf ?_ ?_ ?_
   ·have h1:=List.Perm.map (fun i=>ns.getD i 0) hg
    have h3:(List.range its.length).map (fun i=>ns.getD i 0)=ns:=by
     rw[hl];refine List.ext_getElem (by simp) fun i h1 h2=>?_
     simp[List.getD_eq_getElem?_getD,List.getElem?_eq_getElem h2]
    rw[h3]at h1;exact h1
   ·rw[List.pairwise_map,List.pairwise_iff_getElem];intro i j hi hj hij;have:=hu.le (Nat.le_of_lt hij) (by lia)
    have ga:∀ i (hi:i<p.toList.length),p.getD i 0=p.toList[i]:=fun i hi=>by
     rw[Array.getD_eq_getD_getElem?,<-Array.getElem?_toList,List.getElem?_eq_getElem hi];rfl
    unfold Kr at this;rw[ga i hi,ga j hj]at this;exact this
   ·have:∀ l:List Nat,(∀ i∈l,i<ns.length)->Vals ((l.map fun i=>ns.getD i 0).map V.int) (l.map fun i=>its.getD i Value.none):=fun l=>by
     induction l with
     | nil=>exact fun _=>.nil
     | cons i l ih =>
       intro h;refine .cons ?_ (ih fun j hj=>h j (List.mem_cons_of_mem _ hj))
       have hi:=h i List.mem_cons_self;have h1:(ns.map V.int)[i]?=some (.int (ns.getD i 0)):=by
        rw[List.getElem?_map,List.getD_eq_getElem?_getD,List.getElem?_eq_getElem hi];rfl
       obtain⟨u,hu,ru⟩:=rv.get h1;have gu:its.getD i Value.none=u:=by rw[List.getD_eq_getElem?_getD,hu];rfl
       show RelV (V.int (ns.getD i 0)) (its.getD i Value.none);rw[gu];exact ru
    refine this _ fun i hi=>?_
    have:=List.mem_range.mp (hg.mem_iff.mp hi)
    lia
 ·have hn2:its.toArray.size<2:=by rw[List.size_toArray];lia
  unfold ksk_end
  try dsimp only
  rw[if_neg Bool.false_ne_true,if_pos hn2,if_pos hn2,if_neg Bool.false_ne_true];refine wpAny_bind (wpAny_pure ?_);refine wpAny_bind (m:=pure ((),SortSt.mk' general' (((ds.map Value.ref).toArray).zip its.toArray) #[] 7 none)) (wpAny_pure ?_);refine tail _ ns its ?_ (by lia) rfl (List.Perm.refl _) ?_ rv
  ·show Array.map (fun x:Keyed=>x.snd) (((ds.map Value.ref).toArray).zip its.toArray)=its.toArray
   apply Array.toList_inj.mp;simp;exact List.map_snd_zip (by rw[List.length_map];lia)
  ·match ns,h2 with
   | [],_=>exact .nil
   | [x],_=>exact List.pairwise_singleton _ _
   | _::_::_,h2=>exact absurd (by simp:2<=_) h2
end
end L2
namespace L2
open PySem PySem.Spec PyProof.Rows PySem.W
section
variable {X:Cx}{params:Arguments}{body e:Expr}{scope:Scope}{lp p pos kp:Pos}{frees:List Str}{js:List Nat}{x:Str}{ta:TA}{te:TE}{c0 P:Addr}{k:Nat}
theorem K0(hr:gG (k+3) X.A)(T:d9 X scope [x] frees js)(hx:scope.names.lookup x=some .local)(hg:Gl X "sorted")(hm:X.mg "sorted"=none)(hcode:X.env.code = .ref c0)(hK:PySem.W.codeHdIn X.K c0 P=true)(ha:PA X [e] ta)
 (he:∀ f c s H,gG k (wN X ([x]++frees) scope f c X.A.in1.in1 s H).A->PE (wN X ([x]++frees) scope f c X.A.in1.in1 s H) body te)
 (hb:∀ c ctv u,bindArgs (Cj X params body scope c ctv) ⟨[u],[]⟩=pure [(x,u)]:=by intro _ _ _;rfl) (hco:scope.isCoroutine=false:=by rfl) (hgen:scope.isGenerator=false:=by rfl)
 (hdef:defaultsOf params X.env=([],[]):=by rfl)
 (hs:backTo pos (starEach [e] X.env)=(false,eval e X.env)::backTo pos (starEach [] X.env):=by rfl) (hs2:(backTo pos (starEach [e] X.env)).any (·.1)=false:=by rfl) :
 PE X (.Call (.Name "sorted" p) [e] [⟨some (Str.ofString "key"),.Lambda params body scope lp,kp⟩] pos) (Pg P (X.env.qual ++ "<lambda>") lp ta te js):=by
 intro pins s σ H Q I h;refine wpAny_Call_Name_kw (nK I hg hm AB (callWith_kw (dP (ha pos pins s σ H _ I h) fun us s1 hq=>?_) hs hs2 rfl rfl))
 obtain⟨vs,H1,I1,r1,a,ns,kf,rfl,hda,h64,hok,hP,hturn,O6⟩:=hq;obtain⟨u,rfl,rx⟩:=vals1 r1;cases rx;refine kws_cons (Ck I1 T hcode hK hP hdef fun f c oc ctv s2 hc Cm hoc J=>kws_nil ?_)
 show wpAny _ X.A (call (.builtin "sorted") [.ref a] [(Str.ofString "key",.ref f)]) _ _ s2;have hla:=vq (oc:=oc) hP hc hda (by intro y z;cases z) (by intro y z;cases z)
 have O7:gi H1 P c oc (X.env.qual ++ "<lambda>") lp P=some (.jT (fk (X.env.qual ++ "<lambda>") lp++pX lp c)):=ah;have MT:gi H1 P c oc (X.env.qual ++ "<lambda>") lp c=some (.nH oc (.own P)):=by unfold gi;rw[aq Cm,ah]
 have NK:∀ b,gi H1 P c oc (X.env.qual ++ "<lambda>") lp b=none->H1 b=none:=fun b hb=>by
  have bP:b≠P:=fun z=>by rw[z,O7]at hb;cases hb
  have bc:b≠c:=fun z=>by rw[z,MT]at hb;cases hb
  unfold gi at hb
  rwa [aq bP,aq bc]at hb
 have hHL:∀ b u,H1 b=some u->(∀ y,u≠.own y)->(∀ qs,u≠.jT qs)->gi H1 P c oc (X.env.qual ++ "<lambda>") lp b=some u:=fun b u eb n1 n2=>vq hP hc eb n1 n2
 generalize hLd:gi H1 P c oc (X.env.qual ++ "<lambda>") lp=HL at J hla O7 MT NK hHL;obtain⟨its,rv,⟨o,n,ho,hcl,hdt,hd⟩,hz⟩:=J.list (aS.of hla);have hl:=rv.length;rw[List.length_map]at hl;have hsl:its.length<=sizeLine:=dl (Nat.ble_eq.mpr (by lia))
 refine call_function_entry_kw kind_sorted plain_sorted entry_sorted (ksk_s1 _ _) ?_;unfold Builtin.«sorted»;refine wpAny_bind (m:=checkCount "sorted" 1 1 _) (wpAny_pure ?_);refine wpAny_bind (wpAny_collect_seq a (T:="list") (.inl rfl) ho hcl hd (fun h1 hk=>?_) (by rw[List.size_toArray];exact hsl))
 have J1:=J.kept (t':=s2.toks) hk;have hfr:HL h1.objs.size=none:=J1.hok.fresh (Nat.le_refl _);refine wpAny_bind (wpAny_newList ?_ (by simpa using hsl))
 have e0:its.toArray.toList=its:=by simp
 rw[e0];have LU:(h1.push (seqObj "list" its.toArray 0)).get? h1.objs.size=some (seqObj "list" its.toArray 0):=Heap.get?_push_size _ rfl;have J2:Inv X ((f,eM X params body scope c ctv)::pins) σ (upd HL h1.objs.size (.lst (ns.map V.int))) { s2 with heap:=h1.push (seqObj "list" its.toArray 0)}:=by
  refine J1.laid (t':=s2.toks) (fun b o hb=>?_) (Nat.le_refl _) ⟨?_,its,0,rv,LU⟩
  ·rw[Heap.get?_push_ne _ _ _ (Nat.ne_of_lt (Heap.lt_size hb))];exact hb
  ·rw[List.length_map,hl];exact hsl
 generalize hDd:h1.objs.size=D at hfr LU J2;refine wpAny_bind (wpAny_holding (wpAny_call_entry_kw slot_list_sort ⟨_,LU,rfl⟩ entry_list_sort ?body (ksk_l1 _ _)));show wpAny (model X.prog X.w) X.A.in1.in1 (Builtin.«list.sort» ⟨[.ref D],[(Str.ofString "key",.ref f)]⟩) _ _ _;rw[ksk_t1];generalize h1.push (seqObj "list" its.toArray 0)=h2 at LU J2;have s1':=Heap.SameBut.update h2 D (Obj.mapSeq fun _=>(#[]:Array Value))
 obtain⟨e1,P9⟩:∃ e1,(h2.update D (Obj.mapSeq fun _=>(#[]:Array Value))).get? D=some (seqObj "list" #[] e1):=⟨_,get?_update_seq LU fun _=>#[]⟩
 unfold ksk_tree;refine wpAny_bind (listItems_at LU rfl ?_);refine wpAny_bind (listUpdate_at LU rfl ?_ (by rw[List.size_toArray];exact hsl) (Nat.zero_le _))
 refine wpAny_bind (seqEpoch_at P9 rfl ?_);refine wpAny_bind (wpAny_newTuple ?_ (by show its.toArray.toList.length<=_;rw[e0];exact hsl))
 refine wpAny_bind (wpAny_newList ?_ (Nat.zero_le _));refine wpAny_holding ?_;have J3:=J2.write (x:=D) (e:=D) (o:=.lst []) (t':=s2.toks) (h':=h2.update D (Obj.mapSeq fun _=>(#[]:Array Value))) (by rw[ah];trivial) (.inl rfl) (fun b u nb eb=>(s1'.2 b nb).trans eb) ⟨_,P9⟩ ⟨Nat.zero_le _,[],e1,.nil,P9⟩
 have J4:=J3.MW (a:=D) ah P9;generalize Mh:upd (upd (upd HL D (.lst (ns.map V.int))) D (.lst [])) D (.nH (seqObj "list" #[] e1) (.lst []))=H2 at J4;have at2:∀ b u,HL b=some u->H2 b=some u:=fun b u eb=>by
  have nb:b≠D:=fun z=>by rw[z,hfr]at eb;cases eb
  rw[<-Mh,aq nb,aq nb,aq nb];exact eb
 have pY:H2 D=some (.nH (seqObj "list" #[] e1) (.lst [])):=by rw[<-Mh,ah]
 generalize h2.update D (Obj.mapSeq fun _=>(#[]:Array Value))=h3 at J3 J4
 rw[e0];have hkk:∀ b u,h3.get? b=some u->((h3.push (seqObj "tuple" its.toArray 0)).push (seqObj "list" #[] 0)).get? b=some u:=fun b u eb=>Heap.get?_push_of_some _ (Heap.get?_push_of_some _ eb)
 have hS:(h3.push (seqObj "tuple" its.toArray 0)).objs.size=h3.objs.size+1:=size_push' ..;have oK:=J4.Ej (b:=(h3.push (seqObj "tuple" its.toArray 0)).objs.size) (by show h3.objs.size<=_;rw[hS];exact Nat.le_succ _)
 have gK:((h3.push (seqObj "tuple" its.toArray 0)).push (seqObj "list" #[] 0)).get? (h3.push (seqObj "tuple" its.toArray 0)).objs.size=some (seqObj "list" #[] 0):=Heap.get?_push_size _ rfl;have frK:H2 (h3.push (seqObj "tuple" its.toArray 0)).objs.size=none:=J4.hok.fresh (by show h3.objs.size<=_;rw[hS];exact Nat.le_succ _)
 have IQ:∀ q∈(f,eM X params body scope c ctv)::pins,q.1<h3.objs.size:=fun q hq=>Heap.lt_size (J4.pin q (List.mem_append_right _ hq)).1
 have J5:Inv X (((h3.push (seqObj "tuple" its.toArray 0)).objs.size,seqObj "list" #[] 0)::(f,eM X params body scope c ctv)::pins) σ H2 { s2 with heap:=(h3.push (seqObj "tuple" its.toArray 0)).push (seqObj "list" #[] 0)}:=by
  have K:=J4.kept (t':=s2.toks) hkk;refine K.fV fun q hq=>?_
  rcases List.mem_cons.mp hq with rfl|hq
  ·exact⟨gK,frK,oK.2.1,oK.2.2.1,fun v z=>by cases z⟩
  ·exact K.pin q (List.mem_append_right _ hq)
 have pK:∀ q∈(f,eM X params body scope c ctv)::pins,q.1≠(h3.push (seqObj "tuple" its.toArray 0)).objs.size:=fun q hq=>by
  have:=IQ q hq;rw[hS];exact Nat.ne_of_lt (Nat.lt_succ_of_lt this)
 have ad3:its.toArray.size=its.length:=List.size_toArray ..;show wpAny (model X.prog X.w) X.A.in1.in1 (ksk_rest D (.ref f) false its.toArray e1 (.ref (h3.push (seqObj "tuple" its.toArray 0)).objs.size)) _ _ { s2 with heap:=(h3.push (seqObj "tuple" its.toArray 0)).push (seqObj "list" #[] 0)}
 generalize (h3.push (seqObj "tuple" its.toArray 0)).objs.size=kS at oK J5 pK;generalize (h3.push (seqObj "tuple" its.toArray 0)).push (seqObj "list" #[] 0)=h4 at J5;unfold ksk_rest;refine wpAny_bind (wpAny_rule ?_);rw[List.forIn_toArray];refine wpAny_bind (ksk_fold (fun i s'=>∃ H3 ds en,av H2 H3/\Inv X ((kS,seqObj "list" ((ds.map Value.ref).toArray) en)::(f,eM X params body scope c ctv)::pins) σ H3 s'/\ds.length=i/\∀(j:Nat) d n,ds[j]?=some d->ns[j]?=some n->H3 d=some (.tup [.int (kf n).1,.int (kf n).2]))
  its 0 _ ⟨H2,[],0,av.refl _,J5,rfl,fun j d n z=>by cases z⟩ ?_ ?_)
 ·rintro j y s' hy ⟨H3,ds,en,DC,I3,hdl,hkeys⟩;rw[Nat.zero_add]at hdl ⊢;have hj:j<its.length:=(List.getElem?_eq_some_iff.mp hy).1;have hnj:ns[j]?=some (ns[j]'(by lia)):=List.getElem?_eq_getElem _
  obtain⟨uu,hu,ru⟩:=rv.get (show(ns.map V.int)[j]?=some (.int (ns[j]'(by lia))) by rw[List.getElem?_map,hnj];rfl)
  rw[hy]at hu;cases hu;obtain⟨hct,_⟩:=(show bI X.prog X.w H3 s'.heap c (.nH oc (.own P)) from I3.hok c _ (DC _ _ (at2 _ _ MT)))
  have hroom:X.A.in1.in1.depth<recursionLimit:=((hr.in1).in1).depth;refine wpAny_bind (wpAny_attempt (wpAny_mono (Cp (v:=.int (ns[j]'(by lia))) I3 T hx I3.ok.frames rfl hroom (List.Mem.tail _ (.head _)) (hoc.rec hct) (hb c ctv _) hco hgen (he f c s' H3 (((hr.in1).in1).deeper _)) ru
   (hturn H3 (fun b u eb n1 n2=>DC _ _ (at2 _ _ (hHL b u eb n1 n2))) _ (List.getElem_mem _))) (fun v s3 hv=>?_) fun _ _ z=>z))
  obtain⟨w',H4,I4,rw',s34,d,rfl,hd4⟩:=hv;cases rw';have Ep:=I4.pin (kS,_) (List.mem_append_right _ (.head _));have sb:=Heap.SameBut.update s3.heap kS (Obj.mapSeq (·.push (.ref d)));have ea:((ds.map Value.ref).toArray).push (.ref d)=((ds++[d]).map Value.ref).toArray:=by simp
  obtain⟨c2,hc2⟩:∃ c2,(s3.heap.update kS (Obj.mapSeq (·.push (.ref d)))).get? kS=some (seqObj "list" (((ds++[d]).map Value.ref).toArray) c2):=⟨_,by rw[<-ea];exact get?_update_seq Ep.1 (·.push (.ref d))⟩
  try dsimp only
  refine wpAny_bind (listUpdate_at Ep.1 rfl ?_ (by rw[List.size_toArray,List.length_map,sizeLine_eq];lia) (Nat.le_trans (Nat.le_of_eq (Array.size_push ..)) (by rw[List.size_toArray,List.length_map,sizeLine_eq];lia)))
  refine wpAny_pure ⟨rfl,H4,ds++[d],c2,fun b u z=>s34 _ _ (DC _ _ z),?_,by rw[List.length_append,List.length_singleton,hdl],fun i d' n' e1 e2=>?_⟩
  ·exact I4.gv (t':=s3.toks) oK (.head _) (fun b u nb eb=>(sb.2 b nb).trans eb) fun q hq=>by
    rcases List.mem_cons.mp hq with rfl|hq
    ·exact .inl ⟨rfl,hc2,fun v z=>by cases z⟩
    ·exact .inr ⟨.tail _ hq,pK q hq⟩
  ·by_cases hi:i<ds.length
   ·rw[List.getElem?_append_left hi]at e1;exact s34 _ _ (hkeys i d' n' e1 e2)
   ·rw[List.getElem?_append_right (by lia)]at e1
    have hi2:i=j:=by
     have:=(List.getElem?_eq_some_iff.mp e1).1;rw[List.length_singleton]at this
     lia
    subst hi2;rw[hdl,Nat.sub_self]at e1;have e1:d=d':=by simpa using e1
    rw[hnj]at e2;cases e2;rw[<-e1];exact hd4
 ·rintro s' ⟨H3,ds,en,DC,I3,hdl,hkeys⟩;rw[Nat.zero_add]at hdl;have Ep:=I3.pin (kS,_) (List.mem_append_right _ (.head _))
  try dsimp only
  refine wpAny_bind (listItems_at Ep.1 rfl ?_);refine Hz I3 oK pK (DC _ _ pY) rv h64 (by lia) hkeys hok J3 ah fun s5 ns' hp Wv I5=>⟨_,rfl,wpAny_pure ⟨_,rfl,?_⟩⟩
  have I6:Inv X pins σ (upd (upd H3 D (.lst [])) D (.lst (ns'.map V.int))) s5:=I5.fV fun q hq=>I5.pin q (List.mem_append_right _ (.tail _ hq))
  have nD:∀ b u,HL b=some u->b≠D:=fun b u eb z=>by rw[z,hfr]at eb;cases eb
  have Ww:∀ b u,HL b=some u->upd (upd H3 D (.lst [])) D (.lst (ns'.map V.int)) b=some u:=fun b u eb=>by
   rw[aq (nD b u eb),aq (nD b u eb)];exact DC _ _ (at2 _ _ eb)
  have I7:=Cn I1 hP hc Cm hoc I6 (Ww _ _ O7) (Ww _ _ MT);refine⟨.ref D,_,I7,rfl,O6 D ns' _ (NK D hfr) (Co hP hc Cm (oc:=oc) fun b u eb=>Ww b u (by rw[<-hLd];exact eb)) ?_ hp Wv⟩
  unfold given;rw[aq (fun z=>nD _ _ O7 z.symm),aq (fun z=>nD _ _ MT z.symm),ah]
end
end L2
namespace RM
section
variable {N:Net}{L:Nat->Int}
theorem Cy(q m m' : Nat):N.par q (m^^^m')=(N.par q m^^N.par q m'):=by
 have e:∀ a b:Nat,N.par a b=N.par b a:=fun a b=>bh fun k _=>Bool.and_comm _ _
 rw[e,o8,e m,e m']
theorem vy{f:Nat->Bool}:∀{n i:Nat},i<n->(∀ k,k<n->k≠i->f k=false)->bf f n=f i
 | 0,i,h,_=>absurd h (Nat.not_lt_zero _)
 | n+1,i,h,hz=>by
   show(bf f n^^f n)=f i
   by_cases e:i=n
   ·subst e;rw[gn fun k hk=>hz k (by lia) (by lia),Bool.false_xor]
   ·rw[vy (show i<n by lia) fun k hk ne=>hz k (by lia) ne,hz n (by lia) (fun z=>e z.symm),Bool.xor_false]
theorem zp{f:Nat->Bool}:∀{n:Nat},bf f n=true->∃ i,i<n/\f i=true
 | 0,h=>by cases h
 | n+1,h=>by
   have h:(bf f n^^f n)=true:=h;cases hf:f n with
   | true=>exact⟨n,by lia,hf⟩
   | false =>
     rw[hf,Bool.xor_false]at h;obtain⟨i,h1,h2⟩:=zp h;exact⟨i,by lia,h2⟩
theorem w4(f:Nat->Bool):∀ n,bf f (n+1)=(f 0^^bf (fun i=>f (i+1)) n)
 | 0=>by
   show(false^^f 0)=(f 0^^false);rw[Bool.false_xor,Bool.xor_false]
 | n+1=>by
   show(bf f (n+1)^^f (n+1))=(f 0^^(bf (fun i=>f (i+1)) n^^f (n+1)))
   rw[w4 f n,Bool.xor_assoc]
theorem rH(m:Nat):∀(B:List Nat) (z:Nat),N.par (comb B z) m=bf (fun i=>z.testBit i&&N.par (B.getD i 0) m) B.length
 | [],z=>kU m
 | b::B,z=>by
   show N.par ((if z.testBit 0=true then b else 0)^^^comb B (z/2)) m=bf _ (B.length+1)
   rw[o8,rH m B (z/2),w4];have e1:N.par (if z.testBit 0=true then b else 0) m=(z.testBit 0&&N.par b m):=by
    cases z.testBit 0 with
    | true=>simp
    | false=>simp[kU]
   rw[e1];have e2:bf (fun i=>(z/2).testBit i&&N.par (B.getD i 0) m) B.length=bf (fun i=>z.testBit (i+1)&&N.par ((b::B).getD (i+1) 0) m) B.length:=bh fun i _=>by
    rw[Nat.testBit_succ];rfl
   rw[e2];rfl
def len(N:Net)(L:Nat->Int)(r:Nat):Int:=lsum L (fun k=>r.testBit k) N.n
structure DP(N:Net)(L:Nat->Int)(bs us:List Nat):Prop where
 lens:bs.length=us.length
 ring:∀ b∈bs,N.Ring b/\b<2^N.n
 own:∀(i b w:Nat),bs[i]?=some b->us[i]?=some w->N.par b w=true/\∀ r,N.Ring r->r<2^N.n->N.par r w=true->len N L b<=len N L r
 Qg:∀(i j b w:Nat),i<j->bs[i]?=some b->us[j]?=some w->N.par b w=false
theorem DP.start:DP N L [] []:=⟨rfl,fun b h=>(List.not_mem_nil h).elim,fun i b w h=>(by simp at h),fun i j b w _ h=>(by simp at h)⟩
theorem DP.snoc{bs us:List Nat}{b w:Nat}(h:DP N L bs us)(hr:N.Ring b)(hl:b<2^N.n)(ho:N.par b w=true)(hm:∀ r,N.Ring r->r<2^N.n->N.par r w=true->len N L b<=len N L r)(he:∀ b'∈bs,N.par b' w=false):DP N L (bs++[b]) (us++[w]):=by
 have at_:∀{l:List Nat} {x i y:Nat},(l++[x])[i]?=some y->(i<l.length/\l[i]?=some y)\/(i=l.length/\y=x):=fun {l x i y} e=>by
  by_cases hi:i<l.length
  ·rw[List.getElem?_append_left hi]at e;exact .inl ⟨hi,e⟩
  ·have h2:=(List.getElem?_eq_some_iff.mp e).1;rw[List.length_append,List.length_singleton]at h2;have h3:i=l.length:=by lia
   rw[List.getElem?_append_right (by lia),h3,Nat.sub_self]at e
   exact .inr ⟨h3,(Option.some.inj e).symm⟩
 refine⟨by rw[List.length_append,List.length_append,h.lens];rfl,fun b' hb=>?_,fun i b' w' h1 h2=>?_,fun i j b' w' hij h1 h2=>?_⟩
 ·rcases List.mem_append.mp hb with z|z
  ·exact h.ring b' z
  ·rw[List.mem_singleton.mp z];exact⟨hr,hl⟩
 ·have hl:=h.lens;rcases at_ h1 with⟨l1,e1⟩|⟨l1,e1⟩<;>rcases at_ h2 with⟨l2,e2⟩|⟨l2,e2⟩
  ·exact h.own i b' w' e1 e2
  ·lia
  ·lia
  ·rw[e1,e2];exact⟨ho,hm⟩
 ·have hl:=h.lens;rcases at_ h1 with⟨l1,e1⟩|⟨l1,e1⟩<;>rcases at_ h2 with⟨l2,e2⟩|⟨l2,e2⟩
  ·exact h.Qg i j b' w' hij e1 e2
  ·rw[e2];exact he b' (List.mem_of_getElem? e1)
  ·lia
  ·lia
section
variable {bs us:List Nat}
theorem DP.at(h:DP N L bs us){i:Nat}(hi:i<bs.length):∃ w,us[i]?=some w/\bs[i]?=some (bs.getD i 0):=by
 have h1:i<us.length:=by rw[<-h.lens];exact hi
 exact⟨us[i],List.getElem?_eq_getElem h1,by rw[List.getD_eq_getElem?_getD,List.getElem?_eq_getElem hi];rfl⟩
theorem AD{f:Nat->Prop}:∀{n i:Nat},i<n->f i->∃ l,l<n/\f l/\∀ j,l<j->j<n->¬ f j
 | 0,i,h,_=>absurd h (Nat.not_lt_zero _)
 | n+1,i,h,hf=>by
   by_cases hn:f n
   ·exact⟨n,by lia,hn,fun j h1 h2=>by lia⟩
   ·have hi:i<n:=by
     rcases Nat.lt_or_ge i n with z|z
     ·exact z
     ·have e:i=n:=by lia
      rw[e]at hf;exact absurd hf hn
    obtain⟨l,h1,h2,h3⟩:=AD hi hf;refine⟨l,by lia,h2,fun j h4 h5=>?_⟩
    by_cases e:j=n
    ·rw[e];exact hn
    ·exact h3 j h4 (by lia)
theorem DP.parts(h:DP N L bs us){z:Nat}(hr:N.Ring (comb bs z))(hl:comb bs z<2^N.n):∀ i,i<bs.length->z.testBit i=true->len N L (bs.getD i 0)<=len N L (comb bs z):=by
 intro i hi hz;apply Classical.byContradiction;intro hc;obtain⟨l,h1,⟨h2,h3⟩,h4⟩:=AD (f:=fun i=>z.testBit i=true/\¬ len N L (bs.getD i 0)<=len N L (comb bs z)) hi ⟨hz,hc⟩
 obtain⟨w,hw,hb⟩:=h.at h1;obtain⟨o1,o2⟩:=h.own l _ w hb hw;have hp:=rH (N:=N) w bs z
 by_cases hx:∃ j,l<j/\j<bs.length/\z.testBit j=true/\N.par (bs.getD j 0) w=true
 ·obtain⟨j,j1,j2,j3,j4⟩:=hx;obtain⟨_,_,RQ⟩:=h.at j2;obtain⟨rj,lj⟩:=h.ring _ (List.mem_of_getElem? RQ);have k1:=o2 _ rj lj j4;have k2:len N L (bs.getD j 0)<=len N L (comb bs z):=Classical.byContradiction fun hn=>h4 j j1 j2 ⟨j3,hn⟩
  lia
 ·rw[vy (i:=l) h1 (fun j hj ne=>?_),h2,o1]at hp
  ·exact h3 (o2 _ hr hl hp)
  ·cases WA:z.testBit j with
   | false=>rfl
   | true =>
     rcases Nat.lt_or_ge j l with hlt|hge
     ·obtain⟨_,_,RQ⟩:=h.at hj;rw[h.Qg j l _ w hlt RQ hw];rfl
     ·cases hpj:N.par (bs.getD j 0) w with
      | false=>rfl
      | true=>exact absurd ⟨j,by lia,hj,WA,hpj⟩ hx
theorem DP.ind(h:DP N L bs us):Hh bs:=by
 intro z hz hc;apply Classical.byContradiction;intro hne;obtain⟨i,hi⟩:=Nat.exists_testBit_of_ne_zero hne;have hib:=qA hz hi;obtain⟨l,h1,h2,h4⟩:=AD (f:=fun i=>z.testBit i=true) hib hi
 obtain⟨w,hw,hb⟩:=h.at h1;obtain⟨o1,_⟩:=h.own l _ w hb hw;have hp:=rH (N:=N) w bs z;rw[hc,kU,vy (i:=l) h1 (fun j hj ne=>?_),h2,o1]at hp
 ·cases hp
 ·cases WA:z.testBit j with
  | false=>rfl
  | true =>
    have hlt:j<l:=by
     rcases Nat.lt_or_ge j l with z|z
     ·exact z
     ·exact absurd WA (h4 j (by lia) hj)
    obtain⟨_,_,RQ⟩:=h.at hj;rw[h.Qg j l _ w hlt RQ hw];rfl
end
theorem Base.span{rs:List Nat}(h:Base N rs){e:Nat}(he:N.fh e)(hl:e<2^N.n):∃ z,z<2^rs.length/\comb rs z=e:=by
 apply Au;apply Classical.byContradiction;intro hn;have h1:Hh (rs++[e]):=wI.mpr ⟨h.ind,hn⟩;have h2:=O0 (N:=N) h1 (fun b hb=>by
  rcases List.mem_append.mp hb with z|z
  ·exact⟨(h.ring b z).1.2.1,(h.ring b z).2⟩
  ·rw[List.mem_singleton.mp z];exact⟨he,hl⟩)
 rw[List.length_append,List.length_singleton,h.len]at h2
 lia
def LB(N:Net)(L:Nat->Int)(rs:List Nat):Prop:=Base N rs/\∀ r m,N.Ring r->r<2^N.n->N.par r m=true->∃ b∈rs,N.par b m=true/\len N L b<=len N L r
theorem LB.perm{rs rs' : List Nat}(h:LB N L rs)(p:rs'.Perm rs):LB N L rs':=⟨h.1.perm p,fun r m h1 h2 h3=>let⟨b,hb,q⟩:=h.2 r m h1 h2 h3;⟨b,p.mem_iff.mpr hb,q⟩⟩
theorem DP.least{bs us:List Nat}(h:DP N L bs us)(hl:bs.length=N.bx.length):LB N L bs:=by
 have bb:Base N bs:=⟨hl,h.ring,h.ind⟩;refine⟨bb,fun r m hr hlt ho=>?_⟩
 obtain⟨z,hz,rfl⟩:=bb.span hr.2.1 hlt;rw[rH]at ho;obtain⟨i,hi,h1⟩:=zp ho;have h1:=Bool.and_eq_true_iff.mp h1;obtain⟨_,_,hb⟩:=h.at hi;exact⟨_,List.mem_of_getElem? hb,h1.2,h.parts hr hlt i hi h1.1⟩
structure Wt(N:Net)(bs ws cs:List Nat):Prop where
 lens:ws.length=cs.length
 sum:bs.length+ws.length=N.bx.length
 ch:∀ c∈cs,c<N.n/\N.nV c=false
 lt:∀ w∈ws,w<2^N.n
 bits:∀ w∈ws,∀ k,w.testBit k=true->N.nV k=false
 own:∀(i j w c:Nat),ws[i]?=some w->cs[j]?=some c->w.testBit c=decide (i=j)
 gU:∀ w∈ws,∀ b∈bs,N.par b w=false
theorem Wt.odd{bs ws cs:List Nat}{w:Nat}(h:Wt N bs (w::ws) cs):∃ r,N.Ring r/\r<2^N.n/\N.par r w=true:=by
 have hl:=h.lens
 match cs,hl,h with
 | c::cs,hl,h =>
   obtain⟨c1,c2⟩:=h.ch c List.mem_cons_self;refine⟨N.ring c,o9 c1 c2,o5 c1,?_⟩;have e:N.par (N.ring c) w=((N.ring c).testBit c&&w.testBit c):=vy (f:=fun k=>(N.ring c).testBit k&&w.testBit k) c1 fun k hk ne=>by
    cases hw:w.testBit k with
    | false=>exact Bool.and_false _
    | true =>
      have:=qx c2 (h.bits w List.mem_cons_self k hw);rw[this,decide_eq_false (fun z=>ne z.symm)]
      rfl
   rw[e,vU c2,h.own 0 0 w c rfl rfl];rfl
theorem Wt.next{bs ws cs:List Nat}{w b:Nat}(h:Wt N bs (w::ws) cs)(ho:N.par b w=true):∃ c cs',cs=c::cs'/\Wt N (bs++[b]) (ws.map fun v=>if N.par b v=true then v^^^w else v) cs':=by
 have hl:=h.lens
 match cs,hl,h with
 | c::cs,hl,h =>
   refine⟨c,cs,rfl,?_⟩;have hw:=h.lt w List.mem_cons_self;have hv:∀ v∈ws,v∈w::ws:=fun v z=>List.mem_cons_of_mem _ z
   refine⟨by rw[List.length_map];simpa using hl,?_,fun d hd=>h.ch d (List.mem_cons_of_mem _ hd),fun v' Kl=>?_,fun v' Kl k hk=>?_,fun i j v' d h1 h2=>?_,fun v' Kl b' hb'=>?_⟩
   ·have:=h.sum;rw[List.length_cons]at this;rw[List.length_append,List.length_singleton,List.length_map]
    lia
   ·obtain⟨v,m,rfl⟩:=List.mem_map.mp Kl
    split
    ·exact Nat.xor_lt_two_pow (h.lt v (hv v m)) hw
    ·exact h.lt v (hv v m)
   ·obtain⟨v,m,rfl⟩:=List.mem_map.mp Kl
    split at hk
    ·rw[Nat.testBit_xor]at hk;cases h1:v.testBit k with
     | true=>exact h.bits v (hv v m) k h1
     | false =>
       rw[h1,Bool.false_xor]at hk;exact h.bits w List.mem_cons_self k hk
    ·exact h.bits v (hv v m) k hk
   ·rw[List.getElem?_map]at h1;obtain⟨v,Jh,rfl⟩:=Option.map_eq_some_iff.mp h1;have e1:=h.own (i+1) (j+1) v d (by simpa using Jh) (by simpa using h2)
    have e2:=h.own 0 (j+1) w d rfl (by simpa using h2)
    have e3:decide (i+1=j+1)=decide (i=j):=decide_eq_decide.mpr (by lia)
    rw[e3]at e1
    split
    ·rw[Nat.testBit_xor,e1,e2];simp
    ·exact e1
   ·obtain⟨v,m,rfl⟩:=List.mem_map.mp Kl;rcases List.mem_append.mp hb' with z|z
    ·have z1:=h.gU v (hv v m) b' z;have z2:=h.gU w List.mem_cons_self b' z
     split
     ·rw[Cy,z1,z2];rfl
     ·exact z1
    ·rw[List.mem_singleton.mp z]
     split
     ·rename_i hp
      rw[Cy,hp,ho];rfl
     ·rename_i hp
      cases hq:N.par b v with
      | false=>rfl
      | true=>exact absurd hq hp
theorem Wt.start(nd:N.bx.Nodup):Wt N [] (N.bx.map fun c=>2^c) N.bx:=by
 refine⟨List.length_map ..,by rw[List.length_map];simp,fun c hc=>bU.mp hc,fun w hw=>?_,fun w hw k hk=>?_,fun i j w c h1 h2=>?_,fun w _ b hb=>by cases hb⟩
 ·obtain⟨c,hc,rfl⟩:=List.mem_map.mp hw;exact Nat.pow_lt_pow_right (by decide) (bU.mp hc).1
 ·obtain⟨c,hc,rfl⟩:=List.mem_map.mp hw;rw[Nat.testBit_two_pow]at hk;rw[<-of_decide_eq_true hk];exact(bU.mp hc).2
 ·rw[List.getElem?_map]at h1;obtain⟨d,hd,rfl⟩:=Option.map_eq_some_iff.mp h1;rw[Nat.testBit_two_pow];refine decide_eq_decide.mpr ⟨fun z=>?_,fun z=>?_⟩
  ·subst z;obtain⟨a1,a2⟩:=List.getElem?_eq_some_iff.mp hd;obtain⟨b1,b2⟩:=List.getElem?_eq_some_iff.mp h2;exact(List.getElem_inj nd).mp (a2.trans b2.symm)
  ·subst z;rw[hd]at h2;exact Option.some.inj h2
end
end RM
namespace L2
open PySem PySem.Spec PyProof.Rows
section
variable {X:Cx}{pins:List (Addr×Obj)}{σ:St}{H:Hp}{l It S:Addr}{us:List Value}{ns:Nat->Int}{R:Result->Shared->Prop}
theorem IsList.kept{h h' : Heap}{l S:Addr}{a:Array Value}(q:h.IsList l a)(sb:Heap.SameBut S h h')(ne:l≠S):h'.IsList l a:=by
 obtain⟨o,ho,r⟩:=q;exact⟨o,(sb.2 l ne).trans ho,r⟩
theorem HA(hh:X.A.handled=none)(hk:∀(i:Nat) c,us[i]?=some c->∃ t,c = .int (ns i) t)(oS:Av X S)(oI:Av X It)(SI:S≠It)(lI:l≠It)(lS:l≠S)
 (pI:∀ p∈pins,p.1≠It) (pS:∀ p∈pins,p.1≠S)
 (hR:∀(i:Nat) c s',us[i]?=some c->(∀ j,j<us.length->ns i<=ns j)->Inv X pins σ H s'->R (.ok (.ret c)) s') :
 ∀(r j i:Nat) (c:Value) (s:Shared) (n:Nat) (DB:Obj),us.length-j=r->j<=us.length->i<j->us[i]?=some c->Inv X ((S,seqObj "list" #[c,c] n)::(It,DB)::pins) σ H s->s.heap.IsListIter It l j->s.heap.IsList l us.toArray->
  (∀ j',j'<j->ns i<=ns j')->codeAny (model X.prog X.w) X.A (.builtin "min.loop" ⟨[.ref It,.none,.ref S],[]⟩) R s:=by
 have hname:(toString "min" ++ toString ".loop":String)="min.loop":=by decide
 have W:=Walks.list (prog:=X.prog) (w:=X.w) (A:=X.A.in1) hh It l lI us.toArray;have hsz:us.toArray.size=us.length:=by simp
 intro r
 induction r with
 | zero =>
   intro j i c s n DB hr hj hij hc I hit hls j7;have yb:j=us.length:=by lia
   have n8:=I.pin (S,_) (List.mem_append_right _ (.head _));refine codeAny_builtin PySem.F.entry_min_loop ?_;rw[Around.under_plainId PySem.F.plain_min_loop _];show wpAny _ X.A.in1 (seqItems? (.ref S) >>= _) _ _ _;refine wpAny_bind (wpAny_seqItems n8.1 rfl ?_);show wpAny _ X.A.in1 (tryCatch (pyNext (.ref It)) _ >>= _) _ _ _;refine wpAny_bind (wpAny_tryCatch (W.done _ _ _ ⟨by rw[hsz,<-yb];exact hit,hls⟩ fun h' tk' hk'=>?_))
   have I1:=I.gv (t':=tk') (h':=h') (pb:=(S,seqObj "list" #[c,c] n)::pins) oI (List.Mem.tail _ (.head _)) (fun b u hb e=>hk' b u (by simpa using hb) e) (fun p hp=>by
    rcases List.mem_cons.mp hp with rfl|hp
    ·exact .inr ⟨.head _,SI⟩
    ·exact .inr ⟨.tail _ (.tail _ hp),pI p hp⟩)
   have Cr:=I1.pin (S,_) (List.mem_append_right _ (.head _));show wpAny _ X.A.in1 (updateSeq S (fun _=>#[]) >>= _) _ _ _
   refine wpAny_bind (wpAny_updateSeq Cr.1 rfl (wpAny_bind (wpAny_letGo (wpAny_pure ?_))));have s1:=Heap.SameBut.update h' S (Obj.mapSeq fun _=>(#[]:Array Value))
   exact hR i c _ hc (fun j' hj'=>j7 j' (by lia)) (I1.gv (t':=tk') (pb:=pins) oS (.head _) (fun b u hb e=>(s1.2 b hb).trans e) fun p hp=>.inr ⟨.tail _ hp,pS p hp⟩)
 | succ r ih =>
   intro j i c s n DB hr hj hij hc I hit hls j7;have yb:j<us.length:=by lia
   have n8:=I.pin (S,_) (List.mem_append_right _ (.head _));refine codeAny_builtin PySem.F.entry_min_loop ?_;rw[Around.under_plainId PySem.F.plain_min_loop _];show wpAny _ X.A.in1 (seqItems? (.ref S) >>= _) _ _ _;refine wpAny_bind (wpAny_seqItems n8.1 rfl ?_);show wpAny _ X.A.in1 (tryCatch (pyNext (.ref It)) _ >>= _) _ _ _;refine wpAny_bind (wpAny_tryCatch (W.item j _ _ _ (by rw[hsz];exact yb) ⟨hit,hls⟩ fun v h' tk' hv st' hk'=>?_))
   have Hw:us[j]?=some us[j]:=List.getElem?_eq_getElem yb;obtain rfl:v=us[j]:=by
    have:us[j]?=some v:=by simpa using hv
    rw[Hw]at this;exact(Option.some.inj this).symm
   obtain⟨yc,wW,hoc,hod⟩:=id st'.1;have I1:=I.gv (t':=tk') (h':=h') (pb:=(S,seqObj "list" #[c,c] n)::(It,yc)::pins) oI (List.Mem.tail _ (.head _)) (fun b u hb e=>hk' b u (by simpa using hb) e) (fun p hp=>by
    rcases List.mem_cons.mp hp with rfl|hp
    ·exact .inr ⟨.head _,SI⟩
    ·rcases List.mem_cons.mp hp with rfl|hp
     ·exact .inl ⟨rfl,wW,fun v z=>by rw[hod]at z;cases z⟩
     ·exact .inr ⟨.tail _ (.tail _ hp),pI p hp⟩)
   have iN:=I1.pin (S,_) (List.mem_append_right _ (.head _));obtain⟨tj,ej⟩:=hk j _ Hw;obtain⟨ti,ei⟩:=hk i c hc;show wpAny _ X.A.in1 (tryCatch (holding [us[j],us[j]] (richCompare .Lt us[j] c >>= _)) _ >>= _) _ _ _;have cmp:∀{Q:Value->Shared->Prop} {E:Value->Shared->Prop} {s:Shared},Q (.bool (decide (ns j<ns i))) s->wpAny (model X.prog X.w) X.A.in1 (richCompare .Lt us[j] c) Q E s:=fun {Q E s} q=>by
    rw[ej,ei];exact PyProof.Rows.lt_int (prog:=X.prog) (w:=X.w) (A:=X.A.in1) q
   refine wpAny_bind (wpAny_tryCatch (wpAny_holding (wpAny_bind (cmp ?_))));refine wpAny_bind (wpAny_holding (wpAny_truthy_bool (wpAny_bind (wpAny_letGo (wpAny_pure ?_)))))
   by_cases hlt:ns j<ns i
   ·rw[decide_eq_true hlt];have s1:=Heap.SameBut.update h' S (Obj.mapSeq fun _=>(#[us[j],us[j]]:Array Value))
    obtain⟨n2,hn2⟩:∃ n2,(h'.update S (Obj.mapSeq fun _=>(#[us[j],us[j]]:Array Value))).get? S=some (seqObj "list" #[us[j],us[j]] n2):=⟨_,get?_update_seq iN.1 fun _=>#[us[j],us[j]]⟩
    simp only[if_true];refine wpAny_bind (wpAny_updateSeq iN.1 rfl (wpAny_bind (wpAny_letGo ?_)));rw[hname];have I3:=I1.gv (t':=tk') (pb:=(S,seqObj "list" #[us[j],us[j]] n2)::(It,yc)::pins) oS (.head _) (fun b u hb e=>(s1.2 b hb).trans e) (fun p hp=>by
     rcases List.mem_cons.mp hp with rfl|hp
     ·exact .inl ⟨rfl,hn2,fun v z=>by cases z⟩
     ·rcases List.mem_cons.mp hp with rfl|hp
      ·exact .inr ⟨.tail _ (.head _),SI.symm⟩
      ·exact .inr ⟨.tail _ (.tail _ hp),pS p hp⟩)
    refine wpAny_pure ⟨plainId_quiet PySem.F.plain_min_loop _,ih (j+1) j us[j] _ n2 yc (by lia) (by lia) (by lia) Hw I3 ⟨yc,(s1.2 It SI.symm).trans wW,hoc,hod⟩ (IsList.kept st'.2 s1 lS) fun j' hj'=>?_⟩
    by_cases e:j' = j
    ·rw[e];exact Int.le_refl _
    ·have:=j7 j' (by lia)
     lia
   ·rw[decide_eq_false hlt];simp only[Bool.false_eq_true,if_false];refine wpAny_bind (wpAny_letGo ?_);rw[hname];refine wpAny_pure ⟨plainId_quiet PySem.F.plain_min_loop _,ih (j+1) i c _ n yc (by lia) (by lia) (by lia) hc I1 st'.1 st'.2 fun j' hj'=>?_⟩
    by_cases e:j' = j
    ·rw[e];lia
    ·exact j7 j' (by lia)
theorem RS(hr:X.A.handled=none):gW X (.builtin "min") (fun xs H Q=>∃(l:Addr) (zs:List Int),xs=[.ref l]/\aS X.K H l (zs.map V.int)/\0<zs.length/\∀ z,z∈zs->(∀ y∈zs,z<=y)->Q (.int z) H):=by
 intro pins s σ H xs us0 Q I r h;obtain⟨l,zs,rfl,hl,hne,q⟩:=h;obtain⟨u,rfl,rx⟩:=vals1 r;cases rx;have hname:(toString "min" ++ toString ".loop":String)="min.loop":=by decide
 obtain⟨us,rv,p,hz⟩:=I.list hl;have hls:=p.isList;have WB:us.length=zs.length:=by have:=rv.length;rw[List.length_map]at this;lia
 have hk:∀(i:Nat) c,us[i]?=some c->∃ t,c = .int (zs.getD i 0) t:=fun i c hc=>by
  have hi:=(List.getElem?_eq_some_iff.mp hc).1;have h1:(zs.map V.int)[i]?=some (.int (zs.getD i 0)):=by
   rw[List.getElem?_map,List.getD_eq_getElem?_getD,List.getElem?_eq_getElem (by lia)]
   rfl
  obtain⟨u,hu,ru⟩:=rv.get h1;rw[hc]at hu;cases hu;exact ru
 obtain⟨ol,Pf,_⟩:=id hls;have Um:l<s.heap.objs.size:=Heap.lt_size Pf;refine call_function_tree PySem.F.kind_min PySem.F.plain_min PySem.F.entry_min (PySem.F.args_min1 _) ?_;show wpAny _ X.A.in1 (Builtin.Builtins.bindParams "min" ["key","default"] 0 ⟨[],[]⟩ >>= _) _ _ s;refine wpAny_bind (wpAny_of_eq (show Builtin.Builtins.bindParams "min" ["key","default"] 0 ⟨[],[]⟩=pure [none,none] from rfl) ?_)
 refine wpAny_bind (wpAny_pure (wpAny_bind (wpAny_pyIter_list hls (wpAny_bind (wpAny_newList ?_ (Nat.zero_le _))))));rw[hname];refine wpAny_pure ⟨plainId_quiet PySem.F.plain_min_loop _,?_⟩;generalize IP:({ cls:=.type "list_iterator",data:=.fields #[.ref l,.int 0 0]}:Obj)=oI;have hS:(s.heap.push oI).objs.size=s.heap.objs.size+1:=size_push' ..;have hk2:∀ b o,s.heap.get? b=some o->((s.heap.push oI).push (seqObj "list" #[] 0)).get? b=some o:=fun b o e=>Heap.get?_push_of_some _ (Heap.get?_push_of_some _ e)
 have gI:((s.heap.push oI).push (seqObj "list" #[] 0)).get? s.heap.objs.size=some oI:=Heap.get?_push_of_some _ (Heap.get?_push_size _ (by rw[<-IP];rfl))
 have gS:((s.heap.push oI).push (seqObj "list" #[] 0)).get? (s.heap.push oI).objs.size=some (seqObj "list" #[] 0):=Heap.get?_push_size _ rfl;have IQ:∀ p∈pins,p.1<s.heap.objs.size:=fun p hp=>Heap.lt_size (I.pin p (List.mem_append_right _ hp)).1
 have Hq:=I.Ej (Nat.le_refl s.heap.objs.size);have oS:=I.Ej (b:=(s.heap.push oI).objs.size) (by rw[hS];exact Nat.le_succ _)
 have SI:(s.heap.push oI).objs.size≠s.heap.objs.size:=by rw[hS];exact Nat.succ_ne_self _
 have lI:l≠s.heap.objs.size:=Nat.ne_of_lt Um;have lS:l≠(s.heap.push oI).objs.size:=by rw[hS];exact Nat.ne_of_lt (Nat.lt_succ_of_lt Um)
 have pI:∀ p∈pins,p.1≠s.heap.objs.size:=fun p hp=>Nat.ne_of_lt (IQ p hp)
 have pS:∀ p∈pins,p.1≠(s.heap.push oI).objs.size:=fun p hp=>by rw[hS];exact Nat.ne_of_lt (Nat.lt_succ_of_lt (IQ p hp))
 have J:Inv X (((s.heap.push oI).objs.size,seqObj "list" #[] 0)::(s.heap.objs.size,oI)::pins) σ H { s with heap:=(s.heap.push oI).push (seqObj "list" #[] 0)}:=by
  have K:=I.kept (t':=s.toks) hk2;refine K.fV fun p hp=>?_
  rcases List.mem_cons.mp hp with rfl|hp
  ·exact⟨gS,I.hok.fresh (by rw[hS];exact Nat.le_succ _),oS.2.1,oS.2.2.1,fun v z=>by cases z⟩
  ·rcases List.mem_cons.mp hp with rfl|hp
   ·exact⟨gI,I.hok.fresh (Nat.le_refl _),Hq.2.1,Hq.2.2.1,fun v z=>by rw[<-IP]at z;cases z⟩
   ·exact K.pin p (List.mem_append_right _ hp)
 have WC:((s.heap.push oI).push (seqObj "list" #[] 0)).IsList l us.toArray:=by
  obtain⟨o,ho,rr⟩:=hls;exact⟨o,hk2 _ _ ho,rr⟩
 have W:=Walks.list (prog:=X.prog) (w:=X.w) (A:=X.A.in1) hr s.heap.objs.size l lI us.toArray;have n8:=J.pin ((s.heap.push oI).objs.size,seqObj "list" #[] 0) (List.mem_append_right _ (.head _));refine codeAny_builtin PySem.F.entry_min_loop ?_;rw[Around.under_plainId PySem.F.plain_min_loop _];show wpAny _ X.A.in1 (seqItems? (.ref _) >>= _) _ _ _;refine wpAny_bind (wpAny_seqItems n8.1 rfl ?_);show wpAny _ X.A.in1 (tryCatch (pyNext (.ref s.heap.objs.size)) _ >>= _) _ _ _;have WD:0<us.length:=by lia
 refine wpAny_bind (wpAny_tryCatch (W.item 0 _ _ _ (by simpa using WD) ⟨⟨oI,gI,by rw[<-IP],by rw[<-IP];rfl⟩,WC⟩ fun v h' tk' hv st' hk'=>?_))
 have Hw:us[0]?=some us[0]:=List.getElem?_eq_getElem WD;obtain rfl:v=us[0]:=by
  have:us[0]?=some v:=by simpa using hv
  rw[Hw]at this;exact(Option.some.inj this).symm
 obtain⟨yc,wW,hoc,hod⟩:=id st'.1;have I1:=J.gv (t':=tk') (h':=h') (pb:=((s.heap.push oI).objs.size,seqObj "list" #[] 0)::(s.heap.objs.size,yc)::pins) Hq (List.Mem.tail _ (.head _)) (fun b u hb e=>hk' b u (by simpa using hb) e) (fun p hp=>by
  rcases List.mem_cons.mp hp with rfl|hp
  ·exact .inr ⟨.head _,SI⟩
  ·rcases List.mem_cons.mp hp with rfl|hp
   ·exact .inl ⟨rfl,wW,fun v z=>by rw[hod]at z;cases z⟩
   ·exact .inr ⟨.tail _ (.tail _ hp),pI p hp⟩)
 have iN:=I1.pin ((s.heap.push oI).objs.size,_) (List.mem_append_right _ (.head _));have s1:=Heap.SameBut.update h' (s.heap.push oI).objs.size (Obj.mapSeq fun _=>(#[us[0],us[0]]:Array Value))
 obtain⟨n2,hn2⟩:∃ n2,(h'.update (s.heap.push oI).objs.size (Obj.mapSeq fun _=>(#[us[0],us[0]]:Array Value))).get? (s.heap.push oI).objs.size=some (seqObj "list" #[us[0],us[0]] n2):=⟨_,get?_update_seq iN.1 fun _=>#[us[0],us[0]]⟩
 show wpAny _ X.A.in1 (updateSeq (s.heap.push oI).objs.size (fun _=>#[us[0],us[0]]) >>= _) _ _ _
 refine wpAny_bind (wpAny_updateSeq iN.1 rfl ?_);rw[hname];have I3:=I1.gv (t':=tk') (pb:=((s.heap.push oI).objs.size,seqObj "list" #[us[0],us[0]] n2)::(s.heap.objs.size,yc)::pins) oS (.head _) (fun b u hb e=>(s1.2 b hb).trans e) (fun p hp=>by
  rcases List.mem_cons.mp hp with rfl|hp
  ·exact .inl ⟨rfl,hn2,fun v z=>by cases z⟩
  ·rcases List.mem_cons.mp hp with rfl|hp
   ·exact .inr ⟨.tail _ (.head _),SI.symm⟩
   ·exact .inr ⟨.tail _ (.tail _ hp),pS p hp⟩)
 refine wpAny_pure ⟨plainId_quiet PySem.F.plain_min_loop _,HA (ns:=fun i=>zs.getD i 0) hr hk oS Hq SI lI lS pI pS (fun i c s' hc best I7=>?_) _ 1 0 us[0] _ n2 yc rfl WD (Nat.lt_succ_self _) Hw I3 ⟨yc,(s1.2 _ SI.symm).trans wW,hoc,hod⟩ (IsList.kept st'.2 s1 lS) fun j hj=>?_⟩
 ·obtain⟨t,rfl⟩:=hk i c hc;have hi:i<zs.length:=by have:=(List.getElem?_eq_some_iff.mp hc).1;lia
  have ez:∀ j,j<zs.length->zs.getD j 0∈zs:=fun j hj=>by
   rw[List.getD_eq_getElem?_getD,List.getElem?_eq_getElem hj];exact List.getElem_mem hj
  refine⟨.int (zs.getD i 0),H,I7,⟨t,rfl⟩,q _ (ez i hi) fun y hy=>?_⟩
  obtain⟨j,hj,rfl⟩:=List.mem_iff_getElem.mp hy;have:=best j (by lia)
  rw[List.getD_eq_getElem?_getD (l:=zs) (i:=j),List.getElem?_eq_getElem hj]at this;exact this
 ·have e:j=0:=by lia
  rw[e];exact Int.le_refl _
end
end L2
namespace L2
open PySem
theorem g8{lo:Int}{n:Nat}{g:TG}{tb:TS}{D:Ends}{σ:St}{H:Hp}(Pv:Nat->St->Hp->Prop)(h0:Pv 0 σ H)
 (hs:∀ i,let D' : Ends:={ D with nx:=Pv (i+1),ct:=Pv (i+1),bk:=D.nx};∀ σ H,i<n->Pv i σ H->g (.int (lo+i)) σ H fun σ2 H2=>tb D' σ2 H2) (hd:∀ σ H,Pv n σ H->D.nx σ H) :
 ∃ W:Nat->Nat->St->Hp->Prop,(∃ m,W 0 m σ H)/\∀ i m σ H,W i m σ H->
   ((LL lo n).stop i H/\D.nx σ H)\/((LL lo n).go i H/\∃ N:St->Hp->Prop,(∀ σ' H',N σ' H'->∃ m',m'<m/\W (i+1) m' σ' H')/\∀ x H',(LL lo n).LK i H x H'->g x σ H' fun σ2 H2=>tb { D with nx:=N,ct:=N,bk:=D.nx} σ2 H2) :=
 Gw Pv h0 (fun i σ H hi p=>hs i σ H hi p) hd
theorem gw{K:PySem.W.Frag}{a:Addr}{xs:List V}{g:TG}{tb:TS}{D:Ends}{σ:St}{H:Hp}(Pv:Nat->St->Hp->Prop)(h0:Pv 0 σ H)(hl:∀ i σ H,i<=xs.length->Pv i σ H->aS K H a xs)
 (hs:∀ i x,let D' : Ends:={ D with nx:=Pv (i+1),ct:=Pv (i+1),bk:=D.nx};∀ σ H,xs[i]?=some x->Pv i σ H->g x σ H fun σ2 H2=>tb D' σ2 H2) (hd:∀ σ H,Pv xs.length σ H->D.nx σ H) :
 ∃ W:Nat->Nat->St->Hp->Prop,(∃ m,W 0 m σ H)/\∀ i m σ H,W i m σ H->
   ((LX K a).stop i H/\D.nx σ H)\/((LX K a).go i H/\∃ N:St->Hp->Prop,(∀ σ' H',N σ' H'->∃ m',m'<m/\W (i+1) m' σ' H')/\∀ x H',(LX K a).LK i H x H'->g x σ H' fun σ2 H2=>tb { D with nx:=N,ct:=N,bk:=D.nx} σ2 H2) :=
 vF Pv h0 hl (fun i x σ H hi p=>hs i x σ H hi p) hd
theorem MX{X:Cx}{e:Expr}{T:String}{r:V->List V->Hp->VK->Prop}{to:TE}{t:TA}(K:PySem.W.Frag)(p:PE X e (VP X.K T r to t))(h:X.K=K:=by rfl):PE X e (VP K T r to t):=by subst h;exact p
end L2
namespace L2
open PySem
theorem cu{K:PySem.W.Frag}{H:Hp}{a:Addr}{xs:List V}{k:Int}{v:V}{R:V->Prop}(hs:aX K H a xs)(ha:IK xs k=some v)(q:R v):∃ p ys k' w,V.ref a = .ref p/\V.int k = .int k'/\aX K H p ys/\IK ys k' = some w/\R w:=⟨a,xs,k,v,rfl,rfl,hs,ha,q⟩
theorem kD{K:PySem.W.Frag}{H:Hp}{a:Addr}{xs:List V}{k:Int}{v:V}{R:V->Prop}(hs:aS K H a xs)(ha:IK xs k=some v)(q:R v):∃ p ys k' w,V.ref a = .ref p/\V.int k = .int k'/\aS K H p ys/\IK ys k' = some w/\R w:=⟨a,xs,k,v,rfl,rfl,hs,ha,q⟩
theorem bQ{i j:Int}{R:Int->Int->Prop}(h:R i j):∃ i' j',V.int i = .int i'/\V.int j = .int j'/\R i' j':=⟨i,j,rfl,rfl,h⟩
end L2
namespace L2
open PySem
theorem tI{K:PySem.W.Frag}{H:Hp}{a:Addr}{xs:List V}{E:Addr->Prop}{R:List V->Prop}(e:E a)(h:aS K H a xs\/aX K H a xs)(q:R xs):∃ p ys,E p/\(aS K H p ys\/aX K H p ys)/\R ys:=⟨a,xs,e,h,q⟩
theorem au{α:Type}{A R:α->Prop}{x:α}(h:A x)(r:R x):∃ x,A x/\R x:=⟨x,h,r⟩
end L2
namespace L2
open PySem PySem.Spec PyProof.Rows
section
variable {P:Program}{w:World}{K:PySem.W.Frag}{mg:Str->Option Value}{base:Heap}
end
end L2
set_option Elab.async false
set_option maxRecDepth 100000
set_option maxHeartbeats 4000000
namespace K64
open PySem L2 Ring
def top(i:Nat):Stmt:=PySem.Challenge.pw_ringbase_k64_whole_marks_by_base.main.body.getD i (.Pass ⟨0,0,0,0⟩)
abbrev jq:Stmt:=top 7
theorem Er:aJ ["tie_set","tie"] ["tie_set","tie"] (af jq):=⟨rfl,rfl,rfl,by decide +kernel,rfl,by decide +kernel,by decide +kernel⟩
abbrev g9:Stmt:=top 8
theorem Es:aJ ["tie_set"] ["tie_set"] (af g9):=⟨rfl,rfl,rfl,by decide +kernel,rfl,by decide +kernel,by decide +kernel⟩
abbrev lg:Stmt:=top 9
theorem pB:aJ ["web","ties","found","tie"] ["web","ties"] (af lg):=⟨rfl,rfl,rfl,by decide +kernel,rfl,by decide +kernel,by decide +kernel⟩
theorem HB{cg cA cY fK:TS}{dF:TT}{iX:TI}{iY:TG}{D:Ends}{σ:St}{H:Hp}(h:let cj:TS:=cg;let cG:TS:=cA;let dI:TS:=cY;let fL:TS:=(az (bB dF dI aW) cG);let gj:TS:=(az (d7 iX iY fL) cj);(az fK gj) D σ H):(az fK (az (d7 iX iY (az (bB dF cY aW) cA)) cg)) D σ H:=h
abbrev hU:Stmt:=top 10
theorem Cz:aJ ["web"] ["web"] (af hU):=⟨rfl,rfl,rfl,by decide +kernel,rfl,by decide +kernel,by decide +kernel⟩
abbrev lq:Stmt:=top 11
theorem HC:aJ ["web","number"] ["web","number"] (af lq):=⟨rfl,rfl,rfl,by decide +kernel,rfl,by decide +kernel,by decide +kernel⟩
abbrev gx:Stmt:=top 12
theorem AE:aJ ["web","tie_set"] ["web","tie_set"] (af gx):=⟨rfl,rfl,rfl,by decide +kernel,rfl,by decide +kernel,by decide +kernel⟩
theorem AF{cg:TS}{dF:TT}{D:Ends}{σ:St}{H:Hp}(h:let cj:TS:=cg;(bB dF cj aW) D σ H):(bB dF cg aW) D σ H:=h
abbrev dU:Stmt:=top 13
theorem yd:aJ ["web","tie_set"] ["web","tie_set"] (af dU):=⟨rfl,rfl,rfl,by decide +kernel,rfl,by decide +kernel,by decide +kernel⟩
theorem ye{cg cA:TS}{D:Ends}{σ:St}{H:Hp}(h:let cj:TS:=cg;(az cA cj) D σ H):(az cA cg) D σ H:=h
abbrev eW:Stmt:=top 14
theorem AG:aJ ["web","tie_set"] ["web","tie_set"] (af eW):=⟨rfl,rfl,rfl,by decide +kernel,rfl,by decide +kernel,by decide +kernel⟩
abbrev dW:Stmt:=top 15
theorem fT:aJ ["web","tie_set","ends","one","other","length"] ["web","tie_set"] (af dW):=⟨rfl,rfl,rfl,by decide +kernel,rfl,by decide +kernel,by decide +kernel⟩
theorem yf{cg cA cY fK:TS}{iX:TI}{iY:TG}{D:Ends}{σ:St}{H:Hp}(h:let cj:TS:=cg;let cG:TS:=cA;let dI:TS:=(az cY cG);let fL:TS:=(az (d7 iX iY dI) cj);(az fK fL) D σ H):(az fK (az (d7 iX iY (az cY cA)) cg)) D σ H:=h
abbrev bV:Stmt:=top 16
theorem gP:aJ ["leasts","one","other","low","high"] ["leasts","one","other"] (af bV):=⟨rfl,rfl,rfl,by decide +kernel,rfl,by decide +kernel,by decide +kernel⟩
theorem rJ{cg cA cY:TS}{D:Ends}{σ:St}{H:Hp}(h:let cj:TS:=cg;let cG:TS:=(az cA cj);(az cY cG) D σ H):(az cY (az cA cg)) D σ H:=h
abbrev jP:Stmt:=top 17
theorem gy:aJ ["web","tie_set","leasts","one","other","length","found","start"] ["web","tie_set"] (af jP):=⟨rfl,rfl,rfl,by decide +kernel,rfl,by decide +kernel,by decide +kernel⟩
theorem HD{cg cA cY fK ly:TS}{dF:TT}{iX si1:TI}{iY sg1:TG}{D:Ends}{σ:St}{H:Hp}(h:let cj:TS:=cg;let cG:TS:=cA;let dI:TS:=(bB dF cG aW);let fL:TS:=(az (d7 iX iY dI) cj);let gj:TS:=(az cY fL);let p9:TS:=fK;let zq:TS:=(az (d7 si1 sg1 p9) gj);(az ly zq) D σ H):(az ly (az (d7 si1 sg1 fK) (az cY (az (d7 iX iY (bB dF cA aW)) cg)))) D σ H:=h
abbrev tJ:Stmt:=top 18
theorem MY:aJ ["web"] ["web"] (af tJ):=⟨rfl,rfl,rfl,by decide +kernel,rfl,by decide +kernel,by decide +kernel⟩
abbrev jr:Stmt:=top 20
theorem Et:aJ ["web","tie_set"] ["web","tie_set"] (af jr):=⟨rfl,rfl,rfl,by decide +kernel,rfl,by decide +kernel,by decide +kernel⟩
abbrev cE:Stmt:=top 21
theorem bg:aJ ["web","leasts","trails","tie","one","other","bridge","moved"] ["web"] (af cE):=⟨rfl,rfl,rfl,by decide +kernel,rfl,by decide +kernel,by decide +kernel⟩
theorem tK{cg cA cY fK ly zu CA NL NO:TS}{dF:TT}{iX:TI}{iY:TG}{D:Ends}{σ:St}{H:Hp}(h:let cj:TS:=cg;let cG:TS:=cA;let dI:TS:=(az cY cG);let fL:TS:=(az fK dI);let gj:TS:=(az ly fL);let p9:TS:=(bB dF gj aW);let zq:TS:=(az zu p9);let Ge:TS:=(az CA zq);let Gf:TS:=(az (d7 iX iY Ge) cj);let NP:TS:=(az NL Gf);(az NO NP) D σ H):(az NO (az NL (az (d7 iX iY (az CA (az zu (bB dF (az ly (az fK (az cY cA))) aW)))) cg))) D σ H:=h
abbrev lz:Stmt:=top 22
theorem pC:aJ ["web","found","trail"] ["web"] (af lz):=⟨rfl,rfl,rfl,by decide +kernel,rfl,by decide +kernel,by decide +kernel⟩
theorem HE{cg cA cY:TS}{iX:TI}{iY:TG}{D:Ends}{σ:St}{H:Hp}(h:let cj:TS:=cg;let cG:TS:=cA;let dI:TS:=(az (d7 iX iY cG) cj);(az cY dI) D σ H):(az cY (az (d7 iX iY cA) cg)) D σ H:=h
abbrev lA:Stmt:=top 23
theorem HF:aJ ["web"] ["web"] (af lA):=⟨rfl,rfl,rfl,by decide +kernel,rfl,by decide +kernel,by decide +kernel⟩
abbrev eB:Stmt:=top 24
theorem om:aJ ["web","trails","chord","tie"] ["web","trails","chord"] (af eB):=⟨rfl,rfl,rfl,by decide +kernel,rfl,by decide +kernel,by decide +kernel⟩
theorem w5{cg cA:TS}{D:Ends}{σ:St}{H:Hp}(h:let cj:TS:=cg;(az cA cj) D σ H):(az cA cg) D σ H:=h
abbrev fq:Stmt:=top 25
theorem yg:aJ ["web","tie"] ["web","tie"] (af fq):=⟨rfl,rfl,rfl,by decide +kernel,rfl,by decide +kernel,by decide +kernel⟩
theorem yh{cg cA:TS}{dF:TT}{D:Ends}{σ:St}{H:Hp}(h:let cj:TS:=cg;let cG:TS:=cA;(az (bB dF cG aW) cj) D σ H):(az (bB dF cA aW) cg) D σ H:=h
abbrev h8:Stmt:=top 27
theorem w6:aJ ["web","tie_set","touched"] ["web","tie_set"] (af h8):=⟨rfl,rfl,rfl,by decide +kernel,rfl,by decide +kernel,by decide +kernel⟩
theorem Eu{cg cA cY:TS}{dF:TT}{D:Ends}{σ:St}{H:Hp}(h:let cj:TS:=cg;let cG:TS:=(az cA cj);let dI:TS:=cY;(az (bB dF dI aW) cG) D σ H):(az (bB dF cY aW) (az cA cg)) D σ H:=h
abbrev cO:Stmt:=top 28
theorem rK:aJ ["web","number"] ["web","number"] (af cO):=⟨rfl,rfl,rfl,by decide +kernel,rfl,by decide +kernel,by decide +kernel⟩
abbrev eX:Stmt:=top 29
theorem AH:aJ ["web","rings"] ["web","rings"] (af eX):=⟨rfl,rfl,rfl,by decide +kernel,rfl,by decide +kernel,by decide +kernel⟩
def gQ:Pos:=⟨95,29,95,70⟩
abbrev lB:Stmt:=top 31
theorem HG:aJ ["one","other"] ["one","other"] (af lB):=⟨rfl,rfl,rfl,by decide +kernel,rfl,by decide +kernel,by decide +kernel⟩
abbrev eE:Stmt:=top 32
theorem w9:aJ ["tie_set","marks"] ["tie_set","marks"] (af eE):=⟨rfl,rfl,rfl,by decide +kernel,rfl,by decide +kernel,by decide +kernel⟩
abbrev jt:Stmt:=top 33
theorem mE:aJ ["web","side","ahead","point"] ["web","side"] (af jt):=⟨rfl,rfl,rfl,by decide +kernel,rfl,by decide +kernel,by decide +kernel⟩
theorem Ew{cg cA cY fK:TS}{dF:TT}{iX:TI}{iY:TG}{D:Ends}{σ:St}{H:Hp}(h:let cj:TS:=cg;let cG:TS:=cA;let dI:TS:=cY;let fL:TS:=(az (bB dF dI aW) cG);let gj:TS:=(az (d7 iX iY fL) cj);(az fK gj) D σ H):(az fK (az (d7 iX iY (az (bB dF cY aW) cA)) cg)) D σ H:=h
abbrev jQ:Stmt:=top 34
theorem HH:aJ ["web","side"] ["web","side"] (af jQ):=⟨rfl,rfl,rfl,by decide +kernel,rfl,by decide +kernel,by decide +kernel⟩
theorem HJ{cg cA:TS}{dF:TT}{D:Ends}{σ:St}{H:Hp}(h:let cj:TS:=cg;let cG:TS:=cA;(az (bB dF cG aW) cj) D σ H):(az (bB dF cA aW) cg) D σ H:=h
abbrev ia:Stmt:=top 35
theorem mF:aJ ["web","tie_set","trails","side","amiss"] ["web","tie_set"] (af ia):=⟨rfl,rfl,rfl,by decide +kernel,rfl,by decide +kernel,by decide +kernel⟩
theorem Ex{cg cA cY fK ly zu:TS}{dF:TT}{D:Ends}{σ:St}{H:Hp}(h:let cj:TS:=cg;let cG:TS:=cA;let dI:TS:=(az (bB dF cG aW) cj);let fL:TS:=(az cY dI);let gj:TS:=(az fK fL);let p9:TS:=(az ly gj);(az zu p9) D σ H):(az zu (az ly (az fK (az cY (az (bB dF cA aW) cg))))) D σ H:=h
abbrev bW:Stmt:=top 37
theorem cZ:aJ ["web","marks","steps","tie","ends","turn"] ["web","marks"] (af bW):=⟨rfl,rfl,rfl,by decide +kernel,rfl,by decide +kernel,by decide +kernel⟩
theorem rL{cg cA cY fK ly:TS}{iX:TI}{iY:TG}{D:Ends}{σ:St}{H:Hp}(h:let cj:TS:=cg;let cG:TS:=cA;let dI:TS:=(az cY cG);let fL:TS:=(az fK dI);let gj:TS:=(az (d7 iX iY fL) cj);(az ly gj) D σ H):(az ly (az (d7 iX iY (az fK (az cY cA))) cg)) D σ H:=h
abbrev dc:Stmt:=top 38
theorem bF:aJ ["web","marks","start","steps","found","waiting","nearest","way","tie","point","turn","part","further"] ["web","marks","start"] (af dc):=⟨rfl,rfl,rfl,by decide +kernel,rfl,by decide +kernel,by decide +kernel⟩
theorem yi{cg cA cY fK ly zu CA NL NO RT:TS}{dF Gg:TT}{iX:TI}{iY:TG}{D:Ends}{σ:St}{H:Hp}(h:let cj:TS:=cg;let cG:TS:=cA;let dI:TS:=(bB Gg cG aW);let fL:TS:=(az cY dI);let gj:TS:=(az fK fL);let p9:TS:=(d7 iX iY gj);let zq:TS:=(az ly p9);let Ge:TS:=(az zu zq);let Gf:TS:=(az CA Ge);let NP:TS:=(az (qt dF Gf) cj);let K1:TS:=(az NL NP);let HK:TS:=(az NO K1);(az RT HK) D σ H):(az RT (az NO (az NL (az (qt dF (az CA (az zu (az ly (d7 iX iY (az fK (az cY (bB Gg cA aW)))))))) cg)))) D σ H:=h
def cy:Pos:=⟨133,35,133,63⟩
abbrev cV:Stmt:=top 39
theorem tM:aJ ["way"] ["way"] (af cV):=⟨rfl,rfl,rfl,by decide +kernel,rfl,by decide +kernel,by decide +kernel⟩
abbrev bX:Stmt:=top 40
theorem rM:aJ ["ways"] ["ways"] (af bX):=⟨rfl,rfl,rfl,by decide +kernel,rfl,by decide +kernel,by decide +kernel⟩
abbrev bY:Stmt:=top 42
theorem rN:aJ ["web","marks"] ["web","marks"] (af bY):=⟨rfl,rfl,rfl,by decide +kernel,rfl,by decide +kernel,by decide +kernel⟩
abbrev cF:Stmt:=top 43
theorem tN:aJ ["ways"] ["ways"] (af cF):=⟨rfl,rfl,rfl,by decide +kernel,rfl,by decide +kernel,by decide +kernel⟩
abbrev fu:Stmt:=top 44
theorem yj:aJ ["web","marks"] ["web","marks"] (af fu):=⟨rfl,rfl,rfl,by decide +kernel,rfl,by decide +kernel,by decide +kernel⟩
abbrev eY:Stmt:=top 45
theorem mG:aJ ["web","marks","ways","rounds"] ["web","marks"] (af eY):=⟨rfl,rfl,rfl,by decide +kernel,rfl,by decide +kernel,by decide +kernel⟩
theorem AI{cg cA cY fK ly:TS}{dF:TT}{D:Ends}{σ:St}{H:Hp}(h:let cj:TS:=cg;let cG:TS:=cA;let dI:TS:=(az (bB dF cG aW) cj);let fL:TS:=(az cY dI);let gj:TS:=(az fK fL);(az ly gj) D σ H):(az ly (az fK (az cY (az (bB dF cA aW) cg)))) D σ H:=h
abbrev ju:Stmt:=top 47
theorem eZ:aJ ["rows","tie_set","left","used","lead","row","places"] ["rows","tie_set"] (af ju):=⟨rfl,rfl,rfl,by decide +kernel,rfl,by decide +kernel,by decide +kernel⟩
theorem Ey{cg cA cY fK ly:TS}{dF:TT}{iX:TI}{iY:TG}{D:Ends}{σ:St}{H:Hp}(h:let cj:TS:=cg;let cG:TS:=cA;let dI:TS:=(az cY cG);let fL:TS:=(bB dF dI aW);let gj:TS:=(az (d7 iX iY fL) cj);let p9:TS:=(az fK gj);(az ly p9) D σ H):(az ly (az fK (az (d7 iX iY (bB dF (az cY cA) aW)) cg))) D σ H:=h
abbrev ic:Stmt:=top 48
theorem oq:aJ ["rows","added","found","old"] ["rows","added"] (af ic):=⟨rfl,rfl,rfl,by decide +kernel,rfl,by decide +kernel,by decide +kernel⟩
theorem CB{cg cA cY fK:TS}{dF:TT}{iX:TI}{iY:TG}{D:Ends}{σ:St}{H:Hp}(h:let cj:TS:=cg;let cG:TS:=cA;let dI:TS:=cY;let fL:TS:=(bB dF cG dI);let gj:TS:=(az (d7 iX iY fL) cj);(az fK gj) D σ H):(az fK (az (d7 iX iY (bB dF cA cY)) cg)) D σ H:=h
abbrev jv:Stmt:=top 49
theorem ie:aJ ["sets","rows","place","tie_set","rest"] ["sets"] (af jv):=⟨rfl,rfl,rfl,by decide +kernel,rfl,by decide +kernel,by decide +kernel⟩
theorem Ez{cg cA cY fK:TS}{dF:TT}{iX:TI}{iY:TG}{D:Ends}{σ:St}{H:Hp}(h:let cj:TS:=cg;let cG:TS:=cA;let dI:TS:=(bB dF cG aW);let fL:TS:=(az cY dI);let gj:TS:=(az (d7 iX iY fL) cj);(az fK gj) D σ H):(az fK (az (d7 iX iY (az cY (bB dF cA aW))) cg)) D σ H:=h
abbrev ig:Stmt:=top 50
theorem EA:aJ ["web","rings"] ["web","rings"] (af ig):=⟨rfl,rfl,rfl,by decide +kernel,rfl,by decide +kernel,by decide +kernel⟩
theorem EB{cg cA:TS}{dF:TT}{D:Ends}{σ:St}{H:Hp}(h:let cj:TS:=cg;let cG:TS:=cA;(az (bB dF cG aW) cj) D σ H):(az (bB dF cA aW) cg) D σ H:=h
abbrev e7:Stmt:=top 51
theorem i8:aJ ["web","rings","rows","found","place"] ["web","rings"] (af e7):=⟨rfl,rfl,rfl,by decide +kernel,rfl,by decide +kernel,by decide +kernel⟩
theorem AJ{cg cA cY fK ly:TS}{dF:TT}{iX:TI}{iY:TG}{D:Ends}{σ:St}{H:Hp}(h:let cj:TS:=cg;let cG:TS:=cA;let dI:TS:=(az (d7 iX iY cG) cj);let fL:TS:=(az cY dI);let gj:TS:=(az fK fL);let p9:TS:=ly;(az (bB dF p9 aW) gj) D σ H):(az (bB dF ly aW) (az fK (az cY (az (d7 iX iY cA) cg)))) D σ H:=h
abbrev cN:Stmt:=top 52
theorem dG:aJ ["web","waiting","found","marks","ring"] ["web"] (af cN):=⟨rfl,rfl,rfl,by decide +kernel,rfl,by decide +kernel,by decide +kernel⟩
theorem xg{cg cA cY fK ly zu CA:TS}{dF:TT}{D:Ends}{σ:St}{H:Hp}(h:let cj:TS:=cg;let cG:TS:=cA;let dI:TS:=(az cY cG);let fL:TS:=(az fK dI);let gj:TS:=(az ly fL);let p9:TS:=(az (qt dF gj) cj);let zq:TS:=(az zu p9);(az CA zq) D σ H):(az CA (az zu (az (qt dF (az ly (az fK (az cY cA)))) cg))) D σ H:=h
abbrev dX:Stmt:=top 53
theorem kE:aJ ["web","rings","marks"] ["web"] (af dX):=⟨rfl,rfl,rfl,by decide +kernel,rfl,by decide +kernel,by decide +kernel⟩
theorem yk{cg cA cY:TS}{D:Ends}{σ:St}{H:Hp}(h:let cj:TS:=cg;let cG:TS:=(az cA cj);(az cY cG) D σ H):(az cY (az cA cg)) D σ H:=h
abbrev eF:Stmt:=top 55
theorem xh:aJ ["script","k"] ["script","k"] (af eF):=⟨rfl,rfl,rfl,by decide +kernel,rfl,by decide +kernel,by decide +kernel⟩
theorem xj{cg cA:TS}{dF:TT}{D:Ends}{σ:St}{H:Hp}(h:let cj:TS:=cg;let cG:TS:=cA;(az (bB dF cG aW) cj) D σ H):(az (bB dF cA aW) cg) D σ H:=h
abbrev gz:Stmt:=top 56
theorem mH:aJ ["cell","k","near","stir"] ["cell","k"] (af gz):=⟨rfl,rfl,rfl,by decide +kernel,rfl,by decide +kernel,by decide +kernel⟩
theorem AK{cg cA cY:TS}{D:Ends}{σ:St}{H:Hp}(h:let cj:TS:=cg;let cG:TS:=(az cA cj);(az cY cG) D σ H):(az cY (az cA cg)) D σ H:=h
abbrev fB:Stmt:=top 57
theorem yl:aJ ["cell","way"] ["cell","way"] (af fB):=⟨rfl,rfl,rfl,by decide +kernel,rfl,by decide +kernel,by decide +kernel⟩
theorem ym{cg cA cY:TS}{dF Gg:TT}{D:Ends}{σ:St}{H:Hp}(h:let cj:TS:=cg;let cG:TS:=cA;let dI:TS:=(az (bB dF cG aW) cj);let fL:TS:=cY;(az (bB Gg fL aW) dI) D σ H):(az (bB Gg cY aW) (az (bB dF cA aW) cg)) D σ H:=h
abbrev jw:Stmt:=top 58
theorem mJ:aJ ["cell","points","way","one","other"] ["cell","points","way"] (af jw):=⟨rfl,rfl,rfl,by decide +kernel,rfl,by decide +kernel,by decide +kernel⟩
theorem EC{cg cA cY fK:TS}{D:Ends}{σ:St}{H:Hp}(h:let cj:TS:=cg;let cG:TS:=(az cA cj);let dI:TS:=(az cY cG);(az fK dI) D σ H):(az fK (az cY (az cA cg))) D σ H:=h
abbrev eG:Stmt:=top 59
theorem bH:aJ ["script","most","ranked","head","points","way","cells","ties","marks","free","cell","tie","joined","old"] ["script","most","ranked"] (af eG):=⟨rfl,rfl,rfl,by decide +kernel,rfl,by decide +kernel,by decide +kernel⟩
theorem ED{cg cA cY fK ly zu CA NL NO RT RU RV RW RX RY RZ:TS}{dF Gg:TT}{iX:TI}{iY:TG}{D:Ends}{σ:St}{H:Hp}(h:let cj:TS:=cg;let cG:TS:=cA;let dI:TS:=(az cY cG);let fL:TS:=(az fK dI);let gj:TS:=(az ly fL);let p9:TS:=(bB dF gj aW);let zq:TS:=(az zu p9);let Ge:TS:=(az CA zq);let Gf:TS:=(az (d7 iX iY Ge) cj);let NP:TS:=(az NL Gf);let K1:TS:=(az NO NP);let HK:TS:=(az RT K1);let R0:TS:=RU;let R1:TS:=(az RV R0);let R3:TS:=(az (bB Gg R1 aW) HK);let R4:TS:=(az RW R3);let R5:TS:=(az RX R4);let R6:TS:=(az RY R5);(az RZ R6) D σ H):(az RZ (az RY (az RX (az RW (az (bB Gg (az RV RU) aW) (az RT (az NO (az NL (az (d7 iX iY (az CA (az zu (bB dF (az ly (az fK (az cY cA))) aW)))) cg))))))))) D σ H:=h
abbrev fC:Stmt:=top 61
theorem kF:aJ ["web","some","counts","k"] ["web","some"] (af fC):=⟨rfl,rfl,rfl,by decide +kernel,rfl,by decide +kernel,by decide +kernel⟩
theorem yn{cg cA cY fK:TS}{dF:TT}{iX:TI}{iY:TG}{D:Ends}{σ:St}{H:Hp}(h:let cj:TS:=cg;let cG:TS:=cA;let dI:TS:=(az cY cG);let fL:TS:=(bB dF dI aW);let gj:TS:=(az (d7 iX iY fL) cj);(az fK gj) D σ H):(az fK (az (d7 iX iY (bB dF (az cY cA) aW)) cg)) D σ H:=h
abbrev dh:Stmt:=top 62
theorem fU:aJ ["web","some","marks","k","old"] ["web","some"] (af dh):=⟨rfl,rfl,rfl,by decide +kernel,rfl,by decide +kernel,by decide +kernel⟩
theorem yo{cg cA cY fK:TS}{dF:TT}{iX:TI}{iY:TG}{D:Ends}{σ:St}{H:Hp}(h:let cj:TS:=cg;let cG:TS:=cA;let dI:TS:=(az cY cG);let fL:TS:=(bB dF dI aW);let gj:TS:=(az (d7 iX iY fL) cj);(az fK gj) D σ H):(az fK (az (d7 iX iY (bB dF (az cY cA) aW)) cg)) D σ H:=h
abbrev e8:Stmt:=top 65
theorem uQ:aJ ["web","some","counts"] ["web","some"] (af e8):=⟨rfl,rfl,rfl,by decide +kernel,rfl,by decide +kernel,by decide +kernel⟩
theorem CC{cg cA cY:TS}{dF:TT}{D:Ends}{σ:St}{H:Hp}(h:let cj:TS:=cg;let cG:TS:=cA;let dI:TS:=(az (bB dF cG aW) cj);(az cY dI) D σ H):(az cY (az (bB dF cA aW) cg)) D σ H:=h
abbrev gk:Stmt:=top 66
theorem CD:aJ ["web","some"] ["web","some"] (af gk):=⟨rfl,rfl,rfl,by decide +kernel,rfl,by decide +kernel,by decide +kernel⟩
abbrev jx:Stmt:=top 67
theorem jR:aJ ["one","other","both","odd"] ["one","other"] (af jx):=⟨rfl,rfl,rfl,by decide +kernel,rfl,by decide +kernel,by decide +kernel⟩
theorem EF{cg cA cY fK ly:TS}{dF:TT}{D:Ends}{σ:St}{H:Hp}(h:let cj:TS:=cg;let cG:TS:=cA;let dI:TS:=(az cY cG);let fL:TS:=(az (qt dF dI) cj);let gj:TS:=(az fK fL);(az ly gj) D σ H):(az ly (az fK (az (qt dF (az cY cA)) cg))) D σ H:=h
abbrev jy:Stmt:=top 68
theorem gm:aJ ["web","cell","some","k","one","other","length"] ["web","cell"] (af jy):=⟨rfl,rfl,rfl,by decide +kernel,rfl,by decide +kernel,by decide +kernel⟩
theorem EG{cg cA cY fK:TS}{dF:TT}{iX:TI}{iY:TG}{D:Ends}{σ:St}{H:Hp}(h:let cj:TS:=cg;let cG:TS:=cA;let dI:TS:=(bB dF cG aW);let fL:TS:=(az cY dI);let gj:TS:=(az (d7 iX iY fL) cj);(az fK gj) D σ H):(az fK (az (d7 iX iY (az cY (bB dF cA aW))) cg)) D σ H:=h
abbrev gA:Stmt:=top 69
theorem gR:aJ ["web","cell","many","way","some"] ["web","cell"] (af gA):=⟨rfl,rfl,rfl,by decide +kernel,rfl,by decide +kernel,by decide +kernel⟩
theorem AL{cg cA cY fK ly zu CA:TS}{dF Gg OD:TT}{D:Ends}{σ:St}{H:Hp}(h:let cj:TS:=cg;let cG:TS:=cA;let dI:TS:=(az (bB dF cG aW) cj);let fL:TS:=(az cY dI);let gj:TS:=fK;let p9:TS:=(az (bB Gg gj aW) fL);let zq:TS:=(az ly p9);let Ge:TS:=zu;let Gf:TS:=(az (bB OD Ge aW) zq);(az CA Gf) D σ H):(az CA (az (bB OD zu aW) (az ly (az (bB Gg fK aW) (az cY (az (bB dF cA aW) cg)))))) D σ H:=h
abbrev dJ:Stmt:=top 70
theorem i9:aJ ["web","base","marks","odd","found","side"] ["web","base","marks"] (af dJ):=⟨rfl,rfl,rfl,by decide +kernel,rfl,by decide +kernel,by decide +kernel⟩
theorem AM{cg cA cY fK ly zu CA:TS}{dF Gg OD:TT}{D:Ends}{σ:St}{H:Hp}(h:let cj:TS:=cg;let cG:TS:=cA;let dI:TS:=(az (bB dF cG aW) cj);let fL:TS:=cY;let gj:TS:=(az (bB Gg fL aW) dI);let p9:TS:=fK;let zq:TS:=(az (bB OD p9 aW) gj);let Ge:TS:=(az ly zq);let Gf:TS:=(az zu Ge);(az CA Gf) D σ H):(az CA (az zu (az ly (az (bB OD fK aW) (az (bB Gg cY aW) (az (bB dF cA aW) cg)))))) D σ H:=h
abbrev rO:Stmt:=top 71
theorem xm:aJ ["script","web","base","head","cell"] ["script"] (af rO):=⟨rfl,rfl,rfl,by decide +kernel,rfl,by decide +kernel,by decide +kernel⟩
theorem Ph{cg cA cY fK ly:TS}{dF:TT}{iX:TI}{iY:TG}{D:Ends}{σ:St}{H:Hp}(h:let cj:TS:=cg;let cG:TS:=cA;let dI:TS:=(bB dF cG aW);let fL:TS:=(az (d7 iX iY dI) cj);let gj:TS:=(az cY fL);let p9:TS:=(az fK gj);(az ly p9) D σ H):(az ly (az fK (az cY (az (d7 iX iY (bB dF cA aW)) cg)))) D σ H:=h
set_option genInjectivity false
set_option genSizeOf false
structure qP where
 pD:Addr
 tO:FuncData
 pF:Addr
 tP:FuncData
 rP:Addr
 xn:FuncData
 mK:Addr
 qB:FuncData
 rQ:Addr
 xo:FuncData
 j8:Addr
 ou:FuncData
 ja:Addr
 mL:FuncData
 j9:Addr
 oz:FuncData
 jc:Addr
 mO:FuncData
 fD:Addr
 ik:FuncData
 rR:Addr
 xq:FuncData
 AN:Addr
 EH:FuncData
 pG:Addr
 tQ:FuncData
 fY:Addr
 iR:FuncData
 rS:Addr
 xr:FuncData
 rT:Addr
 xu:FuncData
 iD:Addr
 kG:FuncData
 jd:Addr
 mP:FuncData
 pH:Addr
 tR:FuncData
 fE:Addr
 iq:FuncData
 kc:Addr
 oA:FuncData
 rV:Addr
 xw:FuncData
 iE:Addr
 kH:FuncData
 pJ:Addr
 tS:FuncData
 rW:Addr
 xx:FuncData
 pL:Addr
 tT:FuncData
 fF:Addr
 ir:FuncData
 je:Addr
 mQ:FuncData
 fZ:Addr
 iS:FuncData
 fG:Addr
 iw:FuncData
 fH:Addr
 iy:FuncData
 gb:Addr
 iT:FuncData
 jf:Addr
 mR:FuncData
 kg:Addr
 oB:FuncData
 pM:Addr
 tU:FuncData
 mS:Addr
 qC:FuncData
 pN:Addr
 tV:FuncData
 pO:Addr
 tW:FuncData
 kh:Addr
 oE:FuncData
 iF:Addr
 kI:FuncData
 jg:Addr
 mT:FuncData
 iG:Addr
 kJ:FuncData
 ki:Addr
 oF:FuncData
 jh:Addr
 mU:FuncData
 pP:Addr
 tX:FuncData
 pQ:Addr
 tY:FuncData
 ji:Addr
 mV:FuncData
 jj:Addr
 mW:FuncData
 mX:Addr
 qD:FuncData
 mY:Addr
 qF:FuncData
 pR:Addr
 tZ:FuncData
 pU:Addr
 t8:FuncData
 kj:Addr
 oG:FuncData
 ko:Addr
 oH:FuncData
 K2:Addr
 K3:FuncData
 fb:Addr
 EI:Addr
 ua:Addr
 xy:Addr
 k_by_length:Addr
 iO:Addr
 k_least_ways:Addr
 cK:Addr
structure Txt(K:PySem.W.Frag)(mg:Str->Option Value)(a:qP):Prop where
 zw:gD K "has_tie" "has_tie" jq a.pD a.tO
 lC:mg "has_tie"=some (.ref a.pD)
 lD:Binds K a.tO ["tie_set","tie"] []
 zx:gD K "ties_in" "ties_in" g9 a.pF a.tP
 lE:mg "ties_in"=some (.ref a.pF)
 lF:Binds K a.tP ["tie_set"] []
 CF:gD K "set_of" "set_of" lg a.rP a.xn
 CG:mg "set_of"=some (.ref a.rP)
 CH:Binds K a.xn ["web","ties"] []
 xA:gD K "all_ties" "all_ties" hU a.mK a.qB
 qG:mg "all_ties"=some (.ref a.mK)
 qH:Binds K a.qB ["web"] []
 CI:gD K "is_set" "is_set" lq a.rQ a.xo
 CJ:mg "is_set"=some (.ref a.rQ)
 CK:Binds K a.xo ["web","number"] []
 uR:gD K "check_set" "check_set" gx a.j8 a.ou
 oJ:mg "check_set"=some (.ref a.j8)
 oM:Binds K a.ou ["web","tie_set"] []
 rX:gD K "triples_in" "triples_in" dU a.ja a.mL
 mZ:mg "triples_in"=some (.ref a.ja)
 m3:Binds K a.mL ["web","tie_set"] []
 uS:gD K "length_of" "length_of" eW a.j9 a.oz
 CL:mg "length_of"=some (.ref a.j9)
 CM:Binds K a.oz ["web","tie_set"] []
 rY:gD K "odd_points" "odd_points" dW a.jc a.mO
 AO:mg "odd_points"=some (.ref a.jc)
 AQ:Binds K a.mO ["web","tie_set"] []
 lG:gD K "drawn_together" "drawn_together" bV a.fD a.ik
 lH:mg "drawn_together"=some (.ref a.fD)
 lJ:Binds K a.ik ["leasts","one","other"] []
 CN:gD K "pieces" "pieces" jP a.rR a.xq
 CO:mg "pieces"=some (.ref a.rR)
 CP:Binds K a.xq ["web","tie_set"] []
 K4:gD K "rank" "rank" tJ a.AN a.EH
 Pj:mg "rank"=some (.ref a.AN)
 Pk:Binds K a.EH ["web"] []
 zy:gD K "is_even" "is_even" jr a.pG a.tQ
 HM:mg "is_even"=some (.ref a.pG)
 HN:Binds K a.tQ ["web","tie_set"] []
 nk:gD K "forest_trails" "forest_trails" cE a.fY a.iR
 iU:mg "forest_trails"=some (.ref a.fY)
 iV:Binds K a.iR ["web"] []
 CQ:gD K "forest" "forest" lz a.rS a.xr
 K5:mg "forest"=some (.ref a.rS)
 K6:Binds K a.xr ["web"] []
 CS:gD K "chords" "chords" lA a.rT a.xu
 CT:mg "chords"=some (.ref a.rT)
 CU:Binds K a.xu ["web"] []
 qa:gD K "ring_closed" "ring_closed" eB a.iD a.kG
 yp:mg "ring_closed"=some (.ref a.iD)
 yq:Binds K a.kG ["web","trails","chord"] []
 rZ:gD K "chord_ring" "chord_ring" fq a.jd a.mP
 AR:mg "chord_ring"=some (.ref a.jd)
 AS:Binds K a.mP ["web","tie"] []
 zA:gD K "is_ring" "is_ring" h8 a.pH a.tR
 HP:mg "is_ring"=some (.ref a.pH)
 HQ:Binds K a.tR ["web","tie_set"] []
 lK:gD K "is_ring_number" "is_ring_number" cO a.fE a.iq
 uc:mg "is_ring_number"=some (.ref a.fE)
 ud:Binds K a.iq ["web","number"] []
 oN:El K "by_length" "by_length" eX a.kc a.oA a.k_by_length a.iO
 CV:mg "by_length"=some (.ref a.kc)
 CW:Binds K a.oA ["web","rings"] []
 CY:gD K "common" "common" lB a.rV a.xw
 K7:mg "common"=some (.ref a.rV)
 K8:Binds K a.xw ["one","other"] []
 qb:gD K "bears_oddly" "bears_oddly" eE a.iE a.kH
 qf:mg "bears_oddly"=some (.ref a.iE)
 qg:Binds K a.kH ["tie_set","marks"] []
 zB:gD K "is_side" "is_side" jt a.pJ a.tS
 HR:mg "is_side"=some (.ref a.pJ)
 HS:Binds K a.tS ["web","side"] []
 CZ:gD K "cut_of" "cut_of" jQ a.rW a.xx
 K9:mg "cut_of"=some (.ref a.rW)
 La:Binds K a.xx ["web","side"] []
 zC:gD K "side_of" "side_of" ia a.pL a.tT
 zD:mg "side_of"=some (.ref a.pL)
 zE:Binds K a.tT ["web","tie_set"] []
 lM:gD K "steps_by_point" "steps_by_point" bW a.fF a.ir
 ue:mg "steps_by_point"=some (.ref a.fF)
 uf:Binds K a.ir ["web","marks"] []
 m4:El K "least_ways" "least_ways" dc a.je a.mQ a.k_least_ways a.cK
 AU:mg "least_ways"=some (.ref a.je)
 AV:Binds K a.mQ ["web","marks","start"] []
 nq:gD K "length_of_way" "length_of_way" cV a.fZ a.iS
 nu:mg "length_of_way"=some (.ref a.fZ)
 nv:Binds K a.iS ["way"] []
 lN:gD K "worths_of_ways" "worths_of_ways" bX a.fG a.iw
 ug:mg "worths_of_ways"=some (.ref a.fG)
 uh:Binds K a.iw ["ways"] []
 lO:gD K "all_least_ways" "all_least_ways" bY a.fH a.iy
 lP:mg "all_least_ways"=some (.ref a.fH)
 lQ:Binds K a.iy ["web","marks"] []
 ny:gD K "worths_of_all" "worths_of_all" cF a.gb a.iT
 nA:mg "worths_of_all"=some (.ref a.gb)
 nB:Binds K a.iT ["ways"] []
 r6:gD K "worths_for" "worths_for" fu a.jf a.mR
 AW:mg "worths_for"=some (.ref a.jf)
 AX:Binds K a.mR ["web","marks"] []
 uT:gD K "least_odd" "least_odd" eY a.kg a.oB
 uU:mg "least_odd"=some (.ref a.kg)
 uV:Binds K a.oB ["web","marks"] []
 zF:gD K "reduced" "reduced" ju a.pM a.tU
 HU:mg "reduced"=some (.ref a.pM)
 HV:Binds K a.tU ["rows","tie_set"] []
 xB:gD K "with_row" "with_row" ic a.mS a.qC
 EJ:mg "with_row"=some (.ref a.mS)
 EK:Binds K a.qC ["rows","added"] []
 zG:gD K "rows_of" "rows_of" jv a.pN a.tV
 zH:mg "rows_of"=some (.ref a.pN)
 zI:Binds K a.tV ["sets"] []
 zJ:gD K "is_base" "is_base" ig a.pO a.tW
 HW:mg "is_base"=some (.ref a.pO)
 HX:Binds K a.tW ["web","rings"] []
 uW:gD K "marks_for" "marks_for" e7 a.kh a.oE
 C1:mg "marks_for"=some (.ref a.kh)
 C3:Binds K a.oE ["web","rings"] []
 qh:gD K "least_rings" "least_rings" cN a.iF a.kI
 yr:mg "least_rings"=some (.ref a.iF)
 yt:Binds K a.kI ["web"] []
 r9:gD K "least_base" "least_base" dX a.jg a.mT
 AY:mg "least_base"=some (.ref a.jg)
 AZ:Binds K a.mT ["web"] []
 qi:gD K "_law_cell_at" "_law_cell_at" eF a.iG a.kJ
 qj:mg "_law_cell_at"=some (.ref a.iG)
 qk:Binds K a.kJ ["script","k"] []
 uX:gD K "_law_mixed" "_law_mixed" gz a.ki a.oF
 kq:mg "_law_mixed"=some (.ref a.ki)
 kr:Binds K a.oF ["cell","k"] []
 se:gD K "_law_length" "_law_length" fB a.jh a.mU
 A1:mg "_law_length"=some (.ref a.jh)
 A2:Binds K a.mU ["cell","way"] []
 zK:gD K "_law_tie" "_law_tie" jw a.pP a.tX
 HY:mg "_law_tie"=some (.ref a.pP)
 HZ:Binds K a.tX ["cell","points","way"] []
 zL:gD K "_law_web" "_law_web" eG a.pQ a.tY
 Ia:mg "_law_web"=some (.ref a.pQ)
 Ib:Binds K a.tY ["script","most","ranked"] []
 sj:gD K "_law_counts" "_law_counts" fC a.ji a.mV
 A3:mg "_law_counts"=some (.ref a.ji)
 A4:Binds K a.mV ["web","some"] []
 sr:gD K "_law_pieces" "_law_pieces" dh a.jj a.mW
 A5:mg "_law_pieces"=some (.ref a.jj)
 A6:Binds K a.mW ["web","some"] []
 xC:gD K "_law_ring" "_law_ring" e8 a.mX a.qD
 xD:mg "_law_ring"=some (.ref a.mX)
 xE:Binds K a.qD ["web","some"] []
 xF:gD K "_law_long" "_law_long" gk a.mY a.qF
 qI:mg "_law_long"=some (.ref a.mY)
 qJ:Binds K a.qF ["web","some"] []
 zM:gD K "_law_odd" "_law_odd" jx a.pR a.tZ
 um:mg "_law_odd"=some (.ref a.pR)
 uo:Binds K a.tZ ["one","other"] []
 zN:gD K "_law_cut" "_law_cut" jy a.pU a.t8
 zO:mg "_law_cut"=some (.ref a.pU)
 zP:Binds K a.t8 ["web","cell"] []
 uY:gD K "_law_marks" "_law_marks" gA a.kj a.oG
 C4:mg "_law_marks"=some (.ref a.kj)
 C5:Binds K a.oG ["web","cell"] []
 uZ:gD K "_law_right" "_law_right" dJ a.ko a.oH
 C6:mg "_law_right"=some (.ref a.ko)
 C7:Binds K a.oH ["web","base","marks"] []
 R7:gD K "law" "law" rO a.K2 a.K3
 ad8:mg "law"=some (.ref a.K2)
 ad9:Binds K a.K3 ["script"] []
 MZ:mg "ValueError"=none
 R8:mg "all"=none
 WE:mg "bool"=none
 ku:mg "enumerate"=none
 Lb:mg "int"=none
 M0:mg "isinstance"=none
 dM:mg "len"=none
 Lc:mg "list"=none
 NQ:mg "max"=none
 C8:mg "min"=none
 cC:mg "range"=none
 R9:mg "set"=none
 Ld:mg "sorted"=none
 Le:mg "sum"=none
 vz:mg "tuple"=none
 NR:mg "zip"=none
 Sa:mg "BadSet"=some (.ref a.fb)
 Pn:mg "BadPoint"=some (.ref a.EI)
 Qi:mg "NoChord"=some (.ref a.ua)
 Sb:mg "NoBase"=some (.ref a.xy)
 Lf:∀ h:Heap,K.In h->h.Ns mainGlobals mg->PyProof.Rows.OwnCls "BadSet" a.fb [.type "ValueError",.type "Exception",.type "BaseException",.type "object"] "ValueError.__new__" mg h
 Ic:∀ h:Heap,K.In h->h.Ns mainGlobals mg->PyProof.Rows.OwnCls "NoChord" a.ua [.type "ValueError",.type "Exception",.type "BaseException",.type "object"] "ValueError.__new__" mg h
 Lg:∀ h:Heap,K.In h->h.Ns mainGlobals mg->PyProof.Rows.OwnCls "NoBase" a.xy [.type "ValueError",.type "Exception",.type "BaseException",.type "object"] "ValueError.__new__" mg h
section
variable {K:PySem.W.Frag}{mg:Str->Option Value}{a:qP}
theorem Txt.lR(T:Txt K mg a):PySem.W.keepIn K (.ref a.pD)=true:=T.zw.kp
theorem Txt.lT(T:Txt K mg a):PySem.W.keepIn K (.ref a.pF)=true:=T.zx.kp
theorem Txt.C9(T:Txt K mg a):PySem.W.keepIn K (.ref a.rP)=true:=T.CF.kp
theorem Txt.qK(T:Txt K mg a):PySem.W.keepIn K (.ref a.mK)=true:=T.xA.kp
theorem Txt.Dd(T:Txt K mg a):PySem.W.keepIn K (.ref a.rQ)=true:=T.CI.kp
theorem Txt.oO(T:Txt K mg a):PySem.W.keepIn K (.ref a.j8)=true:=T.uR.kp
theorem Txt.m5(T:Txt K mg a):PySem.W.keepIn K (.ref a.ja)=true:=T.rX.kp
theorem Txt.De(T:Txt K mg a):PySem.W.keepIn K (.ref a.j9)=true:=T.uS.kp
theorem Txt.A7(T:Txt K mg a):PySem.W.keepIn K (.ref a.jc)=true:=T.rY.kp
theorem Txt.lU(T:Txt K mg a):PySem.W.keepIn K (.ref a.fD)=true:=T.lG.kp
theorem Txt.Df(T:Txt K mg a):PySem.W.keepIn K (.ref a.rR)=true:=T.CN.kp
theorem Txt.Po(T:Txt K mg a):PySem.W.keepIn K (.ref a.AN)=true:=T.K4.kp
theorem Txt.Ie(T:Txt K mg a):PySem.W.keepIn K (.ref a.pG)=true:=T.zy.kp
theorem Txt.iW(T:Txt K mg a):PySem.W.keepIn K (.ref a.fY)=true:=T.nk.kp
theorem Txt.Lh(T:Txt K mg a):PySem.W.keepIn K (.ref a.rS)=true:=T.CQ.kp
theorem Txt.Dg(T:Txt K mg a):PySem.W.keepIn K (.ref a.rT)=true:=T.CS.kp
theorem Txt.yu(T:Txt K mg a):PySem.W.keepIn K (.ref a.iD)=true:=T.qa.kp
theorem Txt.A8(T:Txt K mg a):PySem.W.keepIn K (.ref a.jd)=true:=T.rZ.kp
theorem Txt.Ig(T:Txt K mg a):PySem.W.keepIn K (.ref a.pH)=true:=T.zA.kp
theorem Txt.uq(T:Txt K mg a):PySem.W.keepIn K (.ref a.fE)=true:=T.lK.kp
theorem Txt.k_by_length(T:Txt K mg a):PySem.W.keepIn K (.ref a.kc)=true:=T.oN.kp
theorem Txt.Li(T:Txt K mg a):PySem.W.keepIn K (.ref a.rV)=true:=T.CY.kp
theorem Txt.ql(T:Txt K mg a):PySem.W.keepIn K (.ref a.iE)=true:=T.qb.kp
theorem Txt.Ih(T:Txt K mg a):PySem.W.keepIn K (.ref a.pJ)=true:=T.zB.kp
theorem Txt.Lj(T:Txt K mg a):PySem.W.keepIn K (.ref a.rW)=true:=T.CZ.kp
theorem Txt.zQ(T:Txt K mg a):PySem.W.keepIn K (.ref a.pL)=true:=T.zC.kp
theorem Txt.ur(T:Txt K mg a):PySem.W.keepIn K (.ref a.fF)=true:=T.lM.kp
theorem Txt.k_least_ways(T:Txt K mg a):PySem.W.keepIn K (.ref a.je)=true:=T.m4.kp
theorem Txt.nC(T:Txt K mg a):PySem.W.keepIn K (.ref a.fZ)=true:=T.nq.kp
theorem Txt.uv(T:Txt K mg a):PySem.W.keepIn K (.ref a.fG)=true:=T.lN.kp
theorem Txt.lV(T:Txt K mg a):PySem.W.keepIn K (.ref a.fH)=true:=T.lO.kp
theorem Txt.nE(T:Txt K mg a):PySem.W.keepIn K (.ref a.gb)=true:=T.ny.kp
theorem Txt.A9(T:Txt K mg a):PySem.W.keepIn K (.ref a.jf)=true:=T.r6.kp
theorem Txt.u4(T:Txt K mg a):PySem.W.keepIn K (.ref a.kg)=true:=T.uT.kp
theorem Txt.Ii(T:Txt K mg a):PySem.W.keepIn K (.ref a.pM)=true:=T.zF.kp
theorem Txt.EL(T:Txt K mg a):PySem.W.keepIn K (.ref a.mS)=true:=T.xB.kp
theorem Txt.zR(T:Txt K mg a):PySem.W.keepIn K (.ref a.pN)=true:=T.zG.kp
theorem Txt.Ij(T:Txt K mg a):PySem.W.keepIn K (.ref a.pO)=true:=T.zJ.kp
theorem Txt.Dh(T:Txt K mg a):PySem.W.keepIn K (.ref a.kh)=true:=T.uW.kp
theorem Txt.yv(T:Txt K mg a):PySem.W.keepIn K (.ref a.iF)=true:=T.qh.kp
theorem Txt.Ba(T:Txt K mg a):PySem.W.keepIn K (.ref a.jg)=true:=T.r9.kp
theorem Txt.qm(T:Txt K mg a):PySem.W.keepIn K (.ref a.iG)=true:=T.qi.kp
theorem Txt.kA(T:Txt K mg a):PySem.W.keepIn K (.ref a.ki)=true:=T.uX.kp
theorem Txt.Bb(T:Txt K mg a):PySem.W.keepIn K (.ref a.jh)=true:=T.se.kp
theorem Txt.Ik(T:Txt K mg a):PySem.W.keepIn K (.ref a.pP)=true:=T.zK.kp
theorem Txt.Il(T:Txt K mg a):PySem.W.keepIn K (.ref a.pQ)=true:=T.zL.kp
theorem Txt.Bc(T:Txt K mg a):PySem.W.keepIn K (.ref a.ji)=true:=T.sj.kp
theorem Txt.Bd(T:Txt K mg a):PySem.W.keepIn K (.ref a.jj)=true:=T.sr.kp
theorem Txt.xG(T:Txt K mg a):PySem.W.keepIn K (.ref a.mX)=true:=T.xC.kp
theorem Txt.qL(T:Txt K mg a):PySem.W.keepIn K (.ref a.mY)=true:=T.xF.kp
theorem Txt.uw(T:Txt K mg a):PySem.W.keepIn K (.ref a.pR)=true:=T.zM.kp
theorem Txt.zS(T:Txt K mg a):PySem.W.keepIn K (.ref a.pU)=true:=T.zN.kp
theorem Txt.Di(T:Txt K mg a):PySem.W.keepIn K (.ref a.kj)=true:=T.uY.kp
theorem Txt.Dk(T:Txt K mg a):PySem.W.keepIn K (.ref a.ko)=true:=T.uZ.kp
end
def EM:Sp:=fun vs H Q _=>∃(S:Int) (k:Nat),vs=[.int S,.int (k:Int)]/\Q (.bl (bit S k)) H
def EN:Sp:=fun vs H Q _=>∃ m:Nat,vs=[.int (m:Int)]/\Builtin.Int.intBits (m:Int)<=1000/\∀ D H',H D=none->av H H'->H' D=some (.lst (aG (bu (m:Int))))->Q (.ref D) H'
def Dl:Sp:=fun vs H Q _=>∃ w p ts,vs=[.ref w]/\br H w p ts/\Mn p ts/\Q (.int (2^ts.length-1)) H
def Im:Sp:=fun vs H Q _=>∃ w p ts S,vs=[.ref w,.int S]/\br H w p ts/\Mn p ts/\Q (.bl (decide (0<=S/\S<2^ts.length))) H
def su(ts:List dZ)(S:Int)(bad:Prop)(R:Nat->Prop):Prop:=(∃ m:Nat,S=(m:Int)/\m<2^ts.length/\R m)\/((S<0\/2^ts.length<=S)/\bad)
def Be(C:Addr):Sp:=fun vs H Q E=>∃ w p ts S,vs=[.ref w,.int S]/\br H w p ts/\Mn p ts/\su ts S (E (.ref C) none H) fun _=>Q .gf H
def yw(C:Addr):Sp:=fun vs H Q E=>∃ w p ts S,vs=[.ref w,.int S]/\br H w p ts/\Mn p ts/\su ts S (E (.ref C) none H) fun m =>
 ∀ D ys H',H D=none->av H H'->H' D=some (.lst ys)->Paired (TupAt H') ys ((bu (m:Int)).map (bM ts))->Q (.ref D) H'
def yx(C:Addr):Sp:=fun vs H Q E=>∃ w p ts S,vs=[.ref w,.int S]/\br H w p ts/\Mn p ts/\su ts S (∀ H',av H H'->E (.ref C) none H') fun m =>
 ∀ D H',av H H'->H' D=some (.lst (aG (vN p ts (m:Int))))->Q (.ref D) H'
def EO(C:Addr):Sp:=fun vs H Q E=>∃ w p ts S,vs=[.ref w,.int S]/\br H w p ts/\Mn p ts/\su ts S (∀ H',av H H'->E (.ref C) none H') fun m=>∀ H',av H H'->Q (.bl (decide (vN p ts (m:Int)=[]))) H'
section
variable {P:Program}{w:World}{K:PySem.W.Frag}{mg:Str->Option Value}{base:Heap}{a:qP}
theorem bZ(T:Txt K mg a):bE P w K mg base iP 1 a.pD a.tO ["tie_set","tie"] EM:=by
 refine T.zw.ok Er (fun vs H Q E h=>?_) (fun cdv A outer s H vs Q E hr h=>?_)
 ·obtain⟨S,k,rfl,_⟩:=h;rfl
 ·obtain⟨S,k,rfl,q⟩:=h;refine⟨_,(ay (aL (cI dw (aK z9 (aK sF (pv 0) (pv 1)) aj) aj (aO _)))),?_⟩;refine(au rfl (au rfl (bQ ⟨(by lia),bQ ⟨rfl,?_⟩⟩)))
  rw[Int.toNat_natCast,OI];exact q
theorem cf(T:Txt K mg a):bE P w K mg base iP 2 a.pF a.tP ["tie_set"] EN:=by
 have bZ:=bZ (P:=P) (w:=w) (base:=base) T;refine T.zx.ok Es (fun vs H Q E h=>?_) (fun cdv A outer s H vs Q E hr h=>?_)
 ·obtain⟨m,rfl,_⟩:=h;rfl
 ·obtain⟨m,rfl,hm,k⟩:=h;refine⟨_,(ay (aL (bN (own:=["tie"]) (frees:=["tie_set"]) (js:=[0]) (aI (af g9) ["tie_set"]) rfl (bA (by rfl) T.cC (aa (Jm PySem.F.plainAttrs_int PyProof.Rows.slot_int_bit_length PyProof.Rows.type_int_bit_length Fq (pv 0)) ai)) (fun _ _ _ _=>(aC (i:=0) (show(["tie","tie_set"]:List Str).Nodup by decide +kernel) rfl (Or.inl rfl))) (fun _ _ _ _=>(fX (eO (aA bZ (hr.mono (by decide)) (by rfl) T.lC T.lR T.lD .nil aQ (aa (pv 1) (aa (pv 0) ai)))))) (fun _ _ _ _=>(pv 0))))),?_⟩
  refine(au rfl ⟨rfl,au rfl ⟨rfl,au rfl ⟨(by lia),(by lia),fun D hD=>cD (lo:=0) (m:=Builtin.Int.intBits (m:Int)) (pV (bit (m:Int)) H D) (.start hD) (fun i acc H2 _ p=>p.len) (dl (Nat.ble_eq.mpr hm)) ?_ ?_⟩⟩⟩)
  ·intro i acc H2 hi p;rw[Int.zero_add];refine⟨rfl,au rfl (au rfl ⟨(m:Int),i,rfl,au rfl (?_)⟩)⟩;cases hb:bit (m:Int) i with
   | true=>exact(au rfl (p.yes hD (av.refl _) hb))
   | false=>exact p.no (av.refl _) hb
  ·intro acc H2 p;exact k D H2 hD p.1 (by rw[p.2.1,p.2.2];rfl)
theorem dY(T:Txt K mg a):bE P w K mg base iP 1 a.mK a.qB ["web"] Dl:=by
 refine T.xA.ok Cz (fun vs H Q E h=>?_) (fun cdv A outer s H vs Q E hr h=>?_)
 ·obtain⟨w,p,ts,rfl,_⟩:=h;rfl
 ·obtain⟨wb,p,ts,rfl,hw,W,q⟩:=h;refine⟨_,(ay (aL (aK nN (aK jE aj (aR (iZ K) (by rfl) T.dM PySem.boot_len (aa (aB (ck K) (pv 0) aj (fun _ _=>rfl)) ai))) aj))),?_⟩
  obtain⟨b,xs,h1,h2,h3⟩:=hw.ex;have hl:=h3.length;have wl:=W.len;refine(au rfl (cu (aX.of h1) (ao (j:=1) rfl) (tI rfl (.inr (aX.of h2)) (bQ ⟨⟨by lia,by lia,by decide⟩,bQ (?_)⟩))))
  rw[Int.toNat_natCast,hl,Int.one_mul];exact q
theorem lW(T:Txt K mg a):bE P w K mg base iP 2 a.rQ a.xo ["web","number"] Im:=by
 have dY:=dY (P:=P) (w:=w) (base:=base) T;refine T.CI.ok HC (fun vs H Q E h=>?_) (fun cdv A outer s H vs Q E hr h=>?_)
 ·obtain⟨w,p,ts,S,rfl,_⟩:=h;rfl
 ·obtain⟨wb,p,ts,S,rfl,hw,W,q⟩:=h;refine⟨_,(ay (aL (qp (cI Fj (pv 1) aj (aO _)) (vC (cI Jd (pv 1) (aA dY (hr.mono (by decide)) (by rfl) T.qG T.qK T.qH .nil aQ (aa (pv 0) ai)) (aO _)))))),?_⟩
  refine(au rfl (bQ (au rfl (nQ (fun hlt=>?_) (fun hlt=>?_)))))
  ·have hlt:0<=S:=of_decide_eq_true hlt;refine(au rfl (au rfl ⟨wb,p,ts,rfl,hw,W,_,_,rfl,rfl,?_⟩));have e:decide (S<=2^ts.length-1)=decide (0<=S/\S<2^ts.length):=decide_eq_decide.mpr ⟨fun z=>⟨hlt,by lia⟩,fun z=>by lia⟩
   rw[<-e]at q;exact q
  ·have hlt : ¬ 0<=S:=fun z=>hlt (decide_eq_true z)
   rw[decide_eq_false (fun z=>hlt z.1)]at q
   exact q
theorem di(T:Txt K mg a):bE P w K mg base (Ak P w) 3 a.j8 a.ou ["web","tie_set"] (Be a.fb):=by
 have lW:=lW (P:=P) (w:=w) (base:=base) T;refine T.uR.Jw AE (fun vs H Q E h=>?_) (fun cdv A outer s H vs Q E hr h=>?_)
 ·obtain⟨w,p,ts,S,rfl,_⟩:=h;rfl
 ·obtain⟨wb,p,ts,S,rfl,hw,W,q⟩:=h;refine⟨_,(ay (cM (nL (eO (aA lW (hr.mono (by decide)) (by rfl) T.CJ T.Dd T.CK .nil aQ (aa (pv 0) (aa (pv 1) ai))))) (ay (vL gJ.V2 rfl (by rfl) T.Lf PySem.F.excBase_ValueError (aa mq ai))) aZ)),?_⟩
  refine AF ?_;intro cj;refine(au rfl (au rfl ⟨wb,p,ts,S,rfl,hw,W,?_⟩));have h2:((2:Int)^ts.length)=((2^ts.length:Nat):Int):=by simp
  rcases q with⟨m,rfl,hm,q⟩|⟨hS,q⟩
  ·rw[decide_eq_true ⟨by lia,by lia⟩]
   exact(au rfl (eT q))
  ·rw[decide_eq_false (by lia)]
   exact(au rfl (fQ ⟨dl rfl,q⟩))
theorem cL(T:Txt K mg a):bE P w K mg base (Ak P w) 4 a.ja a.mL ["web","tie_set"] (yw a.fb):=by
 have di:=di (P:=P) (w:=w) (base:=base) T;have cf:=cf (P:=P) (w:=w) (base:=base) T;refine T.rX.Jw yd (fun vs H Q E h=>?_) (fun cdv A outer s H vs Q E hr h=>?_)
 ·obtain⟨w,p,ts,S,rfl,_⟩:=h;rfl
 ·obtain⟨wb,p,ts,S,rfl,hw,W,q⟩:=h;refine⟨_,(ak (fW (aA di (hr.mono (by decide)) (by rfl) T.oJ T.oO T.oM .nil gJ.passes (aa (pv 0) (aa (pv 1) ai))))
   (ay (aL (bN (own:=["tie"]) (frees:=["web"]) (js:=[0]) (aI (af dU) ["web","tie_set"]) rfl (u9 K (aA cf (hr.mono (by decide)) (by rfl) T.lE T.lT T.lF .nil aQ (aa (pv 1) ai))) (fun _ _ _ _=>(aC (i:=0) (show(["tie","web"]:List Str).Nodup by decide +kernel) rfl (Or.inl rfl))) (fun _ _ _ _=>cB) (fun _ _ _ _=>(aB (ck K) (aB (ck K) (pv 1) aj (fun _ _=>rfl)) (pv 0) (fun _ _=>rfl))))))),?_⟩
  refine ye ?_;intro cj;refine(au rfl (au rfl ⟨wb,p,ts,S,rfl,hw,W,?_⟩));rcases q with⟨m,rfl,hm,q⟩|⟨hS,q⟩
  ·refine .inl ⟨m,rfl,hm,?_⟩;have wl:=W.len;have hb:Builtin.Int.intBits (m:Int)<=ts.length:=bits_le hm;refine(au rfl ⟨m,rfl,by lia,fun L H1 _ s1 hL=>⟨L,rfl,⟨_,aS.of hL⟩,fun D hD=>?_⟩⟩)
   obtain⟨b,xs,h1,h2,h3⟩:=(hw.same s1).ex;have xU:=h3.length;refine bS (xs:=aG (bu (m:Int))) (fun i acc H2=>av H1 H2/\H2 D=some (.lst acc)/\Paired (TupAt H2) acc (((bu (m:Int)).take i).map (bM ts))/\acc.length=i) ⟨av.new hD,ah,.nil,rfl⟩ ?_ ?_ ?_ ?_
   ·rintro i acc H2 _ ⟨s2,hd,pr,hac⟩;exact⟨aS.of (s2 _ _ hL),hd,Nat.le_of_eq hac⟩
   ·rw[aM];refine dl (Nat.ble_eq.mpr (Nat.le_trans (List.length_filter_le _ _) ?_));rw[List.length_range]
    lia
   ·rintro i x acc H2 hx ⟨s2,hd,pr,hac⟩;obtain⟨k,hk,rfl⟩:=kQ hx;have qO:k<ts.length:=vf hm (List.mem_of_getElem? hk);have hkx:k<xs.length:=by lia
    obtain⟨t,ht,c,hc,hct⟩:=Paired.sI h3 (i:=k) (x:=xs[k]) (by simp[hkx])
    have RD:bM ts k=t:=by
     unfold bM;rw[List.getD_eq_getElem?_getD,ht];rfl
    refine⟨rfl,au rfl (cu (aX.of (s2 _ _ h1)) (ao (j:=1) rfl) (au rfl (cu (v:=xs[k]) (aX.of (s2 _ _ h2)) (ao (j:=k) (by simp[hkx])) (?_))))⟩
    rw[hc];refine⟨hd,s2.put hD,ah,?_,by rw[List.length_append,List.length_singleton,hac]⟩
    rw[List.take_add_one,hk,List.map_append];refine Paired.snoc (Paired.imp' (fun _ _ z=>z.tups (dH.put hd)) pr) ?_
    rw[RD];exact⟨c,rfl,dH.put hd _ _ (s2 _ _ hct)⟩
   ·rintro acc H2 ⟨s2,hd,pr,hac⟩;rw[aM,List.take_length]at pr;exact q D acc H2 (s1.free hD) (s1.trans s2) hd pr
  ·exact .inr ⟨hS,q⟩
end
section
variable {P:Program}{w:World}{K:PySem.W.Frag}{mg:Str->Option Value}{base:Heap}{a:qP}
theorem m6(T:Txt K mg a):bE P w K mg base (Ak P w) 5 a.jc a.mO ["web","tie_set"] (yx a.fb):=by
 have cL:=cL (P:=P) (w:=w) (base:=base) T;refine T.rY.Jw fT (fun vs H Q E h=>?_) (fun cdv A outer s H vs Q E hr h=>?_)
 ·obtain⟨w,p,ts,S,rfl,_⟩:=h;rfl
 ·obtain⟨wb,p,ts,S,rfl,hw,W,q⟩:=h;refine⟨_,(ak (aH (i:=2) fT.nd rfl (Or.inr rfl) (aK DR (eR (aa aj ai)) (aB (ck K) (pv 0) aj (fun _ _=>rfl))))
   (ak (ve rfl (u9 K (aA cL (hr.mono (by decide)) (by rfl) T.mZ T.m5 T.m3 .nil gJ.passes (aa (pv 0) (aa (pv 1) ai)))) (IM K (n:=3) rfl (aV (aC (i:=3) fT.nd rfl (Or.inl rfl)) (aV (aC (i:=4) fT.nd rfl (Or.inl rfl)) (aV (aC (i:=5) fT.nd rfl (Or.inl rfl)) fc))))
   (ak (E9 (pv 2) (pv 3) (getL K) aj Fc set_list)
   (ay (E9 (pv 2) (pv 4) (getL K) aj Fc set_list))))
   (ay (aL (bN (own:=["point"]) (frees:=["ends"]) (js:=[2]) (aI (af dW) ["web","tie_set","ends","one","other","length"]) rfl (bA (by rfl) T.cC (aa (aB (ck K) (pv 0) aj (fun _ _=>rfl)) ai)) (fun _ _ _ _=>(aC (i:=0) (show(["point","ends"]:List Str).Nodup by decide +kernel) rfl (Or.inl rfl))) (fun _ _ _ _=>(fX (aP dw (aK cT (aB (kN K) (pv 1) (pv 0) (fun _ _=>rfl)) aj) aj (aO _)))) (fun _ _ _ _=>(pv 0))))))),?_⟩
  refine yf ?_;intro cj cG dI fL;obtain⟨b,xs,h1,h2,h3⟩:=id hw.ex;have wp:=W.pts;refine⟨dl rfl,fun l0 BC=>?_⟩
  have s0:av H (upd H l0 (.lst [.int 0])):=av.new BC;refine(au rfl (cu (aX.of (s0 _ _ h1)) (ao (j:=0) rfl) ⟨l0,(p:Int),au rfl ⟨rfl,ah,by lia,by lia,(by rw[Int.toNat_natCast];show 1*p<=sizeLine;exact dl (Nat.ble_eq.mpr (by lia))),fun e he=>?_⟩⟩))
  have s1:=s0.trans (av.new (o:=.lst (List.replicate (p:Int).toNat [V.int 0]).flatten) he);have Uo:upd (upd H l0 (.lst [.int 0])) e (.lst (List.replicate (p:Int).toNat [V.int 0]).flatten) e=some (.lst (nS (List.replicate p 0))):=by
   rw[ah,Int.toNat_natCast,JF]
  generalize upd (upd H l0 (.lst [.int 0])) e (.lst (List.replicate (p:Int).toNat [V.int 0]).flatten)=H1 at s1 Uo;have Sd:H e=none:=s0.free he;refine(au rfl (au rfl ⟨wb,p,ts,S,rfl,hw.same s1,W,?_⟩));rcases q with⟨m,rfl,hm,q⟩|⟨hS,q⟩
  ·refine .inl ⟨m,rfl,hm,fun L ys H2 hLn s2 hL pr=>⟨L,rfl,⟨_,aS.of hL⟩,?_⟩⟩
   have s12:=s1.trans s2;have heL:e≠L:=bR Uo hLn;have Se:ys.length<=24:=by
    rw[pr.length,List.length_map];have hb:Builtin.Int.intBits (m:Int)<=ts.length:=bits_le hm;have wl:=W.len;have:=List.length_filter_le (bit (m:Int)) (List.range (Builtin.Int.intBits (m:Int)));rw[List.length_range]at this;exact Nat.le_trans this (by lia)
   refine gw (K:=K) (a:=L) (xs:=ys) (fun i σ H3=>∃ v1 v2 v3,σ=[some (.ref wb),some (.int (m:Int)),some (.ref e),v1,v2,v3]/\(∀ x o,H2 x=some o->x≠e->H3 x=some o)/\H3 e=some (.lst (nS ((((bu (m:Int)).map (bM ts)).take i).foldl stepT (List.replicate p 0)))))
    ⟨none,none,none,rfl,fun _ _ z _=>z,s2 _ _ Uo⟩ (fun i σ H3 _ ⟨_,_,_,_,z,_⟩=>aS.of (z _ _ hL (Ne.symm heL))) ?_ ?_
   ·rintro i y D' σ H3 hi ⟨v1,v2,v3,rfl,z3,Io⟩;obtain⟨t,ht,c,rfl,hc⟩:=Paired.sI pr hi;have hce:c≠e:=aY hc (s2 _ _ Uo) (by intro z;cases z)
    have hc3:=z3 _ _ hc hce;have htm:t∈ts:=by
     obtain⟨k,hk,rfl⟩:=List.mem_map.mp (List.mem_of_getElem? ht);unfold bM;have qO:=vf hm hk;rw[List.getD_eq_getElem?_getD];simp[qO]
    obtain⟨a0,a1,b0,b1⟩:=W.inw.ends t htm;obtain⟨t1,t2,t3⟩:=t;dsimp only at a0 a1 b0 b1;obtain⟨j1,rfl⟩:=Int.eq_ofNat_of_zero_le a0;obtain⟨j2,rfl⟩:=Int.eq_ofNat_of_zero_le b0;generalize hE:(((bu (m:Int)).map (bM ts)).take i).foldl stepT (List.replicate p 0)=EE at Io;have hEl:EE.length=p:=by rw[<-hE,sN,List.length_replicate]
    have hj1:j1<EE.length:=by lia
    have LO:j2<(bump EE (j1:Int)).length:=by rw[kP];lia
    refine⟨c,_,rfl,aX.of hc3,rfl,_,_,rfl,_,_,rfl,_,_,rfl,rfl,?_⟩;refine(au rfl (au rfl ⟨e,_,j1,_,rfl,rfl,aS.of Io,sO hj1,_,_,rfl,rfl,e,_,_,j1,rfl,rfl,Io,q9 (by rw[nS,List.length_map];exact hj1),?_⟩))
    rw[vP];refine(au rfl (au rfl ⟨e,_,j2,_,rfl,rfl,aS.of ah,sO LO,_,_,rfl,rfl,e,_,_,j2,rfl,rfl,ah,q9 (by rw[nS,List.length_map];exact LO),?_⟩))
    rw[vP];refine⟨_,_,_,rfl,fun x o z hx=>by rw[aq hx,aq hx];exact z3 x o z hx,?_⟩
    rw[ah,List.take_add_one,ht,List.foldl_append,hE];rfl
   ·rintro σ H3 ⟨v1,v2,v3,rfl,z3,Io⟩;have hwe:wb≠e:=bR h1 Sd;have xH:av H H3:=fun x o z=>z3 x o (s12 x o z) (bR z Sd)
    have hE:H3 e=some (.lst (nS (kB p ts (m:Int)))):=by
     rw[Io,List.take_of_length_le (by rw[<-pr.length];exact Nat.le_refl _),yQ hm]
    have hEl:(kB p ts (m:Int)).length=p:=by rw[yQ hm,sN,List.length_replicate]
    refine(au rfl (cu (aX.of (xH _ _ h1)) (ao (j:=0) rfl) (au rfl ⟨(by lia),(by lia),fun D hD=>cD (lo:=0) (m:=p) (pV (fun i=>decide ((kB p ts (m:Int)).getD i 0%2=1)) H3 D) (.start hD) (fun i acc H4 _ p=>p.len) (dl (Nat.ble_eq.mpr (by lia))) ?_ ?_⟩)))
    ·intro i acc H4 hi pk;rw[Int.zero_add];refine⟨rfl,au rfl (au rfl (kD (aS.of (pk.1 _ _ hE)) (ao (j:=i) (sO (by rw[hEl];exact hi))) (bQ ⟨(nR rfl),rfl,au rfl (?_)⟩)))⟩
     rw[Mq];cases hb:decide ((kB p ts (m:Int)).getD i 0%2=1) with
     | true=>exact(au rfl (pk.yes hD (av.refl _) hb))
     | false=>exact pk.no (av.refl _) hb
    ·intro acc H4 pk;exact q D H4 (xH.trans pk.1) (by rw[pk.2.1,pk.2.2];rfl)
  ·exact .inr ⟨hS,q _ s1⟩
end
section
variable {P:Program}{w:World}{K:PySem.W.Frag}{mg:Str->Option Value}{base:Heap}{a:qP}
theorem ux(T:Txt K mg a):bE P w K mg base (Ak P w) 6 a.pG a.tQ ["web","tie_set"] (EO a.fb):=by
 have m6:=m6 (P:=P) (w:=w) (base:=base) T;refine T.zy.Jw Et (fun vs H Q E h=>?_) (fun cdv A outer s H vs Q E hr h=>?_)
 ·obtain⟨w,p,ts,S,rfl,_⟩:=h;rfl
 ·obtain⟨wb,p,ts,S,rfl,hw,W,q⟩:=h;refine⟨_,(ay (aL (cI (Ai K hr.units) (aA m6 (hr.mono (by decide)) (by rfl) T.AO T.A7 T.AQ .nil gJ.passes (aa (pv 0) (aa (pv 1) ai))) (eR ai) (aO _)))),?_⟩
  refine(au rfl (au rfl ⟨wb,p,ts,S,rfl,hw,W,?_⟩));rcases q with⟨m,rfl,hm,q⟩|⟨hS,q⟩
  ·refine .inl ⟨m,rfl,hm,fun D H1 s1 hD=>⟨dl rfl,fun l hl=>?_⟩⟩
   have s2:av H1 (upd H1 l (.lst [])):=av.new hl;refine⟨_,_,.lst (aS.of (s2 _ _ hD)) (vQ _),.lst (aS.of ah) .nil,BL _,rfl,?_⟩;rw[Mp];exact q _ (s1.trans s2)
  ·exact .inr ⟨hS,q⟩
end
def Ll:Sp:=fun vs H Q _=>∃(l:Addr) (L:Nat->Nat) (p u v:Nat),vs=[.ref l,.int (u:Int),.int (v:Int)]/\H l=some (.lst (cJ L p))/\p<=10/\u<p/\v<p/\
 ∀ D H',H D=none->av H H'->H' D=some (.lst (cJ (RM.join L u v) p))->Q (.ref D) H'
def Ip(C:Addr):Sp:=fun vs H Q E=>∃ w p ts,∃ g:aF p ts,∃ S,vs=[.ref w,.int S]/\br H w p ts/\su ts S (∀ H',av H H'->E (.ref C) none H') fun m =>
 ∀ D ys H',H D=none->av H H'->H' D=some (.lst ys)->Paired (Nx D H H') ys ((fj (bL p ts g m) p).map (pieceOf (bL p ts g m) p))->Q (.ref D) H'
def M3:Sp:=fun vs H Q _=>∃ w p ts,∃ g:aF p ts,vs=[.ref w]/\br H w p ts/\∀ H',av H H'->Q (.int ((ae p ts g).bx.length:Int)) H'
section
variable {P:Program}{w:World}{K:PySem.W.Frag}{mg:Str->Option Value}{base:Heap}{a:qP}
theorem cP(T:Txt K mg a):bE P w K mg base iP 1 a.fD a.ik ["leasts","one","other"] Ll:=by
 refine T.lG.ok gP (fun vs H Q E h=>?_) (fun cdv A outer s H vs Q E hr h=>?_)
 ·obtain⟨l,L,p,u,v,rfl,_⟩:=h;rfl
 ·obtain⟨l,L,p,u,v,rfl,hl,hp,hu,hv,q⟩:=h;refine⟨_,(ak (aH (i:=3) gP.nd rfl (Or.inr rfl) (aR (Gx rfl) (by rfl) T.C8 PyProof.Rows.boot_min (aa (aB (kN K) (pv 0) (pv 1) (fun _ _=>rfl)) (aa (aB (kN K) (pv 0) (pv 2) (fun _ _=>rfl)) ai))))
   (ak (aH (i:=4) gP.nd rfl (Or.inr rfl) (aR (yI rfl) (by rfl) T.NQ PyProof.Rows.boot_max (aa (aB (kN K) (pv 0) (pv 1) (fun _ _=>rfl)) (aa (aB (kN K) (pv 0) (pv 2) (fun _ _=>rfl)) ai))))
   (ay (aL (bN (own:=["least"]) (frees:=["low","high"]) (js:=[3,4]) (aI (af bV) ["leasts","one","other","low","high"]) rfl (u9 K (pv 0)) (fun _ _ _ _=>(aC (i:=0) (show(["least","low","high"]:List Str).Nodup by decide +kernel) rfl (Or.inl rfl))) (fun _ _ _ _=>cB) (fun _ _ _ _=>(nM (aP dw (pv 0) (pv 2) (aO _)) (pv 1) (pv 0)))))))),?_⟩
  refine rJ ?_;intro cj cG;refine(au rfl (au rfl (kD (aS.of hl) (ao (j:=u) (bK hu)) (au rfl (au rfl (kD (aS.of hl) (ao (j:=v) (bK hv)) ⟨_,_,rfl,?_⟩))))));refine(au rfl (au rfl (kD (aS.of hl) (ao (j:=u) (bK hu)) (au rfl (au rfl (kD (aS.of hl) (ao (j:=v) (bK hv)) ⟨_,_,rfl,?_⟩))))));refine(au rfl ⟨l,rfl,⟨_,aS.of hl⟩,fun D hD=>bS (xs:=cJ L p) (vY (RM.join L u v) H D) (.start hD) (fun i acc H2 _ pd=>⟨aS.of (pd.1 _ _ hl),pd.len⟩) (by rw[cz];exact dl (Nat.ble_eq.mpr (by lia))) ?_ ?_⟩)
  ·intro i x acc H2 hx pd;obtain⟨hi,rfl⟩:=mC hx;refine⟨rfl,au rfl (au rfl ⟨rfl,au rfl (?_)⟩)⟩;rw[FF,jZ]
   by_cases hm:L i=max (L u) (L v)
   ·rw[decide_eq_true hm];refine fQ (au rfl (pd.next hD (av.refl _) ?_));rw[Mv];unfold RM.join;rw[if_pos hm]
   ·rw[decide_eq_false hm];refine eT (au rfl (pd.next hD (av.refl _) ?_));unfold RM.join;rw[if_neg hm]
  ·intro acc H2 pd;rw[cz]at pd;exact q D H2 hD pd.1 (by rw[pd.2.1,pd.2.2])
theorem lX(T:Txt K mg a):bE P w K mg base (Ak P w) 5 a.rR a.xq ["web","tie_set"] (Ip a.fb):=by
 have cL:=cL (P:=P) (w:=w) (base:=base) T;have cP:=cP (P:=P) (w:=w) (base:=base) T;refine T.CN.Jw gy (fun vs H Q E h=>?_) (fun cdv A outer s H vs Q E hr h=>?_)
 ·obtain⟨w,p,ts,g,S,rfl,_⟩:=h;rfl
 ·obtain⟨wb,p,ts,g,S,rfl,hw,q⟩:=h;refine⟨_,(ak (aH (i:=2) gy.nd rfl (Or.inr rfl) (cU (Nu rfl) (by rfl) T.Lc PyProof.Rows.boot_list (aa (cU BG (by rfl) T.cC PyProof.Rows.boot_range (aa (aB (ck K) (pv 0) aj (fun _ _=>rfl)) ai)) ai)))
   (ak (ve rfl (u9 K (aA cL (hr.mono (by decide)) (by rfl) T.mZ T.m5 T.m3 .nil gJ.passes (aa (pv 0) (aa (pv 1) ai)))) (IM K (n:=3) rfl (aV (aC (i:=3) gy.nd rfl (Or.inl rfl)) (aV (aC (i:=4) gy.nd rfl (Or.inl rfl)) (aV (aC (i:=5) gy.nd rfl (Or.inl rfl)) fc))))
   (ay (aH (i:=2) gy.nd rfl (Or.inr rfl) (aA cP (hr.mono (by decide)) (by rfl) T.lH T.lU T.lJ .nil aQ (aa (pv 2) (aa (pv 3) (aa (pv 4) ai)))))))
   (ak (aH (i:=6) gy.nd rfl (Or.inl rfl) (eR ai))
   (ak (ve rfl (bA (by rfl) T.cC (aa (aB (ck K) (pv 0) aj (fun _ _=>rfl)) ai)) (aC (i:=7) gy.nd rfl (Or.inr rfl))
   (ay (cM (aP dw (aB (kN K) (pv 2) (pv 7) (fun _ _=>rfl)) (pv 7) (aO _)) (ay (fW (MX K (qX PySem.F.plainAttrs_list PySem.F.slot_list_append PySem.F.type_list_append ff (pv 6) (aa (bN (own:=["point"]) (frees:=["leasts","start"]) (js:=[2,7]) (aI (af jP) ["web","tie_set","leasts","one","other","length","found","start"]) rfl (bA (by rfl) T.cC (aa (aB (ck K) (pv 0) aj (fun _ _=>rfl)) ai)) (fun _ _ _ _=>(aC (i:=0) (show(["point","leasts","start"]:List Str).Nodup by decide +kernel) rfl (Or.inl rfl))) (fun _ _ _ _=>(fX (aP dw (aB (kN K) (pv 1) (pv 0) (fun _ _=>rfl)) (pv 2) (aO _)))) (fun _ _ _ _=>(pv 0))) ai))))) aZ)))
   (ay (aL (pv 6))))))),?_⟩
  refine HD ?_;intro cj cG dI fL gj p9 zq;obtain⟨b,xs,h1,h2,h3⟩:=id hw.ex;have W:=g.JG;have wp:=W.pts;have wl:=W.len;refine(au rfl (cu (aX.of h1) (ao (j:=0) rfl) (au rfl (fun r hr=>⟨r,p,rfl,ah,by lia,fun l hl=>?_⟩))))
  have s1:av H (upd (upd H r (.Gp 0 (p:Int))) l (.lst (x6 p))):=(av.new hr).trans (av.new hl);have hl1:upd (upd H r (.Gp 0 (p:Int))) l (.lst (x6 p)) l=some (.lst (cJ (fun x=>x) p)):=ah
  generalize upd (upd H r (.Gp 0 (p:Int))) l (.lst (x6 p))=H1 at s1 hl1;refine(au rfl (au rfl ⟨wb,p,ts,S,rfl,hw.same s1,W,?_⟩));rcases q with⟨m,rfl,hm,q⟩|⟨hS,q⟩
  ·refine .inl ⟨m,rfl,hm,fun T0 ys H2 hTn s2 hT pr=>⟨T0,rfl,⟨_,aS.of hT⟩,?_⟩⟩
   have Se:ys.length<=24:=by
    rw[pr.length,List.length_map];have hb:Builtin.Int.intBits (m:Int)<=ts.length:=bits_le hm;have:=List.length_filter_le (bit (m:Int)) (List.range (Builtin.Int.intBits (m:Int)));rw[List.length_range]at this;exact Nat.le_trans this (by lia)
   refine gw (K:=K) (a:=T0) (xs:=ys) (fun i σ H3=>∃ la v3 v4 v5,σ=[some (.ref wb),some (.int (m:Int)),some (.ref la),v3,v4,v5,none,none]/\av H2 H3/\H3 la=some (.lst (cJ (uI p ts g ((bu (m:Int)).take i)) p)))
    ⟨l,none,none,none,rfl,av.refl _,s2 _ _ hl1⟩ (fun i σ H3 _ ⟨_,_,_,_,_,z,_⟩=>aS.of (z _ _ hT)) ?_ ?_
   ·rintro i y D' σ H3 hi ⟨la,v3,v4,v5,rfl,s3,hla⟩;obtain⟨t,ht,c,rfl,hc⟩:=Paired.sI pr hi;have hc3:=s3 _ _ hc;rw[List.getElem?_map]at ht;obtain⟨k,hk,hkt⟩:=Option.map_eq_some_iff.mp ht;have qO:=vf hm (List.mem_of_getElem? hk);have ea:=FA (g:=g) qO;have eb:=FD (g:=g) qO;rw[hkt]at ea eb;have la':=(ae p ts g).al k qO;have lb':=(ae p ts g).bl k qO;refine⟨c,_,rfl,aX.of hc3,rfl,_,_,rfl,_,_,rfl,_,_,rfl,rfl,?_⟩;refine(au rfl (au rfl (au rfl ⟨la,uI p ts g ((bu (m:Int)).take i),p,(ae p ts g).a k,(ae p ts g).b k,?_,hla,wp,la',lb',fun D H4 M4 s4 hD=>?_⟩)))
    ·rw[<-ea,<-eb];rfl
    ·refine⟨D,_,_,_,rfl,s3.trans s4,?_⟩;rw[hD,List.take_add_one,hk];show _=some (HO.lst (cJ (uI p ts g ((bu (m:Int)).take i++[k])) p));rw[DV]
   ·rintro σ H3 ⟨la,v3,v4,v5,rfl,s3,hla⟩;have hys:ys.length=(bu (m:Int)).length:=by rw[pr.length,List.length_map]
    rw[hys,List.take_length,DW hm]at hla;have xH:av H H3:=(s1.trans s2).trans s3;refine⟨dl rfl,fun D hD=>?_⟩
    have t0:wc (bL p ts g m) p H3 D 0 (upd H3 D (.lst [])):=wc.start hD;generalize upd H3 D (.lst [])=H4 at t0;refine(au rfl (cu (aX.of (t0.1 _ _ (xH _ _ h1))) (ao (j:=0) rfl) (au rfl ⟨(by lia),(by lia),?_⟩)))
    refine g8 (lo:=0) (n:=(p:Int).toNat) (fun i σ H5=>∃ v7,σ=[some (.ref wb),some (.int (m:Int)),some (.ref la),v3,v4,v5,some (.ref D),v7]/\wc (bL p ts g m) p H3 D i H5) ⟨none,rfl,t0⟩ ?_ ?_
    ·rintro i D' σ H5 hi ⟨v7,rfl,t5⟩;rw[Int.toNat_natCast]at hi;rw[Int.zero_add];have Sf:=t5.1 _ _ hla;refine(au rfl (au rfl (kD (aS.of Sf) (ao (j:=i) (bK hi)) (au rfl ⟨rfl,au rfl (?_)⟩))));rw[jZ]
     by_cases hr:bL p ts g m i=i
     ·rw[decide_eq_true hr];obtain⟨ys0,NS⟩:∃ ys,H5 D=some (.lst ys):=let⟨_,ys,z,_⟩:=t5;⟨ys,z⟩;refine fQ (au rfl ⟨.inl ⟨rfl,_,aS.of NS⟩,au rfl (cu (aX.of (t5.1 _ _ (xH _ _ h1))) (ao (j:=0) rfl) (au rfl ⟨(by lia),(by lia),fun B hB=>cD (lo:=0) (m:=(p:Int).toNat) (pV (fun x=>decide (bL p ts g m x=i)) H5 B) (.start hB) (fun i acc H6 _ pk=>pk.len) (dl (Nat.ble_eq.mpr (by lia))) ?_ ?_⟩))⟩)
      ·intro x acc H6 hx pk;rw[Int.toNat_natCast]at hx;rw[Int.zero_add];refine⟨rfl,au rfl (au rfl (kD (aS.of (pk.1 _ _ Sf)) (ao (j:=x) (bK hx)) (au rfl ⟨rfl,au rfl (?_)⟩)))⟩;rw[jZ];cases hb:decide (bL p ts g m x=i) with
       | true=>exact(au rfl (pk.yes hB (av.refl _) hb))
       | false=>exact pk.no (av.refl _) hb
      ·intro acc H6 pk;have hB6:H6 B=some (.lst (aG (pieceOf (bL p ts g m) p i))):=by rw[pk.2.1,pk.2.2,Int.toNat_natCast];rfl
       obtain⟨ys1,NT,hl1,t7⟩:=t5.push hD hr pk.1 hB hB6;exact⟨D,ys1,_,rfl,rfl,NT,kC (by lia),au rfl (t7)⟩
     ·rw[decide_eq_false hr];exact eT (au rfl (t5.skip hr))
    ·rintro σ H5 ⟨v7,rfl,t5⟩;rw[Int.toNat_natCast]at t5;obtain⟨s5,ys5,NS,pr5,hl5⟩:=t5;exact(au rfl (q D ys5 H5 (xH.free hD) (xH.trans s5) NS (Paired.imp' (fun _ _ ⟨e,he,hn,h0,z⟩=>⟨e,he,hn,xH.free h0,z⟩) pr5)))
  ·exact .inr ⟨hS,q _ s1⟩
theorem ER(T:Txt K mg a):bE P w K mg base iP 6 a.AN a.EH ["web"] M3:=by
 have lX:=lX (P:=P) (w:=w) (base:=base) T;have dY:=dY (P:=P) (w:=w) (base:=base) T;refine T.K4.ok MY (fun vs H Q E h=>?_) (fun cdv A outer s H vs Q E hr h=>?_)
 ·obtain⟨w,p,ts,g,rfl,_⟩:=h;rfl
 ·obtain⟨wb,p,ts,g,rfl,hw,q⟩:=h;refine⟨_,(ay (aL (aK fM (aK nN (aR (iZ K) (by rfl) T.dM PySem.boot_len (aa (aB (ck K) (pv 0) aj (fun _ _=>rfl)) ai)) (aB (ck K) (pv 0) aj (fun _ _=>rfl))) (aR (iZ K) (by rfl) T.dM PySem.boot_len (aa (aA lX (hr.mono (by decide)) (by rfl) T.CO T.Df T.CP .nil vM (aa (pv 0) (aa (aA dY (hr.mono (by decide)) (by rfl) T.qG T.qK T.qH .nil aQ (aa (pv 0) ai)) ai))) ai))))),?_⟩
  obtain⟨b,xs,h1,h2,h3⟩:=id hw.ex;have xU:=h3.length;have e2:((2:Int)^ts.length-1)=((2^ts.length-1:Nat):Int):=by
   have h:((2:Int)^ts.length)=((2^ts.length:Nat):Int):=by simp
   have:=Nat.two_pow_pos ts.length
   lia
  have hlt:2^ts.length-1<2^ts.length:=by have:=Nat.two_pow_pos ts.length;lia
  refine(au rfl (cu (aX.of h1) (ao (j:=1) rfl) (tI rfl (.inr (aX.of h2)) (au rfl (cu (aX.of h1) (ao (j:=0) rfl) (bQ (?_)))))));refine(au rfl (au rfl ⟨wb,p,ts,rfl,hw,g.JG,wb,p,ts,g,_,rfl,hw,.inl ⟨2^ts.length-1,e2,hlt,fun D ys H' M4 s' hD pr=>(tI rfl (.inl (aS.of hD)) (bQ (?_)))⟩⟩))
  have hv:=Mu (g:=g);have hy:ys.length=(fj (bL p ts g (2^ts.length-1)) p).length:=by rw[pr.length,List.length_map]
  show Q (.int ((xs.length:Int)-(p:Int)+(ys.length:Int))) H';rw[xU,hy,hv];exact q H' s'
end
def ES(C:Addr):Sp:=fun vs H Q E=>∃ w p ts,∃ g:aF p ts,∃ S,vs=[.ref w,.int S]/\br H w p ts/\su ts S (∀ H',av H H'->E (.ref C) none H') fun m=>∀ H',av H H'->Q (.bl (uK p ts g m)) H'
section
variable {P:Program}{w:World}{K:PySem.W.Frag}{mg:Str->Option Value}{base:Heap}{a:qP}
theorem uy(T:Txt K mg a):bE P w K mg base (Ak P w) 7 a.pH a.tR ["web","tie_set"] (ES a.fb):=by
 have ux:=ux (P:=P) (w:=w) (base:=base) T;have lX:=lX (P:=P) (w:=w) (base:=base) T;have cf:=cf (P:=P) (w:=w) (base:=base) T;refine T.zA.Jw w6 (fun vs H Q E h=>?_) (fun cdv A outer s H vs Q E hr h=>?_)
 ·obtain⟨w,p,ts,g,S,rfl,_⟩:=h;rfl
 ·obtain⟨wb,p,ts,g,S,rfl,hw,q⟩:=h;refine⟨_,(ak (cM (nL (eO (aA ux (hr.mono (by decide)) (by rfl) T.HM T.Ie T.HN .nil gJ.passes (aa (pv 0) (aa (pv 1) ai))))) (ay (aL qR)) aZ)
   (ak (iC (i:=2) w6.nd rfl rfl (own:=["piece"]) (frees:=[]) (js:=[]) (aI (af h8) ["web","tie_set","touched"]) rfl (u9 K (aA lX (hr.mono (by decide)) (by rfl) T.CO T.Df T.CP .nil gJ.passes (aa (pv 0) (aa (pv 1) ai)))) (fun _ _ _ _=>(aC (i:=0) (show(["piece"]:List Str).Nodup by decide +kernel) rfl (Or.inl rfl))) (fun _ _ _ _=>(fX (aP yH (aR (iZ K) (by rfl) T.dM PySem.boot_len (aa (pv 0) ai)) aj (aO _)))) (fun _ _ _ _=>(pv 0)))
   (ay (aL (qp (cI dw (aR (iZ K) (by rfl) T.dM PySem.boot_len (aa (pv 2) ai)) aj (aO _)) (vC (cI dw (aR (iZ K) (by rfl) T.dM PySem.boot_len (aa (aB (kN K) (pv 2) aj (fun _ _=>rfl)) ai)) (aR (iZ K) (by rfl) T.dM PySem.boot_len (aa (aA cf (hr.mono (by decide)) (by rfl) T.lE T.lT T.lF .nil aQ (aa (pv 1) ai)) ai)) (aO _)))))))),?_⟩
  refine Eu ?_;intro cj cG dI;have W:=g.JG;have wp:=g.p2;have wl:=g.len;refine(au rfl (au rfl ⟨wb,p,ts,S,rfl,hw,W,?_⟩));rcases q with⟨m,rfl,hm,q⟩|⟨hS,q⟩
  ·refine .inl ⟨m,rfl,hm,fun H1 s1=>(au rfl (?_))⟩
   by_cases ev:vN p ts (m:Int)=[]
   ·rw[decide_eq_true ev];rw[D5 ev]at q;refine eT (au rfl (au rfl ⟨wb,p,ts,g,_,rfl,hw.same s1,.inl ⟨m,rfl,hm,fun D ys H2 M4 s2 hD pr=>⟨D,rfl,⟨_,aS.of hD⟩,fun C hC=>?_⟩⟩⟩))
    have Se:ys.length<=10:=by
     rw[pr.length,List.length_map];unfold fj;have:=List.length_filter_le (fun x=>decide (bL p ts g m x=x)) (List.range p)
     rw[List.length_range]at this;exact Nat.le_trans this wp
    refine bS (xs:=ys) (wu (fun l=>decide (1<l.length)) ((fj (bL p ts g m) p).map (pieceOf (bL p ts g m) p)) H2 C) (.start hC) (fun i acc H3 _ sf=>⟨aS.of (sf.1 _ _ hD),sf.len⟩) (dm (by lia)) ?_ ?_
    ·intro i x acc H3 hx sf;obtain⟨l,hl,b,rfl,hbn,hb0,hb⟩:=Paired.sI pr hx;refine⟨rfl,au rfl (tI rfl (.inl (aS.of (sf.1 _ _ hb))) (bQ (au rfl (?_))))⟩;cases ET:decide (1<l.length) with
     | true =>
       have e:decide ((1:Int)<((aG l).length:Int))=true:=decide_eq_true (by have:=of_decide_eq_true ET;rw[aM];lia)
       show if decide ((1:Int)<((aG l).length:Int))=true then _ else _
       rw[e];exact fQ (au rfl (sf.yes hC hl ET ⟨b,rfl,hb⟩))
     | false =>
       have e:decide ((1:Int)<((aG l).length:Int))=false:=decide_eq_false (by have:=of_decide_eq_false ET;rw[aM];lia)
       show if decide ((1:Int)<((aG l).length:Int))=true then _ else _
       rw[e];exact eT (sf.no hl ET)
    ·intro acc H3 sf;have pa:Paired (OQ H2) acc ((eA (bL p ts g m) p).map (pieceOf (bL p ts g m) p)):=by
      have h:=sf.2.2;rw[pr.length,List.take_length,List.filter_map]at h;exact h
     have hal:=pa.length;rw[List.length_map]at hal;refine(au rfl (tI rfl (.inl (aS.of sf.2.1)) ⟨rfl,au rfl (?_)⟩));have xH:=(s1.trans s2).trans sf.1;have agP:Builtin.Int.intBits (m:Int)<=ts.length:=bits_le hm;generalize eA (bL p ts g m) p=tl at q pa hal;cases tl with
     | nil =>
       have hal:acc.length=0:=hal;rw[hal];exact eT (q H3 xH)
     | cons s r =>
       cases r with
       | nil =>
         cases pa with
         | cons hy pn =>
           cases pn;obtain⟨b,rfl,hb⟩:=hy;refine fQ (au rfl (kD (aS.of sf.2.1) (ao (j:=0) rfl) (tI rfl (.inl (aS.of (sf.1 _ _ hb))) (au rfl ⟨m,rfl,by lia,fun D4 H4 hn4 s4 DE=>(tI rfl (.inl (aS.of DE)) ⟨rfl,?_⟩)⟩))))
           rw[aM,aM,jZ];exact q H4 (xH.trans s4)
       | cons t r =>
         have hal:acc.length=r.length+2:=hal;have e:decide (V.int ((acc.length:Nat):Int)=V.int 1)=false:=decide_eq_false fun z=>by
          have:=V.int.inj z
          lia
         rw[e];exact eT (q H3 xH)
   ·rw[decide_eq_false ev];have er:uK p ts g m=false:=by
     unfold uK;rw[decide_eq_false ev,Bool.false_and]
    rw[er]at q;exact fQ (q H1 s1)
  ·exact .inr ⟨hS,q⟩
end
def sy:Sp:=fun vs H Q _=>∃ w p ts,∃ g:aF p ts,∃ S:Int,vs=[.ref w,.int S]/\br H w p ts/\∀ H' (d:Bool),av H H'->(d=true↔∃ m:Nat,S=(m:Int)/\m<2^ts.length/\(ae p ts g).Ring m)->Q (.bl d) H'
section
variable {P:Program}{w:World}{K:PySem.W.Frag}{mg:Str->Option Value}{base:Heap}{a:qP}
theorem iz(T:Txt K mg a):bE P w K mg base iP 8 a.fE a.iq ["web","number"] sy:=by
 have lW:=lW (P:=P) (w:=w) (base:=base) T;have uy:=uy (P:=P) (w:=w) (base:=base) T;refine T.lK.ok rK (fun vs H Q E h=>?_) (fun cdv A outer s H vs Q E hr h=>?_)
 ·obtain⟨w,p,ts,g,S,rfl,_⟩:=h;rfl
 ·obtain⟨wb,p,ts,g,S,rfl,hw,q⟩:=h;refine⟨_,(ay (aL (qp (aA lW (hr.mono (by decide)) (by rfl) T.CJ T.Dd T.CK .nil aQ (aa (pv 0) (aa (pv 1) ai))) (vC (aA uy (hr.mono (by decide)) (by rfl) T.HP T.Ig T.HQ .nil vM (aa (pv 0) (aa (pv 1) ai))))))),?_⟩
  have h2n:((2:Int)^ts.length)=((2^ts.length:Nat):Int):=by simp
  refine(au rfl (au rfl ⟨wb,p,ts,S,rfl,hw,g.JG,_,rfl,?_⟩))
  by_cases hs:0<=S/\S<2^ts.length
  ·rw[decide_eq_true hs];obtain⟨m,rfl⟩:=Int.eq_ofNat_of_zero_le hs.1;have hm:m<2^ts.length:=by lia
   refine fQ (au rfl (au rfl ⟨wb,p,ts,g,_,rfl,hw,.inl ⟨m,rfl,hm,fun H1 s1=>q H1 _ s1 ?_⟩⟩))
   rw[GS g hm];exact⟨fun r=>⟨m,rfl,hm,r⟩,fun⟨m',e,_,r⟩=>by
    have:m=m':=by lia
    rw[this];exact r⟩
  ·rw[decide_eq_false hs];refine eT (q H false (av.refl _) ⟨fun z=>(Bool.false_ne_true z).elim,fun⟨m',e,hm,_⟩=>absurd ⟨by lia,by lia⟩ hs⟩)
end
def Iq:Sp:=fun vs H Q _=>∃ w p ts,∃ g:aF p ts,vs=[.ref w]/\br H w p ts/\∀ D H',H D=none->av H H'->H' D=some (.lst (cJ ((ae p ts g).trail ts.length) p))->Q (.ref D) H'
def Ir:Sp:=fun vs H Q _=>∃ w p ts,∃ g:aF p ts,vs=[.ref w]/\br H w p ts/\∀ H',av H H'->Q (.int ((j6 p ts g:Nat):Int)) H'
def Iu:Sp:=fun vs H Q _=>∃ w p ts,∃ g:aF p ts,vs=[.ref w]/\br H w p ts/\∀ D H',H D=none->av H H'->H' D=some (.lst (aG (ae p ts g).bx))->Q (.ref D) H'
def xJ:Sp:=fun vs H Q _=>∃ w p ts,∃ g:aF p ts,∃(D:Addr) (c:Nat),vs=[.ref w,.ref D,.int (c:Int)]/\br H w p ts/\H D=some (.lst (cJ ((ae p ts g).trail ts.length) p))/\c<ts.length/\Q (.int (((ae p ts g).ring c:Nat):Int)) H
section
variable {P:Program}{w:World}{K:PySem.W.Frag}{mg:Str->Option Value}{base:Heap}{a:qP}
theorem EU{H:Hp}{xs:List V}{p:Nat}{ts:List dZ}{g:aF p ts}{k:Nat}(h3:Paired (TupAt H) xs ts)(hk:k<ts.length):∃ c,xs[k]?=some (.ref c)/\H c=some (.tup [.int (((ae p ts g).a k:Nat):Int),.int (((ae p ts g).b k:Nat):Int),.int (bM ts k).2.2]):=by
 have hkx:k<xs.length:=by rw[h3.length];exact hk
 obtain⟨t,ht,c,hc,hct⟩:=Paired.sI h3 (i:=k) (x:=xs[k]) (by simp[hkx])
 have RD:t=bM ts k:=by
  have z:=sQ hk;rw[ht]at z;exact Option.some.inj z
 refine⟨c,by rw[<-hc];simp[hkx],?_⟩
 rw[hct,<-FA hk,<-FD hk,RD];rfl
theorem bG(T:Txt K mg a):bE P w K mg base iP 2 a.fY a.iR ["web"] Iq:=by
 have cP:=cP (P:=P) (w:=w) (base:=base) T;refine T.nk.ok bg (fun vs H Q E h=>?_) (fun cdv A outer s H vs Q E hr h=>?_)
 ·obtain⟨w,p,ts,g,rfl,_⟩:=h;rfl
 ·obtain⟨wb,p,ts,g,rfl,hw,q⟩:=h;refine⟨_,(ak (aH (i:=1) bg.nd rfl (Or.inl rfl) (cU (Nu rfl) (by rfl) T.Lc PyProof.Rows.boot_list (aa (cU BG (by rfl) T.cC PyProof.Rows.boot_range (aa (aB (ck K) (pv 0) aj (fun _ _=>rfl)) ai)) ai)))
   (ak (aH (i:=2) bg.nd rfl (Or.inl rfl) (aK DR (eR (aa aj ai)) (aB (ck K) (pv 0) aj (fun _ _=>rfl))))
   (ak (gE PassesOwn.never rfl (bA (by rfl) T.cC (aa (aR (iZ K) (by rfl) T.dM PySem.boot_len (aa (aB (ck K) (pv 0) aj (fun _ _=>rfl)) ai)) ai)) (aC (i:=3) bg.nd rfl (Or.inl rfl))
   (ak (aH (i:=4) bg.nd rfl (Or.inl rfl) (aB (ck K) (aB (ck K) (aB (ck K) (pv 0) aj (fun _ _=>rfl)) (pv 3) (fun _ _=>rfl)) aj (fun _ _=>rfl)))
   (ak (aH (i:=5) bg.nd rfl (Or.inl rfl) (aB (ck K) (aB (ck K) (aB (ck K) (pv 0) aj (fun _ _=>rfl)) (pv 3) (fun _ _=>rfl)) aj (fun _ _=>rfl)))
   (ay (cM (aP uG (aB (kN K) (pv 1) (pv 4) (fun _ _=>rfl)) (aB (kN K) (pv 1) (pv 5) (fun _ _=>rfl)) (aO _)) (ak (aH (i:=6) bg.nd rfl (Or.inr rfl) (aK gF (aK gF (aB (kN K) (pv 2) (pv 4) (fun _ _=>rfl)) (aB (kN K) (pv 2) (pv 5) (fun _ _=>rfl))) (aK jE aj (pv 3))))
   (ak (aH (i:=7) bg.nd rfl (Or.inr rfl) (aR (yI rfl) (by rfl) T.NQ PyProof.Rows.boot_max (aa (aB (kN K) (pv 1) (pv 4) (fun _ _=>rfl)) (aa (aB (kN K) (pv 1) (pv 5) (fun _ _=>rfl)) ai))))
   (ak (iC (i:=2) bg.nd rfl rfl (own:=["trail","least"]) (frees:=["bridge","moved"]) (js:=[6,7]) (aI (af cE) ["web","leasts","trails","tie","one","other","bridge","moved"]) rfl (JA K (by rfl) T.NR (aa (pv 2) (aa (pv 1) ai))) (fun _ _ _ _=>(IM K (n:=2) rfl (aV (aC (i:=0) (show(["trail","least","bridge","moved"]:List Str).Nodup by decide +kernel) rfl (Or.inl rfl)) (aV (aC (i:=1) (show(["trail","least","bridge","moved"]:List Str).Nodup by decide +kernel) rfl (Or.inl rfl)) fc)))) (fun _ _ _ _=>cB) (fun _ _ _ _=>(nM (aP dw (pv 1) (pv 3) (aO _)) (aK gF (pv 0) (pv 2)) (pv 0))))
   (ay (aH (i:=1) bg.nd rfl (Or.inl rfl) (aA cP (hr.mono (by decide)) (by rfl) T.lH T.lU T.lJ .nil aQ (aa (pv 1) (aa (pv 4) (aa (pv 5) ai))))))))) aZ)))))
   (ay (aL (pv 2)))))),?_⟩
  refine tK ?_;intro cj cG dI fL gj p9 zq Ge Gf NP;obtain⟨bt,xs,h1,h2,h3⟩:=id hw.ex;have wp:=g.p2;have wl:=g.len;have xU:=h3.length;refine(au rfl (cu (aX.of h1) (ao (j:=0) rfl) (au rfl (fun r hr=>⟨r,p,rfl,ah,by lia,fun l hl=>?_⟩))))
  have s1:av H (upd (upd H r (.Gp 0 (p:Int))) l (.lst (x6 p))):=(av.new hr).trans (av.new hl);have hl1:upd (upd H r (.Gp 0 (p:Int))) l (.lst (x6 p)) l=some (.lst (cJ ((ae p ts g).fO 0) p)):=ah;generalize upd (upd H r (.Gp 0 (p:Int))) l (.lst (x6 p))=H1 at s1 hl1;refine⟨dl rfl,fun l0 BC=>?_⟩
  have s0:av H1 (upd H1 l0 (.lst [.int 0])):=av.new BC;refine(au rfl (cu (aX.of (s0 _ _ (s1 _ _ h1))) (ao (j:=0) rfl) ⟨l0,(p:Int),au rfl ⟨rfl,ah,by lia,by lia,(by rw[Int.toNat_natCast];show 1*p<=sizeLine;exact dl (Nat.ble_eq.mpr (by lia))),fun e he=>?_⟩⟩))
  have s2:=s0.trans (av.new (o:=.lst (List.replicate (p:Int).toNat [V.int 0]).flatten) he);have Mk:upd (upd H1 l0 (.lst [.int 0])) e (.lst (List.replicate (p:Int).toNat [V.int 0]).flatten) e=some (.lst (cJ ((ae p ts g).trail 0) p)):=by
   rw[ah,Int.toNat_natCast,BQ];rfl
  generalize upd (upd H1 l0 (.lst [.int 0])) e (.lst (List.replicate (p:Int).toNat [V.int 0]).flatten)=H2 at s2 Mk;refine(au rfl (cu (aX.of ((s1.trans s2) _ _ h1)) (ao (j:=1) rfl) (tI rfl (.inr (aX.of ((s1.trans s2) _ _ h2))) (au rfl ⟨(by lia),(by lia),?_⟩))))
  refine g8 (lo:=0) (n:=(xs.length:Int).toNat) (fun k σ H3=>∃ la ta v3 v4 v5 v6 v7,σ=[some (.ref wb),some (.ref la),some (.ref ta),v3,v4,v5,v6,v7]/\av H H3/\H3 la=some (.lst (cJ ((ae p ts g).fO k) p))/\H3 ta=some (.lst (cJ ((ae p ts g).trail k) p))/\H ta=none)
   ⟨l,e,none,none,none,none,none,rfl,s1.trans s2,s2 _ _ hl1,Mk,s1.free (s0.free he)⟩ ?_ ?_
  ·rintro k D' σ H3 hk ⟨la,ta,v3,v4,v5,v6,v7,rfl,s3,hla,NU,Qe⟩;rw[Int.toNat_natCast,xU]at hk;rw[Int.zero_add];obtain⟨c,hxc,hct⟩:=EU (g:=g) h3 hk;have hA:=(ae p ts g).al k hk;have hB:=(ae p ts g).bl k hk;have hls:=RM.BN (N:=ae p ts g) k;have M5:(ae p ts g).nV k = !decide ((ae p ts g).fO k ((ae p ts g).a k)=(ae p ts g).fO k ((ae p ts g).b k)):=rfl;have htr:(ae p ts g).trail (k+1)=if(ae p ts g).nV k=true then fun v=>if(ae p ts g).fO k v=max ((ae p ts g).fO k ((ae p ts g).a k)) ((ae p ts g).fO k ((ae p ts g).b k)) then(ae p ts g).trail k v^^^((ae p ts g).trail k ((ae p ts g).a k)^^^(ae p ts g).trail k ((ae p ts g).b k)^^^2^k) else(ae p ts g).trail k v else(ae p ts g).trail k:=rfl
   generalize (ae p ts g).a k=A0 at *;generalize (ae p ts g).b k=B0 at *;refine(au rfl (cu (aX.of (s3 _ _ h1)) (ao (j:=1) rfl) (au rfl (cu (aX.of (s3 _ _ h2)) (ao (j:=k) hxc) (cu (aX.of (s3 _ _ hct)) (ao (j:=0) rfl) (?_))))));refine(au rfl (cu (aX.of (s3 _ _ h1)) (ao (j:=1) rfl) (au rfl (cu (aX.of (s3 _ _ h2)) (ao (j:=k) hxc) (cu (aX.of (s3 _ _ hct)) (ao (j:=1) rfl) (?_))))));refine(au rfl (au rfl (kD (aS.of hla) (ao (j:=A0) (bK hA)) (au rfl (au rfl (kD (aS.of hla) (ao (j:=B0) (bK hB)) ⟨rfl,au rfl (?_)⟩))))));rw[jZ]
   by_cases he:(ae p ts g).fO k A0=(ae p ts g).fO k B0
   ·rw[decide_eq_true he]at M5;rw[M5,if_neg (by decide)]at hls htr
    rw[decide_eq_true he];exact eT ⟨la,ta,_,_,_,_,_,rfl,s3,by rw[hls];exact hla,by rw[htr];exact NU,Qe⟩
   ·rw[decide_eq_false he]at M5;rw[M5,if_pos (by rfl)]at hls htr
    rw[decide_eq_false he];have hbr:Builtin.bitXor (Builtin.bitXor (((ae p ts g).trail k A0:Nat):Int) (((ae p ts g).trail k B0:Nat):Int)) (1*2^(k:Int).toNat)=(((ae p ts g).trail k A0^^^(ae p ts g).trail k B0^^^2^k:Nat):Int):=by
     rw[jY,xor_int,xor_int]
    refine fQ (au rfl (au rfl (kD (aS.of NU) (ao (j:=A0) (bK hA)) (au rfl (au rfl (kD (aS.of NU) (ao (j:=B0) (bK hB)) (bQ (au rfl (bQ ⟨⟨by lia,by lia,by decide⟩,bQ (?_)⟩)))))))))
    refine(au rfl (au rfl (kD (aS.of hla) (ao (j:=A0) (bK hA)) (au rfl (au rfl (kD (aS.of hla) (ao (j:=B0) (bK hB)) ⟨_,_,rfl,?_⟩))))));refine(au rfl (au rfl ⟨ta,la,rfl,⟨_,aS.of NU⟩,⟨_,aS.of hla⟩,fun D hD=>BF (xs:=cJ ((ae p ts g).trail k) p) (ys:=cJ ((ae p ts g).fO k) p) (by rw[cz,cz]) (vY ((ae p ts g).trail (k+1)) H3 D) (.start hD) (fun i acc H4 _ pd=>⟨aS.of (pd.1 _ _ NU),aS.of (pd.1 _ _ hla),pd.len⟩) (by rw[cz];exact dl (Nat.ble_eq.mpr (by lia))) ?_ ?_⟩))
    ·intro i x y T0 acc H4 hx hy pd hT;obtain⟨hi,rfl⟩:=mC hx;obtain⟨_,rfl⟩:=mC hy;refine⟨T0,_,rfl,aX.of ah,rfl,_,_,rfl,_,_,rfl,rfl,rfl,au rfl (au rfl ⟨rfl,au rfl (?_)⟩)⟩;rw[FF,jZ]
     by_cases hm:(ae p ts g).fO k i=max ((ae p ts g).fO k A0) ((ae p ts g).fO k B0)
     ·rw[decide_eq_true hm];refine fQ (au rfl (au rfl (bQ (pd.next hD (av.new hT) ?_))));show V.int (Builtin.bitXor _ (Builtin.bitXor (Builtin.bitXor _ _) _))=_;rw[hbr,xor_int,htr];show _=V.int (((if _ then _ else _:Nat)):Int)
      rw[if_pos hm]
     ·rw[decide_eq_false hm];refine eT (au rfl (pd.next hD (av.new hT) ?_));rw[htr];show _=V.int (((if _ then _ else _:Nat)):Int)
      rw[if_neg hm]
    ·intro acc H4 pd;rw[cz]at pd;have DE:H4 D=some (.lst (cJ ((ae p ts g).trail (k+1)) p)):=by rw[pd.2.1,pd.2.2]
     refine(au rfl (au rfl (au rfl ⟨la,(ae p ts g).fO k,p,A0,B0,rfl,pd.1 _ _ hla,wp,hA,hB,fun D2 H5 hn5 s5 pY=>?_⟩)))
     exact⟨D2,D,_,_,_,_,_,rfl,(s3.trans pd.1).trans s5,by rw[hls];exact pY,s5 _ _ DE,s3.free hD⟩
  ·rintro σ H3 ⟨la,ta,v3,v4,v5,v6,v7,rfl,s3,hla,NU,Qe⟩;rw[Int.toNat_natCast,xU]at NU;exact(au rfl (q ta H3 Qe s3 NU))
theorem xK(T:Txt K mg a):bE P w K mg base iP 3 a.rS a.xr ["web"] Ir:=by
 have bG:=bG (P:=P) (w:=w) (base:=base) T;refine T.CQ.ok pC (fun vs H Q E h=>?_) (fun cdv A outer s H vs Q E hr h=>?_)
 ·obtain⟨w,p,ts,g,rfl,_⟩:=h;rfl
 ·obtain⟨wb,p,ts,g,rfl,hw,q⟩:=h;refine⟨_,(ak (aH (i:=1) pC.nd rfl (Or.inl rfl) aj)
   (ak (gE PassesOwn.never rfl (u9 K (aA bG (hr.mono (by decide)) (by rfl) T.iU T.iW T.iV .nil aQ (aa (pv 0) ai))) (aC (i:=2) pC.nd rfl (Or.inl rfl))
   (ay (z8 (i:=1) pC.nd rfl (Or.inl rfl) (pv 2) Jb)))
   (ay (aL (pv 1))))),?_⟩
  refine HE ?_;intro cj cG dI;refine(au rfl ⟨wb,p,ts,g,rfl,hw,fun D H1 M4 s1 hD=>⟨D,rfl,⟨_,aS.of hD⟩,?_⟩⟩)
  refine gw (K:=K) (a:=D) (xs:=cJ ((ae p ts g).trail ts.length) p) (fun i σ H2=>∃ v2,σ=[some (.ref wb),some (.int ((Qa ((ae p ts g).trail ts.length) i:Nat):Int)),v2]/\H2=H1) ⟨none,rfl,rfl⟩ (fun i σ H2 _ ⟨_,_,z⟩=>by rw[z];exact aS.of hD) ?_ ?_
  ·rintro i x D' σ H2 hx ⟨v2,rfl,rfl⟩;obtain⟨hi,rfl⟩:=mC hx;refine(au rfl (au rfl (bQ ⟨some (.int (((ae p ts g).trail ts.length i:Nat):Int)),?_,rfl⟩)));show[_,some (V.int (Builtin.bitOr _ _)),_]=_;rw[or_int];rfl
  ·rintro σ H2 ⟨v2,rfl,rfl⟩;rw[cz,DY];exact(au rfl (q _ s1))
theorem lY(T:Txt K mg a):bE P w K mg base iP 4 a.rT a.xu ["web"] Iu:=by
 have xK:=xK (P:=P) (w:=w) (base:=base) T;have dY:=dY (P:=P) (w:=w) (base:=base) T;have cf:=cf (P:=P) (w:=w) (base:=base) T;refine T.CS.ok HF (fun vs H Q E h=>?_) (fun cdv A outer s H vs Q E hr h=>?_)
 ·obtain⟨w,p,ts,g,rfl,_⟩:=h;rfl
 ·obtain⟨wb,p,ts,g,rfl,hw,q⟩:=h;refine⟨_,(ay (aL (aA cf (hr.mono (by decide)) (by rfl) T.lE T.lT T.lF .nil aQ (aa (aK gF (aA dY (hr.mono (by decide)) (by rfl) T.qG T.qK T.qH .nil aQ (aa (pv 0) ai)) (aA xK (hr.mono (by decide)) (by rfl) T.K5 T.Lh T.K6 .nil aQ (aa (pv 0) ai))) ai)))),?_⟩
  have wl:=g.len;refine(au rfl ⟨wb,p,ts,rfl,hw,g.JG,_,rfl,wb,p,ts,g,rfl,hw,fun H1 s1=>(bQ ⟨(2^ts.length-1)^^^j6 p ts g,?_,?_,fun D H2 M4 s2 hD=>?_⟩)⟩)
  ·show[V.int (Builtin.bitXor _ _)]=_;rw[Mx,xor_int]
  ·exact Nat.le_trans (bits_le yX) (by lia)
  ·rw[BR]at hD;exact q D H2 (s1.free M4) (s1.trans s2) hD
theorem kK(T:Txt K mg a):bE P w K mg base iP 1 a.iD a.kG ["web","trails","chord"] xJ:=by
 refine T.qa.ok om (fun vs H Q E h=>?_) (fun cdv A outer s H vs Q E hr h=>?_)
 ·obtain⟨w,p,ts,g,D,c,rfl,_⟩:=h;rfl
 ·obtain⟨wb,p,ts,g,D,c,rfl,hw,hD,hc,q⟩:=h;refine⟨_,(ak (aH (i:=3) om.nd rfl (Or.inl rfl) (aB (ck K) (aB (ck K) (pv 0) aj (fun _ _=>rfl)) (pv 2) (fun _ _=>rfl)))
   (ay (aL (aK gF (aK gF (aB (kN K) (pv 1) (aB (ck K) (pv 3) aj (fun _ _=>rfl)) (fun _ _=>rfl)) (aB (kN K) (pv 1) (aB (ck K) (pv 3) aj (fun _ _=>rfl)) (fun _ _=>rfl))) (aK jE aj (pv 2)))))),?_⟩
  refine w5 ?_;intro cj;obtain⟨bt,xs,h1,h2,h3⟩:=id hw.ex;have wl:=g.len;obtain⟨b,hxc,hct⟩:=EU (g:=g) h3 hc;have hA:=(ae p ts g).al c hc;have hB:=(ae p ts g).bl c hc;refine(au rfl (cu (aX.of h1) (ao (j:=1) rfl) (au rfl (cu (aX.of h2) (ao (j:=c) hxc) (?_)))));refine(au rfl (au rfl (cu (aX.of hct) (ao (j:=0) rfl) (kD (aS.of hD) (ao (j:=(ae p ts g).a c) (bK hA)) (au rfl (au rfl (cu (aX.of hct) (ao (j:=1) rfl) (kD (aS.of hD) (ao (j:=(ae p ts g).b c) (bK hB)) (bQ (au rfl (bQ ⟨⟨by lia,by lia,by decide⟩,bQ (?_)⟩)))))))))))
  show Q (V.int (Builtin.bitXor (Builtin.bitXor _ _) _)) H;rw[jY,xor_int,xor_int];exact q
end
def yy(C:Addr):Sp:=fun vs H Q E=>∃ w p ts,∃ g:aF p ts,∃ S,vs=[.ref w,.int S]/\br H w p ts/\
 ((∃ c:Nat,S=(c:Int)/\c∈(ae p ts g).bx/\∀ H',av H H'->Q (.int (((ae p ts g).ring c:Nat):Int)) H')\/((∀ c∈(ae p ts g).bx,S≠((c:Nat):Int))/\∀ H',av H H'->E (.ref C) none H'))
section
variable {P:Program}{w:World}{K:PySem.W.Frag}{mg:Str->Option Value}{base:Heap}{a:qP}
theorem m7(T:Txt K mg a):bE P w K mg base (Ak P w) 5 a.jd a.mP ["web","tie"] (yy a.ua):=by
 have lY:=lY (P:=P) (w:=w) (base:=base) T;have bG:=bG (P:=P) (w:=w) (base:=base) T;have kK:=kK (P:=P) (w:=w) (base:=base) T;refine T.rZ.Jw yg (fun vs H Q E h=>?_) (fun cdv A outer s H vs Q E hr h=>?_)
 ·obtain⟨w,p,ts,g,S,rfl,_⟩:=h;rfl
 ·obtain⟨wb,p,ts,g,S,rfl,hw,q⟩:=h;refine⟨_,(ak (cM (aP (Js K) (pv 1) (aA lY (hr.mono (by decide)) (by rfl) T.CT T.Dg T.CU .nil aQ (aa (pv 0) ai)) (by with_unfolding_all rfl)) (ay (vL gJ.V2 rfl (by rfl) T.Ic PySem.F.excBase_ValueError (aa mq ai))) aZ)
   (ay (aL (aA kK (hr.mono (by decide)) (by rfl) T.yp T.yu T.yq .nil aQ (aa (pv 0) (aa (aA bG (hr.mono (by decide)) (by rfl) T.iU T.iW T.iV .nil aQ (aa (pv 0) ai)) (aa (pv 1) ai))))))),?_⟩
  refine yh ?_;intro cj cG;refine(au rfl (au rfl ⟨wb,p,ts,g,rfl,hw,fun D H1 M4 s1 hD=>(tI rfl (.inl (aS.of hD)) ⟨rfl,sR _,_,rfl,?_⟩)⟩))
  rcases q with⟨c,rfl,hc,q⟩|⟨hS,q⟩
  ·rw[rA,decide_eq_true hc];refine eT (au rfl (au rfl ⟨wb,p,ts,g,rfl,hw.same s1,fun D2 H2 hn2 s2 pY=>(au rfl ⟨wb,p,ts,g,D2,c,rfl,hw.same (s1.trans s2),pY,(RM.bU.mp hc).1,q _ (s1.trans s2)⟩)⟩))
  ·rw[OO hS];exact fQ ⟨dl rfl,q _ s1⟩
end
def Iv:Sp:=fun vs H Q _=>∃ S1 S2,∃ a b:Nat,vs=[.int S1,.int S2]/\S1=(a:Int)/\S2=(b:Int)/\Builtin.Int.intBits ((a&&&b:Nat):Int)<=1000/\∀ H',av H H'->Q (.int (((bu ((a&&&b:Nat):Int)).length:Nat):Int)) H'
def Lm:Sp:=fun vs H Q _=>∃ S1 S2,∃ a b:Nat,vs=[.int S1,.int S2]/\S1=(a:Int)/\S2=(b:Int)/\Builtin.Int.intBits ((a&&&b:Nat):Int)<=1000/\∀ H',av H H'->Q (.bl (decide ((bu ((a&&&b:Nat):Int)).length%2=1))) H'
structure Pp(p:Nat)(xs:List Nat):Prop where
 up:xs.Pairwise (· < ·)
 lt:∀ x∈xs,x<p
def EV:Sp:=fun vs H Q _=>∃ w p ts,∃(l:Addr) (xs:List Nat),vs=[.ref w,.ref l]/\br H w p ts/\H l=some (.lst (aG xs))/\Pp p xs/\Q (.bl true) H
def Iw:Sp:=fun vs H Q _=>∃ w p ts,∃(l:Addr) (ks:List Nat),vs=[.ref w,.ref l]/\br H w p ts/\Mn p ts/\H l=some (.lst (aG ks))/\(∀ k∈ks,k<ts.length)/\Q (.int ((orM ks:Nat):Int)) H
def Iz:Sp:=fun vs H Q _=>∃ w p ts,∃ g:aF p ts,∃(l:Addr) (xs:List Nat),vs=[.ref w,.ref l]/\br H w p ts/\H l=some (.lst (aG xs))/\Pp p xs/\
 ∀ H',av H H'->Q (.int (((ae p ts g).cut (fun x=>decide (x∈xs)):Nat):Int)) H'
theorem Dm(p:Nat)(f:Nat->Bool):Pp p ((List.range p).filter f):=⟨DX,fun x hx=>List.mem_range.mp (List.mem_filter.mp hx).1⟩
theorem M6(n:Nat):decide (V.int (((n:Nat):Int)%2)=V.int 1)=decide (n%2=1):=decide_eq_decide.mpr ⟨fun z=>by have:=V.int.inj z;lia,fun z=>congrArg V.int (by lia)⟩
section
variable {P:Program}{w:World}{K:PySem.W.Frag}{mg:Str->Option Value}{base:Heap}{a:qP}
theorem xM(T:Txt K mg a):bE P w K mg base iP 3 a.rV a.xw ["one","other"] Iv:=by
 have cf:=cf (P:=P) (w:=w) (base:=base) T;refine T.CY.ok HG (fun vs H Q E h=>?_) (fun cdv A outer s H vs Q E hr h=>?_)
 ·obtain⟨S1,S2,u,v,rfl,_⟩:=h;rfl
 ·obtain⟨S1,S2,u,v,rfl,rfl,rfl,hb,q⟩:=h;refine⟨_,(ay (aL (aR (iZ K) (by rfl) T.dM PySem.boot_len (aa (aA cf (hr.mono (by decide)) (by rfl) T.lE T.lT T.lF .nil aQ (aa (aK z9 (pv 0) (pv 1)) ai)) ai)))),?_⟩
  refine(au rfl (au rfl (bQ ⟨u&&&v,?_,hb,fun D H1 hn s1 hD=>(tI rfl (.inl (aS.of hD)) (?_))⟩)))
  ·show[V.int (Builtin.bitAnd _ _)]=_;rw[and_int]
  ·rw[aM];exact q H1 s1
theorem eI(T:Txt K mg a):bE P w K mg base iP 4 a.iE a.kH ["tie_set","marks"] Lm:=by
 have xM:=xM (P:=P) (w:=w) (base:=base) T;refine T.qb.ok w9 (fun vs H Q E h=>?_) (fun cdv A outer s H vs Q E hr h=>?_)
 ·obtain⟨S1,S2,u,v,rfl,_⟩:=h;rfl
 ·obtain⟨S1,S2,u,v,rfl,rfl,rfl,hb,q⟩:=h;refine⟨_,(ay (aL (cI dw (aK cT (aA xM (hr.mono (by decide)) (by rfl) T.K7 T.Li T.K8 .nil aQ (aa (pv 0) (aa (pv 1) ai))) aj) aj (aO _)))),?_⟩
  refine(au rfl (au rfl ⟨_,_,u,v,rfl,rfl,rfl,hb,fun H1 s1=>(bQ ⟨(nR rfl),rfl,?_⟩)⟩))
  rw[M6];exact q H1 s1
theorem uz(T:Txt K mg a):bE P w K mg base iP 1 a.pJ a.tS ["web","side"] EV:=by
 refine T.zB.ok mE (fun vs H Q E h=>?_) (fun cdv A outer s H vs Q E hr h=>?_)
 ·obtain⟨w,p,ts,l,xs,rfl,_⟩:=h;rfl
 ·obtain⟨wb,p,ts,l,zs,rfl,hw,hl,sd,q⟩:=h;refine⟨_,(ak (aH (i:=2) mE.nd rfl (Or.inl rfl) (QS Ol aj))
   (ak (gE PassesOwn.never rfl (u9 K (pv 1)) (aC (i:=3) mE.nd rfl (Or.inl rfl))
   (ak (cM (PW.pt (uF (aP Jd (pv 3) (pv 2) (aO _)) (qo (aP Fj (pv 3) (aB (ck K) (pv 0) aj (fun _ _=>rfl)) (aO _))))) (ay (aL qR)) aZ)
   (ay (aH (i:=2) mE.nd rfl (Or.inl rfl) (pv 3)))))
   (ay (aL qR)))),?_⟩
  refine Ew ?_;intro cj cG dI fL gj;obtain⟨bt,xs,h1,h2,h3⟩:=id hw.ex;refine(au rfl (au rfl ⟨l,rfl,⟨_,aS.of hl⟩,vF (K:=K) (a:=l) (xs:=aG zs) (fun i σ H2=>∃ z v3,σ=[some (.ref wb),some (.ref l),some (.int z),v3]/\H2=H/\∀ x∈zs.drop i,z<(x:Int)) ⟨_,none,rfl,rfl,fun x _=>by show(-1:Int)<_;lia⟩ (fun i σ H2 _ ⟨_,_,_,z,_⟩=>by rw[z];exact aS.of hl) ?_ ?_⟩))
  ·rintro i y σ H2 hy ⟨z,v3,rfl,rfl,hz⟩;obtain⟨x,hx,rfl⟩:=kQ hy;have hdr:zs.drop i=x::zs.drop (i+1):=by
    obtain⟨hi,e⟩:=List.getElem?_eq_some_iff.mp hx;rw[List.drop_eq_getElem_cons hi,e]
   have hzx:=hz x (by rw[hdr];exact List.mem_cons_self)
   have hxp:=sd.lt x (List.mem_of_getElem? hx);refine(au rfl (au rfl (bQ (au rfl (GD (by lia) (au rfl (au rfl (cu (aX.of h1) (ao (j:=0) rfl) (bQ (au rfl (GD (by lia) ?_)))))))))))
   refine(au rfl ⟨(x:Int),au rfl ⟨rfl,fun y hy=>?_⟩⟩)
   have pw:(zs.drop i).Pairwise (· < ·):=sd.up.sublist (List.drop_sublist _ _);rw[hdr]at pw;have:=(List.pairwise_cons.mp pw).1 y hy
   lia
  ·rintro σ H2 ⟨z,v3,rfl,rfl,_⟩;exact q
theorem lZ(T:Txt K mg a):bE P w K mg base iP 1 a.rP a.xn ["web","ties"] Iw:=by
 refine T.CF.ok pB (fun vs H Q E h=>?_) (fun cdv A outer s H vs Q E hr h=>?_)
 ·obtain⟨w,p,ts,l,ks,rfl,_⟩:=h;rfl
 ·obtain⟨wb,p,ts,l,ks,rfl,hw,W,hl,hk,q⟩:=h;refine⟨_,(ak (aH (i:=2) pB.nd rfl (Or.inl rfl) aj)
   (ak (gE PassesOwn.never rfl (u9 K (pv 1)) (aC (i:=3) pB.nd rfl (Or.inl rfl))
   (ak (cM (PW.pt (uF (aP Fi (pv 3) aj (aO _)) (qo (aP Fj (pv 3) (aR (iZ K) (by rfl) T.dM PySem.boot_len (aa (aB (ck K) (pv 0) aj (fun _ _=>rfl)) ai)) (aO _))))) yG aZ)
   (ay (z8 (i:=2) pB.nd rfl (Or.inl rfl) (aK jE aj (pv 3)) Jb))))
   (ay (aL (pv 2))))),?_⟩
  refine HB ?_;intro cj cG dI fL gj;obtain⟨bt,xs,h1,h2,h3⟩:=id hw.ex;have xU:=h3.length;have wl:=W.len;refine(au rfl ⟨l,rfl,⟨_,aS.of hl⟩,vF (K:=K) (a:=l) (xs:=aG ks) (fun i σ H2=>∃ v3,σ=[some (.ref wb),some (.ref l),some (.int ((orM (ks.take i):Nat):Int)),v3]/\H2=H) ⟨none,rfl,rfl⟩ (fun i σ H2 _ ⟨_,_,z⟩=>by rw[z];exact aS.of hl) ?_ ?_⟩)
  ·rintro i x σ H2 hx ⟨v3,rfl,rfl⟩;obtain⟨k,hki,rfl⟩:=kQ hx;have hkn:=hk k (List.mem_of_getElem? hki);refine(au rfl (bQ (au rfl (GD (by lia) (au rfl (au rfl (cu (aX.of h1) (ao (j:=1) rfl) (tI rfl (.inr (aX.of h2)) (bQ (au rfl (GD (by lia) ?_)))))))))))
   refine(au rfl (au rfl (bQ ⟨⟨by lia,by lia,by decide⟩,bQ ⟨some (.int (k:Int)),?_,rfl⟩⟩)))
   show[_,_,some (V.int (Builtin.bitOr _ (1*2^(k:Int).toNat))),_]=_;rw[jY,or_int,List.take_add_one,hki];unfold Ring.orM;rw[List.foldl_append];rfl
  ·rintro σ H2 ⟨v3,rfl,rfl⟩;rw[aM,List.take_length];exact(au rfl (q))
theorem xN(T:Txt K mg a):bE P w K mg base iP 2 a.rW a.xx ["web","side"] Iz:=by
 have uz:=uz (P:=P) (w:=w) (base:=base) T;have lZ:=lZ (P:=P) (w:=w) (base:=base) T;refine T.CZ.ok HH (fun vs H Q E h=>?_) (fun cdv A outer s H vs Q E hr h=>?_)
 ·obtain⟨w,p,ts,g,l,xs,rfl,_⟩:=h;rfl
 ·obtain⟨wb,p,ts,g,l,zs,rfl,hw,hl,sd,q⟩:=h;refine⟨_,(ak (cM (nL (eO (aA uz (hr.mono (by decide)) (by rfl) T.HR T.Ih T.HS .nil aQ (aa (pv 0) (aa (pv 1) ai))))) yG aZ)
   (ay (aL (aA lZ (hr.mono (by decide)) (by rfl) T.CG T.C9 T.CH .nil aQ (aa (pv 0) (aa (bN (own:=["k","tie"]) (frees:=["side"]) (js:=[1]) (aI (af jQ) ["web","side"]) rfl (BV K (by rfl) T.ku (aa (aB (ck K) (pv 0) aj (fun _ _=>rfl)) ai)) (fun _ _ _ _=>(IM K (n:=2) rfl (aV (aC (i:=0) (show(["k","tie","side"]:List Str).Nodup by decide +kernel) rfl (Or.inl rfl)) (aV (aC (i:=1) (show(["k","tie","side"]:List Str).Nodup by decide +kernel) rfl (Or.inl rfl)) fc)))) (fun _ _ _ _=>(fX (aP uG (cI (inK K) (aB (ck K) (pv 1) aj (fun _ _=>rfl)) (pv 2) (by with_unfolding_all rfl)) (cI (inK K) (aB (ck K) (pv 1) aj (fun _ _=>rfl)) (pv 2) (by with_unfolding_all rfl)) (aO _)))) (fun _ _ _ _=>(pv 0))) ai)))))),?_⟩
  refine HJ ?_;intro cj cG;obtain⟨bt,xs,h1,h2,h3⟩:=id hw.ex;have xU:=h3.length;have wl:=g.len;refine(au rfl (au rfl ⟨wb,p,ts,l,zs,rfl,hw,hl,sd,_,rfl,eT ?_⟩));refine(au rfl (au rfl (cu (aX.of h1) (ao (j:=1) rfl) ⟨bt,rfl,⟨_,aX.of h2⟩,fun D hD=>D9 (xs:=xs) (pV (fun k=>decide ((ae p ts g).a k∈zs)^^decide ((ae p ts g).b k∈zs)) H D) (.start hD) (fun i acc H2 _ pk=>⟨aX.of (pk.1 _ _ h2),pk.len⟩) (dm (by lia)) ?_ ?_⟩)))
  ·intro i x T0 acc H2 hx pk hT;have hi:i<ts.length:=by have:=(List.getElem?_eq_some_iff.mp hx).1;lia
   obtain⟨b,hxb,hct⟩:=EU (g:=g) h3 hi;rw[hx]at hxb;cases hxb;have Sg:upd H2 T0 (.tup [.int (i:Int),.ref b]) b=some _:=av.new hT _ _ (pk.1 _ _ hct);have hl2:upd H2 T0 (.tup [.int (i:Int),.ref b]) l=some _:=av.new hT _ _ (pk.1 _ _ hl);refine⟨T0,_,rfl,aX.of ah,rfl,_,_,rfl,_,_,rfl,rfl,rfl,?_⟩;refine(au rfl (cu (aX.of Sg) (ao (j:=0) rfl) (au rfl (tI rfl (.inl (aS.of hl2)) ⟨rfl,sR _,_,rfl,cu (aX.of Sg) (ao (j:=1) rfl) (au rfl (tI rfl (.inl (aS.of hl2)) ⟨rfl,sR _,rfl,au rfl (?_)⟩))⟩))));rw[rA,rA];cases e1:decide ((ae p ts g).a i∈zs)<;>cases e2:decide ((ae p ts g).b i∈zs)
   ·exact pk.no (av.new hT) (by rw[e1,e2];rfl)
   ·exact(au rfl (pk.yes hD (av.new hT) (by rw[e1,e2];rfl)))
   ·exact(au rfl (pk.yes hD (av.new hT) (by rw[e1,e2];rfl)))
   ·exact pk.no (av.new hT) (by rw[e1,e2];rfl)
  ·intro acc H2 pk;refine⟨wb,p,ts,D,_,rfl,hw.same pk.1,g.JG,by rw[pk.2.1,pk.2.2],fun k hk=>?_,?_⟩
   ·have:=List.mem_range.mp (List.mem_filter.mp hk).1
    lia
   ·rw[Ea,xU];exact q H2 pk.1
end
def gB(p:Nat)(ts:List dZ)(g:aF p ts)(m:Nat):List Nat:=(List.range p).filter fun x=>(ae p ts g).par ((ae p ts g).trail ts.length x) m
def Told(p:Nat)(ts:List dZ)(g:aF p ts)(m:Nat)(H H' : Hp)(t:Addr):Prop :=
 (m=(ae p ts g).cut (fun x=>decide (x∈gB p ts g m))/\∃ l,H l=none/\H' t=some (.tup [.str "side",.ref l])/\H' l=some (.lst (aG (gB p ts g m))))\/
 (∃ c,c∈(ae p ts g).bx/\(ae p ts g).par ((ae p ts g).ring c) m=true/\H' t=some (.tup [.str "ring",.int (((ae p ts g).ring c:Nat):Int)]))
def EW(C:Addr):Sp:=fun vs H Q E=>∃ w p ts,∃ g:aF p ts,∃ S,vs=[.ref w,.int S]/\br H w p ts/\su ts S (E (.ref C) none H) fun m=>∀ t H',H t=none->av H H'->Told p ts g m H H' t->Q (.ref t) H'
theorem Dp{p:Nat}{ts:List dZ}{g:aF p ts}{m:Nat}:(ae p ts g).cut (fun x=>decide (x∈gB p ts g m))=(ae p ts g).cut fun x=>(ae p ts g).par ((ae p ts g).trail (ae p ts g).n x) m:=RM.yZ fun x hx=>by
 unfold gB;rw[Bool.eq_iff_iff,decide_eq_true_eq,List.mem_filter,List.mem_range];exact⟨fun z=>z.2,fun z=>⟨hx,z⟩⟩
theorem EX{m:Nat}(h:m≠0):∃ c,(bu (m:Int))[0]?=some c/\m.testBit c=true:=by
 obtain⟨k,hk⟩:=Nat.exists_testBit_of_ne_zero h;have hm:k∈bu (m:Int):=by
  unfold bu;refine List.mem_filter.mpr ⟨List.mem_range.mpr (Nat.lt_of_not_le fun z=>?_),by rw[fg];exact hk⟩
  have:=BJ z;rw[fg,hk]at this;cases this
 cases e:bu (m:Int) with
 | nil =>
   rw[e]at hm;cases hm
 | cons c r =>
   have hc:c∈bu (m:Int):=by rw[e];exact List.mem_cons_self
   unfold bu at hc;have:=(List.mem_filter.mp hc).2;rw[fg]at this;exact⟨c,rfl,this⟩
theorem iM{u v:Nat}(h:u^^^v=0):u=v:=by
 have:=congrArg (fun x=>x^^^v) h
 simpa[Nat.xor_assoc]using this
theorem Ln(n:Nat):decide (V.int ((n:Nat):Int)=V.int 0)=decide (n=0):=decide_eq_decide.mpr ⟨fun z=>by have:=V.int.inj z;lia,fun z=>by rw[z];rfl⟩
section
variable {P:Program}{w:World}{K:PySem.W.Frag}{mg:Str->Option Value}{base:Heap}{a:qP}
theorem jz(T:Txt K mg a):bE P w K mg base (Ak P w) 6 a.pL a.tT ["web","tie_set"] (EW a.fb):=by
 have di:=di (P:=P) (w:=w) (base:=base) T;have bG:=bG (P:=P) (w:=w) (base:=base) T;have eI:=eI (P:=P) (w:=w) (base:=base) T;have xN:=xN (P:=P) (w:=w) (base:=base) T;have cf:=cf (P:=P) (w:=w) (base:=base) T;have m7:=m7 (P:=P) (w:=w) (base:=base) T;refine T.zC.Jw mF (fun vs H Q E h=>?_) (fun cdv A outer s H vs Q E hr h=>?_)
 ·obtain⟨w,p,ts,g,S,rfl,_⟩:=h;rfl
 ·obtain⟨wb,p,ts,g,S,rfl,hw,q⟩:=h;refine⟨_,(ak (fW (aA di (hr.mono (by decide)) (by rfl) T.oJ T.oO T.oM .nil gJ.passes (aa (pv 0) (aa (pv 1) ai))))
   (ak (aH (i:=2) mF.nd rfl (Or.inr rfl) (aA bG (hr.mono (by decide)) (by rfl) T.iU T.iW T.iV .nil aQ (aa (pv 0) ai)))
   (ak (iC (i:=3) mF.nd rfl rfl (own:=["point"]) (frees:=["tie_set","trails"]) (js:=[1,2]) (aI (af ia) ["web","tie_set","trails","side","amiss"]) rfl (bA (by rfl) T.cC (aa (aB (ck K) (pv 0) aj (fun _ _=>rfl)) ai)) (fun _ _ _ _=>(aC (i:=0) (show(["point","tie_set","trails"]:List Str).Nodup by decide +kernel) rfl (Or.inl rfl))) (fun _ _ _ _=>(fX (eO (aA eI (hr.mono (by decide)) (by rfl) T.qf T.ql T.qg .nil aQ (aa (aB (kN K) (pv 2) (pv 0) (fun _ _=>rfl)) (aa (pv 1) ai)))))) (fun _ _ _ _=>(pv 0)))
   (ak (aH (i:=4) mF.nd rfl (Or.inl rfl) (aK gF (pv 1) (aA xN (hr.mono (by decide)) (by rfl) T.K9 T.Lj T.La .nil aQ (aa (pv 0) (aa (pv 3) ai)))))
   (ak (cM (aP dw (pv 4) aj (aO _)) (ay (aL (dQ (aa mq (aa (pv 3) ai))))) aZ)
   (ay (aL (dQ (aa mq (aa (aA m7 (hr.mono (by decide)) (by rfl) T.AR T.A8 T.AS .nil gJ.passes (aa (pv 0) (aa (aB (kN K) (aA cf (hr.mono (by decide)) (by rfl) T.lE T.lT T.lF .nil aQ (aa (pv 4) ai)) aj (fun _ _=>rfl)) ai))) ai)))))))))),?_⟩
  refine Ex ?_;intro cj cG dI fL gj p9;obtain⟨bt,xs,h1,h2,h3⟩:=id hw.ex;have wl:=g.len;have wp:=g.p2;have W:=g.JG;rcases q with⟨m,rfl,hm,q⟩|⟨hS,q⟩
  case inr=>exact(au rfl (au rfl ⟨wb,p,ts,_,rfl,hw,W,.inr ⟨hS,q⟩⟩))
  refine(au rfl (au rfl ⟨wb,p,ts,_,rfl,hw,W,.inl ⟨m,rfl,hm,?_⟩⟩));refine(au rfl ⟨wb,p,ts,g,rfl,hw,fun D H1 hn1 s1 hD=>?_⟩)
  refine(au rfl (cu (aX.of (s1 _ _ h1)) (ao (j:=0) rfl) (au rfl ⟨(by lia),(by lia),fun C hC=>cD (lo:=0) (m:=(p:Int).toNat) (pV (fun x=>(ae p ts g).par ((ae p ts g).trail ts.length x) m) H1 C) (.start hC) (fun i acc H2 _ pk=>pk.len) (dm (by lia)) ?_ ?_⟩)))
  ·intro i acc H2 hi pk;rw[Int.toNat_natCast]at hi;rw[Int.zero_add];have Lp:Builtin.Int.intBits (((ae p ts g).trail ts.length i&&&m:Nat):Int)<=1000:=Nat.le_trans (bits_le (Nat.and_lt_two_pow _ hm)) (by lia)
   refine⟨rfl,au rfl (au rfl (kD (aS.of (pk.1 _ _ hD)) (ao (j:=i) (bK hi)) (au rfl ⟨_,_,(ae p ts g).trail ts.length i,m,rfl,rfl,rfl,Lp,fun H3 s3=>(au rfl (?_))⟩)))⟩
   rw[FN (g:=g) hm];cases hb:(ae p ts g).par ((ae p ts g).trail ts.length i) m with
   | true=>exact(au rfl (pk.yes hC s3 hb))
   | false=>exact pk.no s3 hb
  ·intro acc H2 pk;have Lq:H2 C=some (.lst (aG (gB p ts g m))):=by rw[pk.2.1,pk.2.2,Int.toNat_natCast];rfl
   have s12:=s1.trans pk.1;refine(au rfl (au rfl (au rfl ⟨wb,p,ts,g,C,_,rfl,hw.same s12,Lq,Dm p _,fun H3 s3=>(bQ (?_))⟩)))
   have xH:=s12.trans s3;dsimp only;rw[xor_int,Dp];have ac:=fun k=>RM.BX (N:=ae p ts g) (m:=m) (k:=k) hm
   have hlt:(m^^^(ae p ts g).cut fun x=>(ae p ts g).par ((ae p ts g).trail (ae p ts g).n x) m)<2^ts.length:=Nat.xor_lt_two_pow hm (RM.JS _)
   have hz:(m^^^(ae p ts g).cut fun x=>(ae p ts g).par ((ae p ts g).trail (ae p ts g).n x) m)=0->m=(ae p ts g).cut (fun x=>decide (x∈gB p ts g m)):=fun z=>by rw[Dp];exact iM z
   generalize (m^^^(ae p ts g).cut fun x=>(ae p ts g).par ((ae p ts g).trail (ae p ts g).n x) m)=A at ac hlt hz
   refine(au rfl ⟨rfl,au rfl (?_)⟩);rw[Ln]
   by_cases hA:A=0
   ·rw[decide_eq_true hA];refine fQ (au rfl ⟨dl rfl,fun t ht=>q t _ (xH.free ht) (xH.trans (av.new ht)) (.inl ⟨hz hA,C,s1.free hC,ah,av.new ht _ _ (s3 _ _ Lq)⟩)⟩)
   ·rw[decide_eq_false hA];obtain⟨c,hc0,hcb⟩:=EX hA;obtain⟨hcn,hcf,hcp⟩:=ac c hcb;refine eT (au rfl (au rfl ⟨A,rfl,Nat.le_trans (bits_le hlt) (by lia),fun D4 H4 hn4 s4 DE=>(kD (aS.of DE) (ao (j:=0) (An hc0)) ⟨wb,p,ts,g,_,rfl,hw.same (xH.trans s4),.inl ⟨c,rfl,RM.bU.mpr ⟨hcn,hcf⟩,fun H5 s5=>⟨dl rfl,fun t ht=>?_⟩⟩⟩)⟩))
    have s15:=(xH.trans s4).trans s5;exact q t _ (s15.free ht) (s15.trans (av.new ht)) (.inr ⟨c,RM.bU.mpr ⟨hcn,hcf⟩,hcp,ah⟩)
end
def Bf(C:Addr):Sp:=fun vs H Q E=>∃ w p ts S,vs=[.ref w,.int S]/\br H w p ts/\Mn p ts/\su ts S (∀ H',av H H'->E (.ref C) none H') fun m=>∀ H',av H H'->Q (.int (lenOf ts m)) H'
section
variable {P:Program}{w:World}{K:PySem.W.Frag}{mg:Str->Option Value}{base:Heap}{a:qP}
theorem oQ(T:Txt K mg a):bE P w K mg base (Ak P w) 5 a.j9 a.oz ["web","tie_set"] (Bf a.fb):=by
 have cL:=cL (P:=P) (w:=w) (base:=base) T;refine T.uS.Jw AG (fun vs H Q E h=>?_) (fun cdv A outer s H vs Q E hr h=>?_)
 ·obtain⟨w,p,ts,S,rfl,_⟩:=h;rfl
 ·obtain⟨wb,p,ts,S,rfl,hw,W,q⟩:=h;refine⟨_,(ay (aL (aR (sumK K rfl) (by rfl) T.Le PyProof.Rows.boot_sum (aa (bN (own:=["tie"]) (frees:=[]) (js:=[]) (aI (af eW) ["web","tie_set"]) rfl (u9 K (aA cL (hr.mono (by decide)) (by rfl) T.mZ T.m5 T.m3 .nil gJ.passes (aa (pv 0) (aa (pv 1) ai)))) (fun _ _ _ _=>(aC (i:=0) (show(["tie"]:List Str).Nodup by decide +kernel) rfl (Or.inl rfl))) (fun _ _ _ _=>cB) (fun _ _ _ _=>(aB (ck K) (pv 0) aj (fun _ _=>rfl)))) ai)))),?_⟩
  refine(au rfl (au rfl ⟨wb,p,ts,S,rfl,hw,W,?_⟩));rcases q with⟨m,rfl,hm,q⟩|⟨hS,q⟩
  ·refine .inl ⟨m,rfl,hm,fun L ys H1 hLn s1 hL pr=>⟨L,rfl,⟨_,aS.of hL⟩,fun D hD=>?_⟩⟩
   have wl:=W.len;have Se:ys.length=(bu (m:Int)).length:=by rw[pr.length,List.length_map]
   have WG:ys.length<=24:=by
    rw[Se];have hb:Builtin.Int.intBits (m:Int)<=ts.length:=bits_le hm;have:=List.length_filter_le (bit (m:Int)) (List.range (Builtin.Int.intBits (m:Int)));rw[List.length_range]at this;exact Nat.le_trans this (by lia)
   refine bS (xs:=ys) (x8 (fun k=>(bM ts k).2.2) (bu (m:Int)) H1 D) (.start hD) (fun i acc H2 _ pm=>⟨aS.of (pm.1 _ _ hL),pm.len⟩) (dm WG) ?_ ?_
   ·intro i x acc H2 hx pm;obtain⟨t,ht,c,rfl,hc⟩:=Paired.sI pr hx;rw[List.getElem?_map]at ht;obtain⟨k,hk,rfl⟩:=Option.map_eq_some_iff.mp ht;exact⟨rfl,au rfl (cu (aX.of (pm.1 _ _ hc)) (ao (j:=2) rfl) (pm.next hD (av.refl _) hk rfl))⟩
   ·intro acc H2 pm;rw[Se]at pm;exact⟨D,_,rfl,aS.of pm.fin,q H2 (s1.trans pm.1)⟩
  ·exact .inr ⟨hS,q _ (av.refl _)⟩
end
def Gh(ts:List dZ)(x y:Nat):Prop:=lenOf ts x<lenOf ts y\/(lenOf ts x=lenOf ts y/\x<=y)
def Lr(t:Addr)(lp:Pos):Sp:=fun vs H Q _=>∃ w p ts,∃ g:aF p ts,∃(l:Addr) (ms:List Nat),vs=[.ref w,.ref l]/\br H w p ts/\H l=some (.lst (aG ms))/\ms.length<64/\(∀ m∈ms,m<2^ts.length)/\H t=some (.jT (fk (rG "by_length") lp))/\
 ∀ D ms' H',H D=none->av H H'->H' D=some (.lst (aG ms'))->ms'.Perm ms->ms'.Pairwise (Gh ts)->Q (.ref D) H'
theorem NV:∀{l:List Int},(∀ x∈l,0<=x)->∃ ms:List Nat,l=ms.map (fun x=>((x:Nat):Int))
 | [],_=>⟨[],rfl⟩
 | x::r,h=>by
   obtain⟨ms,e⟩:=NV (l:=r) fun y hy=>h y (List.mem_cons_of_mem _ hy)
   have hx:=h x List.mem_cons_self;refine⟨x.toNat::ms,?_⟩;rw[List.map_cons,<-e]
   congr 1
   lia
section
variable {P:Program}{w:World}{K:PySem.W.Frag}{mg:Str->Option Value}{base:Heap}{a:qP}
theorem oR(T:Txt K mg a):bE P w K mg base iP 9 a.kc a.oA ["web","rings"] (Lr a.iO gQ):=by
 have oQ:=oQ (P:=P) (w:=w) (base:=base) T;refine T.oN.ok AH (fun vs H Q E h=>?_) (fun A outer s H vs Q E hr h=>?_)
 ·obtain⟨w,p,ts,g,l,ms,rfl,_⟩:=h;rfl
 ·obtain⟨wb,p,ts,g,l,ms,rfl,hw,hl,h64,hms,htb,q⟩:=h;refine⟨_,(ay (aL (K0 (x:="ring") (frees:=["web"]) (js:=[0]) hr (aI (af eX) ["web","rings"]) rfl (by rfl) T.Ld rfl T.oN.hd (aa (pv 1) ai) (fun _ _ _ _ hr=>(dQ (aa (aA oQ (hr.mono (by decide)) (by rfl) T.CL T.De T.CM .nil vM (aa (pv 1) (aa (pv 0) ai))) (aa (pv 0) ai))))))),?_⟩
  have W:=g.JG;have wl:=g.len;have big:(2:Nat)^ts.length<=2^24:=Nat.pow_le_pow_right (by decide) wl
  have Pq:∀ n,n∈ms.map (fun x=>((x:Nat):Int))->∃ m:Nat,n=(m:Int)/\m∈ms:=fun n hn=>by
   obtain⟨m,hm,rfl⟩:=List.mem_map.mp hn;exact⟨m,rfl,hm⟩
  refine(au rfl ⟨l,ms.map (fun x=>((x:Nat):Int)),fun z=>(lenOf ts z.toNat,z),rfl,by rw[<-jI];exact hl,by rw[List.length_map];exact h64,fun n hn=>?_,htb,fun H3 hk n hn=>?_,fun D ns' H4 hD s4 DE hp hs=>?_⟩)
  ·obtain⟨m,rfl,hm⟩:=Pq n hn;have:=hms m hm;exact⟨by show(0:Int)<=(m:Int);lia,by show(m:Int)<1073741824;lia⟩
  ·obtain⟨m,rfl,hm⟩:=Pq n hn;have tp:dH H H3:=fun b xs e=>hk b _ e (fun y z=>nomatch z) (fun y z=>nomatch z)
   refine(au rfl (au rfl ⟨wb,p,ts,_,rfl,hw.tups tp,W,.inl ⟨m,rfl,hms m hm,fun H4 s4=>(au rfl ⟨dl rfl,fun d hd=>?_⟩)⟩⟩))
   exact⟨s4.trans (av.new hd),d,rfl,ah⟩
  ·obtain⟨ms',rfl⟩:∃ ms' : List Nat,ns' = ms'.map (fun x=>((x:Nat):Int)):=by
    refine NV fun x hx=>?_
    obtain⟨m,rfl,_⟩:=Pq x (hp.mem_iff.mp hx)
    lia
   have WH:ms'.Perm ms:=by
    have:=hp.map Int.toNat;rw[List.map_map,List.map_map]at this;have e:∀ l:List Nat,l.map (Int.toNat∘fun x=>((x:Nat):Int))=l:=fun l=>by
     induction l with
     | nil=>rfl
     | cons x r ih=>rw[List.map_cons,ih];rfl
    rw[e,e]at this;exact this
   refine q D ms' H4 hD s4 (by rw[jI];exact DE) WH ?_
   rw[List.pairwise_map]at hs;refine List.Pairwise.imp_of_mem (fun {x y} hx hy h=>?_) hs
   have hx:=hms x (WH.mem_iff.mp hx);have hy:=hms y (WH.mem_iff.mp hy);have h:lenOf ts x*1073741824+(x:Int)<=lenOf ts y*1073741824+(y:Int):=h;unfold Gh
   lia
end
def Ls:Sp:=fun vs H Q _=>∃ w p ts,∃ g:aF p ts,∃ m:Nat,vs=[.ref w,.int (m:Int)]/\br H w p ts/\m<2^ts.length/\
 ∀ D es S H',es.length=p->Hu m H D es S H'->NJ (ae p ts g) ts.length S->Q (.ref D) H'
theorem Pu{b:Bool}{σ:St}{f:VK}{H:Hp}(h:f (.int (b.toNat:Int)) H):if b=true then tC (.int 1) σ H f else tC (.int 0) σ H f:=by
 cases b<;>exact h
section
variable {P:Program}{w:World}{K:PySem.W.Frag}{mg:Str->Option Value}{base:Heap}{a:qP}
theorem iA(T:Txt K mg a):bE P w K mg base iP 2 a.fF a.ir ["web","marks"] Ls:=by
 have bZ:=bZ (P:=P) (w:=w) (base:=base) T;refine T.lM.ok cZ (fun vs H Q E h=>?_) (fun cdv A outer s H vs Q E hr h=>?_)
 ·obtain⟨w,p,ts,g,m,rfl,_⟩:=h;rfl
 ·obtain⟨wb,p,ts,g,m,rfl,hw,hm,q⟩:=h;refine⟨_,(ak (iC (i:=2) cZ.nd rfl rfl (own:=["point"]) (frees:=[]) (js:=[]) (aI (af bW) ["web","marks","steps","tie","ends","turn"]) rfl (bA (by rfl) T.cC (aa (aB (ck K) (pv 0) aj (fun _ _=>rfl)) ai)) (fun _ _ _ _=>(aC (i:=0) (show(["point"]:List Str).Nodup by decide +kernel) rfl (Or.inl rfl))) (fun _ _ _ _=>cB) (fun _ _ _ _=>(eR ai)))
   (ak (gE PassesOwn.never rfl (BV K (by rfl) T.ku (aa (aB (ck K) (pv 0) aj (fun _ _=>rfl)) ai)) (IM K (n:=2) rfl (aV (aC (i:=3) cZ.nd rfl (Or.inl rfl)) (aV (aC (i:=4) cZ.nd rfl (Or.inl rfl)) fc)))
   (ak (aH (i:=5) cZ.nd rfl (Or.inl rfl) (nM (eO (aA bZ (hr.mono (by decide)) (by rfl) T.lC T.lR T.lD .nil aQ (aa (pv 1) (aa (pv 3) ai)))) aj aj))
   (ak (fW (MX K (qX PySem.F.plainAttrs_list PySem.F.slot_list_append PySem.F.type_list_append ff (aB (kN K) (pv 2) (aB (ck K) (pv 4) aj (fun _ _=>rfl)) (fun _ _=>rfl)) (aa (dQ (aa (pv 3) (aa (aB (ck K) (pv 4) aj (fun _ _=>rfl)) (aa (pv 5) ai)))) ai))))
   (ay (fW (MX K (qX PySem.F.plainAttrs_list PySem.F.slot_list_append PySem.F.type_list_append ff (aB (kN K) (pv 2) (aB (ck K) (pv 4) aj (fun _ _=>rfl)) (fun _ _=>rfl)) (aa (dQ (aa (pv 3) (aa (aB (ck K) (pv 4) aj (fun _ _=>rfl)) (aa (pv 5) ai)))) ai))))))))
   (ay (aL (pv 2))))),?_⟩
  refine rL ?_;intro cj cG dI fL gj;obtain⟨bt,xs,h1,h2,h3⟩:=id hw.ex;have xU:=h3.length;have wp:=g.p2;have wl:=g.len;refine(au rfl (cu (aX.of h1) (ao (j:=0) rfl) (au rfl ⟨(by lia),(by lia),fun D hD=>cD (lo:=0) (m:=p) (NI m H D) (.start hD) (fun i acc H2 _ z=>z.len) (dl (Nat.ble_eq.mpr (by lia))) ?_ ?_⟩)))
  ·rintro i acc H2 hi f2;exact⟨rfl,dl rfl,fun l hl=>f2.next hl⟩
  rintro acc H2 ⟨es,rfl,hel,f2⟩;refine(au rfl (cu (aX.of (f2.same _ _ h1)) (ao (j:=1) rfl) ⟨bt,rfl,⟨_,aX.of (f2.same _ _ h2)⟩,?_⟩));refine G3 (K:=K) (a:=bt) (xs:=xs) (fun k σ H3=>∃ v3 v4 v5,σ=[some (.ref wb),some (.int (m:Int)),some (.ref D),v3,v4,v5]/\∃ S,Hu m H D es S H3/\NJ (ae p ts g) k S) ⟨none,none,none,rfl,_,f2,NJ.start⟩ (fun k σ H3 _ ⟨_,_,_,_,_,z,_⟩=>aX.of (z.same _ _ h2)) ?_ ?_
  ·rintro k x T0 σ H3 hk ⟨v3,v4,v5,rfl,S,f3,k3⟩ hT;have hkx:k<xs.length:=(List.getElem?_eq_some_iff.mp hk).1;have qO:k<ts.length:=by lia
   obtain⟨ct,ex,hct⟩:=sX (g:=g) h3 qO;rw[hk]at ex;cases ex;have s4:av H3 (upd H3 T0 (.tup [.int (k:Int),.ref ct])):=av.new hT;have Ua:upd H3 T0 (.tup [.int (k:Int),.ref ct]) T0=some (.tup [.int (k:Int),.ref ct]):=ah;have f4:=f3.go s4;generalize upd H3 T0 (.tup [.int (k:Int),.ref ct])=H4 at f4 Ua;refine⟨T0,_,rfl,aX.of Ua,rfl,_,_,rfl,_,_,rfl,rfl,?_⟩;refine(au rfl (au rfl ⟨(m:Int),k,rfl,au rfl (?_)⟩));rw[fg];have ha:(ae p ts g).a k<p:=(ae p ts g).al k qO;have hb:(ae p ts g).b k<p:=(ae p ts g).bl k qO;have Pw:=f4.same _ _ hct;refine Pu ?_;obtain⟨b1,WI,e1,e1',hb1,q1⟩:=f4.get (i:=(ae p ts g).a k) (by lia)
   refine(au rfl (au rfl (cu (aX.of Pw) (ao (j:=0) rfl) (kD (aS.of f4.lst) (ao e1) (?_)))));have l1:WI.length<=2*k:=by rw[q1.length];exact k3.len _
   refine⟨.inl ⟨rfl,_,aS.of hb1⟩,au rfl (au rfl (cu (aX.of Pw) (ao (j:=1) rfl) (au rfl ⟨dl rfl,fun t1 Lu=>?_⟩)))⟩
   have s5:av H4 (upd H4 t1 (.tup [.int (k:Int),.int ((ae p ts g).b k:Int),.int ((m.testBit k).toNat:Int)])):=av.new Lu;have u5:jO m (upd H4 t1 (.tup [.int (k:Int),.int ((ae p ts g).b k:Int),.int ((m.testBit k).toNat:Int)])) t1 (k,(ae p ts g).b k):=ah;have f5:=f4.go s5;have hb5:=s5 _ _ hb1;have agT:=s5 _ _ Pw;have q5:Paired (jO m (upd H4 t1 (.tup [.int (k:Int),.int ((ae p ts g).b k:Int),.int ((m.testBit k).toNat:Int)]))) WI (S ((ae p ts g).a k)):=Paired.z5 q1 fun _ _ z=>s5 _ _ z
   refine⟨b1,_,_,rfl,rfl,hb5,kC (by rw[List.length_map];lia),?_⟩
   have f6:=f5.put e1' hb5 q5 u5;have Px:=f6.same _ _ hct;generalize upd (upd H4 t1 (.tup [.int (k:Int),.int ((ae p ts g).b k:Int),.int ((m.testBit k).toNat:Int)])) b1 (.lst (WI.map V.ref++[.ref t1]))=H6 at f6 Px;obtain⟨b2,cs2,e2,e2',ET,q2⟩:=f6.get (i:=(ae p ts g).b k) (by lia)
   refine(au rfl (au rfl (cu (aX.of Px) (ao (j:=1) rfl) (kD (aS.of f6.lst) (ao e2) (?_)))));have l2:cs2.length<=2*k+1:=by
    rw[q2.length];unfold wU;have:=k3.len ((ae p ts g).b k)
    split
    ·rw[List.length_append,List.length_singleton];lia
    ·lia
   refine⟨.inl ⟨rfl,_,aS.of ET⟩,au rfl (au rfl (cu (aX.of Px) (ao (j:=0) rfl) (au rfl ⟨dl rfl,fun t2 M7=>?_⟩)))⟩
   have s7:av H6 (upd H6 t2 (.tup [.int (k:Int),.int ((ae p ts g).a k:Int),.int ((m.testBit k).toNat:Int)])):=av.new M7;have u7:jO m (upd H6 t2 (.tup [.int (k:Int),.int ((ae p ts g).a k:Int),.int ((m.testBit k).toNat:Int)])) t2 (k,(ae p ts g).a k):=ah;have f7:=f6.go s7;have Qj:=s7 _ _ ET;refine⟨b2,_,_,rfl,rfl,Qj,kC (by rw[List.length_map];lia),?_⟩
   exact⟨_,_,_,rfl,_,f7.put e2' Qj (Paired.z5 q2 fun _ _ z=>s7 _ _ z) u7,k3.next⟩
  ·rintro σ H3 ⟨v3,v4,v5,rfl,S,f3,k3⟩;refine(au rfl (q D es S H3 hel f3 ?_));rw[<-xU];exact k3
end
def kL(p:Nat)(N:RM.Net)(L:Nat->Int)(m u:Nat)(D:Addr)(F:RM.OW)(H0 H:Hp):Prop:=∃ es:List Addr,es.length=p/\H D=some (.lst (es.map V.ref))/\
 (∀(i:Nat) b,es[i]?=some b->∃ v0 v1,H b=some (.lst [v0,v1])/\wV H (F i false) v0/\wV H (F i true) v1)/\(∀ x s,RM.Hg N L m u x s ((F x s).map (·.1)))/\(∀ x s d,F x s=some d->RM.Wz N L m u x s d.1 d.2)/\(∀ b∈es,H0 b=none)/\RM.Fx N L m u F
theorem M8(a b:Bool):Builtin.bitXor ((a.toNat:Nat):Int) ((b.toNat:Nat):Int)=(((a^^b).toNat:Nat):Int):=by
 cases a<;>cases b<;>decide
def yz(t:Addr)(lp:Pos):Sp:=fun vs H Q _=>∃ w p ts,∃ g:aF p ts,∃(m u:Nat),vs=[.ref w,.int (m:Int),.int (u:Int)]/\br H w p ts/\m<2^ts.length/\u<p/\H t=some (.jT (fk (rG "least_ways") lp))/\
 ∀ D F H',H D=none->av H H'->kL p (ae p ts g) (bz ts) m u D F H H'->Q (.ref D) H'
section
variable {P:Program}{w:World}{K:PySem.W.Frag}{mg:Str->Option Value}{base:Heap}{a:qP}
theorem m8(T:Txt K mg a):bE P w K mg base iP 5 a.je a.mQ ["web","marks","start"] (yz a.cK cy):=by
 have iA:=iA (P:=P) (w:=w) (base:=base) T;refine T.m4.ok bF (fun vs H Q E h=>?_) (fun A outer s H vs Q E hr h=>?_)
 ·obtain⟨w,p,ts,g,m,u,rfl,_⟩:=h;rfl
 ·obtain⟨wb,p,ts,g,m,u,rfl,hw,hm,hu,htb,q⟩:=h;refine⟨_,(ak (aH (i:=3) bF.nd rfl (Or.inl rfl) (aA iA (hr.mono (by decide)) (by rfl) T.ue T.ur T.uf .nil aQ (aa (pv 0) (aa (pv 1) ai))))
   (ak (iC (i:=4) bF.nd rfl rfl (own:=["point"]) (frees:=[]) (js:=[]) (aI (af dc) ["web","marks","start","steps","found","waiting","nearest","way","tie","point","turn","part","further"]) rfl (bA (by rfl) T.cC (aa (aB (ck K) (pv 0) aj (fun _ _=>rfl)) ai)) (fun _ _ _ _=>(aC (i:=0) (show(["point"]:List Str).Nodup by decide +kernel) rfl (Or.inl rfl))) (fun _ _ _ _=>cB) (fun _ _ _ _=>(eR (aa sD (aa sD ai)))))
   (ak (aH (i:=5) bF.nd rfl (Or.inr rfl) (KL (by exact BB hr) (dQ (aa (pv 2) (aa aj ai))) (dQ (aa aj (aa aj ai)))))
   (ak (vE PassesOwn.never (aP yH (aR Wm (by rfl) T.dM PySem.boot_len (aa (pv 5) ai)) aj (aO _)) (ak (aH (i:=6) bF.nd rfl (Or.inl rfl) (MS (x:="place") (frees:=["waiting"]) (js:=[5]) hr (aI (af dc) ["web","marks","start","steps","found","waiting","nearest","way","tie","point","turn","part","further"]) rfl (by rfl) T.C8 rfl T.m4.hd (aa (pv 5) ai) (fun _ _ _ _ hr=>(MC (by exact BB hr) (pv 1) (pv 0) (fun _ _=>rfl)))))
   (ak (aH (i:=7) bF.nd rfl (Or.inl rfl) (KJ (by exact BB hr) (pv 5) (pv 6) ⟨rfl,rfl,rfl,rfl⟩))
   (ak (z7 (pv 7) (DF (aB (kN K) (pv 4) (aB (ck K) (pv 6) aj (fun _ _=>rfl)) (fun _ _=>rfl)) (aB (ck K) (pv 6) aj (fun _ _=>rfl)) set_list))
   (ay (gE PassesOwn.never rfl (u9 K (aB (kN K) (pv 3) (aB (ck K) (pv 6) aj (fun _ _=>rfl)) (fun _ _=>rfl))) (IM K (n:=3) rfl (aV (aC (i:=8) bF.nd rfl (Or.inl rfl)) (aV (aC (i:=9) bF.nd rfl (Or.inl rfl)) (aV (aC (i:=10) bF.nd rfl (Or.inl rfl)) fc))))
   (ak (aH (i:=11) bF.nd rfl (Or.inl rfl) (aK gF (aB (ck K) (pv 6) aj (fun _ _=>rfl)) (pv 10)))
   (ak (aH (i:=12) bF.nd rfl (Or.inl rfl) (dQ (aa (aK fM (aB (ck K) (pv 7) aj (fun _ _=>rfl)) (aB (ck K) (aB (ck K) (aB (ck K) (pv 0) aj (fun _ _=>rfl)) (pv 8) (fun _ _=>rfl)) aj (fun _ _=>rfl))) (aa (aK gF (aB (ck K) (pv 7) aj (fun _ _=>rfl)) (aK jE aj (pv 8))) ai))))
   (ay (cM (PW.pt (IW (aP Je (aB (kN K) (aB (kN K) (pv 4) (pv 9) (fun _ _=>rfl)) (pv 11) (fun _ _=>rfl)) sD (aO _)) (E7 (aP (Pe hr.DM) (pv 12) (J8 (by exact BB hr) (pv 5) (dQ (aa (pv 9) (aa (pv 11) ai))) (pv 12) ⟨rfl,rfl,rfl,rfl⟩) (aO _))))) (ay (MD (by exact BB hr) (pv 5) (dQ (aa (pv 9) (aa (pv 11) ai))) (pv 12) rfl)) aZ))))))))))
   (ay (aL (pv 4))))))),?_⟩
  refine yi ?_;intro cj cG dI fL gj p9 zq Ge Gf NP K1 HK;obtain⟨bt,xs,h1,h2,h3⟩:=id hw.ex;have xU:=h3.length;have wp:=g.p2;have wl:=g.len;refine(au rfl (au rfl ⟨wb,p,ts,g,m,rfl,hw,hm,fun Ds ess S H1 hel1 f1 k1=>?_⟩))
  have s1:=f1.same;refine(au rfl (cu (aX.of (s1 _ _ h1)) (ao (j:=0) rfl) (au rfl ⟨(by lia),(by lia),fun D hD=>cD (lo:=0) (m:=p) (Cc H1 D) (.start hD) (fun i acc H2 _ z=>z.len) (dl (Nat.ble_eq.mpr (by lia))) ?_ ?_⟩)))
  ·rintro i acc H2 hi f2;exact⟨rfl,dl rfl,fun l hl=>f2.next hl⟩
  rintro acc H2 ⟨es,rfl,hel,f2⟩;refine fun wd hwd=>(au rfl ⟨dl rfl,fun t1 Lu=>⟨dl rfl,fun t2 M7=>?_⟩⟩)
  have s2a:av (upd H2 wd (.dT [])) (upd (upd H2 wd (.dT [])) t1 (.tup [.int (u:Int),.int 0])):=av.new Lu;have WJ:av (upd (upd H2 wd (.dT [])) t1 (.tup [.int (u:Int),.int 0])) (upd (upd (upd H2 wd (.dT [])) t1 (.tup [.int (u:Int),.int 0])) t2 (.tup [.int 0,.int 0])):=av.new M7;have f3:=((f2.go (av.new hwd (o:=.dT []))).go s2a).go WJ;have w3:=WJ _ _ (s2a _ _ (ah (H:=H2) (a:=wd) (o:=.dT [])));have u3:=WJ _ _ (ah (H:=upd H2 wd (.dT [])) (a:=t1) (o:=.tup [.int (u:Int),.int 0]));have v3:(upd (upd (upd H2 wd (.dT [])) t1 (.tup [.int (u:Int),.int 0])) t2 (.tup [.int 0,.int 0])) t2=some (.tup [.int 0,.int 0]):=ah;generalize upd (upd (upd H2 wd (.dT [])) t1 (.tup [.int (u:Int),.int 0])) t2 (.tup [.int 0,.int 0])=H3 at f3 w3 u3 v3;refine⟨t1,ky u false,rfl,u3,w3,?_⟩;have lw3:=wR.start f3 hu w3 (f2.same.free hwd) v3;have WK:=s1 _ _ htb;have hL:∀ k,k<(ae p ts g).n->0<=bz ts k:=tw g;have Py:∀ k,k<(ae p ts g).n->0<bz ts k:=fun k hk=>by
   have:=(g.Al _ (gr hk)).l0;unfold bz
   lia
  refine⟨fun n σ H4=>∃ v6 v7 v8 v9 v10 v11 IS,σ=[some (.ref wb),some (.int (m:Int)),some (.int (u:Int)),some (.ref Ds),some (.ref D),some (.ref wd),v6,v7,v8,v9,v10,v11,IS]/\∃ kvs F W,wR p H1 D wd es kvs F W H4/\RM.Dx (ae p ts g) (bz ts) m u F W none (fun _ _=>False)/\n=RM.left F p,⟨_,none,none,none,none,none,none,none,rfl,_,_,_,lw3,RM.Dx.start,rfl⟩,?_⟩
  rintro n σ H4 ⟨v6,v7,v8,v9,v10,v11,IS,rfl,kvs,F,W,lw,dj,rfl⟩;refine(au rfl ⟨wd,kvs,rfl,.inl lw.dt,_,_,rfl,rfl,au rfl (nQ (fun hlen=>?_) (fun hlen=>?_))⟩)
  case refine_2 =>
   have hl : ¬(0:Int)<(kvs.length:Int):=fun z=>hlen (decide_eq_true z)
   have e:kvs=[]:=List.eq_nil_of_length_eq_zero (by lia)
   subst e;have hW:∀ x s,W x s=none:=fun x s=>by
    rcases lw.val x s with⟨z,_⟩|⟨_,_,_,z,_⟩
    ·exact z
    ·rw[wA]at z;cases z
   exact(au rfl (q D F H4 (s1.free lw.Dn) (s1.trans lw.same) ⟨es,hel,lw.lst,lw.at_,dj.dj.best hW,dj.dj.fw,fun b hb=>s1.free (lw.fr b hb),dj.fin Py hu hW⟩))
  have hlen:(0:Int)<(kvs.length:Int):=of_decide_eq_true hlen;refine⟨fun σ' H'=>∃ v6 v7 v8 v9 v10 v11 IS,σ' = [some (.ref wb),some (.int (m:Int)),some (.int (u:Int)),some (.ref Ds),some (.ref D),some (.ref wd),v6,v7,v8,v9,v10,v11,IS]/\∃ kvs' F' W',wR p H1 D wd es kvs' F' W' H'/\RM.Dx (ae p ts g) (bz ts) m u F' W' none (fun _ _=>False)/\RM.left F' p<RM.left F p,fun σ' H' ⟨a6,a7,a8,a9,a10,a11,a12,e,kvs',F',W',b1,b2,b3⟩=>⟨_,b3,a6,a7,a8,a9,a10,a11,a12,e,kvs',F',W',b1,b2,rfl⟩,?_⟩
  refine(au rfl ⟨wd,kvs,KR W kvs,rfl,lw.dt,(by lia),lw.same _ _ WK,fun ob H5 Hj hfz i kv b hkv hb=>?_,fun i kv b H5 hkv hmin s5 hb=>?_⟩)
  ·obtain⟨x,t,d,c,hx,ek,Sh,WL,_,hc,WM⟩:=lw.entry hkv;have hcw:c≠wd:=aY hc lw.dt (by intro z;cases z)
   refine(au rfl (au rfl ⟨wd,.ref c,rfl,.inr ⟨kvs,ky x t,b,.inr ⟨ob,hfz⟩,rfl,by rw[<-ek];exact hb,WL.symm⟩,av.refl _,c,rfl,?_⟩))
   rw[WM];exact aX.of (Hj c _ hc hcw (by intro y z;cases z) (by intro y z;cases z))
  obtain⟨x,t,d,c,hx,ek,Sh,WL,_,hc,WM⟩:=lw.entry hkv;rw[ek]at hb;have hmn:∀ y t' d',W y t' = some d'->d.1<=d'.1:=fun y t' d' hW'=>by
   obtain⟨j,kv',hj,_,ej⟩:=lw.find hW';have:=hmin j (List.getElem?_eq_some_iff.mp hj).1;rw[ej,WM]at this;exact Az this
  have M9:=lw.go s5;have hc5:=s5 _ _ hc;have hF:F x t=none:=dj.dj.dj x t d Sh;refine(au rfl ⟨wd,rfl,.inr ⟨kvs,.inl M9.dt⟩,au rfl ⟨kvs,ky x t,b,.ref c,M9.dt,rfl,hb,WL,?_⟩⟩);obtain⟨rb,r0,r1,er,er',hrb,hr0,hr1⟩:=M9.row (i:=x) (by lia)
  have bw:b≠wd:=aY hb M9.dt (by intro z;cases z)
  have rw_:rb≠wd:=aY hrb M9.dt (by intro z;cases z)
  have hb6:upd H5 wd (.dT (ee kvs (ky x t))) b=some (.tup [.int (x:Int),.int (t.toNat:Int)]):=by rw[aq bw];exact hb
  have NT:upd H5 wd (.dT (ee kvs (ky x t))) D=some (.lst (es.map V.ref)):=by rw[aq (Ne.symm M9.wD)];exact M9.lst
  have hr6:upd H5 wd (.dT (ee kvs (ky x t))) rb=some (.lst [r0,r1]):=by rw[aq rw_];exact hrb
  refine(au rfl (au rfl (au rfl (cu (aX.of hb6) (ao (j:=0) rfl) (kD (aS.of NT) (ao er) (au rfl (cu (aX.of hb6) (ao (j:=1) rfl) ⟨rb,_,_,t.toNat,rfl,rfl,hr6,q9 (n:=2) (j:=t.toNat) (by cases t<;>decide),?_⟩)))))))
  have Qk:=M9.take Sh hc5 er' hrb;have WN:=dj.pop Sh hmn;have hd0:0<=d.1:=by
   obtain⟨pre,w0⟩:=dj.dj.ww x t d Sh;exact(RM.rE hL hu w0).2.2.2.2.2
  have hlt:RM.left (RM.jN F x t d) p<RM.left F p:=RM.Ct hF hx;have tp7:dH H5 (upd (upd H5 wd (.dT (ee kvs (ky x t)))) rb (.lst (([r0,r1]:List V).set t.toNat (.ref c)))):=fun z ys e=>by
   rw[aq (aY e hrb (by intro z;cases z)),aq (aY e M9.dt (by intro z;cases z))]
   exact e
  have Qj:=tp7 _ _ hb;have Ql:=tp7 _ _ hc5;generalize upd (upd H5 wd (.dT (ee kvs (ky x t)))) rb (.lst (([r0,r1]:List V).set t.toNat (.ref c)))=H7 at Qk Qj Ql;generalize RM.Ay W x t=W7 at Qk WN;have Uq:RM.jN F x t d x t=some d:=RM.bO _ _ _ _;generalize RM.jN F x t d=F7 at Qk WN hlt Uq;obtain⟨sb,cs,esb,ag3,RE,WO⟩:=f1.get (i:=x) (by lia)
  have hlS:=k1.len x;refine(au rfl (au rfl (cu (aX.of Qj) (ao (j:=0) rfl) (kD (aS.of (Qk.same _ _ f1.lst)) (ao esb) ⟨sb,rfl,⟨_,aS.of (Qk.same _ _ RE)⟩,?_⟩))));refine gw (K:=K) (a:=sb) (xs:=cs.map V.ref) (fun j σ H8=>∃ v8 v9 v10 v11 IS,σ=[some (.ref wb),some (.int (m:Int)),some (.int (u:Int)),some (.ref Ds),some (.ref D),some (.ref wd),some (.ref b),some (.ref c),v8,v9,v10,v11,IS]/\dH H7 H8/\∃ Bg W8,wR p H1 D wd es Bg F7 W8 H8/\RM.Dx (ae p ts g) (bz ts) m u F7 W8 (some (x,t)) (fun k y=>∃ j',j'<j/\(S x)[j']?=some (k,y)))
   ⟨_,_,_,_,_,rfl,(av.refl _).tups,_,_,Qk,?_⟩ (fun j σ H8 _ ⟨_,_,_,_,_,_,_,_,_,z,_⟩=>aS.of (z.same _ _ RE)) ?_ ?_
  ·exact WN.less fun k y ⟨j',h0,_⟩=>absurd h0 (Nat.not_lt_zero _)
  ·rintro j y D3' σ H8 hj ⟨v8,v9,v10,v11,IS,rfl,Ur,Bg,W8,Pz,Si⟩;obtain⟨cc,hcc,rfl⟩:∃ cc,cs[j]?=some cc/\y = .ref cc:=by
    rw[List.getElem?_map]at hj;obtain⟨cc,h1,h2⟩:=Option.map_eq_some_iff.mp hj;exact⟨cc,h1,h2.symm⟩
   have NG:j<(S x).length:=by rw[<-WO.length];exact(List.getElem?_eq_some_iff.mp hcc).1
   have eS:(S x)[j]?=some (S x)[j]:=List.getElem?_eq_getElem NG;have tr1:=L2.tG WO hcc eS;generalize hkw:(S x)[j]=kw at eS tr1;obtain⟨k,y⟩:=kw;have hmem:=(k1.mem x (k,y)).mp (List.mem_of_getElem? eS);obtain⟨hk,yb⟩:=hmem;have hk:k<ts.length:=hk;have yb:RM.Jn (ae p ts g) k x y:=yb;have hy:y<p:=yb.lt hk;have WQ:=Pz.same _ _ tr1;have WQ:H8 cc=some (.tup [.int (k:Int),.int (y:Int),.int ((m.testBit k).toNat:Int)]):=WQ;refine⟨cc,_,rfl,aX.of WQ,rfl,_,_,rfl,_,_,rfl,_,_,rfl,rfl,?_⟩;have hb8:=Ur _ _ Qj;have hc8:=Ur _ _ Ql;refine(au rfl (cu (aX.of hb8) (ao (j:=1) rfl) (au rfl (bQ (?_)))));dsimp only;rw[M8];obtain⟨ct,ex,hct⟩:=sX (g:=g) h3 hk;have hw8:=Pz.same _ _ (s1 _ _ h1);have ht8:=Pz.same _ _ (s1 _ _ h2);have WR:=Pz.same _ _ (s1 _ _ hct);refine(au rfl (cu (aX.of hc8) (ao (j:=0) rfl) (au rfl (cu (aX.of hw8) (ao (j:=1) rfl) (au rfl (cu (aX.of ht8) (ao (j:=k) ex) (cu (aX.of WR) (ao (j:=2) rfl) (?_))))))));refine(bQ (au rfl (cu (aX.of hc8) (ao (j:=1) rfl) (au rfl (bQ ⟨⟨by lia,by lia,by decide⟩,bQ ⟨dl rfl,fun f hf=>?_⟩⟩)))))
   have ef:Builtin.bitXor ((d.2:Nat):Int) (1*2^((k:Nat):Int).toNat)=((d.2^^^2^k:Nat):Int):=by
    rw[Int.toNat_natCast,Int.one_mul,show((2:Int)^k)=((2^k:Nat):Int) by simp]
    exact xor_int _ _
   dsimp only;rw[ef];have s9:av H8 (upd H8 f (.tup [.int (d.1+(bM ts k).2.2),.int ((d.2^^^2^k:Nat):Int)])):=av.new hf;have hf9:upd H8 f (.tup [.int (d.1+(bM ts k).2.2),.int ((d.2^^^2^k:Nat):Int)]) f=some (.tup [.int (d.1+bz ts k),.int ((d.2^^^2^k:Nat):Int)]):=ah;have Qm:=Pz.go s9;have WS:dH H7 (upd H8 f (.tup [.int (d.1+(bM ts k).2.2),.int ((d.2^^^2^k:Nat):Int)])):=fun z ys e=>s9 _ _ (Ur _ _ e)
   generalize upd H8 f (.tup [.int (d.1+(bM ts k).2.2),.int ((d.2^^^2^k:Nat):Int)])=H9 at Qm hf9 WS;obtain⟨rb2,q0,q1,er2,ag9,WT,D3,hq1⟩:=Qm.row (i:=y) (by lia)
   obtain⟨vv,hvv,Qn⟩:∃ vv,([q0,q1]:List V)[(t^^m.testBit k).toNat]?=some vv/\wV H9 (F7 y (t^^m.testBit k)) vv:=by
    cases(t^^m.testBit k) with
    | false=>exact⟨q0,rfl,D3⟩
    | true=>exact⟨q1,rfl,hq1⟩
   have Lk:=hL k hk;refine(au rfl (au rfl (kD (aS.of Qm.lst) (ao er2) (au rfl (kD (aS.of WT) (ao hvv) (?_))))));refine⟨rfl,au rfl (?_)⟩;have dn:∀{Gi:Nat->Nat->Prop} {Wx:RM.OW},RM.Dx (ae p ts g) (bz ts) m u F7 Wx (some (x,t)) (fun k' y'=>(∃ j',j'<j/\(S x)[j']?=some (k',y'))\/(k' = k/\y' = y))->
    RM.Dx (ae p ts g) (bz ts) m u F7 Wx (some (x,t)) (fun k' y'=>∃ j',j'<j+1/\(S x)[j']?=some (k',y')):=fun {Gi Wx} h =>
    h.less fun k' y' ⟨j',h0,h5⟩=>by
     by_cases ej:j' = j
     ·subst ej;rw[eS]at h5;cases h5;exact .inr ⟨rfl,rfl⟩
     ·exact .inl ⟨j',by lia,h5⟩
   cases Us:F7 y (t^^m.testBit k) with
   | some d2 =>
     rw[Us]at Qn;obtain⟨c2,rfl,hc2⟩:=Qn;refine GD (fun z=>nomatch z) ?_
     exact⟨_,_,_,_,_,rfl,WS,Bg,W8,Qm,dn (Gi:=fun _ _=>False) (Si.skip Uq (Py k hk) (.inl Us))⟩
   | none =>
     rw[Us]at Qn;have Qn:vv = .gf:=Qn;subst Qn;refine Rk rfl ?_;refine(au rfl (au rfl ⟨wd,rfl,.inr ⟨Bg,.inl Qm.dt⟩,au rfl (au rfl ⟨dl rfl,fun t3 ht3=>?_⟩)⟩))
     have WU:av H9 (upd H9 t3 (.tup [.int (y:Int),.int ((t^^m.testBit k).toNat:Int)])):=av.new ht3;have Sj:upd H9 t3 (.tup [.int (y:Int),.int ((t^^m.testBit k).toNat:Int)]) t3=some (.tup ((ky y (t^^m.testBit k)).map kV)):=ah;have IA:=Qm.go WU;have Lv:=WU _ _ hf9;have PB:dH H7 (upd H9 t3 (.tup [.int (y:Int),.int ((t^^m.testBit k).toNat:Int)])):=fun z ys e=>WU _ _ (WS _ _ e)
     generalize upd H9 t3 (.tup [.int (y:Int),.int ((t^^m.testBit k).toNat:Int)])=H10 at IA Lv Sj PB;refine(au rfl ⟨eV Bg (ky y (t^^m.testBit k)),.inr ⟨Bg,ky y (t^^m.testBit k),t3,.inl IA.dt,rfl,Sj,rfl⟩,?_⟩);have aen:=IA.len;have put:(∀ d',W8 y (t^^m.testBit k)=some d'->RM.lx (RM.stp (bz ts) d k) d')->cG D3' [some (.ref wb),some (.int (m:Int)),some (.int (u:Int)),some (.ref Ds),some (.ref D),some (.ref wd),some (.ref b),some (.ref c),some (.int (k:Int)),some (.int (y:Int)),some (.int ((m.testBit k).toNat:Int)),some (.int ((t^^m.testBit k).toNat:Int)),some (.ref f)] H10:=fun hle=>by
      refine(au rfl (au rfl (au rfl (au rfl ⟨dl rfl,fun t4 WV=>?_⟩))))
      have WW:av H10 (upd H10 t4 (.tup [.int (y:Int),.int ((t^^m.testBit k).toNat:Int)])):=av.new WV;have WX:upd H10 t4 (.tup [.int (y:Int),.int ((t^^m.testBit k).toNat:Int)]) t4=some (.tup ((ky y (t^^m.testBit k)).map kV)):=ah;have PC:=IA.go WW;have WY:=WW _ _ Lv;refine⟨wd,_,rfl,JZ.t PC.dt WX (kO (by lia)),?_⟩
      have WZ:=PC.wait (x:=y) (s:=(t^^m.testBit k)) (d:=(d.1+bz ts k,d.2^^^2^k)) hy WY;refine⟨_,_,_,_,_,rfl,fun z ys e=>?_,_,_,WZ,dn (Gi:=fun _ _=>False) (Si.put Uq hd0 hk (Py k hk) yb Us hle)⟩
      have e11:=WW _ _ (PB _ _ e);rw[aq (aY e11 PC.dt (by intro z;cases z))]
      exact e11
     rcases IA.val y (t^^m.testBit k) with⟨hWn,hvn⟩|⟨d2,c2,hWs,hvs,hc2⟩
     ·rw[hvn];refine⟨f,f,_,_,_,_,rfl,rfl,aX.of Lv,aX.of Lv,_,rfl,nQ (fun _=>put fun d' e=>by rw[hWn]at e;cases e) fun z=>absurd ((HT.Aw _ _ _ _).mpr (.inr ⟨rfl,Int.le_refl _⟩)) z⟩
     ·rw[hvs];refine⟨f,c2,_,_,_,_,rfl,rfl,aX.of Lv,aX.of hc2,_,rfl,nQ (fun hl=>?_) (fun hl=>?_)⟩
      ·have hl:=(HT.Aw _ _ _ _).mp hl;refine put fun d' e=>?_
       rw[hWs]at e;cases e;unfold RM.lx RM.stp;simp only
       lia
      ·have hl:=fun z=>hl ((HT.Aw _ _ _ _).mpr z)
       refine⟨_,_,_,_,_,rfl,PB,Bg,W8,IA,dn (Gi:=fun _ _=>False) (Si.skip Uq (Py k hk) (.inr ⟨hWs,?_⟩))⟩
       have h6 : ¬ d.1+bz ts k<d2.1:=fun z=>hl (.inl z)
       have h7 : ¬(d.1+bz ts k=d2.1/\((d.2^^^2^k:Nat):Int)<=(d2.2:Int)):=fun z=>hl (.inr z)
       unfold RM.lx RM.stp;simp only
       lia
  ·rintro σ H8 ⟨v8,v9,v10,v11,IS,rfl,Ur,Bg,W8,Pz,Si⟩;refine⟨_,_,_,_,_,_,_,rfl,Bg,F7,W8,Pz,Si.all fun k y hk yb=>?_,hlt⟩
   have hm':=(k1.mem x (k,y)).mpr ⟨hk,yb⟩;obtain⟨j',hj'⟩:=List.getElem?_of_mem hm';have W0:=(List.getElem?_eq_some_iff.mp hj').1;exact⟨j',by rw[List.length_map,WO.length];exact W0,hj'⟩
end
def IB:Sp:=fun vs H Q _=>∃ v o,vs=[v]/\wV H o v/\Q (oV (o.map (·.1))) H
abbrev yC(F:RM.OW):Nat->Bool->Option Int:=fun x s=>(F x s).map (·.1)
def Dq:Sp:=fun vs H Q _=>∃(D:Addr) (es:List Addr) (F:RM.OW),vs=[.ref D]/\H D=some (.lst (es.map V.ref))/\es.length<=900/\(∀(i:Nat) b,es[i]?=some b->∃ v0 v1,H b=some (.lst [v0,v1])/\wV H (F i false) v0/\wV H (F i true) v1)/\
 ∀ b ys H',av H H'->H' b=some (.tup ys)->Paired (jJ H') ys (kX (yC F) es.length)->Q (.ref b) H'
section
variable {P:Program}{w:World}{K:PySem.W.Frag}{mg:Str->Option Value}{base:Heap}{a:qP}
theorem gc(T:Txt K mg a):bE P w K mg base iP 1 a.fZ a.iS ["way"] IB:=by
 refine T.nq.ok tM (fun vs H Q E h=>?_) (fun cdv A outer s H vs Q E hr h=>?_)
 ·obtain⟨v,o,rfl,_⟩:=h;rfl
 ·obtain⟨v,o,rfl,hv,q⟩:=h;refine⟨_,(ay (aL (nM (aP Je (pv 0) sD (aO _)) sD (aB (ck K) (pv 0) aj (fun _ _=>rfl))))),?_⟩
  cases o with
  | none =>
    have hv:v = .gf:=hv;subst hv;exact(au rfl ⟨rfl,au rfl (Rk rfl q)⟩)
  | some d =>
    obtain⟨c,rfl,hc⟩:=hv;exact(au rfl ⟨rfl,au rfl (GD (fun z=>nomatch z) (au rfl (cu (aX.of hc) (ao (j:=0) rfl) (q))))⟩)
theorem iB(T:Txt K mg a):bE P w K mg base iP 2 a.fG a.iw ["ways"] Dq:=by
 have gc:=gc (P:=P) (w:=w) (base:=base) T;refine T.lN.ok rM (fun vs H Q E h=>?_) (fun cdv A outer s H vs Q E hr h=>?_)
 ·obtain⟨D,es,F,rfl,_⟩:=h;rfl
 ·obtain⟨D,es,F,rfl,hD,hl,IC,q⟩:=h;refine⟨_,(ay (aL (cU (Ft K) (by rfl) T.vz PyProof.Rows.boot_tuple (aa (bN (own:=["even","odd"]) (frees:=[]) (js:=[]) (aI (af bX) ["ways"]) rfl (u9 K (pv 0)) (fun _ _ _ _=>(Ws K rfl (aV (aC (i:=0) (show(["even","odd"]:List Str).Nodup by decide +kernel) rfl (Or.inl rfl)) (aV (aC (i:=1) (show(["even","odd"]:List Str).Nodup by decide +kernel) rfl (Or.inl rfl)) fc)))) (fun _ _ _ _=>cB) (fun _ _ _ _=>(dQ (aa (aA gc (hr.mono (by decide)) (by rfl) T.nu T.nC T.nv .nil aQ (aa (pv 0) ai)) (aa (aA gc (hr.mono (by decide)) (by rfl) T.nu T.nC T.nv .nil aQ (aa (pv 1) ai)) ai))))) ai)))),?_⟩
  refine(au rfl ⟨D,rfl,⟨_,aS.of hD⟩,fun L hL=>bS (K:=K) (a:=D) (xs:=es.map V.ref) (fun i acc H2=>av H H2/\H2 L=some (.lst acc)/\Paired (jJ H2) acc (kX (yC F) i)) ⟨av.new hL,ah,.nil⟩ (fun i acc H2 _ z=>⟨aS.of (z.1 _ _ hD),z.2.1,by rw[z.2.2.length,As];exact Nat.le_refl _⟩) (dl (Nat.ble_eq.mpr (by rw[List.length_map];lia))) ?_ ?_⟩)
  ·rintro i x acc H2 hx ⟨s2,Sk,pr⟩;obtain⟨b,hb,rfl⟩:∃ b,es[i]?=some b/\x = .ref b:=by
    rw[List.getElem?_map]at hx;obtain⟨b,h1,h2⟩:=Option.map_eq_some_iff.mp hx;exact⟨b,h1,h2.symm⟩
   obtain⟨v0,v1,hv,w0,w1⟩:=IC i b hb;refine⟨b,v0,v1,rfl,aS.of (s2 _ _ hv),_,_,rfl,_,_,rfl,rfl,rfl,au rfl ⟨v0,_,rfl,w0.tups s2.tups,_,rfl,v1,_,rfl,w1.tups s2.tups,dl rfl,fun t ht=>?_⟩⟩
   have s3:av H2 (upd H2 t (.tup [oV (yC F i false),oV (yC F i true)])):=av.new ht;have tL:t≠L:=fun z=>by rw[z,Sk]at ht;cases ht
   have RL:H L=none:=hL;refine⟨s3 _ _ Sk,(s2.trans s3).put RL,ah,?_⟩;rw[Ko];have keep:∀ z pr,jJ H2 z pr->jJ (upd (upd H2 t (.tup [oV (yC F i false),oV (yC F i true)])) L (.lst (acc++[.ref t]))) z pr:=fun z pr ⟨b,e,hb⟩=>⟨b,e,by rw[aq (aY hb Sk (by intro z;cases z))];exact s3 _ _ hb⟩
   exact Paired.snoc (Paired.imp' (fun _ _ z=>keep _ _ z) pr) ⟨t,rfl,by rw[aq tL,ah]⟩
  ·rintro acc H2 ⟨s2,Sk,pr⟩;rw[List.length_map]at pr;refine⟨L,_,rfl,.inl ⟨aS.of Sk,fun l hl=>?_⟩⟩
   exact q l acc _ (s2.trans (av.new hl)) ah (Paired.imp' (fun _ _ ⟨b,e,hb⟩=>⟨b,e,av.new hl _ _ hb⟩) pr)
end
theorem kL.same{p:Nat}{N:RM.Net}{L:Nat->Int}{m u:Nat}{D:Addr}{F:RM.OW}{H0 H H' : Hp}(h:kL p N L m u D F H0 H)(s:av H H'):kL p N L m u D F H0 H':=by
 obtain⟨es,e1,e2,e3,e4,e5,e6⟩:=h;exact⟨es,e1,s _ _ e2,fun i b hb=>let⟨v0,v1,q1,q2,q3⟩:=e3 i b hb;⟨v0,v1,s _ _ q1,q2.tups s.tups,q3.tups s.tups⟩,e4,e5,e6⟩
theorem kL.put{p:Nat}{N:RM.Net}{L:Nat->Int}{m u:Nat}{D X:Addr}{F:RM.OW}{H0 H:Hp}{xs ys:List V}(h:kL p N L m u D F H0 H)(hD:H0 D=none)(hX:H X=some (.lst xs))(hX0:∃ o,H0 X=some o):kL p N L m u D F H0 (upd H X (.lst ys)):=by
 obtain⟨es,e1,e2,e3,e4,e5,e6⟩:=h;obtain⟨o,ho⟩:=hX0;have ne:∀ b,H0 b=none->b≠X:=fun b hb z=>by rw[z,ho]at hb;cases hb
 have tp:dH H (upd H X (.lst ys)):=dH.put hX;refine⟨es,e1,by rw[aq (ne D hD)];exact e2,fun i b hb=>?_,e4,e5,e6⟩
 obtain⟨v0,v1,q1,q2,q3⟩:=e3 i b hb;exact⟨v0,v1,by rw[aq (ne b (e6.1 b (List.mem_of_getElem? hb)))];exact q1,q2.tups tp,q3.tups tp⟩
def Gj(p:Nat)(N:RM.Net)(L:Nat->Int)(m i:Nat)(ds:List Addr)(Fs:Nat->RM.OW)(H:Hp):Prop:=ds.length=i/\∀(j:Nat) d,ds[j]?=some d->∃ H0,kL p N L m j d (Fs j) H0 H
def Dr(t:Addr)(lp:Pos):Sp:=fun vs H Q _=>∃ w p ts,∃ g:aF p ts,∃ m:Nat,vs=[.ref w,.int (m:Int)]/\br H w p ts/\m<2^ts.length/\H t=some (.jT (fk (rG "least_ways") lp))/\
 ∀ D ds Fs H',H D=none->av H H'->H' D=some (.lst (ds.map V.ref))->Gj p (ae p ts g) (bz ts) m p ds Fs H'->Q (.ref D) H'
section
variable {P:Program}{w:World}{K:PySem.W.Frag}{mg:Str->Option Value}{base:Heap}{a:qP}
theorem cQ(T:Txt K mg a):bE P w K mg base iP 6 a.fH a.iy ["web","marks"] (Dr a.cK cy):=by
 have m8:=m8 (P:=P) (w:=w) (base:=base) T;refine T.lO.ok rN (fun vs H Q E h=>?_) (fun cdv A outer s H vs Q E hr h=>?_)
 ·obtain⟨w,p,ts,g,m,rfl,_⟩:=h;rfl
 ·obtain⟨wb,p,ts,g,m,rfl,hw,hm,htb,q⟩:=h;refine⟨_,(ay (aL (bN (own:=["start"]) (frees:=["web","marks"]) (js:=[0,1]) (aI (af bY) ["web","marks"]) rfl (bA (by rfl) T.cC (aa (aB (ck K) (pv 0) aj (fun _ _=>rfl)) ai)) (fun _ _ _ _=>(aC (i:=0) (show(["start","web","marks"]:List Str).Nodup by decide +kernel) rfl (Or.inl rfl))) (fun _ _ _ _=>cB) (fun _ _ _ _=>(aA m8 (hr.mono (by decide)) (by rfl) T.AU T.k_least_ways T.AV .nil aQ (aa (pv 1) (aa (pv 2) (aa (pv 0) ai)))))))),?_⟩
  obtain⟨bt,xs,h1,h2,h3⟩:=id hw.ex;have wp:=g.p2;refine(au rfl (cu (aX.of h1) (ao (j:=0) rfl) (au rfl ⟨(by lia),(by lia),fun D hD=>cD (lo:=0) (m:=(p:Int).toNat) (fun i acc H2=>av H H2/\H2 D=some (.lst acc)/\∃ ds Fs,acc=ds.map V.ref/\ds.length=i/\∀(j:Nat) d,ds[j]?=some d->∃ H0,kL p (ae p ts g) (bz ts) m j d (Fs j) H0 H2/\H0 d=none/\∃ o,H0 D=some o) ⟨av.new hD,ah,[],fun _ _ _=>none,rfl,rfl,fun j d e=>by cases e⟩ (fun i acc H2 _ ⟨_,z,ds,_,e,l,_⟩=>⟨z,by rw[e,List.length_map];lia⟩) (dl (Nat.ble_eq.mpr (by lia))) ?_ ?_⟩)))
  ·rintro i acc H2 hi ⟨s2,pY,ds,Fs,rfl,hl,all⟩;rw[Int.toNat_natCast]at hi;rw[Int.zero_add];refine⟨rfl,au rfl (au rfl (au rfl ⟨wb,p,ts,g,m,i,rfl,hw.same s2,hm,hi,s2 _ _ htb,fun d F H3 hd s3 wa=>?_⟩))⟩
   have Ah:=s3 _ _ pY;refine⟨Ah,(s2.trans s3).put hD,ah,ds++[d],fun j=>if j=i then F else Fs j,by simp,by simp[hl],fun j d' e=>?_⟩
   by_cases ej:j<ds.length
   ·rw[List.getElem?_append_left ej]at e;obtain⟨H0,w0,n0,o0⟩:=all j d' e;dsimp only;rw[if_neg (show ¬ j=i by lia)]
    exact⟨H0,(w0.same s3).put n0 Ah o0,n0,o0⟩
   ·rw[List.getElem?_append_right (by lia)]at e
    have hj:j=i:=by
     have:=(List.getElem?_eq_some_iff.mp e).1;simp at this
     lia
    subst hj;rw[hl,Nat.sub_self]at e;have e:d=d':=by simpa using e
    subst e;dsimp only;rw[if_pos rfl];exact⟨H2,wa.put hd Ah ⟨_,pY⟩,hd,_,pY⟩
  ·rintro acc H2 ⟨s2,pY,ds,Fs,rfl,hl,all⟩;rw[Int.toNat_natCast]at hl;exact q D ds Fs H2 hD s2 pY ⟨hl,fun j d e=>let⟨H0,w0,_⟩:=all j d e;⟨H0,w0⟩⟩
end
def Bh:Sp:=fun vs H Q _=>∃(D:Addr) (ds:List Addr) (Fs:Nat->RM.OW),∃ p N L m,vs=[.ref D]/\H D=some (.lst (ds.map V.ref))/\p<=900/\Gj p N L m p ds Fs H/\
 ∀ b H',av H H'->jK H' b ((List.range p).map fun i=>kX (yC (Fs i)) p)->Q (.ref b) H'
section
variable {P:Program}{w:World}{K:PySem.W.Frag}{mg:Str->Option Value}{base:Heap}{a:qP}
theorem cW(T:Txt K mg a):bE P w K mg base iP 3 a.gb a.iT ["ways"] Bh:=by
 have iB:=iB (P:=P) (w:=w) (base:=base) T;refine T.ny.ok tN (fun vs H Q E h=>?_) (fun cdv A outer s H vs Q E hr h=>?_)
 ·obtain⟨D,ds,Fs,p,N,L,m,rfl,_⟩:=h;rfl
 ·obtain⟨D,ds,Fs,p,N,L,m,rfl,hD,hp,⟨hl,all⟩,q⟩:=h;refine⟨_,(ay (aL (cU (Ft K) (by rfl) T.vz PyProof.Rows.boot_tuple (aa (bN (own:=["from_point"]) (frees:=[]) (js:=[]) (aI (af cF) ["ways"]) rfl (u9 K (pv 0)) (fun _ _ _ _=>(aC (i:=0) (show(["from_point"]:List Str).Nodup by decide +kernel) rfl (Or.inl rfl))) (fun _ _ _ _=>cB) (fun _ _ _ _=>(aA iB (hr.mono (by decide)) (by rfl) T.ug T.uv T.uh .nil aQ (aa (pv 0) ai)))) ai)))),?_⟩
  refine(au rfl ⟨D,rfl,⟨_,aS.of hD⟩,fun X hX=>bS (K:=K) (a:=D) (xs:=ds.map V.ref) (fun i acc H2=>av H H2/\H2 X=some (.lst acc)/\Paired (RowW H2) acc ((List.range i).map fun i=>kX (yC (Fs i)) p)) ⟨av.new hX,ah,.nil⟩ (fun i acc H2 _ z=>⟨aS.of (z.1 _ _ hD),z.2.1,by rw[z.2.2.length,List.length_map,List.length_range];exact Nat.le_refl _⟩) (dl (Nat.ble_eq.mpr (by rw[List.length_map];lia))) ?_ ?_⟩)
  ·rintro i x acc H2 hx ⟨s2,hX2,pr⟩;obtain⟨d,hd,rfl⟩:∃ d,ds[i]?=some d/\x = .ref d:=by
    rw[List.getElem?_map]at hx;obtain⟨b,h1,h2⟩:=Option.map_eq_some_iff.mp hx;exact⟨b,h1,h2.symm⟩
   obtain⟨H0,wa⟩:=all i d hd;obtain⟨es,e1,e2,e3,_⟩:=wa.same s2;refine⟨rfl,au rfl ⟨d,es,Fs i,rfl,e2,(by lia),e3,fun b ys H3 s3 hb Qo=>?_⟩⟩
   have ID:=s3 _ _ hX2;refine⟨ID,(s2.trans s3).put hX,ah,?_⟩;rw[List.range_succ,List.map_append,e1]at *;exact Paired.snoc (Paired.imp' (fun _ _ z=>z.tups (s3.tups.trans (dH.put ID))) pr) (RowW.tups (dH.put ID) ⟨b,ys,rfl,hb,Qo⟩)
  ·rintro acc H2 ⟨s2,hX2,pr⟩;rw[List.length_map,hl]at pr;refine⟨X,_,rfl,.inl ⟨aS.of hX2,fun l hl=>?_⟩⟩
   exact q l _ (s2.trans (av.new hl)) ⟨acc,ah,Paired.imp' (fun _ _ z=>z.same (av.new hl)) pr⟩
end
theorem Sl{x y:V}{A B:Prop}(h:x≠y)(ha:A):if(!decide (x=y))=true then A else B:=by
 rw[decide_eq_false h];exact fQ ha
def Na(p:Nat)(ts:List dZ)(g:aF p ts)(m:Nat)(H H' : Hp)(t:Addr):Prop :=
 ((∀ x z,x<p->¬ RM.Wy (ae p ts g) (bz ts) m x x true z)/\m=(ae p ts g).cut (fun x=>decide (x∈gB p ts g m))/\∃ l,H l=none/\H' t=some (.tup [.str "side",.ref l])/\H' l=some (.lst (aG (gB p ts g m))))\/
 ∃(z:Int) (e:Nat) (b:Addr) (W:List (List Pr)),RM.Lo (ae p ts g) (bz ts) m z e/\RM.wX (ae p ts g) (bz ts) m z e/\H' t=some (.tup [.str "ring",.int (e:Int),.ref b])/\jK H' b W/\W.length=p/\(∀ R∈W,R.length=p)/\FY p ts g m W
def Bj(C t:Addr)(lp:Pos):Sp:=fun vs H Q E=>∃ w p ts,∃ g:aF p ts,∃ S,vs=[.ref w,.int S]/\br H w p ts/\H t=some (.jT (fk (rG "least_ways") lp))/\su ts S (E (.ref C) none H) fun m=>∀ r H',H r=none->av H H'->Na p ts g m H H' r->Q (.ref r) H'
def xO(H:Hp)(v:V)(d:Int×Nat):Prop:=∃ c,v = .ref c/\H c=some (.tup [.int d.1,.int (d.2:Int)])
theorem xO.tups{H H' : Hp}{v:V}{d:Int×Nat}(h:xO H v d)(s:dH H H'):xO H' v d:=let⟨c,e,q⟩:=h;⟨c,e,s _ _ q⟩
def qM(d:Int×Nat):PyData:=.tuple [.int d.1,.int (d.2:Int)]
theorem Dt{K:PySem.W.Frag}{H:Hp}:∀{ys:List V} {R:List (Int×Nat)},Paired (xO H) ys R->DatVs K H ys (R.map qM)
 | _,_,.nil=>.nil
 | _,_,.cons h r=>by
   obtain⟨b,rfl,hb⟩:=h;exact .cons (.tup (aX.of hb) (.cons (.int _) (.cons (.int _) .nil))) (Dt r)
theorem Lw:∀ l:List (Int×Nat),PyData.eqv (.list (l.map qM)) (.list [])=decide (l=[])
 | []=>rfl
 | _::_=>rfl
theorem Du:∀ R:List (Int×Nat),PyData.canLayAll0 (R.map qM)=true
 | []=>rfl
 | q::r=>by
   have ih:=Du r;have e:(qM q).canLay0=true:=by simp[qM,PyData.canLay0,PyData.canLayAll0]
   simp only[List.map_cons,PyData.canLayAll0,ih,Bool.and_true,e]
theorem zT:∀ R:List (Int×Nat),PyData.depthAll (R.map qM)<=1
 | []=>Nat.zero_le _
 | q::r=>by
   have ih:=zT r;show max (PyData.depth (qM q)) (PyData.depthAll (r.map qM))<=1;have e:PyData.depth (qM q)=1:=by simp[qM,PyData.depth,PyData.depthAll]
   lia
theorem zU{H:Hp}:∀{ys:List V} {R:List (Int×Nat)},Paired (xO H) ys R->∃ cs:List Addr,ys=cs.map V.ref/\Paired (fun(c:Addr) (d:Int×Nat)=>H c=some (.tup [.int d.1,.int (d.2:Int)])) cs R
 | _,_,.nil=>⟨[],rfl,.nil⟩
 | _,_,.cons h r=>by
   obtain⟨b,rfl,hb⟩:=h;obtain⟨cs,rfl,pr⟩:=zU r;exact⟨b::cs,rfl,.cons hb pr⟩
theorem Dv(R:List (Int×Nat)):SeqAt.shaped (.list (R.map qM))=true:=by
 unfold SeqAt.shaped;have e:(PyData.list (R.map qM)).canLay0=PyData.canLayAll0 (R.map qM):=by simp[PyData.canLay0]
 rw[e,Du,Bool.true_and];refine decide_eq_true ?_;have h:=zT R;have e2:PyData.depth (PyData.list (R.map qM))=PyData.depthAll (R.map qM)+1:=by simp[PyData.depth]
 rw[e2]
 lia
theorem Az{a b:Int×Nat}(h:HT.lexLt [a.1,(a.2:Int)] [b.1,(b.2:Int)]=false):RM.lx b a:=by
 rw[HT.gY]at h;unfold RM.lx
 by_cases e:a.1=b.1
 ·rw[if_pos e,HT.gY]at h;refine .inr ⟨e.symm,?_⟩
  by_cases e2:(a.2:Int)=(b.2:Int)
  ·lia
  ·rw[if_neg e2]at h;have:=of_decide_eq_false h
   lia
 ·rw[if_neg e]at h;have:=of_decide_eq_false h;exact .inl (by lia)
section
variable {P:Program}{w:World}{K:PySem.W.Frag}{mg:Str->Option Value}{base:Heap}{a:qP}
theorem gC(T:Txt K mg a):bE P w K mg base (Ak P w) 7 a.kg a.oB ["web","marks"] (Bj a.fb a.cK cy):=by
 have di:=di (P:=P) (w:=w) (base:=base) T;have cQ:=cQ (P:=P) (w:=w) (base:=base) T;have cW:=cW (P:=P) (w:=w) (base:=base) T;have jz:=jz (P:=P) (w:=w) (base:=base) T;refine T.uT.Jw mG (fun vs H Q E h=>?_) (fun cdv A outer s H vs Q E hr h=>?_)
 ·obtain⟨w,p,ts,g,S,rfl,_⟩:=h;rfl
 ·obtain⟨wb,p,ts,g,S,rfl,hw,htb,q⟩:=h;refine⟨_,(ak (fW (aA di (hr.mono (by decide)) (by rfl) T.oJ T.oO T.oM .nil gJ.passes (aa (pv 0) (aa (pv 1) ai))))
   (ak (aH (i:=2) mG.nd rfl (Or.inr rfl) (aA cQ (hr.mono (by decide)) (by rfl) T.lP T.lV T.lQ .nil aQ (aa (pv 0) (aa (pv 1) ai))))
   (ak (iC (i:=3) mG.nd rfl rfl (own:=["point"]) (frees:=["ways"]) (js:=[2]) (aI (af eY) ["web","marks","ways","rounds"]) rfl (bA (by rfl) T.cC (aa (aB (ck K) (pv 0) aj (fun _ _=>rfl)) ai)) (fun _ _ _ _=>(aC (i:=0) (show(["point","ways"]:List Str).Nodup by decide +kernel) rfl (Or.inl rfl))) (fun _ _ _ _=>(fX (aP L0 (aB (kN K) (aB (kN K) (aB (kN K) (pv 1) (pv 0) (fun _ _=>rfl)) (pv 0) (fun _ _=>rfl)) aj (fun _ _=>rfl)) sD (aO _)))) (fun _ _ _ _=>(aB (kN K) (aB (kN K) (aB (kN K) (pv 1) (pv 0) (fun _ _=>rfl)) (pv 0) (fun _ _=>rfl)) aj (fun _ _=>rfl))))
   (ak (cM (aP (Ai K hr.units) (pv 3) (eR ai) (aO _)) (ay (aL (aA jz (hr.mono (by decide)) (by rfl) T.zD T.zQ T.zE .nil gJ.passes (aa (pv 0) (aa (pv 1) ai))))) aZ)
   (ay (aL (dQ (aa mq (aa (aB (ck K) (aR (Wu hr.hd hr.in1.DM) (by rfl) T.C8 PyProof.Rows.boot_min (aa (pv 3) ai)) aj (fun _ _=>rfl)) (aa (aA cW (hr.mono (by decide)) (by rfl) T.nA T.nE T.nB .nil aQ (aa (pv 2) ai)) ai)))))))))),?_⟩
  refine AI ?_;intro cj cG dI fL gj;obtain⟨bt,xs,h1,h2,h3⟩:=id hw.ex;have wp:=g.p2;have W:=g.JG;rcases q with⟨m,rfl,hm,q⟩|⟨hS,q⟩
  case inr=>exact(au rfl (au rfl ⟨wb,p,ts,_,rfl,hw,W,.inr ⟨hS,q⟩⟩))
  refine(au rfl (au rfl ⟨wb,p,ts,_,rfl,hw,W,.inl ⟨m,rfl,hm,?_⟩⟩));refine(au rfl (au rfl ⟨wb,p,ts,g,m,rfl,hw,hm,htb,fun D ds Fs H1 hD s1 xT al=>?_⟩))
  obtain⟨hl,all⟩:=id al;have IC:∀ i,i<p->∃ d H0,ds[i]?=some d/\kL p (ae p ts g) (bz ts) m i d (Fs i) H0 H1:=fun i hi=>by
   have e:ds[i]?=some ds[i]:=List.getElem?_eq_getElem (by lia)
   obtain⟨H0,h0⟩:=all i _ e;exact⟨_,H0,e,h0⟩
  refine(au rfl (cu (aX.of (s1 _ _ h1)) (ao (j:=0) rfl) (au rfl ⟨(by lia),(by lia),fun X hX=>cD (lo:=0) (m:=(p:Int).toNat) (fun i acc H2=>av H1 H2/\H2 X=some (.lst acc)/\Paired (xO H2) acc ((List.range i).filterMap fun j=>Fs j j true)) ⟨av.new hX,ah,.nil⟩ (fun i acc H2 _ z=>⟨z.2.1,by rw[z.2.2.length];exact Nat.le_trans (List.length_filterMap_le ..) (by simp)⟩) (dl (Nat.ble_eq.mpr (by lia))) ?_ ?_⟩)))
  ·rintro i acc H2 hi ⟨s2,hX2,pr⟩;rw[Int.toNat_natCast]at hi;rw[Int.zero_add];obtain⟨d,H0,hd,es,e1,e2,e3,_⟩:=IC i hi;have hei:es[i]?=some es[i]:=List.getElem?_eq_getElem (by lia)
   obtain⟨v0,v1,hv,w0,w1⟩:=e3 i _ hei;have fm:(List.range (i+1)).filterMap (fun j=>Fs j j true)=(List.range i).filterMap (fun j=>Fs j j true)++(Fs i i true).toList:=by
    rw[List.range_succ,List.filterMap_append];cases hF:Fs i i true<;>simp[hF]
   rw[fm];have hDi:(ds.map V.ref)[i]?=some (.ref d):=by rw[List.getElem?_map,hd];rfl
   have hdi:(es.map V.ref)[i]?=some (.ref es[i]):=by rw[List.getElem?_map,hei];rfl
   refine⟨rfl,au rfl (au rfl (kD (aS.of (s2 _ _ xT)) (ao (j:=i) hDi) (au rfl (kD (aS.of (s2 _ _ e2)) (ao (j:=i) hdi) (kD (aS.of (s2 _ _ hv)) (ao (j:=1) rfl) ⟨rfl,au rfl (?_)⟩)))))⟩;cases hF:Fs i i true with
   | none =>
     rw[hF]at w1;have w1:v1 = .gf:=w1;subst w1;refine Nn rfl ⟨s2,hX2,?_⟩;rw[show(none:Option (Int×Nat)).toList=[] from rfl,List.append_nil]
     exact pr
   | some dd =>
     rw[hF]at w1;obtain⟨c,rfl,hc⟩:=w1;refine Sl (fun z=>nomatch z) (au rfl (au rfl (kD (aS.of (s2 _ _ xT)) (ao (j:=i) hDi) (au rfl (kD (aS.of (s2 _ _ e2)) (ao (j:=i) hdi) (kD (aS.of (s2 _ _ hv)) (ao (j:=1) rfl) ⟨hX2,s2.put hX,ah,?_⟩))))))
     have tp:dH H2 (upd H2 X (.lst (acc++[.ref c]))):=dH.put hX2;exact Paired.snoc (Paired.imp' (fun _ _ z=>z.tups tp) pr) ⟨c,rfl,tp _ _ (s2 _ _ hc)⟩
  ·rintro acc H2 ⟨s2,hX2,pr⟩;rw[Int.toNat_natCast]at pr;generalize hR:(List.range p).filterMap (fun j=>Fs j j true)=R at pr
   have s12:=s1.trans s2;have Py:∀ k,k<(ae p ts g).n->0<bz ts k:=fun k hk=>by
    have:=(g.Al _ (gr hk)).l0;unfold bz
    lia
   have inR:∀ j d,j<p->Fs j j true=some d->d∈R:=fun j d hj hd=>by
    rw[<-hR];exact List.mem_filterMap.mpr ⟨j,List.mem_range.mpr hj,hd⟩
   have ofR:∀ d,d∈R->∃ j,j<p/\Fs j j true=some d:=fun d hd=>by
    rw[<-hR]at hd;obtain⟨j,hj,e⟩:=List.mem_filterMap.mp hd;exact⟨j,List.mem_range.mp hj,e⟩
   have best:∀ i,i<p->∀ x s,RM.Hg (ae p ts g) (bz ts) m i x s ((Fs i x s).map (·.1)):=fun i hi=>by
    obtain⟨d,H0,hd,es,e1,e2,e3,e4,_⟩:=IC i hi;exact e4
   refine(au rfl ⟨dl rfl,fun l0 BC=>⟨_,_,.lst (aS.of (av.new BC _ _ hX2)) (Dt (Paired.imp' (fun _ _ z=>z.tups (av.new BC).tups) pr)),.lst (aS.of ah) .nil,Dv _,rfl,au rfl (?_)⟩⟩)
   rw[Lw];have s3:=s12.trans (av.new (o:=.lst []) BC);have Qp:=s2.trans (av.new (o:=.lst []) BC);have ID:=av.new (o:=.lst []) BC _ _ hX2;have Qo:=Paired.imp' (fun _ _ z=>xO.tups z (av.new (o:=.lst []) BC).tups) pr
   clear hX2 pr;generalize upd H2 l0 (.lst [])=H3 at s3 Qp ID Qo
   by_cases hne:R=[]
   ·rw[decide_eq_true hne];have no:∀ x z,x<p->¬ RM.Wy (ae p ts g) (bz ts) m x x true z:=fun x z hx hw=>by
     have b:=best x hx x true;cases hF:Fs x x true with
     | none=>rw[hF]at b;exact b z hw
     | some d=>have:=inR x d hx hF;rw[hne]at this;cases this
    refine fQ (au rfl (au rfl ⟨wb,p,ts,g,_,rfl,hw.same s3,.inl ⟨m,rfl,hm,fun t H4 ht s4 told=>?_⟩⟩))
    refine q t H4 (s3.free ht) (s3.trans s4) (.inl ⟨no,?_⟩);rcases told with⟨h0,l,hl,WV,hl4⟩|⟨c,hc,hp,_⟩
    ·exact⟨h0,l,s3.free hl,WV,hl4⟩
    ·obtain⟨c1,c2⟩:=RM.bU.mp hc;rw[RM.KW (fun k hk=>Int.le_of_lt (Py k hk)) no (RM.o9 c1 c2) (RM.o5 c1)]at hp
     cases hp
   ·rw[decide_eq_false hne];obtain⟨cs,rfl,prc⟩:=zU Qo;have csl:=prc.length;have hpos:0<cs.length:=by
     have:=List.length_pos_iff.mpr hne
     lia
    have hcs:∀(i:Nat) c,cs[i]?=some c->∃ d,R[i]?=some d/\H3 c=some (.tup [.int d.1,.int (d.2:Int)]):=fun i c hc=>Paired.sI prc hc
    refine eT (au rfl ⟨X,cs,fun i=>[(R.getD i (0,0)).1,((R.getD i (0,0)).2:Int)],rfl,aS.of ID,hpos,fun i c hc=>?_,fun i c hc hmin=>?_⟩)
    ·obtain⟨d,hd,h⟩:=hcs i c hc;have e:R.getD i (0,0)=d:=by rw[List.getD_eq_getElem?_getD,hd];rfl
     dsimp only;rw[e];exact aX.of h
    obtain⟨d,hd,hcd⟩:=hcs i c hc;obtain⟨u,hu,hFu⟩:=ofR d (List.mem_of_getElem? hd);have hlx:∀ j d',j<p->Fs j j true=some d'->RM.lx d d':=fun j d' hj hF=>by
     obtain⟨i',hi'⟩:=List.getElem?_of_mem (inR j d' hj hF);have hlt:i'<cs.length:=by
      have:=(List.getElem?_eq_some_iff.mp hi').1
      lia
     have hm2:=hmin i' hlt;have e:R.getD i (0,0)=d:=by rw[List.getD_eq_getElem?_getD,hd];rfl
     have e' : R.getD i' (0,0)=d':=by rw[List.getD_eq_getElem?_getD,hi'];rfl
     dsimp only at hm2;rw[e,e']at hm2;exact Az hm2
    have hmn:∀ x z',x<p->RM.Wy (ae p ts g) (bz ts) m x x true z'->d.1<=z':=fun x z' hx hw=>by
     have b:=best x hx x true;cases hF:Fs x x true with
     | none=>rw[hF]at b;exact absurd hw (b z')
     | some d' =>
       rw[hF]at b;have h1:d'.1<=z':=b.2 z' hw;have h2:=hlx x d' hx hF;unfold RM.lx at h2
       lia
    obtain⟨_,_,_,es,_,_,_,_,wz,_,_⟩:=IC u hu;have wzu:=wz u true d hFu;obtain⟨r1,r2,r3,r4⟩:=RM.En Py (show u<(ae p ts g).p from hu) wzu hmn
    refine(cu (aX.of hcd) (ao (j:=1) rfl) (au rfl ⟨D,ds,Fs,p,ae p ts g,bz ts,m,rfl,Qp _ _ xT,(by lia),⟨hl,fun j d e=>let⟨H0,w0⟩:=all j d e;⟨H0,w0.same Qp⟩⟩,fun b H4 s4 hW=>⟨dl rfl,fun t ht=>?_⟩⟩))
    have s5:av H4 (upd H4 t (.tup [.str "ring",.int (d.2:Int),.ref b])):=av.new ht;refine q t _ ((s3.trans s4).free ht) ((s3.trans s4).trans s5) (.inr ⟨d.1,d.2,b,_,⟨Fs,fun i hi=>?_,⟨u,hu,hFu⟩,hlx⟩,⟨r1,r2,r3,r4,⟨u,hu,?_⟩,hmn⟩,ah,hW.same s5,by rw[List.length_map,List.length_range],fun R hR=>?_,fun i hi x s hx=>?_⟩)
    ·obtain⟨_,_,_,_,_,_,_,_,_,_,fx⟩:=IC i hi;exact fx
    ·obtain⟨pre,w0⟩:=wzu;exact⟨pre,_,w0⟩
    ·obtain⟨i,_,rfl⟩:=List.mem_map.mp hR;exact As _ _
    ·rw[List.getD_eq_getElem?_getD,List.getElem?_map,List.getElem?_range hi];show RM.Hg _ _ m i x s (sel (Ka (kX (yC (Fs i)) p) x) s);rw[Kn hx];exact best i hi x s
end
def EY:Sp:=fun vs H Q _=>∃(l:Addr) (rows:List RM.Row3) (x:Nat),vs=[.ref l,.int (x:Int)]/\i7 H l rows/\∀ c H',av H H'->H' c=some (.tup [.int (((RM.eg rows x 0).1:Nat):Int),.int (((RM.eg rows x 0).2:Nat):Int)])->Q (.ref c) H'
def Dw:Sp:=fun vs H Q _=>∃(l b:Addr) (rows:List RM.Row3) (a:RM.Row3),vs=[.ref l,.ref b]/\i7 H l rows/\H b=some (.tup (uN a))/\rows.length<=200/\∀ l' H',av H H'->i7 H' l' (RM.Ce rows a)->Q (.ref l') H'
def EZ:Sp:=fun vs H Q _=>∃(l:Addr) (B:List Nat),vs=[.ref l]/\H l=some (.lst (aG B))/\B.length<=200/\∀ l' rows H',av H H'->i7 H' l' rows->RM.Rw B rows->Q (.ref l') H'
def NW(p:Nat)(ts:List dZ)(g:aF p ts)(zs:List Int):Prop:=∃ rs:List Nat,zs=rs.map (fun x=>((x:Nat):Int))/\RM.Base (ae p ts g) rs
def E1:Sp:=fun vs H Q _=>∃ w p ts,∃ g:aF p ts,∃(l:Addr) (zs:List Int),vs=[.ref w,.ref l]/\br H w p ts/\H l=some (.lst (zs.map V.int))/\zs.length<=200/\∀ H' (d:Bool),av H H'->(d=true↔NW p ts g zs)->Q (.bl d) H'
theorem cast_inj{xs ys:List Nat}(e:xs.map (fun x=>((x:Nat):Int))=ys.map fun x=>((x:Nat):Int)):xs=ys:=by
 have:=congrArg (List.map Int.toNat) e;rw[List.map_map,List.map_map]at this;have h1:(Int.toNat∘fun x=>((x:Nat):Int))=id:=funext fun x=>rfl
 rw[h1,List.map_id,List.map_id]at this;exact this
theorem Sm{x y:V}{A B:Prop}(h:x≠y)(ha:A):if(!decide (x=y))=true then A else B:=by
 rw[decide_eq_false h];exact fQ ha
section
variable {P:Program}{w:World}{K:PySem.W.Frag}{mg:Str->Option Value}{base:Heap}{a:qP}
theorem uA(T:Txt K mg a):bE P w K mg base iP 2 a.pM a.tU ["rows","tie_set"] EY:=by
 have bZ:=bZ (P:=P) (w:=w) (base:=base) T;refine T.zF.ok eZ (fun vs H Q E h=>?_) (fun cdv A outer s H vs Q E hr h=>?_)
 ·obtain⟨l,rows,x,rfl,_⟩:=h;rfl
 ·obtain⟨l,rows,x,rfl,hR,q⟩:=h;refine⟨_,(ak (aH (i:=2) eZ.nd rfl (Or.inl rfl) (pv 1))
   (ak (aH (i:=3) eZ.nd rfl (Or.inl rfl) aj)
   (ak (gE PassesOwn.never rfl (u9 K (pv 0)) (IM K (n:=3) rfl (aV (aC (i:=4) eZ.nd rfl (Or.inl rfl)) (aV (aC (i:=5) eZ.nd rfl (Or.inl rfl)) (aV (aC (i:=6) eZ.nd rfl (Or.inl rfl)) fc))))
   (ay (cM (eO (aA bZ (hr.mono (by decide)) (by rfl) T.lC T.lR T.lD .nil aQ (aa (pv 2) (aa (pv 4) ai)))) (ak (z8 (i:=2) eZ.nd rfl (Or.inl rfl) (pv 5) Fd)
   (ay (z8 (i:=3) eZ.nd rfl (Or.inl rfl) (pv 6) Fd))) aZ)))
   (ay (aL (dQ (aa (pv 2) (aa (pv 3) ai)))))))),?_⟩
  refine Ey ?_;intro cj cG dI fL gj p9;obtain⟨xs,hl,pr⟩:=id hR;refine(au rfl (au rfl ⟨l,rfl,⟨_,aS.of hl⟩,gw (K:=K) (a:=l) (xs:=xs) (fun i σ H2=>∃ v4 v5 v6,σ=[some (.ref l),some (.int (x:Int)),some (.int (((RM.eg (rows.take i) x 0).1:Nat):Int)),some (.int (((RM.eg (rows.take i) x 0).2:Nat):Int)),v4,v5,v6]/\H2=H) ⟨none,none,none,rfl,rfl⟩ (fun i σ H2 _ ⟨_,_,_,_,z⟩=>by rw[z];exact aS.of hl) ?_ ?_⟩))
  ·rintro i y D' σ H2 hi ⟨v4,v5,v6,rfl,rfl⟩;obtain⟨qq,hq,b,rfl,hb⟩:=Paired.sI pr hi;refine⟨b,_,rfl,aX.of hb,rfl,_,_,rfl,_,_,rfl,_,_,rfl,rfl,?_⟩;refine(au rfl (au rfl ⟨_,qq.1,rfl,au rfl (?_)⟩));rw[fg];have e3:=Hl (rows.take i) qq x 0;rw[<-take3 hq]at e3;cases rD:(RM.eg (rows.take i) x 0).1.testBit qq.1 with
   | true =>
     rw[rD,if_pos rfl]at e3;refine fQ (au rfl (au rfl (bQ (au rfl (au rfl (bQ ⟨some (.int (qq.1:Int)),some (.int (qq.2.1:Int)),some (.int (qq.2.2:Int)),?_,rfl⟩))))));rw[e3];show[_,_,some (V.int (Builtin.bitXor _ _)),some (V.int (Builtin.bitXor _ _)),_,_,_]=_;rw[xor_int,xor_int]
   | false =>
     rw[rD,if_neg (by decide)]at e3
     refine eT ⟨some (.int (qq.1:Int)),some (.int (qq.2.1:Int)),some (.int (qq.2.2:Int)),?_,rfl⟩;rw[e3];rfl
  ·rintro σ H2 ⟨v4,v5,v6,rfl,rfl⟩;rw[pr.length,List.take_length];exact(au rfl (au rfl ⟨dl rfl,fun c hc=>q c _ (av.new hc) ah⟩))
theorem qN(T:Txt K mg a):bE P w K mg base iP 2 a.mS a.qC ["rows","added"] Dw:=by
 have bZ:=bZ (P:=P) (w:=w) (base:=base) T;refine T.xB.ok oq (fun vs H Q E h=>?_) (fun cdv A outer s H vs Q E hr h=>?_)
 ·obtain⟨l,b,rows,ad,rfl,_⟩:=h;rfl
 ·obtain⟨l,b,rows,ad,rfl,hR,hb,hlen,q⟩:=h;refine⟨_,(ak (aH (i:=2) oq.nd rfl (Or.inl rfl) (eR (aa (pv 1) ai)))
   (ak (gE PassesOwn.never rfl (u9 K (pv 0)) (aC (i:=3) oq.nd rfl (Or.inl rfl))
   (ay (cM (eO (aA bZ (hr.mono (by decide)) (by rfl) T.lC T.lR T.lD .nil aQ (aa (aB (ck K) (pv 3) aj (fun _ _=>rfl)) (aa (aB (ck K) (pv 1) aj (fun _ _=>rfl)) ai)))) (ay (fW (MX K (qX PySem.F.plainAttrs_list PySem.F.slot_list_append PySem.F.type_list_append ff (pv 2) (aa (dQ (aa (aB (ck K) (pv 3) aj (fun _ _=>rfl)) (aa (aK gF (aB (ck K) (pv 3) aj (fun _ _=>rfl)) (aB (ck K) (pv 1) aj (fun _ _=>rfl))) (aa (aK gF (aB (ck K) (pv 3) aj (fun _ _=>rfl)) (aB (ck K) (pv 1) aj (fun _ _=>rfl))) ai)))) ai))))) (ay (fW (MX K (qX PySem.F.plainAttrs_list PySem.F.slot_list_append PySem.F.type_list_append ff (pv 2) (aa (pv 3) ai))))))))
   (ay (aL (pv 2))))),?_⟩
  refine CB ?_;intro cj cG dI fL gj;obtain⟨xs,hl,pr⟩:=id hR;have xsl:=pr.length;refine(au rfl ⟨dl rfl,fun D hD=>?_⟩)
  have s1:av H (upd H D (.lst [.ref b])):=av.new hD;have xT:upd H D (.lst [.ref b]) D=some (.lst [.ref b]):=ah;generalize upd H D (.lst [.ref b])=H1 at s1 xT;refine(au rfl ⟨l,rfl,⟨_,aS.of (s1 _ _ hl)⟩,gw (K:=K) (a:=l) (xs:=xs) (fun i σ H2=>∃ v3 acc,σ=[some (.ref l),some (.ref b),some (.ref D),v3]/\av H H2/\H2 D=some (.lst acc)/\acc.length=i+1/\Paired (wK H2) acc (RM.Ce (rows.take i) ad)) ⟨none,_,rfl,s1,xT,rfl,.cons ⟨b,rfl,s1 _ _ hb⟩ .nil⟩ (fun i σ H2 _ ⟨_,_,_,z,_⟩=>aS.of (z _ _ hl)) ?_ ?_⟩)
  ·rintro i y D' σ H2 hi ⟨v3,acc,rfl,s2,pY,al,Sn⟩;obtain⟨qq,hq,c,rfl,hc⟩:=Paired.sI pr hi;have Qc:=(List.getElem?_eq_some_iff.mp hi).1;have hc2:=s2 _ _ hc;have ET:=s2 _ _ hb;have put:RM.Ce (rows.take (i+1)) ad=RM.Ce (rows.take i) ad++[if qq.2.1.testBit ad.1=true then(qq.1,qq.2.1^^^ad.2.1,qq.2.2^^^ad.2.2) else qq]:=by
    unfold RM.Ce;rw[take3 hq,List.map_append];rfl
   refine(au rfl (cu (aX.of hc2) (ao (j:=1) rfl) (au rfl (cu (aX.of ET) (ao (j:=0) rfl) ⟨_,ad.1,rfl,au rfl (?_)⟩))));rw[fg];cases rD:qq.2.1.testBit ad.1 with
   | true =>
     rw[rD,if_pos rfl]at put;refine fQ (au rfl ⟨.inl ⟨rfl,_,aS.of pY⟩,au rfl (cu (aX.of hc2) (ao (j:=0) rfl) (au rfl (cu (aX.of hc2) (ao (j:=1) rfl) (au rfl (cu (aX.of ET) (ao (j:=1) rfl) (bQ (au rfl (cu (aX.of hc2) (ao (j:=2) rfl) (au rfl (cu (aX.of ET) (ao (j:=2) rfl) (bQ ⟨dl rfl,fun d hd=>?_⟩)))))))))))⟩)
     have s3:av H2 (upd H2 d (.tup (uN (qq.1,qq.2.1^^^ad.2.1,qq.2.2^^^ad.2.2)))):=av.new hd;have Nv:upd H2 d (.tup (uN (qq.1,qq.2.1^^^ad.2.1,qq.2.2^^^ad.2.2))) d=some (.tup (uN (qq.1,qq.2.1^^^ad.2.1,qq.2.2^^^ad.2.2))):=ah;have ev:[V.int (qq.1:Int),V.int (Builtin.bitXor (qq.2.1:Int) (ad.2.1:Int)),V.int (Builtin.bitXor (qq.2.2:Int) (ad.2.2:Int))]=uN (qq.1,qq.2.1^^^ad.2.1,qq.2.2^^^ad.2.2):=by
      rw[xor_int,xor_int];rfl
     dsimp only;rw[ev];generalize upd H2 d (.tup (uN (qq.1,qq.2.1^^^ad.2.1,qq.2.2^^^ad.2.2)))=H3 at s3 Nv;have Ah:=s3 _ _ pY;refine⟨D,_,_,rfl,rfl,Ah,kC (by lia),_,acc++[.ref d],rfl,(s2.trans s3).put hD,ah,by rw[List.length_append,al];rfl,?_⟩
     rw[put];exact Paired.snoc (Paired.imp' (fun _ _ z=>z.tups (s3.tups.trans (dH.put Ah))) Sn) ⟨d,rfl,dH.put Ah _ _ Nv⟩
   | false =>
     rw[rD,if_neg (by decide)]at put
     refine eT (au rfl ⟨.inl ⟨rfl,_,aS.of pY⟩,au rfl ⟨D,_,_,rfl,rfl,pY,kC (by lia),_,acc++[.ref c],rfl,s2.put hD,ah,by rw[List.length_append,al];rfl,?_⟩⟩)
     rw[put];exact Paired.snoc (Paired.imp' (fun _ _ z=>z.tups (dH.put pY)) Sn) ⟨c,rfl,dH.put pY _ _ hc2⟩
  ·rintro σ H2 ⟨v3,acc,rfl,s2,pY,al,Sn⟩;rw[xsl,List.take_length]at Sn;exact(au rfl (q D H2 s2 ⟨acc,pY,Sn⟩))
theorem jA(T:Txt K mg a):bE P w K mg base iP 3 a.pN a.tV ["sets"] EZ:=by
 have uA:=uA (P:=P) (w:=w) (base:=base) T;have qN:=qN (P:=P) (w:=w) (base:=base) T;refine T.zG.ok ie (fun vs H Q E h=>?_) (fun cdv A outer s H vs Q E hr h=>?_)
 ·obtain⟨l,B,rfl,_⟩:=h;rfl
 ·obtain⟨l,B,rfl,hl,hB,q⟩:=h;refine⟨_,(ak (aH (i:=1) ie.nd rfl (Or.inl rfl) (eR ai))
   (ak (gE PassesOwn.never rfl (Fw K (by rfl) T.ku (aa (pv 0) ai)) (IM K (n:=2) rfl (aV (aC (i:=2) ie.nd rfl (Or.inl rfl)) (aV (aC (i:=3) ie.nd rfl (Or.inl rfl)) fc)))
   (ak (aH (i:=4) ie.nd rfl (Or.inl rfl) (aA uA (hr.mono (by decide)) (by rfl) T.HU T.Ii T.HV .nil aQ (aa (pv 1) (aa (pv 3) ai))))
   (ay (cM (aP yH (aB (ck K) (pv 4) aj (fun _ _=>rfl)) aj (aO _)) (ay (aH (i:=1) ie.nd rfl (Or.inl rfl) (aA qN (hr.mono (by decide)) (by rfl) T.EJ T.EL T.EK .nil aQ (aa (pv 1) (aa (dQ (aa (aK nN (Jm PySem.F.plainAttrs_int PyProof.Rows.slot_int_bit_length PyProof.Rows.type_int_bit_length Fq (aB (ck K) (pv 4) aj (fun _ _=>rfl))) aj) (aa (aB (ck K) (pv 4) aj (fun _ _=>rfl)) (aa (aK gF (aB (ck K) (pv 4) aj (fun _ _=>rfl)) (aK jE aj (pv 2))) ai)))) ai))))) aZ))))
   (ay (aL (pv 1))))),?_⟩
  refine Ez ?_;intro cj cG dI fL gj;refine⟨dl rfl,fun D hD=>?_⟩
  have s1:av H (upd H D (.lst [])):=av.new hD;have xT:upd H D (.lst []) D=some (.lst []):=ah;generalize upd H D (.lst [])=H1 at s1 xT;refine(au rfl ⟨l,rfl,⟨_,aS.of (s1 _ _ hl)⟩,JB (K:=K) (a:=l) (xs:=aG B) (fun i σ H2=>∃ l2 rows v2 v3 v4,σ=[some (.ref l),some (.ref l2),v2,v3,v4]/\av H H2/\i7 H2 l2 rows/\RM.Rw (B.take i) rows) ⟨D,[],none,none,none,rfl,s1,⟨[],xT,.nil⟩,RM.Rw.start⟩ (fun i σ H2 _ ⟨_,_,_,_,_,_,z,_⟩=>aS.of (z _ _ hl)) ?_ ?_⟩)
  ·rintro i x T0 σ H2 hx ⟨l2,rows,v2,v3,v4,rfl,s2,NX,Lx⟩ hT;obtain⟨b,hb,rfl⟩:=kQ hx;have Qc:=(List.getElem?_eq_some_iff.mp hb).1;have s3:av H2 (upd H2 T0 (.tup [.int (i:Int),.int (b:Int)])):=av.new hT;have hT3:upd H2 T0 (.tup [.int (i:Int),.int (b:Int)]) T0=some (.tup [.int (i:Int),.int (b:Int)]):=ah;generalize upd H2 T0 (.tup [.int (i:Int),.int (b:Int)])=H3 at s3 hT3;refine⟨T0,_,rfl,aX.of hT3,rfl,_,_,rfl,_,_,rfl,rfl,?_⟩;refine(au rfl (au rfl ⟨l2,rows,b,rfl,NX.same s3,fun c H4 s4 hc=>?_⟩))
   have hlt:(B.take i).length=i:=by rw[List.length_take];lia
   refine(au rfl (cu (aX.of hc) (ao (j:=0) rfl) (bQ (au rfl (nQ (fun h0=>?_) (fun h0=>?_))))))
   ·have h0:(0:Int)<_:=of_decide_eq_true h0;have Ut:(RM.eg rows b 0).1≠0:=by lia
    have So:=Lx.put Ut;rw[hlt,<-take3 hb]at So;have Sq:=(NX.same s3).same s4;have hrl:rows.length<=200:=by have:=Lx.le;lia
    refine(au rfl (au rfl (cu (aX.of hc) (ao (j:=0) rfl) ⟨rfl,au rfl ⟨rfl,bQ (au rfl (cu (aX.of hc) (ao (j:=0) rfl) (au rfl (cu (aX.of hc) (ao (j:=1) rfl) (au rfl (bQ ⟨⟨by lia,by lia,by decide⟩,bQ ⟨dl rfl,fun d hd=>?_⟩⟩))))))⟩⟩)))
    have ev:[V.int (((Builtin.Int.intBits (((RM.eg rows b 0).1:Nat):Int):Nat):Int)-1),V.int (((RM.eg rows b 0).1:Nat):Int),V.int (Builtin.bitXor (((RM.eg rows b 0).2:Nat):Int) (1*2^((i:Nat):Int).toNat))]=uN ((RM.eg rows b 0).1.log2,(RM.eg rows b 0).1,(RM.eg rows b 0).2^^^2^i):=by
     rw[Kw Ut,jY,xor_int];rfl
    dsimp only;rw[ev];refine⟨l2,d,rows,_,rfl,Sq.same (av.new hd),ah,hrl,fun l5 H5 s5 hR5=>?_⟩
    exact⟨l5,_,_,_,_,rfl,((s2.trans (s3.trans s4)).trans (av.new hd)).trans s5,hR5,So⟩
   ·have Ut:(RM.eg rows b 0).1=0:=by
     have : ¬(0:Int)<_:=fun z=>h0 (decide_eq_true z)
     lia
    have hsk:=Lx.skip ((Lx.tF b 0).mp Ut);rw[<-take3 hb]at hsk;exact⟨l2,rows,_,_,_,rfl,s2.trans (s3.trans s4),(NX.same s3).same s4,hsk⟩
  ·rintro σ H2 ⟨l2,rows,v2,v3,v4,rfl,s2,NX,Lx⟩;rw[aM,List.take_length]at Lx;exact(au rfl (q l2 rows H2 s2 NX Lx))
theorem uB(T:Txt K mg a):bE P w K mg base iP 9 a.pO a.tW ["web","rings"] E1:=by
 have ER:=ER (P:=P) (w:=w) (base:=base) T;have iz:=iz (P:=P) (w:=w) (base:=base) T;have jA:=jA (P:=P) (w:=w) (base:=base) T;refine T.zJ.ok EA (fun vs H Q E h=>?_) (fun cdv A outer s H vs Q E hr h=>?_)
 ·obtain⟨w,p,ts,g,l,zs,rfl,_⟩:=h;rfl
 ·obtain⟨wb,p,ts,g,l,zs,rfl,hw,hl,hz,q⟩:=h;refine⟨_,(ak (cM (PW.pt (uF (aP uG (aR (iZ K) (by rfl) T.dM PySem.boot_len (aa (pv 1) ai)) (aA ER (hr.mono (by decide)) (by rfl) T.Pj T.Po T.Pk .nil aQ (aa (pv 0) ai)) (aO _)) (qo (nL (eO (aR (Wg K rfl) (by rfl) T.R8 PyProof.Rows.boot_all (aa (bN (own:=["ring"]) (frees:=["web"]) (js:=[0]) (aI (af ig) ["web","rings"]) rfl (u9 K (pv 1)) (fun _ _ _ _=>(aC (i:=0) (show(["ring","web"]:List Str).Nodup by decide +kernel) rfl (Or.inl rfl))) (fun _ _ _ _=>cB) (fun _ _ _ _=>(aA iz (hr.mono (by decide)) (by rfl) T.uc T.uq T.ud .nil aQ (aa (pv 1) (aa (pv 0) ai))))) ai))))))) (ay (aL qR)) aZ)
   (ay (aL (cI dw (aR (iZ K) (by rfl) T.dM PySem.boot_len (aa (aA jA (hr.mono (by decide)) (by rfl) T.zH T.zR T.zI .nil aQ (aa (pv 1) ai)) ai)) (aR (iZ K) (by rfl) T.dM PySem.boot_len (aa (pv 1) ai)) (aO _))))),?_⟩
  refine EB ?_;intro cj cG;refine(au rfl (tI rfl (.inl (aS.of hl)) (au rfl ⟨wb,p,ts,g,rfl,hw,fun H1 s1=>⟨rfl,au rfl (?_)⟩⟩)))
  by_cases hn:zs.length=(ae p ts g).bx.length
  case neg =>
   refine Sm (fun z=>hn ?_) (q H1 false s1 ⟨(fun z=>nomatch z),fun⟨rs,e,b⟩=>absurd b.len (fun z=>hn ?_)⟩)
   ·have z:=V.int.inj z;rw[List.length_map]at z
    lia
   ·rw[e,List.length_map];exact z
  refine Nn (by rw[List.length_map,hn]) ?_
  have hl1:=s1 _ _ hl;refine(au rfl ⟨l,rfl,⟨_,aS.of hl1⟩,fun D hD=>bS (xs:=zs.map V.int) (fun i acc H2=>av H1 H2/\H2 D=some (.lst acc)/\∃ bs:List Bool,acc=bs.map V.bl/\bs.length=i/\∀(j:Nat) z d,j<i->zs[j]?=some z->bs[j]?=some d->(d=true↔∃ m:Nat,z=(m:Int)/\m<2^ts.length/\(ae p ts g).Ring m)) ⟨av.new hD,ah,[],rfl,rfl,(fun j z d h=>by lia)⟩ (fun i acc H2 _ z=>⟨aS.of (z.1 _ _ hl1),z.2.1,by obtain⟨bs,e,e2,_⟩:=z.2.2;rw[e,List.length_map,e2];exact Nat.le_refl _⟩) (Nat.le_of_lt (kC (by rw[List.length_map];lia))) ?_ ?_⟩)
  ·rintro i x acc H2 hx ⟨s2,pY,bs,rfl,bl,all⟩;rw[List.getElem?_map]at hx;obtain⟨z,hz,rfl⟩:=Option.map_eq_some_iff.mp hx;refine⟨rfl,au rfl (au rfl ⟨wb,p,ts,g,z,rfl,hw.same (s1.trans s2),fun H3 d s3 hd=>?_⟩)⟩
   refine⟨s3 _ _ pY,(s2.trans s3).put hD,ah,bs++[d],by rw[List.map_append];rfl,by rw[List.length_append,bl];rfl,fun j z' d' hj hz' hd'=>?_⟩
   by_cases e:j=i
   ·subst e;rw[hz]at hz';cases hz';rw[List.getElem?_append_right (by lia),bl,Nat.sub_self]at hd'
    cases hd';exact hd
   ·rw[List.getElem?_append_left (by lia)]at hd'
    exact all j z' d' (by lia) hz' hd'
  ·rintro acc H2 ⟨s2,pY,bs,rfl,bl,all⟩;rw[List.length_map]at bl all;refine⟨D,_,rfl,aS.of pY,_,rfl,?_⟩;have ok:bs.all id=true↔∃ rs:List Nat,zs=rs.map (fun x=>((x:Nat):Int))/\∀ r∈rs,(ae p ts g).Ring r/\r<2^ts.length:=by
    rw[List.all_eq_true]
    constructor
    ·intro h;have each:∀ z∈zs,∃ m:Nat,z=(m:Int)/\m<2^ts.length/\(ae p ts g).Ring m:=fun z hz'=>by
      obtain⟨j,hj⟩:=List.getElem?_of_mem hz';have NG:=(List.getElem?_eq_some_iff.mp hj).1;have hb:bs[j]?=some (bs[j]'(by lia)):=List.getElem?_eq_getElem _
      exact(all j z _ NG hj hb).mp (h _ (List.mem_of_getElem? hb))
     refine⟨zs.map Int.toNat,?_,fun r hr=>?_⟩
     ·rw[List.map_map];refine(List.map_id zs).symm.trans (List.map_congr_left fun z hz'=>?_)
      obtain⟨m,rfl,_⟩:=each z hz';rfl
     ·obtain⟨z,hz',rfl⟩:=List.mem_map.mp hr;obtain⟨m,rfl,h1,h2⟩:=each z hz';exact⟨h2,h1⟩
    ·rintro⟨rs,rfl,hrs⟩ d hd;obtain⟨j,hj⟩:=List.getElem?_of_mem hd;have NG:=(List.getElem?_eq_some_iff.mp hj).1;have hr:rs[j]?=some (rs[j]'(by rw[List.length_map]at bl;lia)):=List.getElem?_eq_getElem _
     have hm:=hrs _ (List.mem_of_getElem? hr);exact(all j _ d (by lia) (by rw[List.getElem?_map,hr];rfl) hj).mpr (au rfl ⟨hm.2,hm.1⟩)
   cases hall:bs.all id with
   | false =>
     refine fQ (q H2 false (s1.trans s2) ⟨(fun z=>nomatch z),fun⟨rs,e,b⟩=>?_⟩)
     rw[ok.mpr ⟨rs,e,b.ring⟩]at hall;cases hall
   | true =>
     obtain⟨rs,rfl,hrs⟩:=ok.mp hall;rw[List.length_map]at hz hn;rw[<-jI]at hl1;have hl2:=s2 _ _ hl1;refine eT (au rfl ⟨l,rs,rfl,hl2,hz,fun l3 rows H3 s3 Uu rw3=>?_⟩)
     obtain⟨xs,W2,Qo⟩:=id Uu;refine(tI rfl (.inl (aS.of W2)) (au rfl (tI rfl (.inl (aS.of (s3 _ _ hl2))) ⟨rfl,q H3 _ ((s1.trans s2).trans s3) ?_⟩)));rw[aM,Qo.length,decide_eq_true_iff]
     constructor
     ·intro e;have e:=V.int.inj e;exact⟨rs,rfl,hn,hrs,rw3.len.mp (by lia)⟩
     ·rintro⟨rs2,e,b⟩;rw[<-cast_inj e]at b;have:=rw3.len.mpr b.ind;rw[this]
end
def MarksOf(N:RM.Net)(rs ms:List Nat):Prop:=ms.length=rs.length/\∀(i m:Nat),ms[i]?=some m->m<2^N.n/\∀(j r:Nat),rs[j]?=some r->N.par r m=decide (i=j)
def Bk(C:Addr):Sp:=fun vs H Q E=>∃ w p ts,∃ g:aF p ts,∃(l:Addr) (zs:List Int),vs=[.ref w,.ref l]/\br H w p ts/\H l=some (.lst (zs.map V.int))/\zs.length<=200/\
 ((∃ rs:List Nat,zs=rs.map (fun x=>((x:Nat):Int))/\RM.Base (ae p ts g) rs/\∀(D:Addr) (ms:List Nat) (H' : Hp),H D=none->av H H'->H' D=some (.lst (aG ms))->MarksOf (ae p ts g) rs ms->Q (.ref D) H')\/(¬ NW p ts g zs/\∀ H',av H H'->E (.ref C) none H'))
section
variable {P:Program}{w:World}{K:PySem.W.Frag}{mg:Str->Option Value}{base:Heap}{a:qP}
theorem oU(T:Txt K mg a):bE P w K mg base (Ak P w) 10 a.kh a.oE ["web","rings"] (Bk a.xy):=by
 have uB:=uB (P:=P) (w:=w) (base:=base) T;have jA:=jA (P:=P) (w:=w) (base:=base) T;have bZ:=bZ (P:=P) (w:=w) (base:=base) T;have lZ:=lZ (P:=P) (w:=w) (base:=base) T;refine T.uW.Jw i8 (fun vs H Q E h=>?_) (fun cdv A outer s H vs Q E hr h=>?_)
 ·obtain⟨w,p,ts,g,l,zs,rfl,_⟩:=h;rfl
 ·obtain⟨wb,p,ts,g,l,zs,rfl,hw,hl,hz,q⟩:=h;refine⟨_,(ak (cM (nL (eO (aA uB (hr.mono (by decide)) (by rfl) T.HW T.Ij T.HX .nil aQ (aa (pv 0) (aa (pv 1) ai))))) (ay (vL gJ.V2 rfl (by rfl) T.Lg PySem.F.excBase_ValueError (aa mq ai))) aZ)
   (ak (aH (i:=2) i8.nd rfl (Or.inl rfl) (aA jA (hr.mono (by decide)) (by rfl) T.zH T.zR T.zI .nil aQ (aa (pv 1) ai)))
   (ak (aH (i:=3) i8.nd rfl (Or.inl rfl) (eR ai))
   (ak (ve rfl (bA (by rfl) T.cC (aa (aR (iZ K) (by rfl) T.dM PySem.boot_len (aa (pv 1) ai)) ai)) (aC (i:=4) i8.nd rfl (Or.inr rfl))
   (ay (fW (MX K (qX PySem.F.plainAttrs_list PySem.F.slot_list_append PySem.F.type_list_append ff (pv 3) (aa (aA lZ (hr.mono (by decide)) (by rfl) T.CG T.C9 T.CH .nil aQ (aa (pv 0) (aa (bN (own:=["lead","row","places"]) (frees:=["place"]) (js:=[4]) (aI (af e7) ["web","rings","rows","found","place"]) rfl (u9 K (pv 2)) (fun _ _ _ _=>(IM K (n:=3) rfl (aV (aC (i:=0) (show(["lead","row","places","place"]:List Str).Nodup by decide +kernel) rfl (Or.inl rfl)) (aV (aC (i:=1) (show(["lead","row","places","place"]:List Str).Nodup by decide +kernel) rfl (Or.inl rfl)) (aV (aC (i:=2) (show(["lead","row","places","place"]:List Str).Nodup by decide +kernel) rfl (Or.inl rfl)) fc))))) (fun _ _ _ _=>(fX (eO (aA bZ (hr.mono (by decide)) (by rfl) T.lC T.lR T.lD .nil aQ (aa (pv 2) (aa (pv 3) ai)))))) (fun _ _ _ _=>(pv 0))) ai))) ai))))))
   (ay (aL (pv 3))))))),?_⟩
  refine AJ ?_;intro cj cG dI fL gj p9;refine(au rfl (au rfl ⟨wb,p,ts,g,l,zs,rfl,hw,hl,hz,fun H1 d s1 hd=>(au rfl (?_))⟩))
  rcases q with⟨rs,rfl,bs,q⟩|⟨hn,q⟩
  case inr =>
   cases d with
   | true=>exact absurd (hd.mp rfl) hn
   | false=>exact fQ ⟨dl rfl,q H1 s1⟩
  rw[hd.mpr ⟨rs,rfl,bs⟩];refine eT ?_;rw[List.length_map]at hz;rw[<-jI]at hl;have hl1:=s1 _ _ hl;refine(au rfl ⟨l,rs,rfl,hl1,hz,fun l2 rows H2 s2 NX Lx=>?_⟩)
  refine⟨dl rfl,fun D hD=>?_⟩
  have s3:av H2 (upd H2 D (.lst [])):=av.new hD;have Ah:upd H2 D (.lst []) D=some (.lst (aG [])):=ah;generalize upd H2 D (.lst [])=H3 at s3 Ah;have xH:=(s1.trans s2).trans s3;have M4:H D=none:=(s1.trans s2).free hD;have W2:=xH _ _ hl;have Uu:=NX.same s3;obtain⟨xs,hxs,prx⟩:=id Uu;have rwl:=Lx.le;refine(au rfl (tI rfl (.inl (aS.of W2)) (au rfl ⟨(by rw[aM];lia),(by rw[aM];lia),?_⟩)))
  refine g8 (lo:=0) (n:=((aG rs).length:Int).toNat) (fun i σ H4=>∃ v4 ms,σ=[some (.ref wb),some (.ref l),some (.ref l2),some (.ref D),v4]/\av H H4/\i7 H4 l2 rows/\H4 D=some (.lst (aG ms))/\ms=(List.range i).map fun j=>orM (RM.dS rows j)) ⟨none,[],rfl,xH,Uu,Ah,rfl⟩ ?_ ?_
  ·rintro i D' σ H4 hi ⟨v4,ms,rfl,s4,Sq,DE,Qq⟩;rw[aM,Int.toNat_natCast]at hi;rw[Int.zero_add];obtain⟨xs4,Ss,PD⟩:=id Sq;have hms:ms.length=i:=by rw[Qq,List.length_map,List.length_range]
   have W3:D≠l2:=fun e=>by
    obtain⟨ys,e1,_⟩:=NX;rw[e,e1]at hD;cases hD
   refine(au rfl ⟨.inl ⟨rfl,_,aS.of DE⟩,au rfl (au rfl ⟨l2,rfl,⟨_,aS.of Ss⟩,fun C hC=>bS (xs:=xs4) (fun j acc H5=>av H4 H5/\H5 C=some (.lst acc)/\acc=aG (RM.dS (rows.take j) i)) ⟨av.new hC,ah,rfl⟩ ?_ (Nat.le_of_lt (kC (by rw[PD.length];lia))) ?_ ?_⟩)⟩)
   ·rintro j acc H5 hj ⟨s5,PF,rfl⟩;refine⟨aS.of (s5 _ _ Ss),PF,?_⟩;rw[aM];unfold RM.dS;rw[List.length_map];have h1:=List.length_filter_le (fun q:RM.Row3=>q.2.2.testBit i) (rows.take j)
    rw[List.length_take]at h1
    lia
   ·rintro j x acc H5 hx ⟨s5,PF,rfl⟩;obtain⟨qq,hq,c,rfl,hc⟩:=Paired.sI PD hx;have hc5:=s5 _ _ hc;have lead:RM.dS (rows.take (j+1)) i=RM.dS (rows.take j) i++(if qq.2.2.testBit i=true then[qq.1] else[]):=by
     unfold RM.dS;rw[take3 hq,List.filter_append,List.map_append]
     congr 1
     rw[List.filter_cons];cases qq.2.2.testBit i<;>rfl
    refine⟨c,_,rfl,aX.of hc5,rfl,_,_,rfl,_,_,rfl,_,_,rfl,rfl,rfl,au rfl (au rfl ⟨_,i,rfl,au rfl (?_)⟩)⟩;rw[fg];cases hb:qq.2.2.testBit i with
    | true =>
      rw[hb,if_pos rfl]at lead;refine(au rfl ⟨PF,s5.put hC,ah,?_⟩);rw[lead,eU]
    | false =>
      rw[hb,if_neg (by decide),List.append_nil]at lead
      exact⟨s5,PF,by rw[lead]⟩
   ·rintro acc H5 ⟨s5,PF,rfl⟩;rw[PD.length,List.take_length]at PF;have hir:rs[i]?=some rs[i]:=List.getElem?_eq_getElem hi;have mk:=Lx.marks (N:=ae p ts g) bs.ind (fun b hb=>(bs.ring b hb).2) (i:=i) hir
    refine⟨wb,p,ts,C,_,rfl,hw.same (s4.trans s5),g.JG,PF,mk.2,?_⟩;have NS:=s5 _ _ DE;refine⟨D,_,_,rfl,rfl,NS,kC (by rw[aM];lia),_,ms++[orM (RM.dS rows i)],rfl,(s4.trans s5).put M4,?_,?_,?_⟩
    ·obtain⟨ys,e1,e2⟩:=Sq.same s5;exact⟨ys,by rw[aq W3.symm];exact e1,Paired.imp' (fun _ _ z=>z.tups (dH.put NS)) e2⟩
    ·rw[ah,eU]
    ·rw[List.range_succ,List.map_append,Qq];rfl
  ·rintro σ H4 ⟨v4,ms,rfl,s4,Sq,DE,Qq⟩;rw[aM,Int.toNat_natCast]at Qq;refine(au rfl (q D ms H4 M4 s4 DE ⟨by rw[Qq,List.length_map,List.length_range],fun i m hm=>?_⟩))
   rw[Qq,List.getElem?_map]at hm;obtain⟨j,hj,rfl⟩:=Option.map_eq_some_iff.mp hm;have ej:j=i/\i<rs.length:=by
    obtain⟨h1,h2⟩:=List.getElem?_eq_some_iff.mp hj;rw[List.getElem_range]at h2;rw[List.length_range]at h1;exact⟨h2.symm,h1⟩
   obtain⟨rfl,NG⟩:=ej;have mk:=fun j' r (h:rs[j']?=some r)=>Lx.marks (N:=ae p ts g) bs.ind (fun b hb=>(bs.ring b hb).2) (i:=j) h
   have hjr:rs[j]?=some rs[j]:=List.getElem?_eq_getElem NG;exact⟨OS (mk j _ hjr).2,fun j' r hr=>(mk j' r hr).1⟩
end
def IE(t1 t2:Addr)(W4 W5:Pos):Sp:=fun vs H Q _=>∃ w p ts,∃ g:aF p ts,vs=[.ref w]/\br H w p ts/\H t1=some (.jT (fk (rG "least_ways") W4))/\H t2=some (.jT (fk (rG "by_length") W5))/\
 ∀ D rs H',H D=none->av H H'->H' D=some (.lst (aG rs))->RM.LB (ae p ts g) (bz ts) rs->rs.Pairwise (Gh ts)->Q (.ref D) H'
section
variable {P:Program}{w:World}{K:PySem.W.Frag}{mg:Str->Option Value}{base:Heap}{a:qP}
theorem kM(T:Txt K mg a):bE P w K mg base iP 10 a.iF a.kI ["web"] (IE a.cK a.iO cy gQ):=by
 have lY:=lY (P:=P) (w:=w) (base:=base) T;have gC:=gC (P:=P) (w:=w) (base:=base) T;have eI:=eI (P:=P) (w:=w) (base:=base) T;have oR:=oR (P:=P) (w:=w) (base:=base) T;refine T.qh.ok dG (fun vs H Q E h=>?_) (fun cdv A outer s H vs Q E hr h=>?_)
 ·obtain⟨w,p,ts,g,rfl,_⟩:=h;rfl
 ·obtain⟨wb,p,ts,g,rfl,hw,Lu,M7,q⟩:=h;refine⟨_,(ak (iC (i:=1) dG.nd rfl rfl (own:=["chord"]) (frees:=[]) (js:=[]) (aI (af cN) ["web","waiting","found","marks","ring"]) rfl (u9 K (aA lY (hr.mono (by decide)) (by rfl) T.CT T.Dg T.CU .nil aQ (aa (pv 0) ai))) (fun _ _ _ _=>(aC (i:=0) (show(["chord"]:List Str).Nodup by decide +kernel) rfl (Or.inl rfl))) (fun _ _ _ _=>cB) (fun _ _ _ _=>(aK jE aj (pv 0))))
   (ak (aH (i:=2) dG.nd rfl (Or.inl rfl) (eR ai))
   (ak (vE PassesOwn.never (aP yH (aR (iZ K) (by rfl) T.dM PySem.boot_len (aa (pv 1) ai)) aj (aO _)) (ak (aH (i:=3) dG.nd rfl (Or.inr rfl) (aB (kN K) (pv 1) aj (fun _ _=>rfl)))
   (ak (aH (i:=4) dG.nd rfl (Or.inr rfl) (aB (ck K) (aA gC (hr.mono (by decide)) (by rfl) T.uU T.u4 T.uV .nil vM (aa (pv 0) (aa (pv 3) ai))) aj (fun _ _=>rfl)))
   (ak (fW (MX K (qX PySem.F.plainAttrs_list PySem.F.slot_list_append PySem.F.type_list_append ff (pv 2) (aa (pv 4) ai))))
   (ay (iC (i:=1) dG.nd rfl rfl (own:=["later"]) (frees:=["marks","ring"]) (js:=[3,4]) (aI (af cN) ["web","waiting","found","marks","ring"]) rfl (u9 K (qU (T6 K) (pv 1) (qT aj) Ab)) (fun _ _ _ _=>(aC (i:=0) (show(["later","marks","ring"]:List Str).Nodup by decide +kernel) rfl (Or.inl rfl))) (fun _ _ _ _=>cB) (fun _ _ _ _=>(nM (eO (aA eI (hr.mono (by decide)) (by rfl) T.qf T.ql T.qg .nil aQ (aa (pv 2) (aa (pv 0) ai)))) (aK gF (pv 0) (pv 1)) (pv 0)))))))))
   (ay (aL (aA oR (hr.mono (by decide)) (by rfl) T.CV T.k_by_length T.CW .nil aQ (aa (pv 0) (aa (pv 2) ai)))))))),?_⟩
  refine xg ?_;intro cj cG dI fL gj p9 zq;have wl:=g.len;have cn:(ae p ts g).bx.length<=24:=by
   have:(ae p ts g).bx.length<=(List.range (ae p ts g).n).length:=List.length_filter_le ..;rw[List.length_range]at this;have h2:(ae p ts g).n=ts.length:=rfl
   lia
  have aey:(100:Nat)<sizeLine:=by decide
  refine(au rfl ⟨wb,p,ts,g,rfl,hw,fun Dc H1 hDc s1 hc1=>⟨Dc,rfl,⟨_,aS.of hc1⟩,fun X hX=>bS (K:=K) (a:=Dc) (xs:=aG (ae p ts g).bx) (fun i acc H2=>av H1 H2/\H2 X=some (.lst acc)/\acc=aG (((ae p ts g).bx.take i).map fun c=>2^c)) ⟨av.new hX,ah,rfl⟩ (fun i acc H2 _ z=>⟨aS.of (z.1 _ _ hc1),z.2.1,by rw[z.2.2,aM,List.length_map,List.length_take];lia⟩) (dm (by rw[aM];lia)) ?_ ?_⟩⟩)
  ·rintro i x acc H2 hx ⟨s2,hX2,rfl⟩;obtain⟨c,hci,rfl⟩:∃ c,(ae p ts g).bx[i]?=some c/\x = .int (c:Int):=by
    unfold aG at hx;rw[List.getElem?_map]at hx;obtain⟨c,h1,h2⟩:=Option.map_eq_some_iff.mp hx;exact⟨c,h1,h2.symm⟩
   have hcn:=(RM.bU.mp (List.mem_of_getElem? hci)).1;have hcn:c<ts.length:=hcn;refine⟨rfl,au rfl (bQ ⟨⟨by lia,by lia,by decide⟩,hX2,s2.put hX,ah,?_⟩)⟩
   rw[List.take_add_one,hci];show _=aG (List.map _ (List.take i (ae p ts g).bx++[c]));rw[List.map_append,List.map_singleton,eU];dsimp only;rw[jY]
  rintro acc H2 ⟨s2,hX2,rfl⟩;rw[aM,List.take_length]at hX2;refine⟨dl rfl,fun F hF=>?_⟩
  have s3:av H2 (upd H2 F (.lst [])):=av.new hF;have ID:=s3 _ _ hX2;have hF3:upd H2 F (.lst []) F=some (.lst (aG [])):=ah;have hF0:H F=none:=(s1.trans s2).free hF;have hXF:X≠F:=fun z=>by rw[<-z,hX2]at hF;cases hF
  have s03:=(s1.trans s2).trans s3;generalize upd H2 F (.lst [])=H3 at ID hF3 s03;have nd:(ae p ts g).bx.Nodup:=RM.Hf;have hL:=tw g;refine⟨fun n σ H4=>∃ X bs us ws cs v3 v4,σ=[some (.ref wb),some (.ref X),some (.ref F),v3,v4]/\av H H4/\H4 X=some (.lst (aG ws))/\H4 F=some (.lst (aG bs))/\X≠F/\RM.DP (ae p ts g) (bz ts) bs us/\RM.Wt (ae p ts g) bs ws cs/\n=ws.length,⟨_,X,[],[],_,_,none,none,rfl,s03,ID,hF3,hXF,RM.DP.start,RM.Wt.start nd,rfl⟩,?_⟩
  rintro n σ H4 ⟨X,bs,us,ws,cs,v3,v4,rfl,PJ,Qs,hF4,W6,dp,wt,rfl⟩;refine(au rfl (tI rfl (.inl (aS.of Qs)) (bQ (au rfl (nQ (fun hlen=>?_) (fun hlen=>?_))))))
  case refine_2 =>
   have hl : ¬(0:Int)<((aG ws).length:Int):=fun z=>hlen (decide_eq_true z)
   have e:ws=[]:=List.eq_nil_of_length_eq_zero (by rw[aM]at hl;lia)
   subst e;have hb:bs.length=(ae p ts g).bx.length:=by
    have:=wt.sum;rw[List.length_nil]at this
    lia
   refine(au rfl (au rfl ⟨wb,p,ts,g,F,bs,rfl,hw.same PJ,hF4,by lia,fun m hm=>(dp.ring m hm).2,PJ _ _ M7,fun D ms' H5 hD s5 NS hp hs=>?_⟩))
   exact q D ms' H5 (PJ.free hD) (PJ.trans s5) NS ((dp.least hb).perm hp) hs
  have hlen:(0:Int)<((aG ws).length:Int):=of_decide_eq_true hlen;rw[aM]at hlen;refine⟨fun σ' H'=>∃ X bs us Nb cs v3 v4,σ' = [some (.ref wb),some (.ref X),some (.ref F),v3,v4]/\av H H'/\H' X=some (.lst (aG Nb))/\H' F=some (.lst (aG bs))/\X≠F/\RM.DP (ae p ts g) (bz ts) bs us/\RM.Wt (ae p ts g) bs Nb cs/\Nb.length<ws.length,fun σ' H' ⟨X,bs,us,Nb,cs,v3,v4,e,a1,a2,a3,a4,a5,a6,a7⟩=>⟨_,a7,X,bs,us,Nb,cs,v3,v4,e,a1,a2,a3,a4,a5,a6,rfl⟩,?_⟩
  obtain⟨m,ws,rfl⟩:∃ m Nb,ws=m::Nb:=by
   cases ws with
   | nil=>simp at hlen
   | cons m Nb=>exact⟨m,Nb,rfl⟩
  have hml:m<2^ts.length:=wt.lt m List.mem_cons_self;refine(au rfl (kD (aS.of Qs) (ao (j:=0) rfl) (?_)));refine(au rfl (au rfl ⟨wb,p,ts,g,(m:Int),rfl,hw.same PJ,PJ _ _ Lu,.inl ⟨m,rfl,hml,fun r H5 hr5 s5 told=>?_⟩⟩))
  obtain⟨r0,g1,g2,g3⟩:=wt.odd;rcases told with⟨n1,_⟩|⟨z,e,b2,W,_,le,a1,_⟩
  ·obtain⟨x,hx,PK⟩:=RM.n5 hL m g1 g2;rw[g3]at PK;exact absurd PK (n1 x _ hx)
  refine(cu (aX.of a1) (ao (j:=1) rfl) (?_));have hF5:=s5 _ _ hF4;have Uv:=s5 _ _ Qs;have hbl:bs.length<=24:=by have:=wt.sum;lia
  refine(au rfl ⟨(.inl ⟨rfl,_,aS.of hF5⟩),au rfl ⟨F,_,_,rfl,rfl,hF5,(by rw[aM];lia),?_⟩⟩)
  have s06:av H (upd H5 F (.lst (aG bs++[.int (e:Int)]))):=(PJ.trans s5).put hF0;have hF6:upd H5 F (.lst (aG bs++[.int (e:Int)])) F=some (.lst (aG (bs++[e]))):=by rw[ah,eU]
  have Qt:upd H5 F (.lst (aG bs++[.int (e:Int)])) X=some (.lst (aG (m::ws))):=by rw[aq W6];exact Uv
  generalize upd H5 F (.lst (aG bs++[.int (e:Int)]))=H6 at s06 hF6 Qt;have PL:xW (aG (m::ws)) (some (1:Int)) none=aG ws:=JU (m::ws) (i:=1) (by simp)
  have W9:=wt.next le.par;obtain⟨cc,cs',_,W9⟩:=W9;have dp2:=dp.snoc le.ring le.lt le.par (fun r h1 h2 h3=>by
   have:=le.least hL h1 h2 h3;have e1:RM.len (ae p ts g) (bz ts) e=z:=le.len;rw[e1];exact this) (wt.gU m List.mem_cons_self)
  have ahp:ws.length<=24:=by have:=wt.sum;rw[List.length_cons]at this;lia
  refine(au rfl (au rfl ⟨X,_,rfl,aS.of Qt,fun c hc=>?_⟩))
  rw[PL];have s07:av H (upd H6 c (.lst (aG ws))):=s06.trans (av.new hc);have Xa:=av.new hc (o:=.lst (aG ws)) _ _ hF6;have Ql:upd H6 c (.lst (aG ws)) c=some (.lst (aG ws)):=ah;generalize upd H6 c (.lst (aG ws))=H7 at s07 Xa Ql;refine⟨c,rfl,⟨_,aS.of Ql⟩,fun X' Su=>bS (K:=K) (a:=c) (xs:=aG ws) (fun i acc H8=>av H7 H8/\H8 X' = some (.lst acc)/\acc=aG ((ws.take i).map fun v=>if(ae p ts g).par e v=true then v^^^m else v)) ⟨av.new Su,ah,rfl⟩ (fun i acc H8 _ z=>⟨aS.of (z.1 _ _ Ql),z.2.1,by rw[z.2.2,aM,List.length_map,List.length_take];lia⟩) (dm (by rw[aM];lia)) ?_ ?_⟩
  ·rintro i x acc H8 hx ⟨s8,Uw,rfl⟩;obtain⟨v,Jh,rfl⟩:∃ v,ws[i]?=some v/\x = .int (v:Int):=by
    unfold aG at hx;rw[List.getElem?_map]at hx;obtain⟨c,h1,h2⟩:=Option.map_eq_some_iff.mp hx;exact⟨c,h1,h2.symm⟩
   have Ux:v<2^ts.length:=wt.lt v (List.mem_cons_of_mem _ (List.mem_of_getElem? Jh));have Lp:Builtin.Int.intBits ((e&&&v:Nat):Int)<=1000:=Nat.le_trans (bits_le (Nat.and_lt_two_pow _ Ux)) (by lia)
   have snoc:∀ y,(if(ae p ts g).par e v=true then v^^^m else v)=y->aG ((ws.take i).map fun v=>if(ae p ts g).par e v=true then v^^^m else v)++[.int (y:Int)]=aG ((ws.take (i+1)).map fun v=>if(ae p ts g).par e v=true then v^^^m else v):=fun y hy=>by
    rw[List.take_add_one,Jh];show _=aG (List.map _ (List.take i ws++[v]));rw[List.map_append,List.map_singleton,eU,hy]
   refine⟨rfl,au rfl (au rfl ⟨_,_,e,v,rfl,rfl,rfl,Lp,fun H9 s9=>(au rfl (?_))⟩)⟩
   rw[FN (g:=g) Ux];have s79:=s8.trans s9;have hX9:=s9 _ _ Uw;cases hb:(ae p ts g).par e v with
   | true =>
     refine fQ (au rfl (au rfl (bQ ⟨hX9,s79.put Su,ah,?_⟩)));dsimp only;rw[xor_int];exact snoc _ (if_pos hb)
   | false=>exact eT (au rfl ⟨hX9,s79.put Su,ah,snoc _ (if_neg (by rw[hb];decide))⟩)
  ·rintro acc H8 ⟨s8,Uw,rfl⟩;rw[aM,List.take_length]at Uw;refine⟨X',bs++[e],us++[m],_,cs',_,_,rfl,s07.trans s8,Uw,s8 _ _ Xa,?_,dp2,W9,by rw[List.length_map];simp⟩
   intro z;rw[z,Xa]at Su;cases Su
end
def Bl(t:Addr)(lp:Pos):Sp:=fun vs H Q _=>∃ w p ts,∃ g:aF p ts,∃ m:Nat,vs=[.ref w,.int (m:Int)]/\br H w p ts/\m<2^ts.length/\H t=some (.jT (fk (rG "least_ways") lp))/\∀ b W H',av H H'->jK H' b W->Wf p W->FY p ts g m W->Q (.ref b) H'
abbrev NY:=Nat×Nat×List (List Pr)
def yD(H:Hp)(v:V)(t:NY):Prop:=∃ c b,v = .ref c/\H c=some (.tup [.int (t.1:Int),.int (t.2.1:Int),.ref b])/\jK H b t.2.2
theorem yD.tups{H H' : Hp}{v:V}{t:NY}(s:dH H H')(h:yD H v t):yD H' v t:=let⟨c,b,e,h1,ys,h2,h3⟩:=h;⟨c,b,e,s _ _ h1,ys,s _ _ h2,Paired.imp' (fun _ _ z=>z.tups s) h3⟩
def Ly(t1 t2:Addr)(W4 W5:Pos):Sp:=fun vs H Q _=>∃ w p ts,∃ g:aF p ts,vs=[.ref w]/\br H w p ts/\H t1=some (.jT (fk (rG "least_ways") W4))/\H t2=some (.jT (fk (rG "by_length") W5))/\
 ∀ b ys (tr:List NY) H',H b=none->av H H'->H' b=some (.tup ys)->Paired (yD H') ys tr->RM.LB (ae p ts g) (bz ts) (tr.map (·.1))->(tr.map (·.1)).Pairwise (Gh ts)->MarksOf (ae p ts g) (tr.map (·.1)) (tr.map (·.2.1))->(∀ t∈tr,Wf p t.2.2/\FY p ts g t.2.1 t.2.2)->Q (.ref b) H'
section
variable {P:Program}{w:World}{K:PySem.W.Frag}{mg:Str->Option Value}{base:Heap}{a:qP}
theorem m9(T:Txt K mg a):bE P w K mg base iP 7 a.jf a.mR ["web","marks"] (Bl a.cK cy):=by
 have cQ:=cQ (P:=P) (w:=w) (base:=base) T;have cW:=cW (P:=P) (w:=w) (base:=base) T;refine T.r6.ok yj (fun vs H Q E h=>?_) (fun cdv A outer s H vs Q E hr h=>?_)
 ·obtain⟨w,p,ts,g,m,rfl,_⟩:=h;rfl
 ·obtain⟨wb,p,ts,g,m,rfl,hw,hm,htb,q⟩:=h;refine⟨_,(ay (aL (aA cW (hr.mono (by decide)) (by rfl) T.nA T.nE T.nB .nil aQ (aa (aA cQ (hr.mono (by decide)) (by rfl) T.lP T.lV T.lQ .nil aQ (aa (pv 0) (aa (pv 1) ai))) ai)))),?_⟩
  have wp:=g.p2;refine(au rfl (au rfl ⟨wb,p,ts,g,m,rfl,hw,hm,htb,fun D ds Fs H1 hD s1 xT al=>?_⟩))
  obtain⟨hl,all⟩:=id al;refine⟨D,ds,Fs,p,ae p ts g,bz ts,m,rfl,xT,(by lia),al,fun b H2 s2 hW=>?_⟩
  refine q b _ H2 (s1.trans s2) hW ⟨by rw[List.length_map,List.length_range],fun R hR=>?_⟩ fun i hi x s hx=>?_
  ·obtain⟨i,_,rfl⟩:=List.mem_map.mp hR;exact As _ _
  ·have e:ds[i]?=some ds[i]:=List.getElem?_eq_getElem (by lia)
   obtain⟨H0,es,e1,e2,e3,e4,_⟩:=all i _ e;rw[List.getD_eq_getElem?_getD,List.getElem?_map,List.getElem?_range hi];show RM.Hg _ _ m i x s (sel (Ka (kX (yC (Fs i)) p) x) s);rw[Kn hx];exact e4 x s
theorem nc(T:Txt K mg a):bE P w K mg base iP 11 a.jg a.mT ["web"] (Ly a.cK a.iO cy gQ):=by
 have kM:=kM (P:=P) (w:=w) (base:=base) T;have oU:=oU (P:=P) (w:=w) (base:=base) T;have m9:=m9 (P:=P) (w:=w) (base:=base) T;refine T.r9.ok kE (fun vs H Q E h=>?_) (fun cdv A outer s H vs Q E hr h=>?_)
 ·obtain⟨w,p,ts,g,rfl,_⟩:=h;rfl
 ·obtain⟨wb,p,ts,g,rfl,hw,Lu,M7,q⟩:=h;refine⟨_,(ak (aH (i:=1) kE.nd rfl (Or.inl rfl) (aA kM (hr.mono (by decide)) (by rfl) T.yr T.yv T.yt .nil aQ (aa (pv 0) ai)))
   (ak (aH (i:=2) kE.nd rfl (Or.inl rfl) (aA oU (hr.mono (by decide)) (by rfl) T.C1 T.Dh T.C3 .nil vM (aa (pv 0) (aa (pv 1) ai))))
   (ay (aL (cU (Ft K) (by rfl) T.vz PyProof.Rows.boot_tuple (aa (bN (own:=["ring","own"]) (frees:=["web"]) (js:=[0]) (aI (af dX) ["web","rings","marks"]) rfl (JA K (by rfl) T.NR (aa (pv 1) (aa (pv 2) ai))) (fun _ _ _ _=>(IM K (n:=2) rfl (aV (aC (i:=0) (show(["ring","own","web"]:List Str).Nodup by decide +kernel) rfl (Or.inl rfl)) (aV (aC (i:=1) (show(["ring","own","web"]:List Str).Nodup by decide +kernel) rfl (Or.inl rfl)) fc)))) (fun _ _ _ _=>cB) (fun _ _ _ _=>(dQ (aa (pv 0) (aa (pv 1) (aa (aA m9 (hr.mono (by decide)) (by rfl) T.AW T.A9 T.AX .nil aQ (aa (pv 2) (aa (pv 1) ai))) ai)))))) ai)))))),?_⟩
  refine yk ?_;intro cj cG;have wl:=g.len;refine(au rfl ⟨wb,p,ts,g,rfl,hw,Lu,M7,fun D rs H1 hD s1 xT lb pw=>?_⟩)
  have rsl:rs.length<=24:=by
   have h1:(ae p ts g).bx.length<=(List.range (ae p ts g).n).length:=List.length_filter_le ..;rw[List.length_range,<-lb.1.len]at h1;exact Nat.le_trans h1 wl
  refine(au rfl (au rfl ⟨wb,p,ts,g,D,rs.map (fun x=>((x:Nat):Int)),rfl,hw.same s1,by rw[<-jI];exact xT,by rw[List.length_map];lia,.inl ⟨rs,rfl,lb.1,fun D2 ms H2 pY s2 Sv mo=>?_⟩⟩))
  have Sw:=s2 _ _ xT;have s12:=s1.trans s2;have msl:=mo.1;refine(au rfl (au rfl ⟨D,D2,rfl,⟨_,aS.of Sw⟩,⟨_,aS.of Sv⟩,fun X hX=>BF (xs:=aG rs) (ys:=aG ms) (by rw[aM,aM];lia) (fun i acc H3=>av H2 H3/\H3 X=some (.lst acc)/\∃ tr:List NY,Paired (yD H3) acc tr/\tr.map (·.1)=rs.take i/\tr.map (·.2.1)=ms.take i/\∀ t∈tr,Wf p t.2.2/\FY p ts g t.2.1 t.2.2) ⟨av.new hX,ah,[],.nil,rfl,rfl,fun t ht=>by cases ht⟩ (fun i acc H3 _ ⟨z1,z2,tr,z3,z4,_⟩=>⟨aS.of (z1 _ _ Sw),aS.of (z1 _ _ Sv),z2,?_⟩) (dm (by rw[aM];lia)) ?_ ?_⟩))
  ·have h1:=z3.length;have h2:=congrArg List.length z4;rw[List.length_map,List.length_take]at h2
   lia
  ·rintro i x y T0 acc H3 hx hy ⟨s3,ID,tr,pr,e1,e2,al⟩ hT0;have item:∀{l:List Nat} {v:V},(aG l)[i]?=some v->∃ c,l[i]?=some c/\v = .int (c:Int):=fun {l v} h=>by
    unfold aG at h;rw[List.getElem?_map]at h;obtain⟨c,h1,h2⟩:=Option.map_eq_some_iff.mp h;exact⟨c,h1,h2.symm⟩
   obtain⟨r,QZ,rfl⟩:=item hx;obtain⟨m,hmi,rfl⟩:=item hy;have hml:=(mo.2 i m hmi).1;have s4:av H3 (upd H3 T0 (.tup [.int (r:Int),.int (m:Int)])):=av.new hT0;have s14:=(s12.trans s3).trans s4;refine⟨T0,_,rfl,aX.of ah,rfl,_,_,rfl,_,_,rfl,rfl,rfl,au rfl (au rfl (au rfl (au rfl ⟨wb,p,ts,g,m,rfl,hw.same s14,hml,s14 _ _ Lu,fun b W H5 s5 hW sq bw=>⟨dl rfl,fun c hc=>?_⟩⟩)))⟩
   have s6:av H5 (upd H5 c (.tup [.int (r:Int),.int (m:Int),.ref b])):=av.new hc;have Xb:=(s4.trans s5).trans s6;have Qt:=Xb _ _ ID;refine⟨Qt,(s3.trans Xb).put hX,ah,tr++[(r,m,W)],?_,?_,?_,fun t ht=>?_⟩
   ·exact Paired.snoc (Paired.imp' (fun _ _ z=>yD.tups (Xb.tups.trans (dH.put Qt)) z) pr) (yD.tups (dH.put Qt) ⟨c,b,rfl,ah,hW.same s6⟩)
   ·rw[List.map_append,e1,List.take_add_one,QZ];rfl
   ·rw[List.map_append,e2,List.take_add_one,hmi];rfl
   ·rcases List.mem_append.mp ht with z|z
    ·exact al t z
    ·rw[List.mem_singleton.mp z];exact⟨sq,bw⟩
  ·rintro acc H3 ⟨s3,ID,tr,pr,e1,e2,al⟩;rw[aM,List.take_length]at e1;rw[aM,<-msl,List.take_length]at e2;refine⟨X,_,rfl,.inl ⟨aS.of ID,fun l hl=>?_⟩⟩
   have s4:av H3 (upd H3 l (.tup acc)):=av.new hl;exact q l acc tr _ ((s12.trans s3).free hl) ((s12.trans s3).trans s4) ah (Paired.imp' (fun _ _ z=>yD.tups s4.tups z) pr) (by rw[e1];exact lb) (by rw[e1];exact pw) (by rw[e1,e2];exact mo) al
end
def Nc(K:PySem.W.Frag):Sp:=fun vs H Q _=>∃(a:Addr) (ns:List Int) (k:Int),vs=[.ref a,.int k]/\0<=k/\aS K H a (ns.map V.int)/\∀ z,Q (.int z) H
def Lz:Sp:=fun vs H Q _=>∃(c k:Int),vs=[.int c,.int k]/\0<=k/\k<=1000/\∀ z,0<=z->z<1000000007->Q (.int z) H
def Nd:Sp:=fun vs H Q _=>∃(c:Int) (k:Nat),vs=[.int c,.int (k:Int)]/\∀ z,1<=z->z<=1000000000000000000000000000000->Q (.int z) H
def PM:Sp:=fun vs H Q _=>∃(c:Int) (p m:Nat),vs=[.int c,.int (p:Int),.int (m:Int)]/\2<=p/\p<=10/\∀ t b H',av H H'->rf (p:Int) t->H' b=some (.tup (Mm t))->Q (.ref b) H'
def PN(K:PySem.W.Frag):Sp:=fun vs H Q _=>∃(a:Addr) (ns:List Int) (mt rk:Nat),vs=[.ref a,.int (mt:Int),.int (rk:Int)]/\aS K H a (ns.map V.int)/\ns.length<=63/\mt<=24/\
 ∀ w p ts H',av H H'->aF p ts->2<=p->p<=6->ts.length<=mt->br H' w p ts->Q (.ref w) H'
def Sx(H:Hp)(D:Addr)(n p:Nat):Prop:=∃ ks:List Nat,H D=some (.lst (aG ks))/\ks.length=n/\∀ k∈ks,k<p
section
variable {P:Program}{w:World}{K:PySem.W.Frag}{mg:Str->Option Value}{base:Heap}{a:qP}
theorem eJ(T:Txt K mg a):bE P w K mg base iP 1 a.iG a.kJ ["script","k"] (Nc K):=by
 refine T.qi.ok xh (fun vs H Q E h=>?_) (fun cdv A outer s H vs Q E hr h=>?_)
 ·obtain⟨b,ns,k,rfl,_⟩:=h;rfl
 ·obtain⟨b,ns,k,rfl,hk0,hS,q⟩:=h;refine⟨_,(ak (cM (aP Fi (pv 1) (aR (iZ K) (by rfl) T.dM PySem.boot_len (aa (pv 0) ai)) (aO _)) (ay (aL (aB (kN K) (pv 0) (pv 1) (fun _ _=>rfl)))) aZ)
   (ay (aL aj))),?_⟩
  refine xj ?_;intro cj cG;refine(au rfl (au rfl ⟨b,_,rfl,.inl hS,_,_,rfl,rfl,au rfl (nQ (fun hlt=>?_) (fun _=>q 0))⟩))
  have hlt:=of_decide_eq_true hlt;rw[List.length_map]at hlt;obtain⟨k,rfl⟩:=Int.eq_ofNat_of_zero_le hk0;exact(au rfl (au rfl ⟨b,_,_,_,rfl,rfl,hS,ao (j:=k) (Mr (by lia)),q _⟩))
theorem dN(T:Txt K mg a):bE P w K mg base iP 1 a.ki a.oF ["cell","k"] Lz:=by
 refine T.uX.ok mH (fun vs H Q E h=>?_) (fun cdv A outer s H vs Q E hr h=>?_)
 ·obtain⟨c,k,rfl,_⟩:=h;rfl
 ·obtain⟨c,k,rfl,hk,hk2,q⟩:=h;refine⟨_,(ak (aH (i:=2) mH.nd rfl (Or.inl rfl) (aK fM (aK cT (pv 0) aj) (aK DL aj (pv 1))))
   (ak (aH (i:=3) mH.nd rfl (Or.inl rfl) (aK cT (aK DL (aK fM (pv 2) aj) (aK fM (pv 2) aj)) aj))
   (ay (aL (aK jU (aK cT (aK DL (pv 3) (pv 3)) aj) aj))))),?_⟩
  refine AK ?_;intro cj cG;have h1:=jW c 1000000007 (by decide)
  refine(au rfl (bQ ⟨(nR rfl),au rfl (bQ ⟨.inl ⟨by decide,by decide⟩,bQ (?_)⟩)⟩))
  refine(au rfl (bQ (au rfl (bQ (bQ ⟨.inl ⟨by lia,by lia⟩,bQ ⟨(nR rfl),?_⟩⟩)))))
  have h2:=jW ((c%1000000007+7919*k+11)*(c%1000000007+7919*k+48271)) 998244353 (by decide)
  dsimp only;generalize (c%1000000007+7919*k+11)*(c%1000000007+7919*k+48271)%998244353=st at h2;refine(au rfl (au rfl (bQ ⟨.inl ⟨by lia,by lia⟩,bQ ⟨(nR rfl),bQ ⟨⟨by decide,by decide⟩,?_⟩⟩⟩)))
  have h3:=jW (st*st) 1000000007 (by decide)
  dsimp only;generalize st*st%1000000007=y at h3;exact q _ (by lia) (by lia)
theorem ng(T:Txt K mg a):bE P w K mg base iP 1 a.jh a.mU ["cell","way"] Nd:=by
 refine T.se.ok yl (fun vs H Q E h=>?_) (fun cdv A outer s H vs Q E hr h=>?_)
 ·obtain⟨c,k,rfl,_⟩:=h;rfl
 ·obtain⟨c,k,rfl,q⟩:=h;refine⟨_,(ak (cM (aP dw (pv 1) aj (aO _)) (ay (aL (aK fM aj (aK cT (pv 0) aj)))) aZ)
   (ak (cM (aP dw (pv 1) aj (aO _)) (ay (aL (aK fM aj (aK cT (pv 0) aj)))) aZ)
   (ay (aL (aK fM aj (aK cT (pv 0) (aK Oj aj aj))))))),?_⟩
  refine ym ?_;intro cj cG dI fL;have h9:=jW c 9 (by decide)
  have h3:=jW c 3 (by decide)
  have h30:=jW c (10^(30:Int).toNat) (by decide)
  have e:(10:Int)^(30:Int).toNat=1000000000000000000000000000000:=by decide
  refine(au rfl ⟨rfl,au rfl (nQ (fun _=>(au rfl (bQ ⟨(nR rfl),bQ (q _ (by lia) (by lia))⟩))) (fun _=>(au rfl ⟨rfl,au rfl (nQ (fun _=>(au rfl (bQ ⟨(nR rfl),bQ (q _ (by lia) (by lia))⟩))) (fun _=>(au rfl (bQ ⟨⟨by decide,by decide,by decide⟩,bQ ⟨(nR (by decide)),bQ (q _ (by lia) (by lia))⟩⟩))))⟩)))⟩)
theorem uC(T:Txt K mg a):bE P w K mg base iP 2 a.pP a.tX ["cell","points","way"] PM:=by
 have ng:=ng (P:=P) (w:=w) (base:=base) T;refine T.zK.ok mJ (fun vs H Q E h=>?_) (fun cdv A outer s H vs Q E hr h=>?_)
 ·obtain⟨c,p,m,rfl,_⟩:=h;rfl
 ·obtain⟨c,p,m,rfl,hp,P7,q⟩:=h;refine⟨_,(ak (aH (i:=3) mJ.nd rfl (Or.inl rfl) (aK cT (pv 0) (pv 1)))
   (ak (aH (i:=0) mJ.nd rfl (Or.inl rfl) (aK jU (pv 0) (pv 1)))
   (ak (aH (i:=4) mJ.nd rfl (Or.inl rfl) (aK cT (aK fM (aK fM (pv 3) aj) (aK cT (pv 0) (aK nN (pv 1) aj))) (pv 1)))
   (ay (aL (dQ (aa (pv 3) (aa (pv 4) (aa (aA ng (hr.mono (by decide)) (by rfl) T.A1 T.Bb T.A2 .nil aQ (aa (aK jU (pv 0) (aK nN (pv 1) aj)) (aa (pv 2) ai))) ai))))))))),?_⟩
  refine EC ?_;intro cj cG dI;obtain⟨h1,h2⟩:=jW c (p:Int) (by lia)
  obtain⟨h3,h4⟩:=jW (c/(p:Int)) ((p:Int)-1) (by lia)
  obtain⟨g1,g2,g3⟩:=JH h1 h2 h3 h4;refine(au rfl (au rfl (bQ ⟨(by lia),?_⟩)))
  refine(au rfl (au rfl (bQ ⟨⟨by lia,by lia⟩,?_⟩)))
  refine(au rfl (bQ (au rfl (au rfl (bQ (bQ ⟨(by lia),bQ (au rfl (bQ ⟨(by lia),?_⟩))⟩))))))
  refine(au rfl (au rfl (au rfl (au rfl (bQ (bQ ⟨⟨by lia,by lia⟩,au rfl ⟨_,m,rfl,fun z hz hz2=>⟨dl rfl,fun b hb=>?_⟩⟩⟩))))))
  exact q (_,_,z) b _ (av.new hb) ⟨h1,h2,g1,g2,g3,hz,hz2⟩ ah
theorem uD(T:Txt K mg a):bE P w K mg base iP 3 a.pQ a.tY ["script","most","ranked"] (PN K):=by
 have eJ:=eJ (P:=P) (w:=w) (base:=base) T;have dN:=dN (P:=P) (w:=w) (base:=base) T;have uC:=uC (P:=P) (w:=w) (base:=base) T;refine T.zL.ok bH (fun vs H Q E h=>?_) (fun cdv A outer s H vs Q E hr h=>?_)
 ·obtain⟨b,ns,mt,rk,rfl,_⟩:=h;rfl
 ·obtain⟨b,ns,mt,rk,rfl,hS,hn,hmt,q⟩:=h;refine⟨_,(ak (aH (i:=3) bH.nd rfl (Or.inr rfl) (aA eJ (hr.mono (by decide)) (by rfl) T.qj T.qm T.qk .nil aQ (aa (pv 0) (aa aj ai))))
   (ak (aH (i:=4) bH.nd rfl (Or.inl rfl) (aK fM aj (aK cT (pv 3) aj)))
   (ak (aH (i:=5) bH.nd rfl (Or.inl rfl) (aK cT (aK jU (pv 3) aj) aj))
   (ak (aH (i:=6) bH.nd rfl (Or.inl rfl) (qU (T6 K) (pv 0) (qT aj) Ab))
   (ak (cM (aP dw (aK cT (aK jU (pv 3) aj) aj) aj (aO _)) (ak (iC (i:=6) bH.nd rfl rfl (own:=["k","cell"]) (frees:=[]) (js:=[]) (aI (af eG) ["script","most","ranked","head","points","way","cells","ties","marks","free","cell","tie","joined","old"]) rfl (Fw K (by rfl) T.ku (aa (qU (T6 K) (pv 0) (qT aj) Ab) ai)) (fun _ _ _ _=>(IM K (n:=2) rfl (aV (aC (i:=0) (show(["k","cell"]:List Str).Nodup by decide +kernel) rfl (Or.inl rfl)) (aV (aC (i:=1) (show(["k","cell"]:List Str).Nodup by decide +kernel) rfl (Or.inl rfl)) fc)))) (fun _ _ _ _=>cB) (fun _ _ _ _=>(aA dN (hr.mono (by decide)) (by rfl) T.kq T.kA T.kr .nil aQ (aa (pv 1) (aa (pv 0) ai)))))
   (ay (fW (MX K (qX PySem.F.plainAttrs_list PySem.F.slot_list_extend PySem.F.type_list_extend GA (pv 6) (aa (bN (own:=["k"]) (frees:=["head"]) (js:=[3]) (aI (af eG) ["script","most","ranked","head","points","way","cells","ties","marks","free","cell","tie","joined","old"]) rfl (bA (by rfl) T.cC (aa aj ai)) (fun _ _ _ _=>(aC (i:=0) (show(["k","head"]:List Str).Nodup by decide +kernel) rfl (Or.inl rfl))) (fun _ _ _ _=>cB) (fun _ _ _ _=>(aA dN (hr.mono (by decide)) (by rfl) T.kq T.kA T.kr .nil aQ (aa (pv 1) (aa (aK fM aj (pv 0)) ai))))) ai)))))) aZ)
   (ak (aH (i:=7) bH.nd rfl (Or.inl rfl) (eR ai))
   (ak (aH (i:=8) bH.nd rfl (Or.inr rfl) (bN (own:=["point"]) (frees:=[]) (js:=[]) (aI (af eG) ["script","most","ranked","head","points","way","cells","ties","marks","free","cell","tie","joined","old"]) rfl (bA (by rfl) T.cC (aa (pv 4) ai)) (fun _ _ _ _=>(aC (i:=0) (show(["point"]:List Str).Nodup by decide +kernel) rfl (Or.inl rfl))) (fun _ _ _ _=>cB) (fun _ _ _ _=>(pv 0))))
   (ak (aH (i:=9) bH.nd rfl (Or.inl rfl) aj)
   (ak (gE PassesOwn.never rfl (u9 K (pv 6)) (aC (i:=10) bH.nd rfl (Or.inl rfl))
   (ak (aH (i:=11) bH.nd rfl (Or.inr rfl) (aA uC (hr.mono (by decide)) (by rfl) T.HY T.Ik T.HZ .nil aQ (aa (pv 10) (aa (pv 4) (aa (pv 5) ai)))))
   (ak (aH (i:=12) bH.nd rfl (Or.inl rfl) (cI uG (aB (kN K) (pv 8) (aB (ck K) (pv 11) aj (fun _ _=>rfl)) (fun _ _=>rfl)) (aB (kN K) (pv 8) (aB (ck K) (pv 11) aj (fun _ _=>rfl)) (fun _ _=>rfl)) (aO _)))
   (ay (cM (PW.pt (IW (aP Fi (aR (iZ K) (by rfl) T.dM PySem.boot_len (aa (pv 7) ai)) (pv 1) (aO _)) (E7 (PW.pt (uF (eO (pv 12)) (qo (aP Fi (pv 9) (pv 2) (aO _)))))))) (ak (fW (MX K (qX PySem.F.plainAttrs_list PySem.F.slot_list_append PySem.F.type_list_append ff (pv 7) (aa (pv 11) ai))))
   (ak (aH (i:=9) bH.nd rfl (Or.inl rfl) (aK fM (pv 9) (cU sG (by rfl) T.Lb PyProof.Rows.boot_int (aa (Oc (pv 12)) ai))))
   (ak (aH (i:=13) bH.nd rfl (Or.inr rfl) (aB (kN K) (pv 8) (aB (ck K) (pv 11) aj (fun _ _=>rfl)) (fun _ _=>rfl)))
   (ay (aH (i:=8) bH.nd rfl (Or.inr rfl) (bN (own:=["mark"]) (frees:=["marks","tie","old"]) (js:=[8,11,13]) (aI (af eG) ["script","most","ranked","head","points","way","cells","ties","marks","free","cell","tie","joined","old"]) rfl (u9 K (pv 8)) (fun _ _ _ _=>(aC (i:=0) (show(["mark","marks","tie","old"]:List Str).Nodup by decide +kernel) rfl (Or.inl rfl))) (fun _ _ _ _=>cB) (fun _ _ _ _=>(aB (kN K) (eR (aa (pv 0) (aa (aB (kN K) (pv 1) (aB (ck K) (pv 2) aj (fun _ _=>rfl)) (fun _ _=>rfl)) ai))) (cU sG (by rfl) T.Lb PyProof.Rows.boot_int (aa (cI dw (pv 0) (pv 3) (aO _)) ai)) (fun _ _=>rfl))))))))) aZ)))))
   (ay (aL (dQ (aa (pv 4) (aa (cU (Ft K) (by rfl) T.vz PyProof.Rows.boot_tuple (aa (pv 7) ai)) ai)))))))))))))),?_⟩
  refine ED ?_;intro cj cG dI fL gj p9 zq Ge Gf NP K1 HK R0 R1 R3 R4 R5 R6;refine(au rfl ⟨b,ns,0,rfl,(by decide),hS,fun z=>?_⟩)
  refine(au rfl (bQ ⟨(nR rfl),bQ (?_)⟩));obtain⟨p,hp,p1,p2⟩:∃ p:Nat,2+z%5=(p:Int)/\2<=p/\p<=6:=by
   obtain⟨h1,h2⟩:=jW z 5 (by decide)
   exact⟨(2+z%5).toNat,by lia,by lia,by lia⟩
  dsimp only;rw[hp];refine(au rfl (bQ ⟨⟨by decide,by decide⟩,bQ ⟨(nR rfl),?_⟩⟩))
  obtain⟨wy,PK⟩:∃ y:Nat,z/5%3=(y:Int):=by
   obtain⟨h1,h2⟩:=jW (z/5) 3 (by decide)
   exact⟨(z/5%3).toNat,by lia⟩
  dsimp only;rw[PK];refine(au rfl (au rfl ⟨b,_,rfl,hS,fun c hc=>?_⟩))
  have PR:=BE ns (some 1) none;have hml:((ns.drop (HT.uH ns.length 0 (some 1))).take (HT.uH ns.length ns.length none-HT.uH ns.length 0 (some 1))).length<=63:=by
   rw[List.length_take,List.length_drop]
   lia
  generalize (ns.drop (HT.uH ns.length 0 (some 1))).take (HT.uH ns.length ns.length none-HT.uH ns.length 0 (some 1))=ms at PR hml;rw[PR];have cont:∀(c1:Addr) (ms1:List Int) (H1:Hp),av H H1->H1 c1=some (.lst (ms1.map V.int))->HK { nx:=fun _ H'=>Q V.gf H',rt:=Q} [some (.ref b),some (.int (mt:Int)),some (.int (rk:Int)),some (.int z),some (.int (p:Int)),some (.int (wy:Int)),some (.ref c1),none,none,none,none,none,none,none] H1:=by
   intro c1 ms1 H1 s1 hc1;refine⟨dl rfl,fun L hL=>?_⟩
   have t2:vc (p:Int) H1 L 0 (upd H1 L (.lst [])):=.start hL;generalize upd H1 L (.lst [])=H2 at t2;refine(au rfl (au rfl ⟨(by lia),(by lia),fun M hM=>cD (lo:=0) (m:=(p:Int).toNat) (pV (fun _=>true) H2 M) (.start hM) (fun i acc H3 _ pk=>pk.len) (dm (by lia)) ?_ ?_⟩))
   ·intro i acc H3 hi pk;rw[Int.zero_add];exact⟨rfl,au rfl (pk.yes hM (av.refl _) rfl)⟩
   intro acc H3 pk;have b3:Sx H3 M p p:=by
    refine⟨(List.range p).filter (fun _=>true),by rw[pk.2.1,pk.2.2,Int.toNat_natCast],?_,fun k hk=>List.mem_range.mp (List.mem_filter.mp hk).1⟩
    rw[List.filter_eq_self.mpr (fun _ _=>rfl),List.length_range]
   have t3:vc (p:Int) H1 L 0 H3:=by
    obtain⟨a1,acc,ts,a2,a3,a4⟩:=t2;exact⟨a1.trans pk.1,acc,ts,pk.1 _ _ a2,Paired.imp' (fun _ _ z=>z.tups pk.1.tups) a3,a4⟩
   clear pk;have fr:H1 M=none:=t2.1.free hM;refine(au rfl ⟨c1,rfl,⟨_,aS.of (t3.1 _ _ hc1)⟩,gw (K:=K) (a:=c1) (xs:=ms1.map V.int) (fun i σ H4=>∃(M:Addr) (n:Nat) (f:Int) (v10 v11 IS Sy:Option V),σ=[some (.ref b),some (.int (mt:Int)),some (.int (rk:Int)),some (.int z),some (.int (p:Int)),some (.int (wy:Int)),some (.ref c1),some (.ref L),some (.ref M),some (.int f),v10,v11,IS,Sy]/\vc (p:Int) H1 L n H4/\n<=mt/\Sx H4 M p p/\H1 M=none/\M≠L) ⟨M,0,0,none,none,none,none,rfl,t3,Nat.zero_le _,b3,fr,fun e=>?_⟩ (fun i σ H4 _ ⟨_,_,_,_,_,_,_,_,t,_⟩=>aS.of (t.1 _ _ hc1)) ?_ ?_⟩)
   ·obtain⟨_,acc,_,a2,_⟩:=t2;rw[e,a2]at hM;cases hM
   ·rintro i y D' σ H4 hi ⟨M,n,f,v10,v11,IS,Sy,rfl,t4,hnm,b4,hMn,Xc⟩;rw[List.getElem?_map]at hi;obtain⟨ce,hce,rfl⟩:=Option.map_eq_some_iff.mp hi;refine(au rfl (au rfl (au rfl ⟨ce,p,wy,rfl,p1,by lia,fun t bt H5 s5 gt Uy=>?_⟩)))
    obtain⟨ks,hM4,kl,kb⟩:=b4;have Uz:=s5 _ _ hM4;have t5:vc (p:Int) H1 L n H5:=by
     obtain⟨a1,acc,ts,a2,a3,a4⟩:=t4;exact⟨a1.trans s5,acc,ts,s5 _ _ a2,Paired.imp' (fun _ _ z=>z.tups s5.tups) a3,a4⟩
    obtain⟨u,hu⟩:=Int.eq_ofNat_of_zero_le gt.a0;obtain⟨v,hv⟩:=Int.eq_ofNat_of_zero_le gt.b0;have WB:u<ks.length:=by have:=gt.a1;lia
    have Ux:v<ks.length:=by have:=gt.b1;lia
    have hku:(aG ks)[u]?=some (.int (ks[u]:Int)):=An (List.getElem?_eq_getElem WB);have hkv:(aG ks)[v]?=some (.int (ks[v]:Int)):=An (List.getElem?_eq_getElem Ux);have iu:IK (aG ks) t.1=some (.int (ks[u]:Int)):=by rw[hu];exact ao hku
    have iv:IK (aG ks) t.2.1=some (.int (ks[v]:Int)):=by rw[hv];exact ao hkv
    have kub:=kb _ (List.getElem_mem WB);refine(au rfl (au rfl (cu (aX.of Uy) (ao (j:=0) rfl) (kD (aS.of Uz) (iu) (au rfl (au rfl (cu (aX.of Uy) (ao (j:=1) rfl) (kD (aS.of Uz) (iv) ⟨rfl,?_⟩))))))));obtain⟨s05,E2,tsL,NZ,prL,alL,gdL⟩:=id t5;have skip:D'.nx [some (.ref b),some (.int (mt:Int)),some (.int (rk:Int)),some (.int z),some (.int (p:Int)),some (.int (wy:Int)),some (.ref c1),some (.ref L),some (.ref M),some (.int f),some (.int ce),some (.ref bt),some (.bl (!decide (V.int (ks[u]:Int)=V.int (ks[v]:Int)))),Sy] H5:=⟨M,n,f,_,_,_,_,rfl,t5,hnm,⟨ks,Uz,kl,kb⟩,hMn,Xc⟩;generalize (!decide (V.int (ks[u]:Int)=V.int (ks[v]:Int)))=jb at skip;have put:E2.length<mt->gj D' [some (.ref b),some (.int (mt:Int)),some (.int (rk:Int)),some (.int z),some (.int (p:Int)),some (.int (wy:Int)),some (.ref c1),some (.ref L),some (.ref M),some (.int f),some (.int ce),some (.ref bt),some (.bl jb),Sy] H5:=fun hlt=>by
     obtain⟨ahv,e6,t6⟩:∃ acc,H5 L=some (.lst acc)/\vc (p:Int) H1 L (n+1) (upd H5 L (.lst (acc++[.ref bt]))):=by
      have:=t5.push hL (av.refl _) gt Uy;obtain⟨acc,e1,_,e2⟩:=this;exact⟨acc,e1,e2⟩
     rw[NZ]at e6;cases e6;refine(au rfl ⟨.inl ⟨rfl,_,aS.of NZ⟩,au rfl ⟨L,_,_,rfl,rfl,NZ,kC (by lia),?_⟩⟩)
     have Sz:upd H5 L (.lst (E2++[.ref bt])) M=some (.lst (aG ks)):=by rw[aq Xc];exact Uz
     have PU:upd H5 L (.lst (E2++[.ref bt])) bt=some (.tup (Mm t)):=dH.put NZ _ _ Uy;have hL6:upd H5 L (.lst (E2++[.ref bt])) L=some (.lst (E2++[.ref bt])):=ah;generalize upd H5 L (.lst (E2++[.ref bt]))=H6 at t6 Sz PU hL6;refine(au rfl (au rfl (au rfl (.inr (au rfl (bQ (?_)))))));refine(au rfl (au rfl (cu (aX.of PU) (ao (j:=1) rfl) (kD (aS.of Sz) (iv) (?_)))));refine(au rfl ⟨M,rfl,⟨_,aS.of Sz⟩,fun M2 Nf=>bS (xs:=aG ks) (fun i acc H7=>av H6 H7/\H7 M2=some (.lst acc)/\∃ Gk:List Nat,acc=aG Gk/\Gk.length=i/\∀ k∈Gk,k<p) ⟨av.new Nf,ah,[],rfl,rfl,(fun k hk=>nomatch hk)⟩ (fun i acc H7 _ z=>⟨aS.of (z.1 _ _ Sz),z.2.1,by obtain⟨Gk,e,e2,_⟩:=z.2.2;rw[e,aM,e2];exact Nat.le_refl _⟩) (dm (by rw[aM];lia)) ?_ ?_⟩)
     ·rintro i x acc H7 hx ⟨s7,Xd,Gk,rfl,UA,kb2⟩;obtain⟨k,hk,rfl⟩:=kQ hx;have hkp:=kb k (List.mem_of_getElem? hk);refine⟨rfl,au rfl (au rfl (au rfl (cu (aX.of (s7 _ _ PU)) (ao (j:=0) rfl) (kD (aS.of (s7 _ _ Sz)) (iu) ⟨dl rfl,fun l hl=>?_⟩))))⟩
      have s8:av H7 (upd H7 l (.lst [.int (k:Int),.int (ks[u]:Int)])):=av.new hl;have Xe:upd H7 l (.lst [.int (k:Int),.int (ks[u]:Int)]) l=some (.lst [.int (k:Int),.int (ks[u]:Int)]):=ah;generalize upd H7 l (.lst [.int (k:Int),.int (ks[u]:Int)])=H8 at s8 Xe;refine(au rfl (au rfl ⟨rfl,.inr (au rfl (?_))⟩));have nxt:∀ k' : Nat,k'<p->H8 M2=some (.lst (aG Gk))/\av H6 (upd H8 M2 (.lst (aG Gk++[.int (k' : Int)])))/\upd H8 M2 (.lst (aG Gk++[.int (k' : Int)])) M2=some (.lst (aG Gk++[.int (k' : Int)]))/\∃ ks3:List Nat,aG Gk++[.int (k' : Int)]=aG ks3/\ks3.length=i+1/\∀ k∈ks3,k<p:=fun k' hk'=>by
       refine⟨s8 _ _ Xd,(s7.trans s8).put Nf,ah,Gk++[k'],(eU Gk k').symm,by rw[List.length_append,UA];rfl,fun x hx=>?_⟩
       rcases List.mem_append.mp hx with hx|hx
       ·exact kb2 x hx
       ·have e:x=k':=by simpa using hx
        lia
      cases hd:decide (V.int (k:Int)=V.int (ks[v]:Int)) with
      | true=>exact(kD (aS.of Xe) (ao (j:=1) rfl) (nxt _ kub))
      | false=>exact(kD (aS.of Xe) (ao (j:=0) rfl) (nxt _ hkp))
     ·rintro acc H7 ⟨s7,Xd,Gk,rfl,UA,kb2⟩;rw[aM,kl]at UA;refine⟨M2,n+1,_,_,_,_,_,rfl,?_,by lia,⟨Gk,Xd,UA,kb2⟩,t6.1.free Nf,fun e=>?_⟩
      ·obtain⟨a1,acc,ts,a2,a3,a4⟩:=t6;exact⟨a1.trans s7,acc,ts,s7 _ _ a2,Paired.imp' (fun _ _ z=>z.tups s7.tups) a3,a4⟩
      ·rw[e,hL6]at Nf;cases Nf
    refine(au rfl (tI rfl (.inl (aS.of NZ)) (au rfl (bQ (au rfl (nQ (fun h1=>?_) (fun _=>skip)))))))
    have h1:(E2.length:Int)<(mt:Int):=of_decide_eq_true h1;refine(au rfl (au rfl (?_)));cases jb with
    | true=>exact fQ (put (by lia))
    | false=>exact eT (au rfl (au rfl (bQ (au rfl (nQ (fun _=>put (by lia)) (fun _=>skip))))))
   ·rintro σ H4 ⟨M,n,f,v10,v11,IS,Sy,rfl,t4,hnm,b4,hMn,Xc⟩;obtain⟨acc,ts,UB,hl4,gd,mk⟩:=t4.fin;refine(au rfl (au rfl ⟨L,_,rfl,.inl ⟨aS.of UB,fun l hl=>⟨dl rfl,fun w hw=>?_⟩⟩⟩))
    obtain⟨sm,hwb⟩:=mk l hl w hw;exact q w p ts _ (s1.trans sm) ⟨by lia,by lia,by lia,gd⟩ p1 p2 (by lia) hwb
  refine(au rfl (bQ ⟨⟨by decide,by decide⟩,bQ ⟨(nR rfl),rfl,au rfl (nQ (fun _=>?_) (fun _=>cont c ms _ (av.new hc) ah))⟩⟩))
  have s1:av H (upd H c (.lst (ms.map V.int))):=av.new hc;generalize upd H c (.lst (ms.map V.int))=H1 at s1;refine(au rfl (au rfl ⟨b,_,rfl,s1.seq hS,fun c3 hc3=>?_⟩))
  rw[PR];have s2:av H1 (upd H1 c3 (.lst (ms.map V.int))):=av.new hc3;have hc2:upd H1 c3 (.lst (ms.map V.int)) c3=some (.lst (ms.map V.int)):=ah;generalize upd H1 c3 (.lst (ms.map V.int))=H2 at s2 hc2;refine⟨c3,rfl,⟨_,aS.of hc2⟩,fun D hD=>Ei (xs:=ms.map V.int) (fun i acc H3=>av H2 H3/\H3 D=some (.lst acc)/\∃ ms2:List Int,acc=ms2.map V.int/\ms2.length=i) ⟨av.new hD,ah,[],rfl,rfl⟩ (fun i acc H3 _ z=>⟨aS.of (z.1 _ _ hc2),z.2.1,by obtain⟨ms2,e,e2⟩:=z.2.2;rw[e,List.length_map,e2];exact Nat.le_refl _⟩) (Nat.le_of_lt (kC (by rw[List.length_map];lia))) ?_ ?_⟩
  ·rintro i x T0 acc H3 hx ⟨s3,Ah,ms2,rfl,Xf⟩ hT;rw[List.getElem?_map]at hx;obtain⟨ce,hce,rfl⟩:=Option.map_eq_some_iff.mp hx;have Qc:=(List.getElem?_eq_some_iff.mp hce).1;refine⟨T0,_,rfl,aX.of ah,rfl,_,_,rfl,_,_,rfl,rfl,rfl,au rfl (au rfl ⟨ce,(i:Int),rfl,by lia,by lia,fun y _ _=>?_⟩)⟩
   have s4:av H3 (upd H3 T0 (.tup [.int (i:Int),.int ce])):=av.new hT;exact⟨s4 _ _ Ah,(s3.trans s4).put hD,ah,ms2++[y],by rw[List.map_append];rfl,by rw[List.length_append,Xf];rfl⟩
  ·rintro acc H3 ⟨s3,Ah,ms2,rfl,Xf⟩;rw[List.length_map]at Xf;refine(au rfl ⟨.inl ⟨rfl,_,aS.of Ah⟩,au rfl ⟨(by decide),(by decide),fun D2 pY=>cD (lo:=0) (m:=5) (fun i acc H4=>av H3 H4/\H4 D2=some (.lst acc)/\∃ Qu:List Int,acc=Qu.map V.int/\Qu.length=i) ⟨av.new pY,ah,[],rfl,rfl⟩ (fun i acc H4 _ z=>⟨z.2.1,by obtain⟨ms2,e,e2⟩:=z.2.2;rw[e,List.length_map,e2];exact Nat.le_refl _⟩) (dm (by decide)) ?_ ?_⟩⟩)
   ·rintro i acc H4 hi ⟨s4,DE,Qu,rfl,ml3⟩;rw[Int.zero_add];exact⟨rfl,au rfl (au rfl (bQ ⟨z,_,rfl,by lia,by lia,fun y _ _=>⟨DE,s4.put pY,ah,Qu++[y],by rw[List.map_append];rfl,by rw[List.length_append,ml3];rfl⟩⟩))⟩
   ·rintro acc H4 ⟨s4,DE,Qu,rfl,ml3⟩;have Xg:=s4 _ _ Ah;refine⟨D,D2,_,_,rfl,rfl,Xg,DE,dl (Nat.ble_eq.mpr (by rw[List.length_map,List.length_map];lia)),?_⟩
    refine cont D (ms2++Qu) _ ?_ ?_
    ·exact(((s1.trans s2).trans (s3.trans s4))).put ((s1.trans s2).free hD)
    ·rw[ah,List.map_append]
end
def IF:Sp:=fun vs H Q _=>∃ w p ts,∃ g:aF p ts,∃(S:Int) (m:Nat),vs=[.ref w,.int S]/\S=(m:Int)/\br H w p ts/\m<2^ts.length/\∀ D H',av H H'->H' D=some (.lst (cJ (fun x=>(ae p ts g).dg m x) p))->Q (.ref D) H'
def E3:Sp:=fun vs H Q _=>∃ w p ts,∃ g:aF p ts,∃(S:Int) (m:Nat),vs=[.ref w,.int S]/\S=(m:Int)/\br H w p ts/\m<2^ts.length/\∀ H',av H H'->Q (.int ((RM.cnt ((ae p ts g).root (fun k=>m.testBit k) ts.length) p:Nat):Int)) H'
def LA:Sp:=fun vs H Q _=>∃ w p ts,∃ g:aF p ts,∃(S:Int) (m:Nat),vs=[.ref w,.int S]/\S=(m:Int)/\br H w p ts/\m<2^ts.length/\∀ H' (d:Bool),av H H'->(d=true↔(ae p ts g).Ring m)->Q (.bl d) H'
theorem LC{N:RM.Net}{m x:Nat}(k:Nat):RM.cnt (fun j=>m.testBit j&&N.inc j x) (k+1)=RM.cnt (fun j=>m.testBit j&&N.inc j x) k+if(m.testBit k&&N.inc k x)=true then 1 else 0:=rfl
theorem PV(x u v:Nat):Nm (.int (x:Int)) [.int (u:Int),.int (v:Int)]=decide (u=x\/v=x):=by
 have e:([.int (u:Int),.int (v:Int)]:List V)=aG [u,v]:=rfl;rw[e,rA];refine decide_eq_decide.mpr ?_;simp[eq_comm]
theorem Dy{f:Nat->Nat}{n u v:Nat}:(cJ f n).set u (.int (v:Int))=cJ (fun x=>if x=u then v else f x) n:=by
 unfold cJ;refine List.ext_getElem? fun i=>?_
 rw[List.getElem?_set,List.getElem?_map]
 by_cases e:u=i
 ·subst e;rw[if_pos rfl,List.length_map,List.length_range]
  by_cases h:u<n
  ·rw[if_pos h,List.getElem?_map,List.getElem?_range h];simp
  ·rw[if_neg h,List.getElem?_map,List.getElem?_eq_none (by rw[List.length_range];lia)]
   rfl
 ·rw[if_neg e,List.getElem?_map]
  by_cases h:i<n
  ·rw[List.getElem?_range h];simp[show ¬ i=u from fun z=>e z.symm]
  ·rw[List.getElem?_eq_none (by rw[List.length_range];lia)]
   rfl
theorem IG{f g:Nat->Int}{n:Nat}(h:∀ i,i<n->f i=g i):PyProof.Rows.firstMet f n=PyProof.Rows.firstMet g n:=by
 unfold PyProof.Rows.firstMet;rw[List.map_congr_left fun i hi=>h i (List.mem_range.mp hi)]
section
variable {P:Program}{w:World}{K:PySem.W.Frag}{mg:Str->Option Value}{base:Heap}{a:qP}
theorem nh(T:Txt K mg a):bE P w K mg base iP 1 a.ji a.mV ["web","some"] IF:=by
 refine T.sj.ok kF (fun vs H Q E h=>?_) (fun cdv A outer s H vs Q E hr h=>?_)
 ·obtain⟨w,p,ts,g,S,m,rfl,_⟩:=h;rfl
 ·obtain⟨wb,p,ts,g,S,m,rfl,rfl,hw,hm,q⟩:=h;refine⟨_,(ak (aH (i:=2) kF.nd rfl (Or.inl rfl) (aK DR (eR (aa aj ai)) (aB (ck K) (pv 0) aj (fun _ _=>rfl))))
   (ak (gE PassesOwn.never rfl (bA (by rfl) T.cC (aa (aR (iZ K) (by rfl) T.dM PySem.boot_len (aa (aB (ck K) (pv 0) aj (fun _ _=>rfl)) ai)) ai)) (aC (i:=3) kF.nd rfl (Or.inl rfl))
   (ay (cM (aP dw (aK cT (aK sF (pv 1) (pv 3)) aj) aj (aO _)) (ak (z7 (aK fM (aB (kN K) (pv 2) (aB (ck K) (aB (ck K) (aB (ck K) (pv 0) aj (fun _ _=>rfl)) (pv 3) (fun _ _=>rfl)) aj (fun _ _=>rfl)) (fun _ _=>rfl)) aj) (DF (pv 2) (aB (ck K) (aB (ck K) (aB (ck K) (pv 0) aj (fun _ _=>rfl)) (pv 3) (fun _ _=>rfl)) aj (fun _ _=>rfl)) set_list))
   (ay (z7 (aK fM (aB (kN K) (pv 2) (aB (ck K) (aB (ck K) (aB (ck K) (pv 0) aj (fun _ _=>rfl)) (pv 3) (fun _ _=>rfl)) aj (fun _ _=>rfl)) (fun _ _=>rfl)) aj) (DF (pv 2) (aB (ck K) (aB (ck K) (aB (ck K) (pv 0) aj (fun _ _=>rfl)) (pv 3) (fun _ _=>rfl)) aj (fun _ _=>rfl)) set_list)))) aZ)))
   (ay (aL (pv 2))))),?_⟩
  refine yn ?_;intro cj cG dI fL gj;obtain⟨bt,xs,h1,h2,h3⟩:=id hw.ex;have xU:=h3.length;have wl:=g.len;have wp:=g.p2;refine⟨dl rfl,fun c hc=>?_⟩
  have s1:av H (upd H c (.lst [.int 0])):=av.new hc;have hc1:upd H c (.lst [.int 0]) c=some (.lst [.int 0]):=ah;generalize upd H c (.lst [.int 0])=H1 at s1 hc1;refine(au rfl (cu (aX.of (s1 _ _ h1)) (ao (j:=0) rfl) ⟨c,(p:Int),au rfl ⟨rfl,hc1,by lia,by lia,(by rw[Int.toNat_natCast];show 1*p<=sizeLine;exact dl (Nat.ble_eq.mpr (by lia))),fun e he=>?_⟩⟩))
  have Sd:H e=none:=s1.free he;have s2:=s1.trans (av.new (o:=.lst (List.replicate (p:Int).toNat [V.int 0]).flatten) he);have Mk:upd H1 e (.lst (List.replicate (p:Int).toNat [V.int 0]).flatten) e=some (.lst (cJ (fun _=>0) p)):=by
   rw[ah,Int.toNat_natCast,BQ]
  generalize upd H1 e (.lst (List.replicate (p:Int).toNat [V.int 0]).flatten)=H2 at s2 Mk;refine(au rfl (cu (aX.of (s2 _ _ h1)) (ao (j:=1) rfl) (tI rfl (.inr (aX.of (s2 _ _ h2))) (au rfl ⟨(by lia),(by lia),?_⟩))))
  refine g8 (lo:=0) (n:=(xs.length:Int).toNat) (fun k σ H3=>∃ v3,σ=[some (.ref wb),some (.int (m:Int)),some (.ref e),v3]/\av H H3/\H3 e=some (.lst (cJ (fun x=>RM.cnt (fun j=>m.testBit j&&(ae p ts g).inc j x) k) p))) ⟨none,rfl,s2,Mk⟩ ?_ ?_
  ·rintro k D' σ H3 hk ⟨v3,rfl,s3,Io⟩;rw[Int.toNat_natCast]at hk;rw[Int.zero_add];have qO:k<ts.length:=by lia
   obtain⟨ct,ex,hct⟩:=sX (g:=g) h3 qO;have ha:(ae p ts g).a k<p:=(ae p ts g).al k qO;have hb:(ae p ts g).b k<p:=(ae p ts g).bl k qO;have ne:(ae p ts g).a k≠(ae p ts g).b k:=(ae p ts g).ne k qO;refine(au rfl (au rfl (bQ ⟨(by lia),bQ ⟨(nR rfl),rfl,au rfl (?_)⟩⟩)))
   rw[Int.toNat_natCast,DT,fg];cases rD:m.testBit k with
   | false =>
     refine eT (au rfl ⟨s3,?_⟩);rw[Io]
     congr 2
     refine vX fun x _=>?_
     rw[LC,rD];rfl
   | true =>
     generalize hF:(fun x=>RM.cnt (fun j=>m.testBit j&&(ae p ts g).inc j x) k)=F at Io
     refine fQ (au rfl (au rfl (cu (aX.of (s3 _ _ h1)) (ao (j:=1) rfl) (au rfl (cu (aX.of (s3 _ _ h2)) (ao (j:=k) ex) (cu (aX.of (s3 _ _ hct)) (ao (j:=0) rfl) (kD (aS.of Io) (ao (bK ha)) (bQ (?_)))))))));refine(au rfl (au rfl (cu (aX.of (s3 _ _ h1)) (ao (j:=1) rfl) (au rfl (cu (aX.of (s3 _ _ h2)) (ao (j:=k) ex) (cu (aX.of (s3 _ _ hct)) (ao (j:=0) rfl) ⟨e,_,_,(ae p ts g).a k,rfl,rfl,Io,q9 (by rw[cz];exact ha),?_⟩))))))
     have e4:(cJ F p).set ((ae p ts g).a k) (.int ((F ((ae p ts g).a k):Nat)+1:Int))=cJ (fun x=>if x=(ae p ts g).a k then F ((ae p ts g).a k)+1 else F x) p:=by
      rw[<-Dy];rfl
     dsimp only;rw[e4];have s4:av H (upd H3 e (.lst (cJ (fun x=>if x=(ae p ts g).a k then F ((ae p ts g).a k)+1 else F x) p))):=s3.put Sd
     have UC:upd H3 e (.lst (cJ (fun x=>if x=(ae p ts g).a k then F ((ae p ts g).a k)+1 else F x) p)) e=_:=ah
     generalize upd H3 e (.lst (cJ (fun x=>if x=(ae p ts g).a k then F ((ae p ts g).a k)+1 else F x) p))=H4 at s4 UC
     generalize hF2:(fun x=>if x=(ae p ts g).a k then F ((ae p ts g).a k)+1 else F x)=F2 at UC
     refine(au rfl (au rfl (cu (aX.of (s4 _ _ h1)) (ao (j:=1) rfl) (au rfl (cu (aX.of (s4 _ _ h2)) (ao (j:=k) ex) (cu (aX.of (s4 _ _ hct)) (ao (j:=1) rfl) (kD (aS.of UC) (ao (bK hb)) (bQ (?_)))))))));refine(au rfl (au rfl (cu (aX.of (s4 _ _ h1)) (ao (j:=1) rfl) (au rfl (cu (aX.of (s4 _ _ h2)) (ao (j:=k) ex) (cu (aX.of (s4 _ _ hct)) (ao (j:=1) rfl) ⟨e,_,_,(ae p ts g).b k,rfl,rfl,UC,q9 (by rw[cz];exact hb),?_⟩))))))
     refine(au rfl ⟨s4.put Sd,?_⟩);rw[ah];have e5:(cJ F2 p).set ((ae p ts g).b k) (.int ((F2 ((ae p ts g).b k):Nat)+1:Int))=cJ (fun x=>if x=(ae p ts g).b k then F2 ((ae p ts g).b k)+1 else F2 x) p:=by
      rw[<-Dy];rfl
     dsimp only;rw[e5]
     congr 2
     refine vX fun x _=>?_
     rw[LC,rD,Bool.true_and,show RM.cnt (fun j=>m.testBit j&&(ae p ts g).inc j x) k=F x from congrFun hF x]
     unfold RM.Net.inc;have f2:∀ y,F2 y=if y=(ae p ts g).a k then F ((ae p ts g).a k)+1 else F y:=fun y=>(congrFun hF2 y).symm
     by_cases e1:x=(ae p ts g).b k
     ·rw[if_pos e1,f2,if_neg (fun z:(ae p ts g).b k=(ae p ts g).a k=>ne z.symm),e1,decide_eq_false ne,decide_eq_true rfl]
      rfl
     ·rw[if_neg e1,f2,decide_eq_false (fun z:(ae p ts g).b k=x=>e1 z.symm),Bool.xor_false]
      by_cases e2:x=(ae p ts g).a k
      ·rw[if_pos e2,e2,decide_eq_true rfl];rfl
      ·rw[if_neg e2,decide_eq_false (fun z:(ae p ts g).a k=x=>e2 z.symm)]
       rfl
  ·rintro σ H3 ⟨v3,rfl,s3,Io⟩;rw[Int.toNat_natCast,xU]at Io;exact(au rfl (q e H3 s3 Io))
theorem ni(T:Txt K mg a):bE P w K mg base iP 1 a.jj a.mW ["web","some"] E3:=by
 refine T.sr.ok fU (fun vs H Q E h=>?_) (fun cdv A outer s H vs Q E hr h=>?_)
 ·obtain⟨w,p,ts,g,S,m,rfl,_⟩:=h;rfl
 ·obtain⟨wb,p,ts,g,S,m,rfl,rfl,hw,hm,q⟩:=h;refine⟨_,(ak (aH (i:=2) fU.nd rfl (Or.inr rfl) (bN (own:=["point"]) (frees:=[]) (js:=[]) (aI (af dh) ["web","some","marks","k","old"]) rfl (bA (by rfl) T.cC (aa (aB (ck K) (pv 0) aj (fun _ _=>rfl)) ai)) (fun _ _ _ _=>(aC (i:=0) (show(["point"]:List Str).Nodup by decide +kernel) rfl (Or.inl rfl))) (fun _ _ _ _=>cB) (fun _ _ _ _=>(pv 0))))
   (ak (gE PassesOwn.never rfl (bA (by rfl) T.cC (aa (aR (iZ K) (by rfl) T.dM PySem.boot_len (aa (aB (ck K) (pv 0) aj (fun _ _=>rfl)) ai)) ai)) (aC (i:=3) fU.nd rfl (Or.inr rfl))
   (ay (cM (aP dw (aK cT (aK sF (pv 1) (pv 3)) aj) aj (aO _)) (ak (aH (i:=4) fU.nd rfl (Or.inr rfl) (aB (kN K) (pv 2) (aB (ck K) (aB (ck K) (aB (ck K) (pv 0) aj (fun _ _=>rfl)) (pv 3) (fun _ _=>rfl)) aj (fun _ _=>rfl)) (fun _ _=>rfl)))
   (ay (aH (i:=2) fU.nd rfl (Or.inr rfl) (bN (own:=["mark"]) (frees:=["web","marks","k","old"]) (js:=[0,2,3,4]) (aI (af dh) ["web","some","marks","k","old"]) rfl (u9 K (pv 2)) (fun _ _ _ _=>(aC (i:=0) (show(["mark","web","marks","k","old"]:List Str).Nodup by decide +kernel) rfl (Or.inl rfl))) (fun _ _ _ _=>cB) (fun _ _ _ _=>(aB (kN K) (eR (aa (pv 0) (aa (aB (kN K) (pv 2) (aB (ck K) (aB (ck K) (aB (ck K) (pv 1) aj (fun _ _=>rfl)) (pv 3) (fun _ _=>rfl)) aj (fun _ _=>rfl)) (fun _ _=>rfl)) ai))) (cU sG (by rfl) T.Lb PyProof.Rows.boot_int (aa (cI dw (pv 0) (pv 4) (aO _)) ai)) (fun _ _=>rfl))))))) aZ)))
   (ay (aL (aR OH (by rfl) T.dM PySem.boot_len (aa (cU (V8 K rfl) (by rfl) T.R9 PyProof.Rows.boot_set (aa (pv 2) ai)) ai)))))),?_⟩
  refine yo ?_;intro cj cG dI fL gj;obtain⟨bt,xs,h1,h2,h3⟩:=id hw.ex;have xU:=h3.length;have wl:=g.len;have wp:=g.p2;refine(au rfl (cu (aX.of h1) (ao (j:=0) rfl) (au rfl ⟨(by lia),(by lia),fun M hM=>cD (lo:=0) (m:=p) (vY (fun x=>x) H M) (.start hM) (fun i acc H3 _ pd=>pd.len) (dm (by lia)) ?_ ?_⟩)))
  ·intro i acc H3 hi pd;rw[Int.zero_add];exact⟨rfl,au rfl (pd.next hM (av.refl _) rfl)⟩
  intro acc H1 pd;have hM1:H1 M=some (.lst (cJ (fun x=>x) p)):=by rw[pd.2.1,pd.2.2]
  have s1:=pd.1;clear pd;refine(au rfl (cu (aX.of (s1 _ _ h1)) (ao (j:=1) rfl) (tI rfl (.inr (aX.of (s1 _ _ h2))) (au rfl ⟨(by lia),(by lia),?_⟩))))
  refine g8 (lo:=0) (n:=(xs.length:Int).toNat) (fun k σ H3=>∃ M v3 v4 L,σ=[some (.ref wb),some (.int (m:Int)),some (.ref M),v3,v4]/\av H H3/\H3 M=some (.lst (cJ L p))/\RM.wL (ae p ts g) (fun k=>m.testBit k) L k) ⟨M,none,none,_,rfl,s1,hM1,RM.wL.start⟩ ?_ ?_
  ·rintro k D' σ H3 hk ⟨M,v3,v4,L,rfl,s3,PX,rel⟩;rw[Int.toNat_natCast]at hk;rw[Int.zero_add];have qO:k<ts.length:=by lia
   obtain⟨ct,ex,hct⟩:=sX (g:=g) h3 qO;have ha:(ae p ts g).a k<p:=(ae p ts g).al k qO;have hb:(ae p ts g).b k<p:=(ae p ts g).bl k qO;refine(au rfl (au rfl (bQ ⟨(by lia),bQ ⟨(nR rfl),rfl,au rfl (?_)⟩⟩)))
   rw[Int.toNat_natCast,DT,fg];cases rD:m.testBit k with
   | false=>exact eT ⟨M,_,_,L,rfl,s3,PX,rel.skip rD⟩
   | true =>
     refine fQ (au rfl (au rfl (cu (aX.of (s3 _ _ h1)) (ao (j:=1) rfl) (au rfl (cu (aX.of (s3 _ _ h2)) (ao (j:=k) ex) (cu (aX.of (s3 _ _ hct)) (ao (j:=1) rfl) (kD (aS.of PX) (ao (bK hb)) (?_))))))));refine(au rfl ⟨M,rfl,⟨_,aS.of PX⟩,fun M2 Nf=>bS (xs:=cJ L p) (vY (RM.ON L ((ae p ts g).a k) ((ae p ts g).b k)) H3 M2) (.start Nf) (fun i acc H4 _ pd=>⟨aS.of (pd.1 _ _ PX),pd.len⟩) (by rw[cz];exact dl (Nat.ble_eq.mpr (by lia))) ?_ ?_⟩)
     ·intro i x acc H4 hx pd;obtain⟨hi,rfl⟩:=mC hx;have s4:=s3.trans pd.1;refine⟨rfl,au rfl (au rfl (au rfl (cu (aX.of (s4 _ _ h1)) (ao (j:=1) rfl) (au rfl (cu (aX.of (s4 _ _ h2)) (ao (j:=k) ex) (cu (aX.of (s4 _ _ hct)) (ao (j:=0) rfl) (kD (aS.of (pd.1 _ _ PX)) (ao (bK ha)) ⟨dl rfl,fun l hl=>?_⟩)))))))⟩
      refine(au rfl (au rfl ⟨rfl,.inr (au rfl (?_))⟩));rw[jZ]
      by_cases e:L i=L ((ae p ts g).b k)
      ·rw[decide_eq_true e];exact(kD (aS.of ah) (ao (j:=1) rfl) (pd.next Nf (av.new hl) (by unfold RM.ON;rw[if_pos e])))
      ·rw[decide_eq_false e];exact(kD (aS.of ah) (ao (j:=0) rfl) (pd.next Nf (av.new hl) (by unfold RM.ON;rw[if_neg e])))
     ·intro acc H4 pd;rw[cz]at pd;exact⟨M2,_,_,_,rfl,s3.trans pd.1,by rw[pd.2.1,pd.2.2],rel.put qO rD⟩
  ·rintro σ H3 ⟨M,v3,v4,L,rfl,s3,PX,rel⟩;rw[Int.toNat_natCast,xU]at rel;have ens:cJ L p=((List.range p).map fun x=>((L x:Nat):Int)).map V.int:=by
    unfold cJ;rw[List.map_map];rfl
   refine(au rfl ⟨M,(List.range p).map (fun x=>((L x:Nat):Int)),rfl,aS.of (by rw[PX,ens]),by rw[List.length_map,List.length_range];lia,fun l S hl=>⟨l,S,_,rfl,ah,?_⟩⟩)
   rw[List.length_map,List.length_range,IG (g:=fun i=>((L i:Nat):Int)) (fun i hi=>by rw[List.getD_eq_getElem?_getD,List.getElem?_map,List.getElem?_range hi];rfl)]
   have e:=RM.MM (N:=ae p ts g) (L:=L) rel;have e:(PyProof.Rows.firstMet (fun i=>((L i:Nat):Int)) p).length=_:=e
   rw[e];exact q _ (s3.trans (av.new hl))
theorem nj(T:Txt K mg a):bE P w K mg base iP 2 a.mX a.qD ["web","some"] LA:=by
 have ni:=ni (P:=P) (w:=w) (base:=base) T;have nh:=nh (P:=P) (w:=w) (base:=base) T;refine T.xC.ok uQ (fun vs H Q E h=>?_) (fun cdv A outer s H vs Q E hr h=>?_)
 ·obtain⟨w,p,ts,g,S,m,rfl,_⟩:=h;rfl
 ·obtain⟨wb,p,ts,g,S,m,rfl,rfl,hw,hm,q⟩:=h;refine⟨_,(ak (aH (i:=2) uQ.nd rfl (Or.inl rfl) (aA nh (hr.mono (by decide)) (by rfl) T.A3 T.Bc T.A4 .nil aQ (aa (pv 0) (aa (pv 1) ai))))
   (ak (cM (PW.pt (uF (aP Jd (pv 1) aj (aO _)) (qo (aP yH (aR (iZ K) (by rfl) T.dM PySem.boot_len (aa (bN (own:=["count"]) (frees:=[]) (js:=[]) (aI (af e8) ["web","some","counts"]) rfl (u9 K (pv 2)) (fun _ _ _ _=>(aC (i:=0) (show(["count"]:List Str).Nodup by decide +kernel) rfl (Or.inl rfl))) (fun _ _ _ _=>(fX (aP (Js K) (pv 0) (dQ (aa aj (aa aj ai))) (by with_unfolding_all rfl)))) (fun _ _ _ _=>(pv 0))) ai)) aj (aO _))))) (ay (aL qR)) aZ)
   (ay (aL (cI dw (aA ni (hr.mono (by decide)) (by rfl) T.A5 T.Bd T.A6 .nil aQ (aa (pv 0) (aa (pv 1) ai))) (aK fM (aK nN (aB (ck K) (pv 0) aj (fun _ _=>rfl)) (aR (iZ K) (by rfl) T.dM PySem.boot_len (aa (bN (own:=["count"]) (frees:=[]) (js:=[]) (aI (af e8) ["web","some","counts"]) rfl (u9 K (pv 2)) (fun _ _ _ _=>(aC (i:=0) (show(["count"]:List Str).Nodup by decide +kernel) rfl (Or.inl rfl))) (fun _ _ _ _=>(fX (aP dw (pv 0) aj (aO _)))) (fun _ _ _ _=>(pv 0))) ai))) aj) (aO _)))))),?_⟩
  refine CC ?_;intro cj cG dI;obtain⟨bt,xs,h1,h2,h3⟩:=id hw.ex;have wp:=g.p2;refine(au rfl (au rfl ⟨wb,p,ts,g,_,m,rfl,rfl,hw,hm,fun D H1 s1 xT=>?_⟩))
  refine(au rfl (bQ (au rfl (nQ (fun h0=>?_) (fun h0=>?_)))))
  ·have h0:(m:Int)<=0:=of_decide_eq_true h0;exact q H1 false s1 ⟨(fun z=>nomatch z),fun r=>absurd (show m=0 by lia) r.1⟩
  have h0:m≠0:=fun z=>h0 (decide_eq_true (show(m:Int)<=0 by lia))
  refine(au rfl ⟨D,rfl,⟨_,aS.of xT⟩,fun C hC=>bS (xs:=cJ (fun x=>(ae p ts g).dg m x) p) (fun i acc H2=>av H1 H2/\H2 C=some (.lst acc)/\acc.length=RM.cnt (fun x=>!decide (0=(ae p ts g).dg m x\/2=(ae p ts g).dg m x)) i) ⟨av.new hC,ah,rfl⟩ (fun i acc H2 _ f=>⟨aS.of (f.1 _ _ xT),f.2.1,by have:=RM.mz (fun x=>!decide (0=(ae p ts g).dg m x\/2=(ae p ts g).dg m x)) i;have:=f.2.2;lia⟩) (dm (by rw[cz];lia)) ?_ ?_⟩)
  ·rintro i x acc H2 hx ⟨s2,Lq,al⟩;obtain⟨hi,rfl⟩:=mC hx;refine⟨rfl,au rfl ⟨dl rfl,fun u hu=>(tI rfl (.inr (aX.of ah)) ⟨rfl,rfl,au rfl (?_)⟩)⟩⟩
   have e:Nm (.int (((ae p ts g).dg m i:Nat):Int)) [.int 0,.int 2]=decide (0=(ae p ts g).dg m i\/2=(ae p ts g).dg m i):=PV _ 0 2;have hc1:RM.cnt (fun x=>!decide (0=(ae p ts g).dg m x\/2=(ae p ts g).dg m x)) (i+1)=RM.cnt (fun x=>!decide (0=(ae p ts g).dg m x\/2=(ae p ts g).dg m x)) i+if(!decide (0=(ae p ts g).dg m i\/2=(ae p ts g).dg m i))=true then 1 else 0:=rfl
   dsimp only;rw[if_pos rfl,e];have hCu:C≠u:=bR Lq hu;cases hb:decide (0=(ae p ts g).dg m i\/2=(ae p ts g).dg m i) with
   | false =>
     rw[hb]at hc1;refine fQ (au rfl ⟨by rw[aq hCu];exact Lq,(s2.trans (av.new hu)).put hC,ah,?_⟩)
     rw[List.length_append,hc1,al];rfl
   | true =>
     rw[hb]at hc1;exact eT ⟨s2.trans (av.new hu),by rw[aq hCu];exact Lq,by rw[hc1,al];rfl⟩
  rintro acc H2 ⟨s2,Lq,al⟩;rw[cz]at al;have s12:=s1.trans s2;refine(tI rfl (.inl (aS.of Lq)) (bQ (au rfl (nQ (fun hpos=>?_) (fun hpos=>?_)))))
  ·have hpos:(0:Int)<(acc.length:Int):=of_decide_eq_true hpos;refine q H2 false s12 ⟨(fun z=>nomatch z),fun r=>?_⟩
   obtain⟨x,hx,hf⟩:=RM.nX (show 0<RM.cnt _ p by rw[<-al];lia)
   have d2:=RM.MG hm r x hx;rw[Bool.not_eq_true',decide_eq_false_iff_not]at hf;exact absurd (d2.imp Eq.symm Eq.symm) hf
  have d2:(ae p ts g).D2 m:=fun x hx=>by
   apply Classical.byContradiction;intro hn;have:=RM.o6 (f:=fun x=>!decide (0=(ae p ts g).dg m x\/2=(ae p ts g).dg m x)) (k:=x) (by
    rw[Bool.not_eq_true',decide_eq_false_iff_not];exact fun z=>hn (z.imp Eq.symm Eq.symm)) (show x<p from hx)
   exact hpos (decide_eq_true (show(0:Int)<(acc.length:Int) by lia))
  refine(au rfl (au rfl ⟨wb,p,ts,g,_,m,rfl,rfl,hw.same s12,hm,fun H3 s3=>?_⟩))
  have xH:=s12.trans s3;have Ah:=(s2.trans s3) _ _ xT;refine(au rfl (cu (aX.of (xH _ _ h1)) (ao (j:=0) rfl) (?_)));refine(au rfl ⟨D,rfl,⟨_,aS.of Ah⟩,fun C2 Lq=>bS (xs:=cJ (fun x=>(ae p ts g).dg m x) p) (fun i acc H4=>av H3 H4/\H4 C2=some (.lst acc)/\acc.length=RM.cnt (fun x=>decide ((ae p ts g).dg m x=2)) i) ⟨av.new Lq,ah,rfl⟩ (fun i acc H4 _ f=>⟨aS.of (f.1 _ _ Ah),f.2.1,by have:=RM.mz (fun x=>decide ((ae p ts g).dg m x=2)) i;have:=f.2.2;lia⟩) (dm (by rw[cz];lia)) ?_ ?_⟩)
  ·rintro i x acc H4 hx ⟨s4,UD,UE⟩;obtain⟨hi,rfl⟩:=mC hx;refine⟨rfl,au rfl ⟨rfl,au rfl (?_)⟩⟩;have hc1:RM.cnt (fun x=>decide ((ae p ts g).dg m x=2)) (i+1)=RM.cnt (fun x=>decide ((ae p ts g).dg m x=2)) i+if decide ((ae p ts g).dg m i=2)=true then 1 else 0:=rfl
   have e:decide (V.int (((ae p ts g).dg m i:Nat):Int)=V.int 2)=decide ((ae p ts g).dg m i=2):=jZ _ 2;rw[e];cases hb:decide ((ae p ts g).dg m i=2) with
   | true =>
     rw[hb]at hc1;refine(au rfl ⟨UD,s4.put Lq,ah,?_⟩);rw[List.length_append,hc1,UE];rfl
   | false =>
     rw[hb]at hc1;exact⟨s4,UD,by rw[hc1,UE];rfl⟩
  ·rintro acc H4 ⟨s4,UD,UE⟩;rw[cz]at UE;refine(tI rfl (.inl (aS.of UD)) (bQ (bQ ⟨rfl,q H4 _ (xH.trans s4) ?_⟩)));have h:=RM.Kx hm h0 d2;have hcc:RM.cnt (fun x=>decide ((ae p ts g).dg m x=2)) p<=p:=by have:=RM.mz (fun x=>decide ((ae p ts g).dg m x=2)) p;lia
   rw[h,decide_eq_true_iff]
   constructor
   ·intro e;have e:=V.int.inj e;show RM.cnt ((ae p ts g).root (fun k=>m.testBit k) ts.length) p+RM.cnt (fun x=>decide ((ae p ts g).dg m x=2)) p=p+1
    lia
   ·intro e;have e:RM.cnt ((ae p ts g).root (fun k=>m.testBit k) ts.length) p+RM.cnt (fun x=>decide ((ae p ts g).dg m x=2)) p=p+1:=e
    exact congrArg V.int (by lia)
end
def LD:Sp:=fun vs H Q _=>∃(x y:Nat),vs=[.int (x:Int),.int (y:Int)]/\∀ v:Bool,(∀ d,x&&&y<2^d->v=RM.bf (fun j=>(x&&&y).testBit j) d)->Q (.bl v) H
section
variable {P:Program}{w:World}{K:PySem.W.Frag}{mg:Str->Option Value}{base:Heap}{a:qP}
theorem mh(T:Txt K mg a):bE P w K mg base iP 1 a.pR a.tZ ["one","other"] LD:=by
 refine T.zM.ok jR (fun vs H Q E h=>?_) (fun cdv A outer s H vs Q E hr h=>?_)
 ·obtain⟨x,y,rfl,_⟩:=h;rfl
 ·obtain⟨x,y,rfl,q⟩:=h;refine⟨_,(ak (aH (i:=2) jR.nd rfl (Or.inl rfl) (aK z9 (pv 0) (pv 1)))
   (ak (aH (i:=3) jR.nd rfl (Or.inl rfl) aj)
   (ak (vE PassesOwn.never (aP yH (pv 2) aj (aO _)) (ak (aH (i:=3) jR.nd rfl (Or.inl rfl) (aK nN aj (pv 3)))
   (ay (aH (i:=2) jR.nd rfl (Or.inl rfl) (aK z9 (pv 2) (aK nN (pv 2) aj))))))
   (ay (aL (cI dw (pv 3) aj (aO _))))))),?_⟩
  refine EF ?_;intro cj cG dI fL gj;refine(au rfl (au rfl (bQ (?_))));have e0:Builtin.bitAnd (x:Int) (y:Int)=((x&&&y:Nat):Int):=and_int x y;refine⟨fun k σ H2=>∃(n:Nat) (c:Bool),σ=[some (.int (x:Int)),some (.int (y:Int)),some (.int (n:Int)),some (.int (c.toNat:Int))]/\H2=H/\(∀ d,x&&&y<2^d->n<2^d/\RM.bf (fun j=>(x&&&y).testBit j) d=(c^^RM.bf (fun j=>n.testBit j) d))/\n=k,⟨x&&&y,x&&&y,false,?_,rfl,fun d hd=>⟨hd,by rw[Bool.false_xor]⟩,rfl⟩,?_⟩
  ·show[_,_,some (V.int (Builtin.bitAnd (x:Int) (y:Int))),_]=_;rw[e0];rfl
  rintro k σ H2 ⟨n,c,rfl,rfl,hc,rfl⟩;refine(au rfl (bQ (au rfl (nQ (fun hpos=>?_) (fun hpos=>?_)))))
  ·have hpos:(0:Int)<((n:Nat):Int):=of_decide_eq_true hpos;have hlt:n&&&(n-1)<n:=by
    have:=Nat.and_le_right (n:=n) (m:=n-1)
    lia
   refine⟨fun σ H3=>∃(n' : Nat) (c:Bool),σ=[some (.int (x:Int)),some (.int (y:Int)),some (.int (n' : Int)),some (.int (c.toNat:Int))]/\H3=H2/\(∀ d,x&&&y<2^d->n'<2^d/\RM.bf (fun j=>(x&&&y).testBit j) d=(c^^RM.bf (fun j=>n'.testBit j) d))/\n'<n,fun σ H3 ⟨n',c,z1,z2,z3,z4⟩=>⟨n',z4,n',c,z1,z2,z3,rfl⟩,?_⟩
   refine(au rfl (bQ (au rfl (au rfl (bQ (bQ ⟨n&&&(n-1),!c,?_,rfl,fun d hd=>?_,hlt⟩))))))
   ·show[_,_,some (V.int (Builtin.bitAnd (n:Int) ((n:Int)-1))),some (V.int (1-(c.toNat:Int)))]=_;rw[show(n:Int)-1=((n-1:Nat):Int) by lia,and_int]
    cases c<;>rfl
   ·obtain⟨h1,h2⟩:=hc d hd;refine⟨by lia,?_⟩
    rw[h2,RM.MN d n (by lia) h1]
    cases c<;>cases RM.bf (fun j=>n.testBit j) d<;>rfl
  ·have hz:n=0:=by
    have : ¬(0:Int)<((n:Nat):Int):=fun z=>hpos (decide_eq_true z)
    lia
   subst hz;have ec:decide (V.int (c.toNat:Int)=V.int 1)=c:=by
    cases c
    ·rfl
    ·rfl
   refine(au rfl ⟨rfl,?_⟩);rw[ec];refine q c fun d hd=>?_
   rw[(hc d hd).2,RM.gn fun k _=>Nat.zero_testBit k,Bool.xor_false]
end
def LF:Sp:=fun vs H Q _=>∃ w p ts,∃ g:aF p ts,∃(S:Int) (m:Nat),vs=[.ref w,.int S]/\S=(m:Int)/\br H w p ts/\m<2^ts.length/\∀ H',av H H'->Q (.int (lenOf ts m)) H'
def Ng:Sp:=fun vs H Q _=>∃ w p ts,∃ g:aF p ts,∃ c:Int,vs=[.ref w,.int c]/\br H w p ts/\Q (.int (((ae p ts g).cut (fun x=>bit c x):Nat):Int)) H
def II:Sp:=fun vs H Q _=>∃ w p ts,∃ g:aF p ts,∃ c:Int,vs=[.ref w,.int c]/\br H w p ts/\∀ m:Nat,m<2^ts.length->Q (.int (m:Int)) H
theorem pow_pos(n:Nat):(0:Int)<2^n:=by
 have h:((2:Int)^n)=((2^n:Nat):Int):=by simp
 have:=Nat.two_pow_pos n
 lia
theorem Nh(z:Int)(n:Nat):∃ k:Nat,z%2^n=(k:Int)/\k<2^n:=by
 obtain⟨h0,h1⟩:=jW z (2^n) (pow_pos n);refine⟨(z%2^n).toNat,by lia,?_⟩
 have h:((2:Int)^n)=((2^n:Nat):Int):=by simp
 lia
theorem LG(c:Int)(x y:Nat):(!decide (V.int (c/2^x%2)=V.int (c/2^y%2)))=(bit c x^^bit c y):=by
 unfold bit;obtain⟨h0,h1⟩:=jW (c/2^x) 2 (by decide)
 obtain⟨g0,g1⟩:=jW (c/2^y) 2 (by decide)
 generalize c/2^x%2=u at h0 h1;generalize c/2^y%2=v at g0 g1;have hu:u=0\/u=1:=by lia
 have hv:v=0\/v=1:=by lia
 rcases hu with rfl|rfl<;>rcases hv with rfl|rfl<;>rfl
section
variable {P:Program}{w:World}{K:PySem.W.Frag}{mg:Str->Option Value}{base:Heap}{a:qP}
theorem jS(T:Txt K mg a):bE P w K mg base iP 1 a.mY a.qF ["web","some"] LF:=by
 refine T.xF.ok CD (fun vs H Q E h=>?_) (fun cdv A outer s H vs Q E hr h=>?_)
 ·obtain⟨w,p,ts,g,S,m,rfl,_⟩:=h;rfl
 ·obtain⟨wb,p,ts,g,S,m,rfl,rfl,hw,hm,q⟩:=h;refine⟨_,(ay (aL (aR (sumK K rfl) (by rfl) T.Le PyProof.Rows.boot_sum (aa (bN (own:=["k"]) (frees:=["web","some"]) (js:=[0,1]) (aI (af gk) ["web","some"]) rfl (bA (by rfl) T.cC (aa (aR (iZ K) (by rfl) T.dM PySem.boot_len (aa (aB (ck K) (pv 0) aj (fun _ _=>rfl)) ai)) ai)) (fun _ _ _ _=>(aC (i:=0) (show(["k","web","some"]:List Str).Nodup by decide +kernel) rfl (Or.inl rfl))) (fun _ _ _ _=>(fX (aP dw (aK cT (aK sF (pv 2) (pv 0)) aj) aj (aO _)))) (fun _ _ _ _=>(aB (ck K) (aB (ck K) (aB (ck K) (pv 1) aj (fun _ _=>rfl)) (pv 0) (fun _ _=>rfl)) aj (fun _ _=>rfl)))) ai)))),?_⟩
  obtain⟨bt,xs,h1,h2,h3⟩:=id hw.ex;have xU:=h3.length;have wl:=g.len;refine(au rfl (cu (aX.of h1) (ao (j:=1) rfl) (tI rfl (.inr (aX.of h2)) (au rfl ⟨(by lia),(by lia),fun D hD=>cD (lo:=0) (m:=xs.length) (fun i acc H2=>av H H2/\H2 D=some (.lst acc)/\acc=(((List.range i).filter (fun k=>m.testBit k)).map fun k=>(bM ts k).2.2).map V.int) ⟨av.new hD,ah,rfl⟩ (fun i acc H2 _ z=>⟨z.2.1,by rw[z.2.2,List.length_map,List.length_map];exact Nat.le_trans (List.length_filter_le _ _) (by rw[List.length_range];exact Nat.le_refl _)⟩) (dm (by lia)) ?_ ?_⟩))))
  ·rintro i acc H2 hi ⟨s2,pY,rfl⟩;rw[Int.zero_add];obtain⟨c,hxc,hct⟩:=sX (g:=g) h3 (show i<ts.length by lia)
   refine⟨rfl,au rfl (au rfl (bQ ⟨(by lia),bQ ⟨(nR rfl),rfl,au rfl (?_)⟩⟩))⟩
   rw[Int.toNat_natCast,DT,fg];cases hb:m.testBit i with
   | true =>
     refine(au rfl (cu (aX.of (s2 _ _ h1)) (ao (j:=1) rfl) (au rfl (cu (aX.of (s2 _ _ h2)) (ao (j:=i) hxc) (cu (aX.of (s2 _ _ hct)) (ao (j:=2) rfl) ⟨pY,s2.put hD,ah,?_⟩)))));rw[bj,if_pos hb,List.map_append,List.map_append];rfl
   | false =>
     refine⟨s2,pY,?_⟩;rw[bj,if_neg (by rw[hb];decide),List.append_nil]
  ·rintro acc H2 ⟨s2,pY,rfl⟩;refine⟨D,_,rfl,aS.of pY,?_⟩;have e:lenOf ts m=(((List.range xs.length).filter (fun k=>m.testBit k)).map fun k=>(bM ts k).2.2).sum:=by
    unfold lenOf;rw[jG hm,xU]
   rw[<-e];exact q H2 s2
theorem jB(T:Txt K mg a):bE P w K mg base iP 1 a.pU a.t8 ["web","cell"] Ng:=by
 refine T.zN.ok gm (fun vs H Q E h=>?_) (fun cdv A outer s H vs Q E hr h=>?_)
 ·obtain⟨w,p,ts,g,c,rfl,_⟩:=h;rfl
 ·obtain⟨wb,p,ts,g,c,rfl,hw,q⟩:=h;refine⟨_,(ak (aH (i:=2) gm.nd rfl (Or.inl rfl) aj)
   (ak (gE PassesOwn.never rfl (bA (by rfl) T.cC (aa (aR (iZ K) (by rfl) T.dM PySem.boot_len (aa (aB (ck K) (pv 0) aj (fun _ _=>rfl)) ai)) ai)) (aC (i:=3) gm.nd rfl (Or.inl rfl))
   (ak (z7 (aB (ck K) (aB (ck K) (pv 0) aj (fun _ _=>rfl)) (pv 3) (fun _ _=>rfl)) (IM K (n:=3) rfl (aV (aC (i:=4) gm.nd rfl (Or.inl rfl)) (aV (aC (i:=5) gm.nd rfl (Or.inl rfl)) (aV (aC (i:=6) gm.nd rfl (Or.inl rfl)) fc)))))
   (ay (cM (aP uG (aK cT (aK sF (pv 1) (pv 4)) aj) (aK cT (aK sF (pv 1) (pv 5)) aj) (aO _)) (ay (aH (i:=2) gm.nd rfl (Or.inl rfl) (aK QU (pv 2) (aK jE aj (pv 3))))) aZ))))
   (ay (aL (pv 2))))),?_⟩
  refine EG ?_;intro cj cG dI fL gj;obtain⟨bt,xs,h1,h2,h3⟩:=id hw.ex;have xU:=h3.length;have wl:=g.len;refine(au rfl (cu (aX.of h1) (ao (j:=1) rfl) (tI rfl (.inr (aX.of h2)) (au rfl ⟨(by lia),(by lia),?_⟩))))
  refine g8 (lo:=0) (n:=(xs.length:Int).toNat) (fun j σ H2=>∃ v3 v4 v5 v6,σ=[some (.ref wb),some (.int c),some (.int ((maskOf (fun k=>bit c ((ae p ts g).a k)^^bit c ((ae p ts g).b k)) j:Nat):Int)),v3,v4,v5,v6]/\H2=H) ⟨none,none,none,none,rfl,rfl⟩ ?_ ?_
  ·rintro j D' σ H2 hj ⟨v3,v4,v5,v6,rfl,rfl⟩;rw[Int.toNat_natCast,xU]at hj;rw[Int.zero_add];obtain⟨ct,hxc,hct⟩:=sX (g:=g) h3 hj;refine(au rfl (cu (aX.of h1) (ao (j:=1) rfl) (au rfl (cu (aX.of h2) (ao (j:=j) hxc) ⟨ct,_,rfl,aX.of hct,rfl,_,_,rfl,_,_,rfl,_,_,rfl,rfl,?_⟩))));refine(au rfl (au rfl (bQ ⟨(by lia),bQ ⟨(nR rfl),au rfl (au rfl (bQ ⟨(by lia),bQ ⟨(nR rfl),rfl,au rfl (?_)⟩⟩))⟩⟩)))
   rw[Int.toNat_natCast,Int.toNat_natCast,LG];have hms:maskOf (fun k=>bit c ((ae p ts g).a k)^^bit c ((ae p ts g).b k)) (j+1)=maskOf (fun k=>bit c ((ae p ts g).a k)^^bit c ((ae p ts g).b k)) j+(if(bit c ((ae p ts g).a j)^^bit c ((ae p ts g).b j))=true then 2^j else 0):=Nat.add_comm _ _
   have hlt:=mask_lt (fun k=>bit c ((ae p ts g).a k)^^bit c ((ae p ts g).b k)) j
   have yes:(bit c ((ae p ts g).a j)^^bit c ((ae p ts g).b j))=true->Builtin.bitOr ((maskOf (fun k=>bit c ((ae p ts g).a k)^^bit c ((ae p ts g).b k)) j:Nat):Int) (1*2^((j:Nat):Int).toNat)=((maskOf (fun k=>bit c ((ae p ts g).a k)^^bit c ((ae p ts g).b k)) (j+1):Nat):Int):=fun z=>by
    have e:=Nat.two_pow_add_eq_or_of_lt hlt 1;rw[Nat.mul_one]at e;rw[hms,if_pos z,jY,or_int,Nat.or_comm,<-e,Nat.add_comm]
   have no:(bit c ((ae p ts g).a j)^^bit c ((ae p ts g).b j))=false->maskOf (fun k=>bit c ((ae p ts g).a k)^^bit c ((ae p ts g).b k)) (j+1)=maskOf (fun k=>bit c ((ae p ts g).a k)^^bit c ((ae p ts g).b k)) j:=fun z=>by
    rw[hms,if_neg (by rw[z];decide),Nat.add_zero]
   cases hb:(bit c ((ae p ts g).a j)^^bit c ((ae p ts g).b j)) with
   | true=>exact fQ (au rfl (au rfl (bQ ⟨⟨by lia,by lia,by decide⟩,bQ ⟨some (.int (j:Int)),some (.int ((ae p ts g).a j:Int)),some (.int ((ae p ts g).b j:Int)),some (.int (bM ts j).2.2),by rw[<-yes hb];rfl,rfl⟩⟩)))
   | false=>exact eT ⟨some (.int (j:Int)),some (.int ((ae p ts g).a j:Int)),some (.int ((ae p ts g).b j:Int)),some (.int (bM ts j).2.2),by rw[no hb];rfl,rfl⟩
  ·rintro σ H2 ⟨v3,v4,v5,v6,rfl,rfl⟩;rw[Int.toNat_natCast,xU];exact(au rfl (q))
theorem oW(T:Txt K mg a):bE P w K mg base iP 2 a.kj a.oG ["web","cell"] II:=by
 have jB:=jB (P:=P) (w:=w) (base:=base) T;refine T.uY.ok gR (fun vs H Q E h=>?_) (fun cdv A outer s H vs Q E hr h=>?_)
 ·obtain⟨w,p,ts,g,c,rfl,_⟩:=h;rfl
 ·obtain⟨wb,p,ts,g,c,rfl,hw,q⟩:=h;refine⟨_,(ak (aH (i:=2) gR.nd rfl (Or.inl rfl) (aR (iZ K) (by rfl) T.dM PySem.boot_len (aa (aB (ck K) (pv 0) aj (fun _ _=>rfl)) ai)))
   (ak (cM (aP dw (pv 2) aj (aO _)) (ay (aL aj)) aZ)
   (ak (aH (i:=3) gR.nd rfl (Or.inl rfl) (aK cT (pv 1) aj))
   (ak (cM (aP dw (pv 3) aj (aO _)) (ay (aL (aK cT (aK jU (pv 1) aj) (aK jE aj (pv 2))))) aZ)
   (ak (aH (i:=4) gR.nd rfl (Or.inl rfl) (aA jB (hr.mono (by decide)) (by rfl) T.zO T.zS T.zP .nil aQ (aa (pv 0) (aa (aK jU (pv 1) aj) ai))))
   (ak (cM (aP dw (pv 3) aj (aO _)) (ay (aH (i:=4) gR.nd rfl (Or.inl rfl) (aK gF (pv 4) (aK jE aj (aK cT (aK jU (pv 1) aj) (pv 2)))))) aZ)
   (ay (aL (pv 4))))))))),?_⟩
  refine AL ?_;intro cj cG dI fL gj p9 zq Ge Gf;obtain⟨bt,xs,h1,h2,h3⟩:=id hw.ex;have xU:=h3.length;have wl:=g.len;have pp:=pow_pos ts.length;have epw:(1:Int)*2^((xs.length:Nat):Int).toNat=2^ts.length:=by rw[Int.toNat_natCast,xU,Int.one_mul]
  refine(au rfl (cu (aX.of h1) (ao (j:=1) rfl) (tI rfl (.inr (aX.of h2)) (?_))));refine(au rfl ⟨rfl,au rfl (?_)⟩)
  by_cases G7:xs.length=0
  ·rw[decide_eq_true (by rw[G7];rfl)]
   exact fQ (q 0 (Nat.two_pow_pos _))
  rw[decide_eq_false (fun z=>G7 (by have:=V.int.inj z;lia))]
  refine eT (au rfl (bQ ⟨(nR rfl),au rfl ⟨rfl,au rfl (nQ (fun _=>?_) (fun _=>?_))⟩⟩))
  ·refine(au rfl (bQ ⟨⟨by decide,by decide⟩,au rfl (bQ ⟨⟨by lia,by lia,by decide⟩,bQ ⟨(by rw[epw];exact pp),?_⟩⟩)⟩))
   dsimp only;rw[epw];obtain⟨m,hm,hml⟩:=Nh (c/3) ts.length;rw[hm];exact q m hml
  ·refine(au rfl (au rfl (bQ ⟨⟨by decide,by decide⟩,wb,p,ts,g,_,rfl,hw,?_⟩)))
   have hct:=RM.JS (N:=ae p ts g) (fun x=>bit (c/3) x)
   generalize (ae p ts g).cut (fun x=>bit (c/3) x)=M at hct
   have hct:M<2^ts.length:=hct;refine(au rfl ⟨rfl,au rfl (nQ (fun _=>?_) (fun _=>(au rfl (q M hct))))⟩)
   refine(au rfl (au rfl (bQ ⟨⟨by decide,by decide⟩,au rfl (bQ ⟨(by lia),bQ (?_)⟩)⟩)))
   obtain⟨t,ht,htl⟩:∃ t:Nat,c/192%((xs.length:Nat):Int)=(t:Int)/\t<xs.length:=by
    obtain⟨h0,h1⟩:=jW (c/192) ((xs.length:Nat):Int) (by lia)
    exact⟨(c/192%((xs.length:Nat):Int)).toNat,by lia,by lia⟩
   rw[ht];refine⟨⟨by lia,by lia,by decide⟩,bQ (au rfl (?_))⟩
   dsimp only;rw[jY,xor_int];exact q _ (Nat.xor_lt_two_pow hct (Nat.pow_lt_pow_right (by decide) (by lia)))
end
def zV(l:List Nat):PyData:=.tuple [.str "side",.list (l.map pW)]
theorem zW:∀ l:List Nat,PyData.canLayAll0 (l.map pW)=true
 | []=>rfl
 | x::r=>by
   have ih:=zW r;have e:(pW x).canLay0=true:=by simp[pW,PyData.canLay0]
   simp only[List.map_cons,PyData.canLayAll0,ih,Bool.and_true,e]
theorem xP:∀ l:List Nat,PyData.depthAll (l.map pW)=0
 | []=>rfl
 | x::r=>by
   show max (PyData.depth (pW x)) (PyData.depthAll (r.map pW))=0;rw[xP r];rfl
theorem zX(l:List Nat):(zV l).canLay0=true:=by
 have h:PyData.strOk "side"=true:=by decide +kernel
 simp[zV,PyData.canLay0,PyData.canLayAll0,zW,h]
theorem sA(l:List Nat):SeqAt.shaped (zV l)=true:=by
 unfold SeqAt.shaped;rw[zX,Bool.true_and];refine decide_eq_true ?_;have e2:PyData.depth (zV l)=2:=by simp[zV,PyData.depth,PyData.depthAll,xP]
 lia
theorem Dz{K:PySem.W.Frag}{H:Hp}{t l:Addr}{xs:List Nat}(h:H t=some (.tup [.str "side",.ref l]))(hl:H l=some (.lst (aG xs))):sH K H (.ref t) (zV xs):=.tup (aX.of h) (.cons (.str _) (.cons (.lst (aS.of hl) (vQ _)) .nil))
def E4(t:Addr)(lp:Pos):Sp:=fun vs H Q _=>∃ w p ts,∃ g:aF p ts,∃(bb:Addr) (ys:List V) (tr:List NY) (m:Nat),vs=[.ref w,.ref bb,.int (m:Int)]/\br H w p ts/\m<2^ts.length/\H t=some (.jT (fk (rG "least_ways") lp))/\H bb=some (.tup ys)/\Paired (yD H) ys tr/\RM.LB (ae p ts g) (bz ts) (tr.map (·.1))/\∀ H',av H H'->Q (.bl true) H'
theorem LH:∀ l:List Int,PyData.eqv (.list (l.map PyData.int)) (.list [])=decide (l=[])
 | []=>rfl
 | _::_=>rfl
theorem zY{K:PySem.W.Frag}{H:Hp}:∀ l:List Int,DatVs K H (l.map V.int) (l.map PyData.int)
 | []=>.nil
 | x::r=>.cons (.int x) (zY r)
theorem lay_ints:∀ l:List Int,PyData.canLayAll0 (l.map PyData.int)=true
 | []=>rfl
 | x::r=>by
   have ih:=lay_ints r;have e:(PyData.int x).canLay0=true:=by simp[PyData.canLay0]
   simp only[List.map_cons,PyData.canLayAll0,ih,Bool.and_true,e]
theorem zZ:∀ l:List Int,PyData.depthAll (l.map PyData.int)=0
 | []=>rfl
 | x::r=>by
   show max (PyData.depth (PyData.int x)) (PyData.depthAll (r.map PyData.int))=0;rw[zZ r];rfl
theorem shaped_ints(l:List Int):SeqAt.shaped (.list (l.map PyData.int))=true:=by
 unfold SeqAt.shaped;have e:(PyData.list (l.map PyData.int)).canLay0=PyData.canLayAll0 (l.map PyData.int):=by simp[PyData.canLay0]
 rw[e,lay_ints,Bool.true_and];refine decide_eq_true ?_;have e2:PyData.depth (PyData.list (l.map PyData.int))=PyData.depthAll (l.map PyData.int)+1:=by simp[PyData.depth]
 rw[e2,zZ]
 lia
theorem DA(f:Nat->Bool):∀ p,(((List.range p).filter f).map fun x=>((2^x:Nat):Int)).sum=((maskOf f p:Nat):Int)
 | 0=>rfl
 | p+1=>by
   have e:maskOf f (p+1)=(if f p=true then 2^p else 0)+maskOf f p:=rfl
   rw[bj,List.map_append,List.sum_append,DA f p,e];cases f p with
   | true=>simp;lia
   | false=>simp
def jk(ts:List dZ)(f:Nat->Bool)(tr:List NY):List Int:=((tr.map (·.1)).filter f).map (lenOf ts)
theorem Bm(ts:List dZ)(f:Nat->Bool)(tr:List NY)(t:NY):jk ts f (tr++[t])=jk ts f tr++(if f t.1=true then[lenOf ts t.1] else[]):=by
 unfold jk;rw[List.map_append,List.filter_append,List.map_append];cases hf:f t.1 with
 | true=>simp[hf]
 | false=>simp[hf]
def Bo(K:PySem.W.Frag)(tb:vd):Sp:=fun vs H Q _=>∃(a:Addr) (ns:List Int),vs=[.ref a]/\aS K H a (ns.map V.int)/\ns.length<=63/\TabsAt tb H/\∀ H',Q (.bl true) H'
section
variable {P:Program}{w:World}{K:PySem.W.Frag}{mg:Str->Option Value}{base:Heap}{a:qP}
theorem oX(T:Txt K mg a):bE P w K mg base iP 8 a.ko a.oH ["web","base","marks"] (E4 a.cK cy):=by
 have jS:=jS (P:=P) (w:=w) (base:=base) T;have mh:=mh (P:=P) (w:=w) (base:=base) T;have jB:=jB (P:=P) (w:=w) (base:=base) T;have nj:=nj (P:=P) (w:=w) (base:=base) T;have gC:=gC (P:=P) (w:=w) (base:=base) T;have jz:=jz (P:=P) (w:=w) (base:=base) T;refine T.uZ.ok i9 (fun vs H Q E h=>?_) (fun cdv A outer s H vs Q E hr h=>?_)
 ·obtain⟨w,p,ts,g,bb,ys,tr,m,rfl,_⟩:=h;rfl
 ·obtain⟨wb,p,ts,g,bb,ys,tr,m,rfl,hw,hm,htb,Qh,UG,lb,q⟩:=h;refine⟨_,(ak (iC (i:=3) i9.nd rfl rfl (own:=["triple"]) (frees:=["web","marks"]) (js:=[0,2]) (aI (af dJ) ["web","base","marks","odd","found","side"]) rfl (piT K (pv 1)) (fun _ _ _ _=>(aC (i:=0) (show(["triple","web","marks"]:List Str).Nodup by decide +kernel) rfl (Or.inl rfl))) (fun _ _ _ _=>(fX (eO (aA mh (hr.mono (by decide)) (by rfl) T.um T.uw T.uo .nil aQ (aa (aB (ck K) (pv 0) aj (fun _ _=>rfl)) (aa (pv 2) ai)))))) (fun _ _ _ _=>(aA jS (hr.mono (by decide)) (by rfl) T.qI T.qL T.qJ .nil aQ (aa (pv 1) (aa (aB (ck K) (pv 0) aj (fun _ _=>rfl)) ai)))))
   (ak (aH (i:=4) i9.nd rfl (Or.inl rfl) (aA gC (hr.mono (by decide)) (by rfl) T.uU T.u4 T.uV .nil vM (aa (pv 0) (aa (pv 2) ai))))
   (ak (aH (i:=5) i9.nd rfl (Or.inl rfl) (aA jz (hr.mono (by decide)) (by rfl) T.zD T.zQ T.zE .nil vM (aa (pv 0) (aa (pv 2) ai))))
   (ak (cM (aP (Ai K hr.units) (pv 3) (eR ai) (aO _)) (ay (aL (qp (cI dw (aB (ck K) (pv 4) aj (fun _ _=>rfl)) mq (aO _)) (qp (cI (Ai K hr.units) (pv 5) (pv 4) (aO _)) (vC (cI dw (aA jB (hr.mono (by decide)) (by rfl) T.zO T.zS T.zP .nil aQ (aa (pv 0) (aa (aR (sumK K rfl) (by rfl) T.Le PyProof.Rows.boot_sum (aa (bN (own:=["point"]) (frees:=[]) (js:=[]) (aI (af dJ) ["web","base","marks","odd","found","side"]) rfl (u9 K (aB (ck K) (pv 4) aj (fun _ _=>rfl))) (fun _ _ _ _=>(aC (i:=0) (show(["point"]:List Str).Nodup by decide +kernel) rfl (Or.inl rfl))) (fun _ _ _ _=>cB) (fun _ _ _ _=>(aK jE aj (pv 0)))) ai)) ai))) (pv 2) (aO _))))))) aZ)
   (ak (cM (PW.pt (uF (aP uG (aB (ck K) (pv 4) aj (fun _ _=>rfl)) mq (aO _)) (uF (nL (eO (aA nj (hr.mono (by decide)) (by rfl) T.xD T.xG T.xE .nil aQ (aa (pv 0) (aa (aB (ck K) (pv 4) aj (fun _ _=>rfl)) ai))))) (qo (nL (eO (aA mh (hr.mono (by decide)) (by rfl) T.um T.uw T.uo .nil aQ (aa (aB (ck K) (pv 4) aj (fun _ _=>rfl)) (aa (pv 2) ai))))))))) (ay (aL qR)) aZ)
   (ak (cM (PW.pt (uF (aP uG (aA jS (hr.mono (by decide)) (by rfl) T.qI T.qL T.qJ .nil aQ (aa (pv 0) (aa (aB (ck K) (pv 4) aj (fun _ _=>rfl)) ai))) (aR (RS hr.hd) (by rfl) T.C8 PyProof.Rows.boot_min (aa (pv 3) ai)) (aO _)) (qo (aP uG (aB (ck K) (pv 5) aj (fun _ _=>rfl)) mq (aO _))))) (ay (aL qR)) aZ)
   (ay (aL (qp (aA mh (hr.mono (by decide)) (by rfl) T.um T.uw T.uo .nil aQ (aa (aB (ck K) (pv 5) aj (fun _ _=>rfl)) (aa (pv 2) ai))) (qp (aA nj (hr.mono (by decide)) (by rfl) T.xD T.xG T.xE .nil aQ (aa (pv 0) (aa (aB (ck K) (pv 5) aj (fun _ _=>rfl)) ai))) (vC (cI Fj (aA jS (hr.mono (by decide)) (by rfl) T.qI T.qL T.qJ .nil aQ (aa (pv 0) (aa (aB (ck K) (pv 5) aj (fun _ _=>rfl)) ai))) (aR (RS hr.hd) (by rfl) T.C8 PyProof.Rows.boot_min (aa (pv 3) ai)) (aO _))))))))))))),?_⟩
  refine AM ?_;intro cj cG dI fL gj p9 zq Ge Gf;have wl:=g.len;have hL:=tw g;have ytl:=UG.length;have trl:tr.length<=24:=by
   have h1:(ae p ts g).bx.length<=(List.range (ae p ts g).n).length:=List.length_filter_le ..;rw[List.length_range,<-lb.1.len,List.length_map]at h1;exact Nat.le_trans h1 wl
  have rgs:∀ t∈tr,(ae p ts g).Ring t.1/\t.1<2^ts.length:=fun t ht=>lb.1.ring t.1 (List.mem_map.mpr ⟨t,ht,rfl⟩)
  refine(au rfl ⟨bb,rfl,⟨_,aX.of Qh⟩,fun X hX=>Jr (K:=K) (a:=bb) (xs:=ys) (fun i acc H2=>av H H2/\H2 X=some (.lst acc)/\acc=(jk ts (fun r=>(ae p ts g).par r m) (tr.take i)).map V.int) ⟨av.new hX,ah,rfl⟩ (fun i acc H2 _ z=>⟨aX.of (z.1 _ _ Qh),z.2.1,?_⟩) (dm (by lia)) ?_ ?_⟩)
  ·rw[z.2.2,List.length_map];unfold jk;rw[List.length_map];refine Nat.le_trans (List.length_filter_le _ _) ?_;rw[List.length_map,List.length_take]
   lia
  ·rintro i x acc H2 hx ⟨s2,hX2,rfl⟩;obtain⟨t,hti,c,b,rfl,hc,_⟩:=Paired.sI UG hx;obtain⟨rg,rl⟩:=rgs t (List.mem_of_getElem? hti);have etk:tr.take (i+1)=tr.take i++[t]:=by rw[List.take_add_one,hti];rfl
   refine⟨rfl,au rfl (cu (aX.of (s2 _ _ hc)) (ao (j:=0) rfl) (au rfl ⟨t.1,m,rfl,fun v hv=>(au rfl (?_))⟩))⟩
   have hv2:v=(ae p ts g).par t.1 m:=by
    rw[hv ts.length (Nat.lt_of_le_of_lt Nat.and_le_left rl)];exact RM.bh fun k _=>Nat.testBit_and ..
   rw[etk,Bm];cases hv3:v with
   | true =>
     rw[hv3]at hv2;refine fQ (au rfl (au rfl (cu (aX.of (s2 _ _ hc)) (ao (j:=0) rfl) ⟨wb,p,ts,g,_,t.1,rfl,rfl,hw.same s2,rl,fun H3 s3=>⟨s3 _ _ hX2,(s2.trans s3).put hX,ah,?_⟩⟩)))
     rw[if_pos hv2.symm,List.map_append];rfl
   | false =>
     rw[hv3]at hv2;refine eT ⟨s2,hX2,?_⟩;rw[if_neg (by rw[<-hv2];decide),List.append_nil]
  rintro acc H2 ⟨s2,hX2,rfl⟩;rw[ytl,List.take_length]at hX2;have Xh:∀ z,z∈jk ts (fun r=>(ae p ts g).par r m) tr->∃ r∈tr.map (·.1),(ae p ts g).par r m=true/\lenOf ts r=z:=fun z hz=>by
   unfold jk at hz;obtain⟨r,hr,rfl⟩:=List.mem_map.mp hz;exact⟨r,(List.mem_filter.mp hr).1,(List.mem_filter.mp hr).2,rfl⟩
  have Xi:∀ r,r∈tr.map (·.1)->(ae p ts g).par r m=true->lenOf ts r∈jk ts (fun r=>(ae p ts g).par r m) tr:=fun r h1 h2=>List.mem_map.mpr ⟨r,List.mem_filter.mpr ⟨h1,h2⟩,rfl⟩
  generalize jk ts (fun r=>(ae p ts g).par r m) tr=O at hX2 Xh Xi
  have LI:∀ r,r<2^ts.length->lenOf ts r=RM.len (ae p ts g) (bz ts) r:=fun r hr=>Eg hr
  refine(au rfl (au rfl ⟨wb,p,ts,g,(m:Int),rfl,hw.same s2,s2 _ _ htb,.inl ⟨m,rfl,hm,fun r H3 hr3 s3 told=>?_⟩⟩))
  have Qp:=s2.trans s3;refine(au rfl (au rfl ⟨wb,p,ts,g,(m:Int),rfl,hw.same Qp,.inl ⟨m,rfl,hm,fun r2 H4 hr4 s4 N1=>?_⟩⟩))
  have s24:=Qp.trans s4;have Qs:=s4 _ _ (s3 _ _ hX2);refine(au rfl ⟨dl rfl,fun l0 BC=>⟨_,_,.lst (aS.of (av.new BC _ _ Qs)) (zY O),.lst (aS.of ah) .nil,shaped_ints _,rfl,au rfl (?_)⟩⟩)
  rw[LH];have PY:av H4 (upd H4 l0 (.lst [])):=av.new BC;generalize upd H4 l0 (.lst [])=H5 at PY;have N2:=s24.trans PY;have Xj:=s4.trans PY
  by_cases hO:O=[]
  ·have none:∀ r,(ae p ts g).Ring r->r<2^ts.length->(ae p ts g).par r m=true->False:=fun r h1 h2 h3=>by
    obtain⟨b,hb,ET,_⟩:=lb.2 r m h1 h2 h3;have:=Xi b hb ET;rw[hO]at this;cases this
   rw[decide_eq_true hO];rcases told with⟨_,hc,l,hl,a1,a2⟩|⟨_,e,_,_,_,le,_⟩
   case inr=>exact absurd le.par (fun z=>none e le.ring le.lt z)
   rcases N1 with⟨_,l2,_,b1,b2⟩|⟨c,hcc,hcp,_⟩
   case inr=>exact absurd hcp (fun z=>none _ (RM.o9 (RM.bU.mp hcc).1 (RM.bU.mp hcc).2) (RM.o5 (RM.bU.mp hcc).1) z)
   have a15:=Xj _ _ a1;have a25:=Xj _ _ a2;refine fQ (au rfl (cu (aX.of a15) (ao (j:=0) rfl) ⟨rfl,?_⟩));rw[decide_eq_true rfl];refine(au rfl (fQ (au rfl (au rfl ⟨_,_,Dz (PY _ _ b1) (PY _ _ b2),Dz a15 a25,sA _,sA _,?_⟩))));rw[SeqAt.eqv_refl _ (zX _)];have sl:(gB p ts g m).length<=10:=by
    have h1:(gB p ts g m).length<=(List.range p).length:=List.length_filter_le ..;rw[List.length_range]at h1;exact Nat.le_trans h1 g.p2
   refine(au rfl (fQ (au rfl (au rfl (cu (aX.of a15) (ao (j:=1) rfl) ⟨l,rfl,⟨_,aS.of a25⟩,fun D hD=>bS (K:=K) (a:=l) (xs:=aG (gB p ts g m)) (fun i acc H6=>av H5 H6/\H6 D=some (.lst acc)/\acc=aG (((gB p ts g m).take i).map fun x=>2^x)) ⟨av.new hD,ah,rfl⟩ (fun i acc H6 _ z=>⟨aS.of (z.1 _ _ a25),z.2.1,by rw[z.2.2,aM,List.length_map,List.length_take];lia⟩) (dm (by rw[aM];lia)) ?_ ?_⟩)))))
   ·rintro i x acc H6 hx ⟨s6,NT,rfl⟩;obtain⟨v,Jh,rfl⟩:∃ v,(gB p ts g m)[i]?=some v/\x = .int (v:Int):=by
     unfold aG at hx;rw[List.getElem?_map]at hx;obtain⟨c,h1,h2⟩:=Option.map_eq_some_iff.mp hx;exact⟨c,h1,h2.symm⟩
    have hvp:v<p:=by
     have:=List.mem_of_getElem? Jh;unfold gB at this;exact List.mem_range.mp (List.mem_filter.mp this).1
    have pl:=g.p2;refine⟨rfl,au rfl (bQ ⟨⟨by lia,by lia,by decide⟩,NT,s6.put hD,ah,?_⟩)⟩
    rw[List.take_add_one,Jh];show _=aG (List.map _ (List.take i (gB p ts g m)++[v]));rw[List.map_append,List.map_singleton,eU];dsimp only;rw[jY]
   ·rintro acc H6 ⟨s6,NT,rfl⟩;rw[aM,List.take_length]at NT;refine⟨D,(gB p ts g m).map fun x=>((2^x:Nat):Int),rfl,aS.of (by rw[NT];unfold aG;rw[List.map_map,List.map_map];rfl),wb,p,ts,g,_,rfl,hw.same (N2.trans s6),au rfl ⟨rfl,?_⟩⟩
    have PL:(ae p ts g).cut (fun x=>bit ((gB p ts g m).map fun x=>((2^x:Nat):Int)).sum x)=m:=by
     have e1:((gB p ts g m).map fun x=>((2^x:Nat):Int)).sum=((maskOf (fun x=>(ae p ts g).par ((ae p ts g).trail ts.length x) m) p:Nat):Int):=DA _ p
     rw[e1];refine Eq.trans (RM.yZ fun x hx=>?_) hc.symm
     have hx:x<p:=hx;rw[fg,mask_bit,decide_eq_true hx,Bool.true_and];unfold gB;rw[Bool.eq_iff_iff,decide_eq_true_eq,List.mem_filter,List.mem_range];exact⟨fun z=>⟨hx,z⟩,fun z=>z.2⟩
    rw[PL,decide_eq_true rfl];exact q H6 (N2.trans s6)
  ·rw[decide_eq_false hO];refine eT ?_;obtain⟨z0,hz0⟩:=List.exists_mem_of_ne_nil O hO;obtain⟨r0,hr0,hp0,_⟩:=Xh z0 hz0;obtain⟨g1,g2⟩:=lb.1.ring r0 hr0;rcases told with⟨n1,_⟩|⟨z,e,b2,W,_,le,a1,_⟩
   ·obtain⟨x,hx,PK⟩:=RM.n5 hL m g1 g2;rw[hp0]at PK;exact absurd PK (n1 x _ hx)
   rcases N1 with⟨hc,_⟩|⟨cc,hcc,hcp,b1⟩
   ·have:=RM.Mz g1.2.1 (fun x=>decide (x∈gB p ts g m))
    rw[<-hc,hp0]at this;cases this
   obtain⟨c1,c2⟩:=RM.bU.mp hcc;have rr:=RM.o9 c1 c2;have rl:=RM.o5 c1;have rl:(ae p ts g).ring cc<2^ts.length:=rl;generalize (ae p ts g).ring cc=rc at hcp b1 rr rl;have a15:=Xj _ _ a1;have Xk:=PY _ _ b1;have Uv:=PY _ _ Qs;have el:e<2^ts.length:=le.lt;have hO0:0<O.length:=List.length_pos_iff.mpr hO;have SA:∀(x:Nat) (v:Bool),x<2^ts.length->(∀ d,x&&&m<2^d->v=RM.bf (fun j=>(x&&&m).testBit j) d)->v=(ae p ts g).par x m:=fun x v hx hv=>by
    rw[hv ts.length (Nat.lt_of_le_of_lt Nat.and_le_left hx)];exact RM.bh fun k _=>Nat.testBit_and ..
   have SD:∀ zz,zz∈O->(∀ y∈O,zz<=y)->zz=lenOf ts e:=fun zz h1 h2=>by
    obtain⟨r1,hr1,Uj,e1⟩:=Xh zz h1;obtain⟨q1,q2⟩:=lb.1.ring r1 hr1;have k1:=le.least hL q1 q2 Uj;obtain⟨b,hb,ET,hb3⟩:=lb.2 e m le.ring le.lt le.par;have k2:=h2 _ (Xi b hb ET);have k3:=LI b (lb.1.ring b hb).2;have k4:=LI r1 q2;have k5:=LI e el;have k6:RM.len (ae p ts g) (bz ts) e=z:=le.len;have k1:z<=RM.len (ae p ts g) (bz ts) r1:=k1
    lia
   refine(au rfl (cu (aX.of a15) (ao (j:=0) rfl) ⟨rfl,au rfl (?_)⟩));rw[decide_eq_true rfl];refine eT (au rfl (au rfl (cu (aX.of a15) (ao (j:=1) rfl) ⟨wb,p,ts,g,_,e,rfl,rfl,hw.same N2,el,fun H6 d s6 hd=>(au rfl (?_))⟩)))
   rw[hd.mpr le.ring];have a16:=s6 _ _ a15;have s26:=N2.trans s6;refine eT (au rfl (cu (aX.of a16) (ao (j:=1) rfl) (au rfl ⟨e,m,rfl,fun v hv=>(au rfl (?_))⟩)))
   rw[SA e v el hv,le.par];refine eT (au rfl (au rfl (cu (aX.of a16) (ao (j:=1) rfl) ⟨wb,p,ts,g,_,e,rfl,rfl,hw.same s26,el,fun H7 s7=>(au rfl ⟨X,O,rfl,aS.of (s7 _ _ (s6 _ _ Uv)),hO0,fun zz hz1 hz2=>⟨rfl,au rfl (?_)⟩⟩)⟩)))
   rw[SD zz hz1 hz2,decide_eq_true rfl];have Qv:=s7 _ _ (s6 _ _ Xk);have s27:=s26.trans s7;refine eT (au rfl (cu (aX.of Qv) (ao (j:=0) rfl) ⟨rfl,au rfl (?_)⟩));rw[decide_eq_true rfl];refine eT (au rfl (cu (aX.of Qv) (ao (j:=1) rfl) (au rfl ⟨rc,m,rfl,fun v2 hv2=>?_⟩)))
   rw[SA rc v2 rl hv2,hcp];refine(au rfl (fQ (au rfl (au rfl (cu (aX.of Qv) (ao (j:=1) rfl) ⟨wb,p,ts,g,_,rc,rfl,rfl,hw.same s27,rl,fun H8 d8 s8 hd8=>?_⟩)))))
   rw[hd8.mpr rr];have Xl:=s8 _ _ Qv;have s28:=s27.trans s8;refine(au rfl (fQ (au rfl (au rfl (cu (aX.of Xl) (ao (j:=1) rfl) ⟨wb,p,ts,g,_,rc,rfl,rfl,hw.same s28,rl,fun H9 s9=>(au rfl ⟨X,O,rfl,aS.of (s9 _ _ (s8 _ _ (s7 _ _ (s6 _ _ Uv)))),hO0,fun zz hz1 hz2=>(bQ (?_))⟩)⟩)))))
   dsimp only;have k1:=le.least hL rr rl hcp;have k4:=LI rc rl;have k5:=LI e el;have k6:RM.len (ae p ts g) (bz ts) e=z:=le.len;have k1:z<=RM.len (ae p ts g) (bz ts) rc:=k1;rw[SD zz hz1 hz2,decide_eq_true (by lia)]
   exact q H9 (s28.trans s9)
end
section
variable {P:Program}{w:World}{K:PySem.W.Frag}{mg:Str->Option Value}{base:Heap}{a:qP}
theorem SE(T:Txt K mg a):bE P w K mg base iP 12 a.K2 a.K3 ["script"] (Bo K [(a.iO,rG "by_length",gQ),(a.cK,rG "least_ways",cy)]):=by
 have uD:=uD (P:=P) (w:=w) (base:=base) T;have eJ:=eJ (P:=P) (w:=w) (base:=base) T;have dN:=dN (P:=P) (w:=w) (base:=base) T;have oW:=oW (P:=P) (w:=w) (base:=base) T;have oX:=oX (P:=P) (w:=w) (base:=base) T;have nc:=nc (P:=P) (w:=w) (base:=base) T;refine T.R7.ok xm (fun vs H Q E h=>?_) (fun cdv A outer s H vs Q E hr h=>?_)
 ·obtain⟨b,ns,rfl,_⟩:=h;rfl
 ·obtain⟨b,ns,rfl,hS,hn,hT,fin⟩:=h;have M7:=hT _ List.mem_cons_self;have Lu:=hT _ (List.mem_cons_of_mem _ List.mem_cons_self);refine⟨_,(ak (aH (i:=1) xm.nd rfl (Or.inl rfl) (aA uD (hr.mono (by decide)) (by rfl) T.Ia T.Il T.Ib .nil aQ (aa (pv 0) (aa aj (aa aj ai)))))
   (ak (aH (i:=2) xm.nd rfl (Or.inl rfl) (aA nc (hr.mono (by decide)) (by rfl) T.AY T.Ba T.AZ .nil aQ (aa (pv 1) ai)))
   (ak (aH (i:=3) xm.nd rfl (Or.inl rfl) (aA eJ (hr.mono (by decide)) (by rfl) T.qj T.qm T.qk .nil aQ (aa (pv 0) (aa aj ai))))
   (ak (gE PassesOwn.never rfl (u9 K (aK (V3 K) (qU (T6 K) (pv 0) (qT aj) (qT aj)) (eR (aa (aA dN (hr.mono (by decide)) (by rfl) T.kq T.kA T.kr .nil aQ (aa (pv 3) (aa aj ai))) (aa (aA dN (hr.mono (by decide)) (by rfl) T.kq T.kA T.kr .nil aQ (aa (pv 3) (aa aj ai))) ai))))) (aC (i:=4) xm.nd rfl (Or.inl rfl))
   (ay (cM (nL (eO (aA oX (hr.mono (by decide)) (by rfl) T.C6 T.Dk T.C7 .nil aQ (aa (pv 1) (aa (pv 2) (aa (aA oW (hr.mono (by decide)) (by rfl) T.C4 T.Di T.C5 .nil aQ (aa (pv 1) (aa (pv 4) ai))) ai)))))) (ay (aL qR)) aZ)))
   (ay (aL qR)))))),?_⟩
  refine Ph ?_;intro cj cG dI fL gj p9;refine(au rfl ⟨b,ns,10,5,rfl,hS,hn,by decide,fun wb p ts H1 s1 g p2 p6 t10 hw=>?_⟩)
  refine(au rfl ⟨wb,p,ts,g,rfl,hw,s1 _ _ Lu,s1 _ _ M7,fun bb ys tr H2 hbn s2 Qh UG lb pw mo al=>?_⟩)
  have s12:=s1.trans s2;refine(au rfl ⟨b,ns,0,rfl,(by decide),s12.seq hS,fun hd=>?_⟩)
  obtain⟨ms,hms,hml⟩:∃ ms:List Int,xW (ns.map V.int) (some 1) (some 7)=ms.map V.int/\ms.length<=63:=⟨_,BE ns (some 1) (some 7),by rw[List.length_take,List.length_drop];lia⟩
  refine(au rfl (au rfl (au rfl ⟨b,_,rfl,s12.seq hS,fun c hc=>?_⟩)))
  rw[hms];have s3:av H2 (upd H2 c (.lst (ms.map V.int))):=av.new hc;have hc3:upd H2 c (.lst (ms.map V.int)) c=some (.lst (ms.map V.int)):=ah;generalize upd H2 c (.lst (ms.map V.int))=H3 at s3 hc3;refine(au rfl ⟨hd,4,rfl,(by decide),(by decide),fun z1 _ _=>(au rfl ⟨hd,5,rfl,(by decide),(by decide),fun z2 _ _=>⟨dl rfl,fun l2 hl2=>?_⟩⟩)⟩)
  have hbig:(100:Nat)<sizeLine:=by decide
  refine⟨c,l2,_,_,rfl,rfl,aS.of (av.new hl2 _ _ hc3),aS.of ah,(by rw[List.length_map];have:([.int z1,.int z2]:List V).length=2:=rfl;lia),fun L hL=>⟨L,rfl,⟨_,aS.of ah⟩,?_⟩⟩
  have s4:av H2 (upd (upd H3 l2 (.lst [.int z1,.int z2])) L (.lst (ms.map V.int++[.int z1,.int z2]))):=(s3.trans (av.new hl2)).trans (av.new hL);have UB:upd (upd H3 l2 (.lst [.int z1,.int z2])) L (.lst (ms.map V.int++[.int z1,.int z2])) L=some (.lst (ms.map V.int++[.int z1,.int z2])):=ah;have allI:∀(j:Nat) y,(ms.map V.int++[.int z1,.int z2])[j]?=some y->∃ z,y = .int z:=fun j y hj=>by
   rcases List.mem_append.mp (List.mem_of_getElem? hj) with h|h
   ·obtain⟨z,_,rfl⟩:=List.mem_map.mp h;exact⟨z,rfl⟩
   ·rcases List.mem_cons.mp h with rfl|h
    ·exact⟨_,rfl⟩
    ·exact⟨_,List.mem_singleton.mp h⟩
  generalize upd (upd H3 l2 (.lst [.int z1,.int z2])) L (.lst (ms.map V.int++[.int z1,.int z2]))=H4 at s4 UB;refine gw (K:=K) (a:=L) (xs:=ms.map V.int++[.int z1,.int z2]) (fun j σ H5=>∃ v4,σ=[some (.ref b),some (.ref wb),some (.ref bb),some (.int hd),v4]/\av H2 H5/\H5 L=some (.lst (ms.map V.int++[.int z1,.int z2])))
   ⟨none,rfl,s4,UB⟩ (fun j σ H5 _ ⟨_,_,_,z⟩=>aS.of z) ?_ ?_
  ·rintro j y D' σ H5 hj ⟨v4,rfl,s5,NZ⟩;obtain⟨z,rfl⟩:=allI j y hj;have N2:=s2.trans s5;refine(au rfl (au rfl (au rfl (au rfl ⟨wb,p,ts,g,z,rfl,hw.same N2,fun m hm=>?_⟩))))
   refine⟨wb,p,ts,g,bb,ys,tr,m,rfl,hw.same N2,hm,N2 _ _ (s1 _ _ Lu),s5 _ _ Qh,Paired.imp' (fun _ _ z=>yD.tups s5.tups z) UG,lb,fun H6 s6=>(au rfl (eT (au rfl ⟨s5.trans s6,s6 _ _ NZ⟩)))⟩
  ·rintro σ H5 ⟨v4,rfl,s5,NZ⟩;exact fin _
end
theorem all_mk{l:PySem.W.OpenLaw}{w:World}{K:PySem.W.Frag}{h:Heap}{mg:Str->Option Value}{fa:Addr}(X:K.In h)(G:h.Ns mainGlobals mg)(hfa:mg "law"=some (.ref fa))
 {f0 f1 f2 f3 f4 f5 f6 f7 f8 f9 UH UI UJ UK UL UM UN UO UP UQ UR US UT UU UW UX UY UZ U0 U1 U3 U4 f32 U5 U6 U7 U8 U9 Va Vb Vc Vd Ve Vf Vg Vh Vi Vj Vk Vl Vm Vn Vo Vp Xm:Addr} {od0 an0 od1 an1 od2 an2 od3 an3 od4 an4 od5 an5 od6 an6 od7 an7 od8 an8 od9 an9 Xn Xo Xp Xq Xr Xs Xu Xv Xw Xx Xy Xz XA XC XD XE XF XG XH XI XJ XM XN XO XQ XR XS XT XU XW XX XY XZ X0 X3 X4 X5 X6 X7 X8 X9 Yb Yc Yd Ye Yg Yh Yi Yj Yk Yl Ym Yn Yo Yp Yq Yr Ys Yt Yu Yv Yw Yx Yy Yz YA YB YC YD YE YF YG YH YI YJ YK YL YM YN YO YQ YR YS YT YU YV YW YX YY SG:Option Addr} {sl0 sl1 sl2 sl3 sl4 sl5 sl6 sl7 sl8 sl9 YZ Y0 Y3 Y4 Y5 Y6 Y7 Y8 Y9 Za Zb Zc Zd Ze Zf Zg Zh Zi Zj Zk Zl Zm Zn Zo Zp Zq Zr Zs Zt Zu Zv Zw Zx Zy Zz ZA ZC ZD ZE ZF ZG ZH ZI ZJ ZK:Array (Option Value)}
 {oc0 kV0 dc0 pm0 cd0 ct0 oc1 kV1 dc1 pm1 cd1 ct1 oc2 kV2 dc2 pm2 cd2 ct2 oc3 kV3 dc3 pm3 cd3 ct3 oc4 kV4 dc4 pm4 cd4 ct4 oc5 kV5 dc5 pm5 cd5 ct5 oc6 kV6 dc6 pm6 cd6 ct6 oc7 kV7 dc7 pm7 cd7 ct7 oc8 kV8 dc8 pm8 cd8 ct8 oc9 kV9 dc9 pm9 cd9 ct9 ZL ZM ZN ZO SH ZP ZQ ZR ZS ZT SJ ZU ZV ZW ZX ZY SK ZZ Z0 Z1 Z2 Z3 SM Z4 Z5 Z6 Z7 Z8 SN Z9 aaa aab aac aad SO aae aaf aag aah aai SQ aaj aak aal aam aan SR aao aap aaq aar aas SS aat aau aav aaw aax SV aay aaz aaA aaB aaC aaD aaE aaF aaG aaH SW aaI aaJ aaK aaL aaM SX aaN aaO aaP aaQ aaR SY aaS aaT aaU aaV aaW S0 aaX aaY aaZ aa0 aa1 S3 aa2 aa3 aa4 aa5 aa6 S4 aa7 aa8 aa9 aba abb abc abd abe abf abg S5 abh abi abj abk abl S6 abm abn abo abp abq S7 abr abt abu abv abw S8 abx aby abz abA abB S9 abC abD abE abF abG Tc abH abI abJ abK abL Td abM abN abO abP abQ Tf abR abS abT abU abV Tg abW abX abY abZ ab0 Th ab1 ab2 ab3 ab4 ab5 Ti ab6 ab7 ab8 ab9 acd Tj ace acf acg ach aci Tn acj ack acm acn aco To acp acq acr acs acu Tp acv acw acy acz acA Tq acB acC acD acE acF Tr acG acH acI acJ acK Tt acL acM acN acO acP Tu acQ acR acS acT acU Tv acV acW acX acY acZ Tw ac0 ac1 ac2 ac3 ac4 Tz ac5 ac6 ac7 ac8 ac9 TF ada adb ade adf adg TH adh adi adj adk adl TJ adm adn ado adp adq TL ads adt TM TN TQ P0 TR:Value}
 {xQ xR uE xS:Addr}
 {jl fJ iH eK:Addr} {ts:List Addr}
 (a0:PySem.W.nsIn K mainGlobals "has_tie"=some (some (.ref f0)))
 (l0:K.lookup f0=some ⟨oc0,od0,.func (PySem.W.fnOf "has_tie" "has_tie" (aE jq) (aD jq) (af jq) .none kV0 dc0 pm0 an0 cd0 ct0),sl0⟩)
 (c0:PySem.W.codeIn K cd0 "has_tie"=true) (k0:PySem.W.keepIn K (.ref f0)=true)
 (a1:PySem.W.nsIn K mainGlobals "ties_in"=some (some (.ref f1)))
 (l1:K.lookup f1=some ⟨oc1,od1,.func (PySem.W.fnOf "ties_in" "ties_in" (aE g9) (aD g9) (af g9) .none kV1 dc1 pm1 an1 cd1 ct1),sl1⟩)
 (c1:PySem.W.codeIn K cd1 "ties_in"=true) (k1:PySem.W.keepIn K (.ref f1)=true)
 (a2:PySem.W.nsIn K mainGlobals "set_of"=some (some (.ref f2)))
 (l2:K.lookup f2=some ⟨oc2,od2,.func (PySem.W.fnOf "set_of" "set_of" (aE lg) (aD lg) (af lg) .none kV2 dc2 pm2 an2 cd2 ct2),sl2⟩)
 (c2:PySem.W.codeIn K cd2 "set_of"=true) (k2:PySem.W.keepIn K (.ref f2)=true)
 (a3:PySem.W.nsIn K mainGlobals "all_ties"=some (some (.ref f3)))
 (l3:K.lookup f3=some ⟨oc3,od3,.func (PySem.W.fnOf "all_ties" "all_ties" (aE hU) (aD hU) (af hU) .none kV3 dc3 pm3 an3 cd3 ct3),sl3⟩)
 (c3:PySem.W.codeIn K cd3 "all_ties"=true) (k3:PySem.W.keepIn K (.ref f3)=true)
 (a4:PySem.W.nsIn K mainGlobals "is_set"=some (some (.ref f4)))
 (l4:K.lookup f4=some ⟨oc4,od4,.func (PySem.W.fnOf "is_set" "is_set" (aE lq) (aD lq) (af lq) .none kV4 dc4 pm4 an4 cd4 ct4),sl4⟩)
 (c4:PySem.W.codeIn K cd4 "is_set"=true) (k4:PySem.W.keepIn K (.ref f4)=true)
 (a5:PySem.W.nsIn K mainGlobals "check_set"=some (some (.ref f5)))
 (l5:K.lookup f5=some ⟨oc5,od5,.func (PySem.W.fnOf "check_set" "check_set" (aE gx) (aD gx) (af gx) .none kV5 dc5 pm5 an5 cd5 ct5),sl5⟩)
 (c5:PySem.W.codeIn K cd5 "check_set"=true) (k5:PySem.W.keepIn K (.ref f5)=true)
 (a6:PySem.W.nsIn K mainGlobals "triples_in"=some (some (.ref f6)))
 (l6:K.lookup f6=some ⟨oc6,od6,.func (PySem.W.fnOf "triples_in" "triples_in" (aE dU) (aD dU) (af dU) .none kV6 dc6 pm6 an6 cd6 ct6),sl6⟩)
 (c6:PySem.W.codeIn K cd6 "triples_in"=true) (k6:PySem.W.keepIn K (.ref f6)=true)
 (a7:PySem.W.nsIn K mainGlobals "length_of"=some (some (.ref f7)))
 (l7:K.lookup f7=some ⟨oc7,od7,.func (PySem.W.fnOf "length_of" "length_of" (aE eW) (aD eW) (af eW) .none kV7 dc7 pm7 an7 cd7 ct7),sl7⟩)
 (c7:PySem.W.codeIn K cd7 "length_of"=true) (k7:PySem.W.keepIn K (.ref f7)=true)
 (a8:PySem.W.nsIn K mainGlobals "odd_points"=some (some (.ref f8)))
 (l8:K.lookup f8=some ⟨oc8,od8,.func (PySem.W.fnOf "odd_points" "odd_points" (aE dW) (aD dW) (af dW) .none kV8 dc8 pm8 an8 cd8 ct8),sl8⟩)
 (c8:PySem.W.codeIn K cd8 "odd_points"=true) (k8:PySem.W.keepIn K (.ref f8)=true)
 (a9:PySem.W.nsIn K mainGlobals "drawn_together"=some (some (.ref f9)))
 (l9:K.lookup f9=some ⟨oc9,od9,.func (PySem.W.fnOf "drawn_together" "drawn_together" (aE bV) (aD bV) (af bV) .none kV9 dc9 pm9 an9 cd9 ct9),sl9⟩)
 (c9:PySem.W.codeIn K cd9 "drawn_together"=true) (k9:PySem.W.keepIn K (.ref f9)=true)
 (a10:PySem.W.nsIn K mainGlobals "pieces"=some (some (.ref UH)))
 (l10:K.lookup UH=some ⟨ZL,Xn,.func (PySem.W.fnOf "pieces" "pieces" (aE jP) (aD jP) (af jP) .none ZM ZN ZO Xo SH ZP),YZ⟩)
 (c10:PySem.W.codeIn K SH "pieces"=true) (k10:PySem.W.keepIn K (.ref UH)=true)
 (a11:PySem.W.nsIn K mainGlobals "rank"=some (some (.ref UI)))
 (l11:K.lookup UI=some ⟨ZQ,Xp,.func (PySem.W.fnOf "rank" "rank" (aE tJ) (aD tJ) (af tJ) .none ZR ZS ZT Xq SJ ZU),Y0⟩)
 (c11:PySem.W.codeIn K SJ "rank"=true) (k11:PySem.W.keepIn K (.ref UI)=true)
 (a12:PySem.W.nsIn K mainGlobals "is_even"=some (some (.ref UJ)))
 (l12:K.lookup UJ=some ⟨ZV,Xr,.func (PySem.W.fnOf "is_even" "is_even" (aE jr) (aD jr) (af jr) .none ZW ZX ZY Xs SK ZZ),Y3⟩)
 (c12:PySem.W.codeIn K SK "is_even"=true) (k12:PySem.W.keepIn K (.ref UJ)=true)
 (a13:PySem.W.nsIn K mainGlobals "forest_trails"=some (some (.ref UK)))
 (l13:K.lookup UK=some ⟨Z0,Xu,.func (PySem.W.fnOf "forest_trails" "forest_trails" (aE cE) (aD cE) (af cE) .none Z1 Z2 Z3 Xv SM Z4),Y4⟩)
 (c13:PySem.W.codeIn K SM "forest_trails"=true) (k13:PySem.W.keepIn K (.ref UK)=true)
 (a14:PySem.W.nsIn K mainGlobals "forest"=some (some (.ref UL)))
 (l14:K.lookup UL=some ⟨Z5,Xw,.func (PySem.W.fnOf "forest" "forest" (aE lz) (aD lz) (af lz) .none Z6 Z7 Z8 Xx SN Z9),Y5⟩)
 (c14:PySem.W.codeIn K SN "forest"=true) (k14:PySem.W.keepIn K (.ref UL)=true)
 (a15:PySem.W.nsIn K mainGlobals "chords"=some (some (.ref UM)))
 (l15:K.lookup UM=some ⟨aaa,Xy,.func (PySem.W.fnOf "chords" "chords" (aE lA) (aD lA) (af lA) .none aab aac aad Xz SO aae),Y6⟩)
 (c15:PySem.W.codeIn K SO "chords"=true) (k15:PySem.W.keepIn K (.ref UM)=true)
 (a16:PySem.W.nsIn K mainGlobals "ring_closed"=some (some (.ref UN)))
 (l16:K.lookup UN=some ⟨aaf,XA,.func (PySem.W.fnOf "ring_closed" "ring_closed" (aE eB) (aD eB) (af eB) .none aag aah aai XC SQ aaj),Y7⟩)
 (c16:PySem.W.codeIn K SQ "ring_closed"=true) (k16:PySem.W.keepIn K (.ref UN)=true)
 (a17:PySem.W.nsIn K mainGlobals "chord_ring"=some (some (.ref UO)))
 (l17:K.lookup UO=some ⟨aak,XD,.func (PySem.W.fnOf "chord_ring" "chord_ring" (aE fq) (aD fq) (af fq) .none aal aam aan XE SR aao),Y8⟩)
 (c17:PySem.W.codeIn K SR "chord_ring"=true) (k17:PySem.W.keepIn K (.ref UO)=true)
 (a18:PySem.W.nsIn K mainGlobals "is_ring"=some (some (.ref UP)))
 (l18:K.lookup UP=some ⟨aap,XF,.func (PySem.W.fnOf "is_ring" "is_ring" (aE h8) (aD h8) (af h8) .none aaq aar aas XG SS aat),Y9⟩)
 (c18:PySem.W.codeIn K SS "is_ring"=true) (k18:PySem.W.keepIn K (.ref UP)=true)
 (a19:PySem.W.nsIn K mainGlobals "is_ring_number"=some (some (.ref UQ)))
 (l19:K.lookup UQ=some ⟨aau,XH,.func (PySem.W.fnOf "is_ring_number" "is_ring_number" (aE cO) (aD cO) (af cO) .none aav aaw aax XI SV aay),Za⟩)
 (c19:PySem.W.codeIn K SV "is_ring_number"=true) (k19:PySem.W.keepIn K (.ref UQ)=true)
 (a20:PySem.W.nsIn K mainGlobals "by_length"=some (some (.ref UR)))
 (l20:K.lookup UR=some ⟨aaz,XJ,.func (PySem.W.fnOf "by_length" "by_length" (aE eX) (aD eX) (af eX) .none aaA aaB aaC XM (.ref jl) aaD),Zb⟩) (hd20:PySem.W.codeHdIn K jl fJ=true)
 (c20:PySem.W.codeIn K (.ref jl) "by_length"=true) (k20:PySem.W.keepIn K (.ref UR)=true)
 (a21:PySem.W.nsIn K mainGlobals "common"=some (some (.ref US)))
 (l21:K.lookup US=some ⟨aaE,XN,.func (PySem.W.fnOf "common" "common" (aE lB) (aD lB) (af lB) .none aaF aaG aaH XO SW aaI),Zc⟩)
 (c21:PySem.W.codeIn K SW "common"=true) (k21:PySem.W.keepIn K (.ref US)=true)
 (a22:PySem.W.nsIn K mainGlobals "bears_oddly"=some (some (.ref UT)))
 (l22:K.lookup UT=some ⟨aaJ,XQ,.func (PySem.W.fnOf "bears_oddly" "bears_oddly" (aE eE) (aD eE) (af eE) .none aaK aaL aaM XR SX aaN),Zd⟩)
 (c22:PySem.W.codeIn K SX "bears_oddly"=true) (k22:PySem.W.keepIn K (.ref UT)=true)
 (a23:PySem.W.nsIn K mainGlobals "is_side"=some (some (.ref UU)))
 (l23:K.lookup UU=some ⟨aaO,XS,.func (PySem.W.fnOf "is_side" "is_side" (aE jt) (aD jt) (af jt) .none aaP aaQ aaR XT SY aaS),Ze⟩)
 (c23:PySem.W.codeIn K SY "is_side"=true) (k23:PySem.W.keepIn K (.ref UU)=true)
 (a24:PySem.W.nsIn K mainGlobals "cut_of"=some (some (.ref UW)))
 (l24:K.lookup UW=some ⟨aaT,XU,.func (PySem.W.fnOf "cut_of" "cut_of" (aE jQ) (aD jQ) (af jQ) .none aaU aaV aaW XW S0 aaX),Zf⟩)
 (c24:PySem.W.codeIn K S0 "cut_of"=true) (k24:PySem.W.keepIn K (.ref UW)=true)
 (a25:PySem.W.nsIn K mainGlobals "side_of"=some (some (.ref UX)))
 (l25:K.lookup UX=some ⟨aaY,XX,.func (PySem.W.fnOf "side_of" "side_of" (aE ia) (aD ia) (af ia) .none aaZ aa0 aa1 XY S3 aa2),Zg⟩)
 (c25:PySem.W.codeIn K S3 "side_of"=true) (k25:PySem.W.keepIn K (.ref UX)=true)
 (a26:PySem.W.nsIn K mainGlobals "steps_by_point"=some (some (.ref UY)))
 (l26:K.lookup UY=some ⟨aa3,XZ,.func (PySem.W.fnOf "steps_by_point" "steps_by_point" (aE bW) (aD bW) (af bW) .none aa4 aa5 aa6 X0 S4 aa7),Zh⟩)
 (c26:PySem.W.codeIn K S4 "steps_by_point"=true) (k26:PySem.W.keepIn K (.ref UY)=true)
 (a27:PySem.W.nsIn K mainGlobals "least_ways"=some (some (.ref UZ)))
 (l27:K.lookup UZ=some ⟨aa8,X3,.func (PySem.W.fnOf "least_ways" "least_ways" (aE dc) (aD dc) (af dc) .none aa9 aba abb X4 (.ref iH) abc),Zi⟩) (hd27:PySem.W.codeHdIn K iH eK=true)
 (c27:PySem.W.codeIn K (.ref iH) "least_ways"=true) (k27:PySem.W.keepIn K (.ref UZ)=true)
 (a28:PySem.W.nsIn K mainGlobals "length_of_way"=some (some (.ref U0)))
 (l28:K.lookup U0=some ⟨abd,X5,.func (PySem.W.fnOf "length_of_way" "length_of_way" (aE cV) (aD cV) (af cV) .none abe abf abg X6 S5 abh),Zj⟩)
 (c28:PySem.W.codeIn K S5 "length_of_way"=true) (k28:PySem.W.keepIn K (.ref U0)=true)
 (a29:PySem.W.nsIn K mainGlobals "worths_of_ways"=some (some (.ref U1)))
 (l29:K.lookup U1=some ⟨abi,X7,.func (PySem.W.fnOf "worths_of_ways" "worths_of_ways" (aE bX) (aD bX) (af bX) .none abj abk abl X8 S6 abm),Zk⟩)
 (c29:PySem.W.codeIn K S6 "worths_of_ways"=true) (k29:PySem.W.keepIn K (.ref U1)=true)
 (a30:PySem.W.nsIn K mainGlobals "all_least_ways"=some (some (.ref U3)))
 (l30:K.lookup U3=some ⟨abn,X9,.func (PySem.W.fnOf "all_least_ways" "all_least_ways" (aE bY) (aD bY) (af bY) .none abo abp abq Yb S7 abr),Zl⟩)
 (c30:PySem.W.codeIn K S7 "all_least_ways"=true) (k30:PySem.W.keepIn K (.ref U3)=true)
 (a31:PySem.W.nsIn K mainGlobals "worths_of_all"=some (some (.ref U4)))
 (l31:K.lookup U4=some ⟨abt,Yc,.func (PySem.W.fnOf "worths_of_all" "worths_of_all" (aE cF) (aD cF) (af cF) .none abu abv abw Yd S8 abx),Zm⟩)
 (c31:PySem.W.codeIn K S8 "worths_of_all"=true) (k31:PySem.W.keepIn K (.ref U4)=true)
 (a32:PySem.W.nsIn K mainGlobals "worths_for"=some (some (.ref f32)))
 (l32:K.lookup f32=some ⟨aby,Ye,.func (PySem.W.fnOf "worths_for" "worths_for" (aE fu) (aD fu) (af fu) .none abz abA abB Yg S9 abC),Zn⟩)
 (c32:PySem.W.codeIn K S9 "worths_for"=true) (k32:PySem.W.keepIn K (.ref f32)=true)
 (a33:PySem.W.nsIn K mainGlobals "least_odd"=some (some (.ref U5)))
 (l33:K.lookup U5=some ⟨abD,Yh,.func (PySem.W.fnOf "least_odd" "least_odd" (aE eY) (aD eY) (af eY) .none abE abF abG Yi Tc abH),Zo⟩)
 (c33:PySem.W.codeIn K Tc "least_odd"=true) (k33:PySem.W.keepIn K (.ref U5)=true)
 (a34:PySem.W.nsIn K mainGlobals "reduced"=some (some (.ref U6)))
 (l34:K.lookup U6=some ⟨abI,Yj,.func (PySem.W.fnOf "reduced" "reduced" (aE ju) (aD ju) (af ju) .none abJ abK abL Yk Td abM),Zp⟩)
 (c34:PySem.W.codeIn K Td "reduced"=true) (k34:PySem.W.keepIn K (.ref U6)=true)
 (a35:PySem.W.nsIn K mainGlobals "with_row"=some (some (.ref U7)))
 (l35:K.lookup U7=some ⟨abN,Yl,.func (PySem.W.fnOf "with_row" "with_row" (aE ic) (aD ic) (af ic) .none abO abP abQ Ym Tf abR),Zq⟩)
 (c35:PySem.W.codeIn K Tf "with_row"=true) (k35:PySem.W.keepIn K (.ref U7)=true)
 (a36:PySem.W.nsIn K mainGlobals "rows_of"=some (some (.ref U8)))
 (l36:K.lookup U8=some ⟨abS,Yn,.func (PySem.W.fnOf "rows_of" "rows_of" (aE jv) (aD jv) (af jv) .none abT abU abV Yo Tg abW),Zr⟩)
 (c36:PySem.W.codeIn K Tg "rows_of"=true) (k36:PySem.W.keepIn K (.ref U8)=true)
 (a37:PySem.W.nsIn K mainGlobals "is_base"=some (some (.ref U9)))
 (l37:K.lookup U9=some ⟨abX,Yp,.func (PySem.W.fnOf "is_base" "is_base" (aE ig) (aD ig) (af ig) .none abY abZ ab0 Yq Th ab1),Zs⟩)
 (c37:PySem.W.codeIn K Th "is_base"=true) (k37:PySem.W.keepIn K (.ref U9)=true)
 (a38:PySem.W.nsIn K mainGlobals "marks_for"=some (some (.ref Va)))
 (l38:K.lookup Va=some ⟨ab2,Yr,.func (PySem.W.fnOf "marks_for" "marks_for" (aE e7) (aD e7) (af e7) .none ab3 ab4 ab5 Ys Ti ab6),Zt⟩)
 (c38:PySem.W.codeIn K Ti "marks_for"=true) (k38:PySem.W.keepIn K (.ref Va)=true)
 (a39:PySem.W.nsIn K mainGlobals "least_rings"=some (some (.ref Vb)))
 (l39:K.lookup Vb=some ⟨ab7,Yt,.func (PySem.W.fnOf "least_rings" "least_rings" (aE cN) (aD cN) (af cN) .none ab8 ab9 acd Yu Tj ace),Zu⟩)
 (c39:PySem.W.codeIn K Tj "least_rings"=true) (k39:PySem.W.keepIn K (.ref Vb)=true)
 (a40:PySem.W.nsIn K mainGlobals "least_base"=some (some (.ref Vc)))
 (l40:K.lookup Vc=some ⟨acf,Yv,.func (PySem.W.fnOf "least_base" "least_base" (aE dX) (aD dX) (af dX) .none acg ach aci Yw Tn acj),Zv⟩)
 (c40:PySem.W.codeIn K Tn "least_base"=true) (k40:PySem.W.keepIn K (.ref Vc)=true)
 (a41:PySem.W.nsIn K mainGlobals "_law_cell_at"=some (some (.ref Vd)))
 (l41:K.lookup Vd=some ⟨ack,Yx,.func (PySem.W.fnOf "_law_cell_at" "_law_cell_at" (aE eF) (aD eF) (af eF) .none acm acn aco Yy To acp),Zw⟩)
 (c41:PySem.W.codeIn K To "_law_cell_at"=true) (k41:PySem.W.keepIn K (.ref Vd)=true)
 (a42:PySem.W.nsIn K mainGlobals "_law_mixed"=some (some (.ref Ve)))
 (l42:K.lookup Ve=some ⟨acq,Yz,.func (PySem.W.fnOf "_law_mixed" "_law_mixed" (aE gz) (aD gz) (af gz) .none acr acs acu YA Tp acv),Zx⟩)
 (c42:PySem.W.codeIn K Tp "_law_mixed"=true) (k42:PySem.W.keepIn K (.ref Ve)=true)
 (a43:PySem.W.nsIn K mainGlobals "_law_length"=some (some (.ref Vf)))
 (l43:K.lookup Vf=some ⟨acw,YB,.func (PySem.W.fnOf "_law_length" "_law_length" (aE fB) (aD fB) (af fB) .none acy acz acA YC Tq acB),Zy⟩)
 (c43:PySem.W.codeIn K Tq "_law_length"=true) (k43:PySem.W.keepIn K (.ref Vf)=true)
 (a44:PySem.W.nsIn K mainGlobals "_law_tie"=some (some (.ref Vg)))
 (l44:K.lookup Vg=some ⟨acC,YD,.func (PySem.W.fnOf "_law_tie" "_law_tie" (aE jw) (aD jw) (af jw) .none acD acE acF YE Tr acG),Zz⟩)
 (c44:PySem.W.codeIn K Tr "_law_tie"=true) (k44:PySem.W.keepIn K (.ref Vg)=true)
 (a45:PySem.W.nsIn K mainGlobals "_law_web"=some (some (.ref Vh)))
 (l45:K.lookup Vh=some ⟨acH,YF,.func (PySem.W.fnOf "_law_web" "_law_web" (aE eG) (aD eG) (af eG) .none acI acJ acK YG Tt acL),ZA⟩)
 (c45:PySem.W.codeIn K Tt "_law_web"=true) (k45:PySem.W.keepIn K (.ref Vh)=true)
 (a46:PySem.W.nsIn K mainGlobals "_law_counts"=some (some (.ref Vi)))
 (l46:K.lookup Vi=some ⟨acM,YH,.func (PySem.W.fnOf "_law_counts" "_law_counts" (aE fC) (aD fC) (af fC) .none acN acO acP YI Tu acQ),ZC⟩)
 (c46:PySem.W.codeIn K Tu "_law_counts"=true) (k46:PySem.W.keepIn K (.ref Vi)=true)
 (a47:PySem.W.nsIn K mainGlobals "_law_pieces"=some (some (.ref Vj)))
 (l47:K.lookup Vj=some ⟨acR,YJ,.func (PySem.W.fnOf "_law_pieces" "_law_pieces" (aE dh) (aD dh) (af dh) .none acS acT acU YK Tv acV),ZD⟩)
 (c47:PySem.W.codeIn K Tv "_law_pieces"=true) (k47:PySem.W.keepIn K (.ref Vj)=true)
 (a48:PySem.W.nsIn K mainGlobals "_law_ring"=some (some (.ref Vk)))
 (l48:K.lookup Vk=some ⟨acW,YL,.func (PySem.W.fnOf "_law_ring" "_law_ring" (aE e8) (aD e8) (af e8) .none acX acY acZ YM Tw ac0),ZE⟩)
 (c48:PySem.W.codeIn K Tw "_law_ring"=true) (k48:PySem.W.keepIn K (.ref Vk)=true)
 (a49:PySem.W.nsIn K mainGlobals "_law_long"=some (some (.ref Vl)))
 (l49:K.lookup Vl=some ⟨ac1,YN,.func (PySem.W.fnOf "_law_long" "_law_long" (aE gk) (aD gk) (af gk) .none ac2 ac3 ac4 YO Tz ac5),ZF⟩)
 (c49:PySem.W.codeIn K Tz "_law_long"=true) (k49:PySem.W.keepIn K (.ref Vl)=true)
 (a50:PySem.W.nsIn K mainGlobals "_law_odd"=some (some (.ref Vm)))
 (l50:K.lookup Vm=some ⟨ac6,YQ,.func (PySem.W.fnOf "_law_odd" "_law_odd" (aE jx) (aD jx) (af jx) .none ac7 ac8 ac9 YR TF ada),ZG⟩)
 (c50:PySem.W.codeIn K TF "_law_odd"=true) (k50:PySem.W.keepIn K (.ref Vm)=true)
 (a51:PySem.W.nsIn K mainGlobals "_law_cut"=some (some (.ref Vn)))
 (l51:K.lookup Vn=some ⟨adb,YS,.func (PySem.W.fnOf "_law_cut" "_law_cut" (aE jy) (aD jy) (af jy) .none ade adf adg YT TH adh),ZH⟩)
 (c51:PySem.W.codeIn K TH "_law_cut"=true) (k51:PySem.W.keepIn K (.ref Vn)=true)
 (a52:PySem.W.nsIn K mainGlobals "_law_marks"=some (some (.ref Vo)))
 (l52:K.lookup Vo=some ⟨adi,YU,.func (PySem.W.fnOf "_law_marks" "_law_marks" (aE gA) (aD gA) (af gA) .none adj adk adl YV TJ adm),ZI⟩)
 (c52:PySem.W.codeIn K TJ "_law_marks"=true) (k52:PySem.W.keepIn K (.ref Vo)=true)
 (a53:PySem.W.nsIn K mainGlobals "_law_right"=some (some (.ref Vp)))
 (l53:K.lookup Vp=some ⟨adn,YW,.func (PySem.W.fnOf "_law_right" "_law_right" (aE dJ) (aD dJ) (af dJ) .none ado adp adq YX TL ads),ZJ⟩)
 (c53:PySem.W.codeIn K TL "_law_right"=true) (k53:PySem.W.keepIn K (.ref Vp)=true)
 (a54:PySem.W.nsIn K mainGlobals "law"=some (some (.ref Xm)))
 (l54:K.lookup Xm=some ⟨adt,YY,.func (PySem.W.fnOf "law" "law" (aE rO) (aD rO) (af rO) .none TM TN TQ SG P0 TR),ZK⟩)
 (c54:PySem.W.codeIn K P0 "law"=true) (k54:PySem.W.keepIn K (.ref Xm)=true)
 (z_ValueError:PySem.W.nsIn K mainGlobals "ValueError"=some none)
 (z_all:PySem.W.nsIn K mainGlobals "all"=some none)
 (z_bool:PySem.W.nsIn K mainGlobals "bool"=some none)
 (z_enumerate:PySem.W.nsIn K mainGlobals "enumerate"=some none)
 (z_int:PySem.W.nsIn K mainGlobals "int"=some none)
 (z_isinstance:PySem.W.nsIn K mainGlobals "isinstance"=some none)
 (z_len:PySem.W.nsIn K mainGlobals "len"=some none)
 (z_list:PySem.W.nsIn K mainGlobals "list"=some none)
 (z_max:PySem.W.nsIn K mainGlobals "max"=some none)
 (z_min:PySem.W.nsIn K mainGlobals "min"=some none)
 (z_range:PySem.W.nsIn K mainGlobals "range"=some none)
 (z_set:PySem.W.nsIn K mainGlobals "set"=some none)
 (z_sorted:PySem.W.nsIn K mainGlobals "sorted"=some none)
 (z_sum:PySem.W.nsIn K mainGlobals "sum"=some none)
 (z_tuple:PySem.W.nsIn K mainGlobals "tuple"=some none)
 (z_zip:PySem.W.nsIn K mainGlobals "zip"=some none)
 (d_BadSet:PySem.W.nsIn K mainGlobals "BadSet"=some (some (.ref xQ)))
 (d_BadPoint:PySem.W.nsIn K mainGlobals "BadPoint"=some (some (.ref xR)))
 (d_NoChord:PySem.W.nsIn K mainGlobals "NoChord"=some (some (.ref uE)))
 (d_NoBase:PySem.W.nsIn K mainGlobals "NoBase"=some (some (.ref xS)))
 (xc_BadSet:PySem.W.excIn K xQ [.type "ValueError",.type "Exception",.type "BaseException",.type "object"] "ValueError.__new__"=true)
 (xc_NoChord:PySem.W.excIn K uE [.type "ValueError",.type "Exception",.type "BaseException",.type "object"] "ValueError.__new__"=true)
 (xc_NoBase:PySem.W.excIn K xS [.type "ValueError",.type "Exception",.type "BaseException",.type "object"] "ValueError.__new__"=true)
 (nt:PySem.W.noTabs K=true) (pn:([fJ,eK]:List Addr).Nodup) (pi:∀ p∈([fJ,eK]:List Addr),p∈ts) (te:ts=[fJ,eK])
 : ∃(fd:FuncData) (tb:vd),((tb.map (·.1)).Nodup/\PySem.W.noTabs K=true/\∀ p∈tb,p.1∈ts/\∃ c,PySem.W.codeHdIn K c p.1=true)/\(∀(s:Shared) (v:Value),BindsTo s fd ⟨[v],[]⟩ [("script",v)])/\∀ base:Heap,K.In base->base.Ns mainGlobals mg->bE l.prog w K mg base iP 12 fa fd ["script"] (Bo K tb):=by
 have e:=hfa.symm.trans (PySem.W.mg_of X G a54);cases e;have F0:=aU (st:=jq) l0 c0 k0;have b0:=F0.binds (ps:=["tie_set","tie"]) fun _ _ _ _ _ _ us hl=>by obtain⟨_,_,rfl⟩:=eN us hl;rfl
 have F1:=aU (st:=g9) l1 c1 k1;have b1:=F1.binds (ps:=["tie_set"]) fun _ _ _ _ _ _ us hl=>by obtain⟨_,rfl⟩:=sL us hl;rfl
 have F2:=aU (st:=lg) l2 c2 k2;have b2:=F2.binds (ps:=["web","ties"]) fun _ _ _ _ _ _ us hl=>by obtain⟨_,_,rfl⟩:=eN us hl;rfl
 have F3:=aU (st:=hU) l3 c3 k3;have b3:=F3.binds (ps:=["web"]) fun _ _ _ _ _ _ us hl=>by obtain⟨_,rfl⟩:=sL us hl;rfl
 have F4:=aU (st:=lq) l4 c4 k4;have b4:=F4.binds (ps:=["web","number"]) fun _ _ _ _ _ _ us hl=>by obtain⟨_,_,rfl⟩:=eN us hl;rfl
 have F5:=aU (st:=gx) l5 c5 k5;have b5:=F5.binds (ps:=["web","tie_set"]) fun _ _ _ _ _ _ us hl=>by obtain⟨_,_,rfl⟩:=eN us hl;rfl
 have F6:=aU (st:=dU) l6 c6 k6;have b6:=F6.binds (ps:=["web","tie_set"]) fun _ _ _ _ _ _ us hl=>by obtain⟨_,_,rfl⟩:=eN us hl;rfl
 have F7:=aU (st:=eW) l7 c7 k7;have b7:=F7.binds (ps:=["web","tie_set"]) fun _ _ _ _ _ _ us hl=>by obtain⟨_,_,rfl⟩:=eN us hl;rfl
 have F8:=aU (st:=dW) l8 c8 k8;have b8:=F8.binds (ps:=["web","tie_set"]) fun _ _ _ _ _ _ us hl=>by obtain⟨_,_,rfl⟩:=eN us hl;rfl
 have F9:=aU (st:=bV) l9 c9 k9;have b9:=F9.binds (ps:=["leasts","one","other"]) fun _ _ _ _ _ _ us hl=>by obtain⟨_,_,_,rfl⟩:=GF us hl;rfl
 have F10:=aU (st:=jP) l10 c10 k10;have b10:=F10.binds (ps:=["web","tie_set"]) fun _ _ _ _ _ _ us hl=>by obtain⟨_,_,rfl⟩:=eN us hl;rfl
 have F11:=aU (st:=tJ) l11 c11 k11;have b11:=F11.binds (ps:=["web"]) fun _ _ _ _ _ _ us hl=>by obtain⟨_,rfl⟩:=sL us hl;rfl
 have F12:=aU (st:=jr) l12 c12 k12;have b12:=F12.binds (ps:=["web","tie_set"]) fun _ _ _ _ _ _ us hl=>by obtain⟨_,_,rfl⟩:=eN us hl;rfl
 have F13:=aU (st:=cE) l13 c13 k13;have b13:=F13.binds (ps:=["web"]) fun _ _ _ _ _ _ us hl=>by obtain⟨_,rfl⟩:=sL us hl;rfl
 have F14:=aU (st:=lz) l14 c14 k14;have b14:=F14.binds (ps:=["web"]) fun _ _ _ _ _ _ us hl=>by obtain⟨_,rfl⟩:=sL us hl;rfl
 have F15:=aU (st:=lA) l15 c15 k15;have Xk:=F15.binds (ps:=["web"]) fun _ _ _ _ _ _ us hl=>by obtain⟨_,rfl⟩:=sL us hl;rfl
 have F16:=aU (st:=eB) l16 c16 k16;have b16:=F16.binds (ps:=["web","trails","chord"]) fun _ _ _ _ _ _ us hl=>by obtain⟨_,_,_,rfl⟩:=GF us hl;rfl
 have F17:=aU (st:=fq) l17 c17 k17;have Qv:=F17.binds (ps:=["web","tie"]) fun _ _ _ _ _ _ us hl=>by obtain⟨_,_,rfl⟩:=eN us hl;rfl
 have F18:=aU (st:=h8) l18 c18 k18;have Xl:=F18.binds (ps:=["web","tie_set"]) fun _ _ _ _ _ _ us hl=>by obtain⟨_,_,rfl⟩:=eN us hl;rfl
 have F19:=aU (st:=cO) l19 c19 k19;have b19:=F19.binds (ps:=["web","number"]) fun _ _ _ _ _ _ us hl=>by obtain⟨_,_,rfl⟩:=eN us hl;rfl
 have F20:=Ga (st:=eX) l20 c20 k20 hd20;have b20:=F20.binds (ps:=["web","rings"]) fun _ _ _ _ _ _ us hl=>by obtain⟨_,_,rfl⟩:=eN us hl;rfl
 have F21:=aU (st:=lB) l21 c21 k21;have b21:=F21.binds (ps:=["one","other"]) fun _ _ _ _ _ _ us hl=>by obtain⟨_,_,rfl⟩:=eN us hl;rfl
 have F22:=aU (st:=eE) l22 c22 k22;have b22:=F22.binds (ps:=["tie_set","marks"]) fun _ _ _ _ _ _ us hl=>by obtain⟨_,_,rfl⟩:=eN us hl;rfl
 have F23:=aU (st:=jt) l23 c23 k23;have b23:=F23.binds (ps:=["web","side"]) fun _ _ _ _ _ _ us hl=>by obtain⟨_,_,rfl⟩:=eN us hl;rfl
 have F24:=aU (st:=jQ) l24 c24 k24;have b24:=F24.binds (ps:=["web","side"]) fun _ _ _ _ _ _ us hl=>by obtain⟨_,_,rfl⟩:=eN us hl;rfl
 have F25:=aU (st:=ia) l25 c25 k25;have b25:=F25.binds (ps:=["web","tie_set"]) fun _ _ _ _ _ _ us hl=>by obtain⟨_,_,rfl⟩:=eN us hl;rfl
 have F26:=aU (st:=bW) l26 c26 k26;have b26:=F26.binds (ps:=["web","marks"]) fun _ _ _ _ _ _ us hl=>by obtain⟨_,_,rfl⟩:=eN us hl;rfl
 have F27:=Ga (st:=dc) l27 c27 k27 hd27;have b27:=F27.binds (ps:=["web","marks","start"]) fun _ _ _ _ _ _ us hl=>by obtain⟨_,_,_,rfl⟩:=GF us hl;rfl
 have F28:=aU (st:=cV) l28 c28 k28;have b28:=F28.binds (ps:=["way"]) fun _ _ _ _ _ _ us hl=>by obtain⟨_,rfl⟩:=sL us hl;rfl
 have F29:=aU (st:=bX) l29 c29 k29;have b29:=F29.binds (ps:=["ways"]) fun _ _ _ _ _ _ us hl=>by obtain⟨_,rfl⟩:=sL us hl;rfl
 have F30:=aU (st:=bY) l30 c30 k30;have b30:=F30.binds (ps:=["web","marks"]) fun _ _ _ _ _ _ us hl=>by obtain⟨_,_,rfl⟩:=eN us hl;rfl
 have F31:=aU (st:=cF) l31 c31 k31;have b31:=F31.binds (ps:=["ways"]) fun _ _ _ _ _ _ us hl=>by obtain⟨_,rfl⟩:=sL us hl;rfl
 have F32:=aU (st:=fu) l32 c32 k32;have b32:=F32.binds (ps:=["web","marks"]) fun _ _ _ _ _ _ us hl=>by obtain⟨_,_,rfl⟩:=eN us hl;rfl
 have F33:=aU (st:=eY) l33 c33 k33;have b33:=F33.binds (ps:=["web","marks"]) fun _ _ _ _ _ _ us hl=>by obtain⟨_,_,rfl⟩:=eN us hl;rfl
 have F34:=aU (st:=ju) l34 c34 k34;have b34:=F34.binds (ps:=["rows","tie_set"]) fun _ _ _ _ _ _ us hl=>by obtain⟨_,_,rfl⟩:=eN us hl;rfl
 have F35:=aU (st:=ic) l35 c35 k35;have b35:=F35.binds (ps:=["rows","added"]) fun _ _ _ _ _ _ us hl=>by obtain⟨_,_,rfl⟩:=eN us hl;rfl
 have F36:=aU (st:=jv) l36 c36 k36;have b36:=F36.binds (ps:=["sets"]) fun _ _ _ _ _ _ us hl=>by obtain⟨_,rfl⟩:=sL us hl;rfl
 have F37:=aU (st:=ig) l37 c37 k37;have b37:=F37.binds (ps:=["web","rings"]) fun _ _ _ _ _ _ us hl=>by obtain⟨_,_,rfl⟩:=eN us hl;rfl
 have F38:=aU (st:=e7) l38 c38 k38;have b38:=F38.binds (ps:=["web","rings"]) fun _ _ _ _ _ _ us hl=>by obtain⟨_,_,rfl⟩:=eN us hl;rfl
 have F39:=aU (st:=cN) l39 c39 k39;have b39:=F39.binds (ps:=["web"]) fun _ _ _ _ _ _ us hl=>by obtain⟨_,rfl⟩:=sL us hl;rfl
 have F40:=aU (st:=dX) l40 c40 k40;have b40:=F40.binds (ps:=["web"]) fun _ _ _ _ _ _ us hl=>by obtain⟨_,rfl⟩:=sL us hl;rfl
 have F41:=aU (st:=eF) l41 c41 k41;have b41:=F41.binds (ps:=["script","k"]) fun _ _ _ _ _ _ us hl=>by obtain⟨_,_,rfl⟩:=eN us hl;rfl
 have F42:=aU (st:=gz) l42 c42 k42;have b42:=F42.binds (ps:=["cell","k"]) fun _ _ _ _ _ _ us hl=>by obtain⟨_,_,rfl⟩:=eN us hl;rfl
 have F43:=aU (st:=fB) l43 c43 k43;have b43:=F43.binds (ps:=["cell","way"]) fun _ _ _ _ _ _ us hl=>by obtain⟨_,_,rfl⟩:=eN us hl;rfl
 have F44:=aU (st:=jw) l44 c44 k44;have b44:=F44.binds (ps:=["cell","points","way"]) fun _ _ _ _ _ _ us hl=>by obtain⟨_,_,_,rfl⟩:=GF us hl;rfl
 have F45:=aU (st:=eG) l45 c45 k45;have b45:=F45.binds (ps:=["script","most","ranked"]) fun _ _ _ _ _ _ us hl=>by obtain⟨_,_,_,rfl⟩:=GF us hl;rfl
 have F46:=aU (st:=fC) l46 c46 k46;have b46:=F46.binds (ps:=["web","some"]) fun _ _ _ _ _ _ us hl=>by obtain⟨_,_,rfl⟩:=eN us hl;rfl
 have F47:=aU (st:=dh) l47 c47 k47;have b47:=F47.binds (ps:=["web","some"]) fun _ _ _ _ _ _ us hl=>by obtain⟨_,_,rfl⟩:=eN us hl;rfl
 have F48:=aU (st:=e8) l48 c48 k48;have b48:=F48.binds (ps:=["web","some"]) fun _ _ _ _ _ _ us hl=>by obtain⟨_,_,rfl⟩:=eN us hl;rfl
 have F49:=aU (st:=gk) l49 c49 k49;have b49:=F49.binds (ps:=["web","some"]) fun _ _ _ _ _ _ us hl=>by obtain⟨_,_,rfl⟩:=eN us hl;rfl
 have F50:=aU (st:=jx) l50 c50 k50;have b50:=F50.binds (ps:=["one","other"]) fun _ _ _ _ _ _ us hl=>by obtain⟨_,_,rfl⟩:=eN us hl;rfl
 have F51:=aU (st:=jy) l51 c51 k51;have b51:=F51.binds (ps:=["web","cell"]) fun _ _ _ _ _ _ us hl=>by obtain⟨_,_,rfl⟩:=eN us hl;rfl
 have F52:=aU (st:=gA) l52 c52 k52;have b52:=F52.binds (ps:=["web","cell"]) fun _ _ _ _ _ _ us hl=>by obtain⟨_,_,rfl⟩:=eN us hl;rfl
 have F53:=aU (st:=dJ) l53 c53 k53;have b53:=F53.binds (ps:=["web","base","marks"]) fun _ _ _ _ _ _ us hl=>by obtain⟨_,_,_,rfl⟩:=GF us hl;rfl
 have F54:=aU (st:=rO) l54 c54 k54;have b54:=F54.binds (ps:=["script"]) fun _ _ _ _ _ _ us hl=>by obtain⟨_,rfl⟩:=sL us hl;rfl
 have T:Txt K mg ⟨f0,_,f1,_,f2,_,f3,_,f4,_,f5,_,f6,_,f7,_,f8,_,f9,_,UH,_,UI,_,UJ,_,UK,_,UL,_,UM,_,UN,_,UO,_,UP,_,UQ,_,UR,_,US,_,UT,_,UU,_,UW,_,UX,_,UY,_,UZ,_,U0,_,U1,_,U3,_,U4,_,f32,_,U5,_,U6,_,U7,_,U8,_,U9,_,Va,_,Vb,_,Vc,_,Vd,_,Ve,_,Vf,_,Vg,_,Vh,_,Vi,_,Vj,_,Vk,_,Vl,_,Vm,_,Vn,_,Vo,_,Vp,_,fa,_,xQ,xR,uE,xS,jl,fJ,iH,eK⟩:=⟨F0,PySem.W.mg_of X G a0,b0,F1,PySem.W.mg_of X G a1,b1,F2,PySem.W.mg_of X G a2,b2,F3,PySem.W.mg_of X G a3,b3,F4,PySem.W.mg_of X G a4,b4,F5,PySem.W.mg_of X G a5,b5,F6,PySem.W.mg_of X G a6,b6,F7,PySem.W.mg_of X G a7,b7,F8,PySem.W.mg_of X G a8,b8,F9,PySem.W.mg_of X G a9,b9,F10,PySem.W.mg_of X G a10,b10,F11,PySem.W.mg_of X G a11,b11,F12,PySem.W.mg_of X G a12,b12,F13,PySem.W.mg_of X G a13,b13,F14,PySem.W.mg_of X G a14,b14,F15,PySem.W.mg_of X G a15,Xk,F16,PySem.W.mg_of X G a16,b16,F17,PySem.W.mg_of X G a17,Qv,F18,PySem.W.mg_of X G a18,Xl,F19,PySem.W.mg_of X G a19,b19,F20,PySem.W.mg_of X G a20,b20,F21,PySem.W.mg_of X G a21,b21,F22,PySem.W.mg_of X G a22,b22,F23,PySem.W.mg_of X G a23,b23,F24,PySem.W.mg_of X G a24,b24,F25,PySem.W.mg_of X G a25,b25,F26,PySem.W.mg_of X G a26,b26,F27,PySem.W.mg_of X G a27,b27,F28,PySem.W.mg_of X G a28,b28,F29,PySem.W.mg_of X G a29,b29,F30,PySem.W.mg_of X G a30,b30,F31,PySem.W.mg_of X G a31,b31,F32,PySem.W.mg_of X G a32,b32,F33,PySem.W.mg_of X G a33,b33,F34,PySem.W.mg_of X G a34,b34,F35,PySem.W.mg_of X G a35,b35,F36,PySem.W.mg_of X G a36,b36,F37,PySem.W.mg_of X G a37,b37,F38,PySem.W.mg_of X G a38,b38,F39,PySem.W.mg_of X G a39,b39,F40,PySem.W.mg_of X G a40,b40,F41,PySem.W.mg_of X G a41,b41,F42,PySem.W.mg_of X G a42,b42,F43,PySem.W.mg_of X G a43,b43,F44,PySem.W.mg_of X G a44,b44,F45,PySem.W.mg_of X G a45,b45,F46,PySem.W.mg_of X G a46,b46,F47,PySem.W.mg_of X G a47,b47,F48,PySem.W.mg_of X G a48,b48,F49,PySem.W.mg_of X G a49,b49,F50,PySem.W.mg_of X G a50,b50,F51,PySem.W.mg_of X G a51,b51,F52,PySem.W.mg_of X G a52,b52,F53,PySem.W.mg_of X G a53,b53,F54,PySem.W.mg_of X G a54,b54,PySem.W.mg_none_of X G z_ValueError,PySem.W.mg_none_of X G z_all,PySem.W.mg_none_of X G z_bool,PySem.W.mg_none_of X G z_enumerate,PySem.W.mg_none_of X G z_int,PySem.W.mg_none_of X G z_isinstance,PySem.W.mg_none_of X G z_len,PySem.W.mg_none_of X G z_list,PySem.W.mg_none_of X G z_max,PySem.W.mg_none_of X G z_min,PySem.W.mg_none_of X G z_range,PySem.W.mg_none_of X G z_set,PySem.W.mg_none_of X G z_sorted,PySem.W.mg_none_of X G z_sum,PySem.W.mg_none_of X G z_tuple,PySem.W.mg_none_of X G z_zip,PySem.W.mg_of X G d_BadSet,PySem.W.mg_of X G d_BadPoint,PySem.W.mg_of X G d_NoChord,PySem.W.mg_of X G d_NoBase,fun h1 X1 G1=>DS X1 G1 d_BadSet xc_BadSet,fun h1 X1 G1=>DS X1 G1 d_NoChord xc_NoChord,fun h1 X1 G1=>DS X1 G1 d_NoBase xc_NoBase⟩
 exact⟨PySem.W.fnOf "law" "law" (aE rO) (aD rO) (af rO) .none TM TN TQ SG P0 TR,[(fJ,rG "by_length",gQ),(eK,rG "least_ways",cy)],⟨pn,nt,fun p hp=>⟨pi _ (List.mem_map_of_mem (f:=(·.1)) hp),by simp only[List.mem_cons,List.not_mem_nil,or_false]at hp;rcases hp with rfl | rfl;all_goals first | exact⟨_,hd20⟩ | exact⟨_,hd27⟩⟩⟩,fun s v=>.of_eq rfl,fun base _ _=>SE T⟩
theorem walk{l:PySem.W.OpenLaw}{q:Program}{loose:List Str}{XP:(Str->Option Value)->Heap->Prop}{YP:World->Heap->Prop}{d:DefRec}{K:Params->PySem.W.Frag}{ts:List Addr}(hn:l.most=some 63)(Ra:d.params.defaults=[])
 (hY:∀(w:World) (h:Heap),YP w h->(K w.params).In h/\∀ P∈ts,h.get? P=some (PySem.W.tabObj #[]))
 (F:∀(w:World) (mg:Str->Option Value) (fa:Addr) (h:Heap),(K w.params).In h->h.Ns mainGlobals mg->mg d.name=some (.ref fa)->
  ∃(fd:FuncData) (tb:vd),((tb.map (·.1)).Nodup/\PySem.W.noTabs (K w.params)=true/\∀ p∈tb,p.1∈ts/\∃ c,PySem.W.codeHdIn (K w.params) c p.1=true)/\(∀(s:Shared) (u:Value),BindsTo s fd ⟨[u],[]⟩ [("script",u)])/\∀ base:Heap,(K w.params).In base->base.Ns mainGlobals mg->bE l.prog w (K w.params) mg base iP 12 fa fd ["script"] (Bo (K w.params) tb)) :
 PySem.W.WalkO q loose XP YP l.row.toRowW d [] (fun f vs=>PySem.call f vs) :=
 L2.KP (n:=63) (k:=12) (x:="script") (CX:=fun _=>iP) (sp:=fun w=>Bo (K w.params)) hn (by decide) Ra ⟨rfl,by decide,by decide⟩ hY F (fun _ _ a ns tb hl hT hS=>⟨a,ns,rfl,hS,hl,hT,fun _=>rfl⟩) fun _ _ _ _ _ z=>z
end K64
def PySem.W.Fast.tw2730921384186353458:Unit:=()
def PySem.W.Fast.tw5234765516598093212:Unit:=()
def PySem.W.Fast.tw7490708163693939229:Unit:=()
def PySem.W.Fast.tw13317702450522853846:Unit:=()
def PySem.W.Fast.tw16876432758709341576:Unit:=()
def PySem.W.Fast.tw11581230448824164009:Unit:=()
def PySem.W.Fast.tw12169866217403561500:Unit:=()
def PySem.W.Fast.tw10335772229964399903:Unit:=()
def PySem.W.Fast.tw6173663409884947352:Unit:=()
def PySem.W.Fast.tw14288279018830641529:Unit:=()
def PySem.W.Fast.tw363343018331478142:Unit:=()
def PySem.W.Fast.tw6132010478370805747:Unit:=()
def PySem.W.Fast.tw15760142118224226585:Unit:=()
def PySem.W.Fast.tw1368066722334242500:Unit:=()
open PySem PySem.W PyProof.Rows
set_option maxRecDepth 100000 in
set_option maxHeartbeats 0 in
theorem PySem.Challenge.cw_ringbase_k64_whole_marks_by_base_holds : PySem.Challenge.rw_ringbase_k64_whole_marks_by_base.Holds := by
 w_on;o_law;k_head;(case hw=>w_witness2)
 k_fill
 refine K64.walk (l:=PySem.Challenge.rw_ringbase_k64_whole_marks_by_base) rfl rfl (fun w h Y=>⟨PySem.W.km_in_of Y,PySem.W.km_tabs_of Y⟩) ?F
 case F =>
  intro w mg fa h KX G hmg;refine' K64.all_mk KX G hmg ?a0 ?l0 ?c0 ?k0 ?a1 ?l1 ?c1 ?k1 ?a2 ?l2 ?c2 ?k2 ?a3 ?l3 ?c3 ?k3 ?a4 ?l4 ?c4 ?k4 ?a5 ?l5 ?c5 ?k5 ?a6 ?l6 ?c6 ?k6 ?a7 ?l7 ?c7 ?k7 ?a8 ?l8 ?c8 ?k8 ?a9 ?l9 ?c9 ?k9 ?a10 ?l10 ?c10 ?k10 ?a11 ?l11 ?c11 ?k11 ?a12 ?l12 ?c12 ?k12 ?a13 ?l13 ?c13 ?k13 ?a14 ?l14 ?c14 ?k14 ?a15 ?l15 ?c15 ?k15 ?a16 ?l16 ?c16 ?k16 ?a17 ?l17 ?c17 ?k17 ?a18 ?l18 ?c18 ?k18 ?a19 ?l19 ?c19 ?k19 ?a20 ?l20 ?hd20 ?c20 ?k20 ?a21 ?l21 ?c21 ?k21 ?a22 ?l22 ?c22 ?k22 ?a23 ?l23 ?c23 ?k23 ?a24 ?l24 ?c24 ?k24 ?a25 ?l25 ?c25 ?k25 ?a26 ?l26 ?c26 ?k26 ?a27 ?l27 ?hd27 ?c27 ?k27 ?a28 ?l28 ?c28 ?k28 ?a29 ?l29 ?c29 ?k29 ?a30 ?l30 ?c30 ?k30 ?a31 ?l31 ?c31 ?k31 ?a32 ?l32 ?c32 ?k32 ?a33 ?l33 ?c33 ?k33 ?a34 ?l34 ?c34 ?k34 ?a35 ?l35 ?c35 ?k35 ?a36 ?l36 ?c36 ?k36 ?a37 ?l37 ?c37 ?k37 ?a38 ?l38 ?c38 ?k38 ?a39 ?l39 ?c39 ?k39 ?a40 ?l40 ?c40 ?k40 ?a41 ?l41 ?c41 ?k41 ?a42 ?l42 ?c42 ?k42 ?a43 ?l43 ?c43 ?k43 ?a44 ?l44 ?c44 ?k44 ?a45 ?l45 ?c45 ?k45 ?a46 ?l46 ?c46 ?k46 ?a47 ?l47 ?c47 ?k47 ?a48 ?l48 ?c48 ?k48 ?a49 ?l49 ?c49 ?k49 ?a50 ?l50 ?c50 ?k50 ?a51 ?l51 ?c51 ?k51 ?a52 ?l52 ?c52 ?k52 ?a53 ?l53 ?c53 ?k53 ?a54 ?l54 ?c54 ?k54 ?z_ValueError ?z_all ?z_bool ?z_enumerate ?z_int ?z_isinstance ?z_len ?z_list ?z_max ?z_min ?z_range ?z_set ?z_sorted ?z_sum ?z_tuple ?z_zip ?d_BadSet ?d_BadPoint ?d_NoChord ?d_NoBase ?xc_BadSet ?xc_NoChord ?xc_NoBase ?nt ?pn ?pi ?te
  (case te=>exact rfl)
  (case d_BadSet=>k_is)
  (case d_BadPoint=>k_is)
  (case d_NoChord=>k_is)
  (case d_NoBase=>k_is)
  (case a0=>k_is)
  (case l0=>k_is)
  (case c0=>k_is)
  (case k0=>k_is)
  (case a1=>k_is)
  (case l1=>k_is)
  (case c1=>k_is)
  (case k1=>k_is)
  (case a2=>k_is)
  (case l2=>k_is)
  (case c2=>k_is)
  (case k2=>k_is)
  (case a3=>k_is)
  (case l3=>k_is)
  (case c3=>k_is)
  (case k3=>k_is)
  (case a4=>k_is)
  (case l4=>k_is)
  (case c4=>k_is)
  (case k4=>k_is)
  (case a5=>k_is)
  (case l5=>k_is)
  (case c5=>k_is)
  (case k5=>k_is)
  (case a6=>k_is)
  (case l6=>k_is)
  (case c6=>k_is)
  (case k6=>k_is)
  (case a7=>k_is)
  (case l7=>k_is)
  (case c7=>k_is)
  (case k7=>k_is)
  (case a8=>k_is)
  (case l8=>k_is)
  (case c8=>k_is)
  (case k8=>k_is)
  (case a9=>k_is)
  (case l9=>k_is)
  (case c9=>k_is)
  (case k9=>k_is)
  (case a10=>k_is)
  (case l10=>k_is)
  (case c10=>k_is)
  (case k10=>k_is)
  (case a11=>k_is)
  (case l11=>k_is)
  (case c11=>k_is)
  (case k11=>k_is)
  (case a12=>k_is)
  (case l12=>k_is)
  (case c12=>k_is)
  (case k12=>k_is)
  (case a13=>k_is)
  (case l13=>k_is)
  (case c13=>k_is)
  (case k13=>k_is)
  (case a14=>k_is)
  (case l14=>k_is)
  (case c14=>k_is)
  (case k14=>k_is)
  (case a15=>k_is)
  (case l15=>k_is)
  (case c15=>k_is)
  (case k15=>k_is)
  (case a16=>k_is)
  (case l16=>k_is)
  (case c16=>k_is)
  (case k16=>k_is)
  (case a17=>k_is)
  (case l17=>k_is)
  (case c17=>k_is)
  (case k17=>k_is)
  (case a18=>k_is)
  (case l18=>k_is)
  (case c18=>k_is)
  (case k18=>k_is)
  (case a19=>k_is)
  (case l19=>k_is)
  (case c19=>k_is)
  (case k19=>k_is)
  (case a20=>k_is)
  (case l20=>k_is)
  (case hd20=>kernel_rfl)
  (case c20=>k_is)
  (case k20=>k_is)
  (case a21=>k_is)
  (case l21=>k_is)
  (case c21=>k_is)
  (case k21=>k_is)
  (case a22=>k_is)
  (case l22=>k_is)
  (case c22=>k_is)
  (case k22=>k_is)
  (case a23=>k_is)
  (case l23=>k_is)
  (case c23=>k_is)
  (case k23=>k_is)
  (case a24=>k_is)
  (case l24=>k_is)
  (case c24=>k_is)
  (case k24=>k_is)
  (case a25=>k_is)
  (case l25=>k_is)
  (case c25=>k_is)
  (case k25=>k_is)
  (case a26=>k_is)
  (case l26=>k_is)
  (case c26=>k_is)
  (case k26=>k_is)
  (case a27=>k_is)
  (case l27=>k_is)
  (case hd27=>kernel_rfl)
  (case c27=>k_is)
  (case k27=>k_is)
  (case a28=>k_is)
  (case l28=>k_is)
  (case c28=>k_is)
  (case k28=>k_is)
  (case a29=>k_is)
  (case l29=>k_is)
  (case c29=>k_is)
  (case k29=>k_is)
  (case a30=>k_is)
  (case l30=>k_is)
  (case c30=>k_is)
  (case k30=>k_is)
  (case a31=>k_is)
  (case l31=>k_is)
  (case c31=>k_is)
  (case k31=>k_is)
  (case a32=>k_is)
  (case l32=>k_is)
  (case c32=>k_is)
  (case k32=>k_is)
  (case a33=>k_is)
  (case l33=>k_is)
  (case c33=>k_is)
  (case k33=>k_is)
  (case a34=>k_is)
  (case l34=>k_is)
  (case c34=>k_is)
  (case k34=>k_is)
  (case a35=>k_is)
  (case l35=>k_is)
  (case c35=>k_is)
  (case k35=>k_is)
  (case a36=>k_is)
  (case l36=>k_is)
  (case c36=>k_is)
  (case k36=>k_is)
  (case a37=>k_is)
  (case l37=>k_is)
  (case c37=>k_is)
  (case k37=>k_is)
  (case a38=>k_is)
  (case l38=>k_is)
  (case c38=>k_is)
  (case k38=>k_is)
  (case a39=>k_is)
  (case l39=>k_is)
  (case c39=>k_is)
  (case k39=>k_is)
  (case a40=>k_is)
  (case l40=>k_is)
  (case c40=>k_is)
  (case k40=>k_is)
  (case a41=>k_is)
  (case l41=>k_is)
  (case c41=>k_is)
  (case k41=>k_is)
  (case a42=>k_is)
  (case l42=>k_is)
  (case c42=>k_is)
  (case k42=>k_is)
  (case a43=>k_is)
  (case l43=>k_is)
  (case c43=>k_is)
  (case k43=>k_is)
  (case a44=>k_is)
  (case l44=>k_is)
  (case c44=>k_is)
  (case k44=>k_is)
  (case a45=>k_is)
  (case l45=>k_is)
  (case c45=>k_is)
  (case k45=>k_is)
  (case a46=>k_is)
  (case l46=>k_is)
  (case c46=>k_is)
  (case k46=>k_is)
  (case a47=>k_is)
  (case l47=>k_is)
  (case c47=>k_is)
  (case k47=>k_is)
  (case a48=>k_is)
  (case l48=>k_is)
  (case c48=>k_is)
  (case k48=>k_is)
  (case a49=>k_is)
  (case l49=>k_is)
  (case c49=>k_is)
  (case k49=>k_is)
  (case a50=>k_is)
  (case l50=>k_is)
  (case c50=>k_is)
  (case k50=>k_is)
  (case a51=>k_is)
  (case l51=>k_is)
  (case c51=>k_is)
  (case k51=>k_is)
  (case a52=>k_is)
  (case l52=>k_is)
  (case c52=>k_is)
  (case k52=>k_is)
  (case a53=>k_is)
  (case l53=>k_is)
  (case c53=>k_is)
  (case k53=>k_is)
  (case a54=>k_is)
  (case l54=>k_is)
  (case c54=>k_is)
  (case k54=>k_is)
  (case z_ValueError=>k_is)
  (case z_all=>k_is)
  (case z_bool=>k_is)
  (case z_enumerate=>k_is)
  (case z_int=>k_is)
  (case z_isinstance=>k_is)
  (case z_len=>k_is)
  (case z_list=>k_is)
  (case z_max=>k_is)
  (case z_min=>k_is)
  (case z_range=>k_is)
  (case z_set=>k_is)
  (case z_sorted=>k_is)
  (case z_sum=>k_is)
  (case z_tuple=>k_is)
  (case z_zip=>k_is)
  (case xc_BadSet=>k_exc)
  (case xc_NoChord=>k_exc)
  (case xc_NoBase=>k_exc)
  (case nt=>kernel_rfl)
  (case pn=>decide)
  (case pi=>decide)
