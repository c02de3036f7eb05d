import PyProof.Rows.All
import Wide.All
import OpenK.AllK
import Wide.FinOn
import Lean
import PyProof.EqAt
import PyProof.EqKinds
import PyProof.TupleCall
import PySem.Challenge.RW_ringbase_k36_papers_judged
set_option Elab.async false
set_option linter.all false
set_option maxRecDepth 100000
abbrev cN:=@decide_eq_true
abbrev fk:=@decide_eq_false
abbrev jw:=@of_decide_eq_true
abbrev oz:=@List.mem_append_right
abbrev lJ:=@List.mem_cons_of_mem
abbrev m8:=@List.mem_of_getElem?
abbrev Ib:=@Bool.eq_false_iff
abbrev oA:=@List.getElem?_eq_some_iff
abbrev Ah:=@Option.map_eq_some_iff
abbrev aX:=List (PySem.Addr×PySem.Obj)
abbrev gU:=PySem.Value->PySem.Shared->Prop
abbrev kK:=PySem.Str->Option PySem.Value
abbrev bI:=PySem.W.Frag
namespace L2
open PySem PySem.Spec PyProof.Rows
abbrev dY:=@wpAny_bind
abbrev Key:=Sum Int Str
def Hj:Key->Value->Bool
 | .inl k,v=>Value.isInt k v
 | .inr x,v=>Value.isStrOf x v
def Nm(w:World):Key->Int
 | .inl k=>hashInt k
 | .inr x=>hashStr w x
theorem cH:∀{k:Key} {v:Value},Hj k v=true->(∃ i t,k=Sum.inl i/\v=Value.int i t)\/(∃ x t,k=Sum.inr x/\v=Value.str x t)
 | .inl i,v,h=>by
   obtain⟨t,e⟩:=Value.isInt_shape (k:=i) (v:=v) h;exact .inl ⟨i,t,rfl,e⟩
 | .inr x,v,h=>by
   obtain⟨t,e⟩:=Value.isStrOf_shape (x:=x) (v:=v) h;exact .inr ⟨x,t,rfl,e⟩
theorem Ic(a b:Int):decide ((Sum.inl a:Key)=Sum.inl b)=(a==b):=by
 by_cases e:a=b
 ·subst e;simp
 ·have h : ¬(Sum.inl a:Key)=Sum.inl b:=fun q=>e (Sum.inl.inj q)
  rw[fk h];exact(beq_eq_false_iff_ne.mpr e).symm
theorem Ie(a b:Str):decide ((Sum.inr a:Key)=Sum.inr b)=decide (a=b):=by
 by_cases e:a=b
 ·subst e;simp
 ·have h : ¬(Sum.inr a:Key)=Sum.inr b:=fun q=>e (Sum.inr.inj q)
  rw[fk h,fk e]
theorem Ig(a:Int)(b:Str):decide ((Sum.inl a:Key)=Sum.inr b)=false:=fk (fun q=>nomatch q)
theorem Ih(a:Str)(b:Int):decide ((Sum.inr a:Key)=Sum.inl b)=false:=fk (fun q=>nomatch q)
def Ai(prog:Program)(w:World):PySem.KeyKind prog w Key where
 is:=Hj
 hash:=Nm w
 inj:=fun v a b ha hb=>by
  rcases cH ha with⟨i,t,rfl,rfl⟩|⟨x,t,rfl,rfl⟩
  ·rcases cH hb with⟨j,u,rfl,e⟩|⟨y,u,rfl,e⟩
   ·injection e with e1 _;rw[e1]
   ·exact nomatch e
  ·rcases cH hb with⟨j,u,rfl,e⟩|⟨y,u,rfl,e⟩
   ·exact nomatch e
   ·injection e with e1 _;rw[e1]
 byValue:=fun k v h=>by
  rcases cH h with⟨i,t,rfl,rfl⟩|⟨x,t,rfl,rfl⟩<;>rfl
 pyHash:=fun hv h=>by
  rcases cH hv with⟨i,t,rfl,rfl⟩|⟨x,t,rfl,rfl⟩
  ·exact wpAny_pyHash_int h
  ·exact wpAny_pyHash_str h
 eqBool:=fun hu hv h=>by
  rcases cH hu with⟨i,t,rfl,rfl⟩|⟨x,t,rfl,rfl⟩
  ·rcases cH hv with⟨j,u,rfl,rfl⟩|⟨y,u,rfl,rfl⟩
   ·rw[Ic]at h;exact wpAny_eqBool_int h
   ·rw[Ig]at h;exact SeqAt.EqAt.int_str i t y u _ _ _ _ h
  ·rcases cH hv with⟨j,u,rfl,rfl⟩|⟨y,u,rfl,rfl⟩
   ·rw[Ih]at h;exact SeqAt.EqAt.str_int x t j u _ _ _ _ h
   ·rw[Ie]at h;exact wpAny_eqBool_str h
 «strs»:=fun k x t v h=>by
  rcases cH h with⟨i,u,rfl,e⟩|⟨y,u,rfl,e⟩
  ·exact nomatch e
  ·injection e with e1 _
   subst e1;cases v<;>rfl
inductive V where
 | gh | bl (b:Bool) | int (i:Int) | str (x:Str) | C7 (b:Array UInt8) | JR (b:UInt64) | ref (a:Addr) | ty (n:String)
 deriving DecidableEq
def RelV:V->Value->Prop
 | .gh,u=>u=Value.none
 | .bl b,u=>u=Value.bool b
 | .int i,u=>∃ t,u=Value.int i t
 | .str x,u=>∃ t,u=Value.str x t
 | .C7 b,u=>∃ t,u=Value.bytes b t
 | .JR b,u=>∃ t,u=Value.float b t
 | .ref a,u=>u=Value.ref a
 | .ty n,u=>u=Value.type n
abbrev Vals:List V->List Value->Prop:=Paired RelV
theorem Vals.length{xs:List V}{us:List Value}(r:Vals xs us):xs.length=us.length:=Paired.length r
theorem Vals.get:∀{xs:List V} {us:List Value} {i:Nat} {x:V},Vals xs us->xs[i]?=some x->∃ u,us[i]?=some u/\RelV x u
 | _,_,_,_,.nil,e=>by simp at e
 | _,_,0,_,.cons r _,e=>by simp at e;subst e;exact⟨_,rfl,r⟩
 | _,_,i+1,x,.cons _ t,e=>by
   obtain⟨u,h1,h2⟩:=Vals.get (i:=i) (x:=x) t (by simpa using e)
   exact⟨u,by simpa using h1,h2⟩
theorem Vals.set{x:V}{u:Value}(r:RelV x u):∀{xs:List V} {us:List Value} (i:Nat),Vals xs us->Vals (xs.set i x) (us.set i u)
 | _,_,_,.nil=>.nil
 | _,_,0,.cons _ t=>.cons r t
 | _,_,i+1,.cons q t=>.cons q (Vals.set r i t)
theorem Vals.append:∀{xs ys:List V} {us ws:List Value},Vals xs us->Vals ys ws->Vals (xs++ys) (us++ws)
 | _,_,_,_,.nil,s=>s
 | _,_,_,_,.cons r t,s=>.cons r (Vals.append t s)
theorem Vals.take:∀{xs:List V} {us:List Value} (n:Nat),Vals xs us->Vals (xs.take n) (us.take n)
 | _,_,0,_=>.nil
 | _,_,_+1,.nil=>.nil
 | _,_,n+1,.cons r t=>.cons r (Vals.take n t)
theorem Vals.drop:∀{xs:List V} {us:List Value} (n:Nat),Vals xs us->Vals (xs.drop n) (us.drop n)
 | _,_,0,r=>r
 | _,_,_+1,.nil=>.nil
 | _,_,n+1,.cons _ t=>Vals.drop n t
def Ii:Option V->Option Value->Prop
 | some v,some u=>RelV v u
 | none,none=>True
 | _,_=>False
def KV{κ:Type}:List (κ×V)->List (κ×Value)->Prop:=Paired fun(p:κ×V) (q:κ×Value)=>p.1=q.1/\RelV p.2 q.2
def kV:Key->V
 | .inl i=>.int i
 | .inr x=>.str x
inductive HO where
 | lst (xs:List V)
 | tup (xs:List V)
 | dK (kvs:List (Key×V)) | dT (kvs:List (List Key×V))
 | set (S:Int->Bool) (n:Nat)
 | ins (C dx:Addr) (fs:List (Str×V))
 | own (x:Addr)
 | xd (fs:List (Str×V))
 | met (f x:Addr)
 | Bb (lo hi:Int)
 | pU (o:Obj) (u:HO)
 | kH (ps:Array Value)
 | ext (φ:Heap->Prop)
abbrev Hp:=Addr->Option HO
def upd(H:Hp)(a:Addr)(o:HO):Hp:=fun b=>if b=a then some o else H b
theorem ae{H:Hp}{a:Addr}{o:HO}:upd H a o a=some o:=by unfold upd;rw[if_pos rfl]
theorem ay{H:Hp}{a b:Addr}{o:HO}(h:b≠a):upd H a o b=H b:=by unfold upd;rw[if_neg h]
theorem c8{H:Hp}{a b:Addr}{o u:HO}(h:H a=some o)(h' : H b=some u)(d:o≠u):a≠b:=by
 intro e;subst e;rw[h]at h';exact d (Option.some.inj h')
theorem aS{H:Hp}{a b:Addr}{o:HO}(h:H a=some o)(h' : H b=none):a≠b:=by
 intro e;subst e;rw[h]at h';cases h'
def FO(qs:Array Value):Str:=match (qs[0]?:Option Value) with | some (Value.str q _)=>q | _=>""
section
variable (P:Program)(w:World)
def bR(H:Hp)(h:Heap)(a:Addr):HO->Prop
 | .lst xs=>xs.length<=sizeLine/\∃(its:List Value) (n:Nat),Vals xs its/\h.get? a=some { cls:=.type "list",data:=.seq its.toArray n}
 | .tup xs=>xs.length<=sizeLine/\∃ its:List Value,Vals xs its/\IsTup h a its.toArray
 | .dK kvs=>kvs.length<=sizeLine/\(a==sysModules)=false/\∃ vs,KV kvs vs/\h.DictOf (Ai P w) a vs
 | .dT kvs=>kvs.length<=sizeLine/\(a==sysModules)=false/\∃ xs:List (List Key×Addr×Value),
  Paired (fun(p:List Key×V) (q:List Key×Addr×Value)=>p.1=q.1/\H q.2.1=some (.tup (p.1.map kV))/\RelV p.2 q.2.2) kvs xs/\
  ∃ o es ep,h.get? a=some o/\o.ExactDict/\o.data = .dict es ep/\es.toList=xs.map (entryOfKey (tupleKind (Ai P w)))/\(xs.map (·.1)).Nodup
 | .set S n=>h.SetOf (intKind P w) a S n
 | .ins C dx fs=>H dx=some (.own a)/\fs.length<=1000/\dx≠a/\h.get? a=some (PySem.W.instObj C dx)/\
  ∃ mA,h.Ns1 dx mA/\(∀ f,Ii (fs.lookup f) (mA f))/\PySem.Within mA (fs.map (·.1))
 | .own _=>∃ o,h.get? a=some o
 | .xd fs=>∃ mA,h.Ns1 a mA/\∀ f,Ii (fs.lookup f) (mA f)
 | .Bb lo hi=>∃ t u v,h.get? a=some { cls:=.type "range",data:=.fields #[.int lo t,.int hi u,.int 1 v]}
 | .pU o u=>h.get? a=some o/\bR H h a u
 | .kH qs=>∃ ps:Array Value,h.get? a=some { cls:=.none,data:=.fields ps}/\((qs.size=3/\(ps = #[]\/∃ c,ps = #[qs.getD 1 .none,qs.getD 2 .none,.ref c]/\H c=some (.own a)/\h.CodeRec (.ref c) (FO qs)))\/∃ q l k,qs = #[q,l,k]++ps/\ps.size=3)
 | .met f x=>h.get? a=some (PySem.W.methodObj (.ref f) (.ref x))
 | .ext φ=>φ h/\(∃ o,h.get? a=some o)/\∀ h1 h2:Heap,φ h1->(∀ o,h1.get? a=some o->h2.get? a=some o)->φ h2
def m9(H:Hp)(h:Heap):Prop:=∀ a o,H a=some o->bR P w H h a o
end
section
variable {P:Program}{w:World}{H H' : Hp}{h h' : Heap}{a:Addr}{o:HO}
theorem bR.lt(x:bR P w H h a o):a<h.objs.size:=by
 cases o with
 | lst xs=>obtain⟨_,_,_,_,e⟩:=x;exact Heap.lt_size e
 | tup xs=>obtain⟨_,_,_,p⟩:=x;exact p.lt
 | dK kvs=>obtain⟨_,_,_,_,o,_,_,e,_⟩:=x;exact Heap.lt_size e
 | dT kvs=>obtain⟨_,_,_,_,o,_,_,e,_⟩:=x;exact Heap.lt_size e
 | set S n=>obtain⟨o,_,_,_,e,_⟩:=x;exact Heap.lt_size e
 | ins C dx fs=>obtain⟨_,_,_,e,_⟩:=x;exact Heap.lt_size e
 | own y=>obtain⟨_,e⟩:=x;exact Heap.lt_size e
 | xd fs=>obtain⟨_,⟨_,_,_,e,_⟩,_⟩:=x;exact Heap.lt_size e
 | Bb lo hi=>obtain⟨_,_,_,e⟩:=x;exact Heap.lt_size e
 | pU ob u=>obtain⟨e,_⟩:=x;exact Heap.lt_size e
 | kH ps=>obtain⟨_,e,_⟩:=x;exact Heap.lt_size e
 | met f y=>exact Heap.lt_size (show h.get? a=some _ from x)
 | ext φ=>obtain⟨_,⟨_,e⟩,_⟩:=x;exact Heap.lt_size e
theorem Paired.Ij{α β:Type}{F G:α->β->Prop}:∀{l₁:List α} {l₂:List β},Paired F l₁ l₂->(∀ a b,F a b->G a b)->Paired G l₁ l₂
 | _,_,.nil,_=>.nil
 | _,_,.cons r t,f=>.cons (f _ _ r) (Paired.Ij t f)
theorem Paired.imp'{α β:Type}{F G:α->β->Prop}(f:∀ a b,F a b->G a b){l₁:List α}{l₂:List β}(r:Paired F l₁ l₂):Paired G l₁ l₂:=Paired.Ij r f
theorem bR.stay(x:bR P w H h a o)(k:∀ b u,(b=a\/H b=some (.own a))->h.get? b=some u->h'.get? b=some u)
 (ho:∀ b,H b=some (.own a)->H' b=some (.own a)) (ht:∀ b xs,H b=some (.tup xs)->H' b=some (.tup xs)):bR P w H' h' a o:=by
 induction o with
 | lst xs=>obtain⟨z,its,n,r,e⟩:=x;exact⟨z,its,n,r,k _ _ (.inl rfl) e⟩
 | tup xs=>obtain⟨z,its,r,ob,e,c⟩:=x;exact⟨z,its,r,ob,k _ _ (.inl rfl) e,c⟩
 | dK kvs=>obtain⟨z,y,vs,r,ob,es,ep,e,c⟩:=x;exact⟨z,y,vs,r,ob,es,ep,k _ _ (.inl rfl) e,c⟩
 | dT kvs =>
   obtain⟨z,y,xs,r,ob,es,ep,e,c⟩:=x;exact⟨z,y,xs,Paired.Ij r fun p q z=>⟨z.1,ht _ _ z.2.1,z.2.2⟩,ob,es,ep,k _ _ (.inl rfl) e,c⟩
 | set S n=>obtain⟨ob,es,ep,t,e,c⟩:=x;exact⟨ob,es,ep,t,k _ _ (.inl rfl) e,c⟩
 | ins C dx fs =>
   obtain⟨d,z,ne,e,mA,⟨od,es,ep,e2,c⟩,r⟩:=x;exact⟨ho _ d,z,ne,k _ _ (.inl rfl) e,mA,⟨od,es,ep,k _ _ (.inr d) e2,c⟩,r⟩
 | own y=>obtain⟨ob,e⟩:=x;exact⟨ob,k _ _ (.inl rfl) e⟩
 | xd fs=>obtain⟨mA,⟨od,es,ep,e,c⟩,r⟩:=x;exact⟨mA,⟨od,es,ep,k _ _ (.inl rfl) e,c⟩,r⟩
 | Bb lo hi=>obtain⟨t,u,v,e⟩:=x;exact⟨t,u,v,k _ _ (.inl rfl) e⟩
 | pU ob u ih=>obtain⟨e,q⟩:=x;exact⟨k _ _ (.inl rfl) e,ih q⟩
 | kH qs =>
   obtain⟨ps,e,f⟩:=x;refine⟨ps,k _ _ (.inl rfl) e,?_⟩;rcases f with⟨hz,f|⟨c,e1,e2,c',oc,vs,tq,hc,ho',hd,hv⟩⟩|f
   ·exact .inl ⟨hz,.inl f⟩
   ·cases hc;exact .inl ⟨hz,.inr ⟨c,e1,ho _ e2,c,oc,vs,tq,rfl,k _ _ (.inr e2) ho',hd,hv⟩⟩
   ·exact .inr f
 | met f y =>
   have e:h.get? a=some (PySem.W.methodObj (.ref f) (.ref y)):=x;show h'.get? a=some (PySem.W.methodObj (.ref f) (.ref y));exact k a _ (.inl rfl) e
 | ext φ=>obtain⟨p,⟨o,e⟩,st⟩:=x;exact⟨st _ _ p fun o q=>k _ _ (.inl rfl) q,⟨o,k _ _ (.inl rfl) e⟩,st⟩
theorem m9.lt(x:m9 P w H h)(e:H a=some o):a<h.objs.size:=(x a o e).lt
theorem m9.fresh(x:m9 P w H h)(e:h.objs.size<=a):H a=none:=by
 cases q:H a with
 | none=>rfl
 | some u=>exact absurd (Nat.lt_of_lt_of_le (x.lt q) e) (Nat.lt_irrefl _)
theorem m9.kept(x:m9 P w H h)(k:∀ b u,h.get? b=some u->h'.get? b=some u):m9 P w H h':=fun a o e =>
 (x a o e).stay (fun b u _ q=>k b u q) (fun _ q=>q) fun _ _ q=>q
theorem m9.laid(x:m9 P w H h)(k:∀ b u,h.get? b=some u->h'.get? b=some u)(hp:h.objs.size<=a)(new:bR P w (upd H a o) h' a o):m9 P w (upd H a o) h':=fun b u e=>by
 have hn:=x.fresh hp
 by_cases hb:b=a
 ·subst hb;rw[ae]at e;cases e;exact new
 ·rw[ay hb]at e;exact(x b u e).stay (fun c v _ q=>k c v q) (fun c q=>by rw[ay (aS q hn)];exact q) fun c xs q=>by rw[ay (aS q hn)];exact q
end
def Rd(H:Hp)(a:Addr)(u:HO):Prop:=H a=some u\/∃ o,H a=some (.pU o u)
theorem Rd.ok{P:Program}{w:World}{H:Hp}{h:Heap}{a:Addr}{u:HO}(r:Rd H a u)(x:m9 P w H h):bR P w H h a u:=by
 rcases r with r|⟨o,r⟩
 ·exact x a u r
 ·obtain⟨_,q⟩:=x a _ r;exact q
def MC:Option HO->Prop
 | some (.lst _)=>True
 | some (.dK _)=>True
 | some (.dT _)=>True
 | some (.set _ _)=>True
 | some (.ins _ _ _)=>True
 | some (.ext _)=>True
 | _=>False
section
variable {P:Program}{w:World}{H:Hp}{h h' : Heap}{x e:Addr}{o' : HO}
theorem m9.write(ok:m9 P w H h)(mu:MC (H x))(he:e=x\/H e=some (.own x))(k:∀ b u,b≠e->h.get? b=some u->h'.get? b=some u)(JS:∃ u,h'.get? e=some u)
 (new:bR P w (upd H x o') h' x o'):m9 P w (upd H x o') h':=fun b u q=>by
 have Kp:∀ c y,H c=some (.own y)->c≠x:=fun c y r z=>by subst z;rw[r]at mu;exact mu
 have Nn:∀ c xs,H c=some (.tup xs)->c≠x:=fun c xs r z=>by subst z;rw[r]at mu;exact mu
 by_cases hb:b=x
 ·subst hb;rw[ae]at q;cases q;exact new
 ·rw[ay hb]at q
  by_cases Ik:b=e
  ·have q' : H b=some (.own x):=by
    rcases he with z|z
    ·exact absurd (Ik.trans z) hb
    ·rw[Ik];exact z
   rw[q]at q';cases q';obtain⟨v,hv⟩:=JS;exact⟨v,by rw[Ik];exact hv⟩
  ·refine(ok b u q).stay (fun c v hc r=>k c v ?_ r) (fun c r=>by rw[ay (Kp c b r)];exact r) fun c xs r=>by rw[ay (Nn c xs r)];exact r
   rcases hc with rfl|hc
   ·exact Ik
   ·rintro rfl;rcases he with z|z
    ·exact Kp c b hc z
    ·rw[hc]at z;cases z;exact hb rfl
end
structure Un(fs ex:List Addr)(H H' : Hp)(h h' : Heap):Prop where
 keep:∀ b o,h.get? b=some o->H b=none->b∉fs->b∉ex->h'.get? b=some o
 slot:∀ b o,h.get? b=some o->H b=none->b∈fs->b∉ex->∃ sl,h'.get? b=some { o with slots:=sl}
 free:∀ b o,h.get? b=some o->H b=none->b∉ex->H' b=none
 there:∀ b o,h.get? b=some o->b∉ex->∃ o',h'.get? b=some o'
 tups:∀ b xs,H b=some (.tup xs)->H' b=some (.tup xs)
 l9:∀ b o u,H b=some (.pU o u)->H' b=some (.pU o u)
 mL:∀ b ps,H b=some (.kH ps)->∃ more,H' b=some (.kH (ps++more))
section
variable {fs fs' ex ex' : List Addr}{H H1 H2:Hp}{h h1 h2 h' : Heap}{a x e:Addr}{o:HO}
theorem Un.any(u:Un fs ex H H1 h h1){b:Addr}{ob:Obj}(q:h.get? b=some ob)(n:H b=none)(hx:b∉ex):∃ sl,h1.get? b=some { ob with slots:=sl}:=by
 by_cases hb:b∈fs
 ·exact u.slot b ob q n hb hx
 ·exact⟨ob.slots,u.keep b ob q n hb hx⟩
theorem Un.kept(k:∀ b u,h.get? b=some u->h'.get? b=some u):Un fs ex H H h h' :=
 ⟨fun b ob q _ _ _=>k b ob q,fun b ob q _ _ _=>⟨ob.slots,k b ob q⟩,fun _ _ _ n _=>n,fun b ob q _=>⟨ob,k b ob q⟩,fun _ _ q=>q,fun _ _ _ q=>q,fun _ ps q=>⟨#[],by rw[q];simp⟩⟩
theorem Un.refl:Un fs ex H H h h:=Un.kept fun _ _ q=>q
theorem Un.laid(k:∀ b u,h.get? b=some u->h'.get? b=some u)(hp:h.objs.size<=a)(hn:H a=none):Un fs ex H (upd H a o) h h' where
 keep:=fun b u q _ _ _=>k b u q
 slot:=fun b u q _ _ _=>⟨u.slots,k b u q⟩
 free:=fun b u q n _=>by rw[ay (Nat.ne_of_lt (Nat.lt_of_lt_of_le (Heap.lt_size q) hp))];exact n
 there:=fun b u q _=>⟨u,k b u q⟩
 tups:=fun b xs q=>by rw[ay (aS q hn)];exact q
 l9:=fun b u xs q=>by rw[ay (aS q hn)];exact q
 mL:=fun b ps q=>⟨#[],by rw[ay (aS q hn),q];simp⟩
theorem Un.write(mu:MC (H x))(he:e=x\/H e=some (.own x))(k:∀ b u,b≠e->h.get? b=some u->h'.get? b=some u)(JS:∃ u,h'.get? e=some u):Un fs ex H (upd H x o) h h':=by
 have hx:∀ b,H b=none->b≠x:=fun b n z=>by subst z;rw[n]at mu;exact mu
 have hb:∀ b,H b=none->b≠e:=fun b n z=>by
  subst z;rcases he with r|r
  ·exact hx b n r
  ·rw[n]at r;cases r
 have hm:∀ b u,H b=some u->¬ MC (some u)->b≠x:=fun b u q nm z=>by subst z;rw[q]at mu;exact nm mu
 refine⟨fun b u q n _ _=>k b u (hb b n) q,fun b u q n _ _=>⟨u.slots,k b u (hb b n) q⟩,fun b u q n _=>by rw[ay (hx b n)];exact n,fun b u q _=>?_,
  fun b xs q=>by rw[ay (hm b _ q fun z=>z)];exact q,fun b u xs q=>by rw[ay (hm b _ q fun z=>z)];exact q,fun b ps q=>⟨#[],by rw[ay (hm b _ q fun z=>z),q];simp⟩⟩
 by_cases Ik:b=e
 ·subst Ik;exact JS
 ·exact⟨u,k b u Ik q⟩
end
def JT(h:Heap)(H:Hp):List Addr:=(List.range h.objs.size).filter fun a=>(H a).isSome
def wI(h:Heap)(H:Hp):Heap:=PySem.W.hideAll h (JT h H)
theorem Bc(h:Heap)(H:Hp):(wI h H).objs.size=h.objs.size:=PySem.W.hideAll_size _ _
theorem qG{h:Heap}{H:Hp}{b:Addr}{o:Obj}(e:h.get? b=some o)(n:H b=none):(wI h H).get? b=some o :=
 PySem.W.hideAll_get _ e fun hm=>by
  have q:(H b).isSome=true:=(List.mem_filter.mp hm).2;rw[n]at q;simp at q
theorem FP{h:Heap}{H:Hp}{b:Addr}{o:Obj}(e:(wI h H).get? b=some o):h.get? b=some o/\H b=none:=by
 have e' : h.get? b=some o:=PySem.W.of_hideAll (JT h H) e;refine⟨e',?_⟩;cases q:H b with
 | none=>rfl
 | some x =>
   have hm:b∈JT h H:=List.mem_filter.mpr ⟨List.mem_range.mpr (Heap.lt_size e'),by simp[q]⟩
   have z:(wI h H).get? b=none:=PySem.W.hideAll_none (JT h H) hm;rw[z]at e;cases e
def qu(g h:Heap)(L:Addr):aX:=(List.range h.objs.size).filterMap fun a=>if a=L\/(g.get? a).isSome=true then none else(h.get? a).map fun o=>(a,o)
theorem wJ{g h:Heap}{L a:Addr}{o:Obj}(h1:a≠L)(h2:g.get? a=none)(h3:h.get? a=some o):(a,o)∈qu g h L :=
 List.mem_filterMap.mpr ⟨a,List.mem_range.mpr (Heap.lt_size h3),by simp[h1,h2,h3]⟩
theorem qH{g h:Heap}{L:Addr}{p:Addr×Obj}(hp:p∈qu g h L):p.1≠L/\g.get? p.1=none/\h.get? p.1=some p.2:=by
 obtain⟨b,_,e⟩:=List.mem_filterMap.mp hp
 split at e
 ·cases e
 ·rename_i hn
  cases q:h.get? b with
  | none=>rw[q]at e;simp at e
  | some u =>
    rw[q]at e;simp only[Option.map_some,Option.some.injEq]at e;subst e;refine⟨fun z=>hn (.inl z),?_,q⟩
    show g.get? b=none;cases r:g.get? b with
    | none=>rfl
    | some v=>exact(hn (.inr (by simp[r]))).elim
def rest(g h:Heap)(L d:Addr):aX:=(qu g h L).filter fun p=>decide (p.1≠d)
theorem Aj{g h:Heap}{L d:Addr}:∀ p∈rest g h L d,p.1≠d:=fun p hp=>jw (List.mem_filter.mp hp).2
theorem C8{g h:Heap}{L d a:Addr}{o:Obj}(h1:a≠L)(h2:g.get? a=none)(h3:h.get? a=some o)(h4:a≠d):(a,o)∈rest g h L d :=
 List.mem_filter.mpr ⟨wJ h1 h2 h3,cN h4⟩
theorem C9{g h:Heap}{L:Addr}:News g L h (qu g h L):=fun p hp=>let⟨a,b,c⟩:=qH hp;⟨c,a,b⟩
theorem nc{g h h' : Heap}{L d:Addr}{m:kK}(k:∀ b o,g.get? b=some o->h.get? b=some o)(F:Fr g L h' m)(N:News g L h' (rest g h L d)):
 ∀ b o,b≠L->b≠d->h.get? b=some o->h'.get? b=some o:=fun b o h1 h2 e=>by
 cases q:g.get? b with
 | some u =>
   have:=k b u q;rw[e]at this;cases this;exact F.keep b _ q
 | none=>exact(N (b,o) (C8 h1 q e h2)).1
structure Mod(K:bI)(mg:kK)(base:Heap):Prop where
 MD:K.In base
 glob:base.Ns mainGlobals mg
 blt:∃ mb,base.Ns builtinsNs mb/\∀ x:Str,x≠"__name__"->mb x=bootBuiltins x
 nolimit:base.NoLimit
 bmain:∃ bm ob,mg "__builtins__"=some (.ref bm)/\bm≠builtinsNs/\base.get? bm=some ob/\ob.cls = .type "module"/\ob.dict=some builtinsNs/\ob.data = .plain
structure Cx where
 prog:Program
 w:World
 K:bI
 mg:Str->Option Value
 base:Heap
 A:Around
 N:List Str
 s₀:Shared
 H₀:Hp
 env:Env
 outer:List Env
 stack:List Env
 ex:List Addr
 fn:Str->Bool
 calm:Bool
 pn:aX
 xe:Value->Shared->Prop
def frs(l:List Env):List Addr:=l.filterMap (·.frame)
abbrev Cx.fs(X:Cx):List Addr:=frs X.outer
def ME(sc:Scope)(x:Str):Prop:=sc.names.lookup x=some .local\/sc.names.lookup x=some .cell\/sc.names.lookup x=some .free
def Loc(sc:Scope)(x:Str):Prop:=sc.names.lookup x=some .local\/sc.names.lookup x=some .cell
def Look(env:Env)(h:Heap)(m:kK)(x:Str)(u:Value):Prop :=
 (env.kindOf x=some .local/\m x=some u)\/((env.kindOf x=some .cell\/env.kindOf x=some .free)/\∃ c,env.cells.lookup x=some c/\h.IsCell c (some u))
structure Cx.Ok(X:Cx):Prop where
 mod:Mod X.K X.mg X.base
 kind:X.env.scope.kind = .function
 glob:X.env.globals=mainGlobals
 blt:X.env.builtins=builtinsNs
 above:X.s₀.heap.objs.size<=X.env.locals
 inj:∀ x y c,X.env.cells.lookup x=some c->X.env.cells.lookup y=some c->x=y
 has:∀ x,(X.env.kindOf x=some .cell\/X.env.kindOf x=some .free)->∃ c,X.env.cells.lookup x=some c
 Kq:∀ x c,X.fn x=true->X.env.cells.lookup x=some c->X.s₀.heap.objs.size<=c
 hd:X.calm=true->X.A.handled=none
 frames:X.A.frames=some X.stack
 FQ:X.stack=X.outer\/(X.stack=X.env::X.outer/\X.env.frame=some X.env.locals)
 OZ:∀ b∈X.ex,b≠X.env.locals/\∀ x c,X.env.cells.lookup x=some c->c≠b
 bs:∀ b o,X.base.get? b=some o->X.s₀.heap.get? b=some o/\X.H₀ b=none
 FT:X.base.objs.size<=X.s₀.heap.objs.size
 Dd:∀ b o,X.base.get? b=some o->b∉X.ex
 FU:∀ b∈X.ex,b∉X.fs
 funs:X.s₀.heap.FunFrames X.base X.outer
 Il:∀ b∈X.fs,X.H₀ b=none
structure Inv(X:Cx)(pq:aX)(σ:List (Option V))(H:Hp)(s:Shared):Prop where
 ok:X.Ok
 os:s.os=X.s₀.os
 bare:AllBare s.gens
 base:Un X.fs X.ex X.H₀ H X.s₀.heap s.heap
 loc:∃ m,s.heap.Ns X.env.locals m/\∀(i:Nat) (x:Str) (v:V),X.N[i]?=some x->σ[i]?=some (some v)->ME X.env.scope x->∃ u,RelV v u/\Look X.env s.heap m x u
 cell:∀ x c,X.env.cells.lookup x=some c->∃ v,s.heap.IsCell c v
 free:H X.env.locals=none
 gO:∀ x c,X.env.cells.lookup x=some c->H c=none
 pin:∀ p∈X.pn++pq,s.heap.get? p.1=some p.2/\H p.1=none/\p.1≠X.env.locals/\p.1∉X.fs/\∀ v,p.2.data≠.cell v
 hok:m9 X.prog X.w H s.heap
 len:σ.length=X.N.length
section
variable {X:Cx}{pq:aX}{σ:List (Option V)}{H H' : Hp}{s:Shared}{h' : Heap}
theorem Cx.Ok.Np(ok:X.Ok){b:Addr}{o:Obj}(e:X.base.get? b=some o):b∉X.fs:=fun hb=>by
 have:=(ok.funs.mem hb).1;rw[e]at this;cases this
theorem Inv.bs(I:Inv X pq σ H s):∀ b o,X.base.get? b=some o->s.heap.get? b=some o/\H b=none:=fun b o e =>
 ⟨I.base.keep b o (I.ok.bs b o e).1 (I.ok.bs b o e).2 (I.ok.Np e) (I.ok.Dd b o e),I.base.free b o (I.ok.bs b o e).1 (I.ok.bs b o e).2 (I.ok.Dd b o e)⟩
theorem Inv.bk(I:Inv X pq σ H s):∀ b o,X.base.get? b=some o->s.heap.get? b=some o:=fun b o e=>(I.bs b o e).1
theorem Inv.mod(I:Inv X pq σ H s):Mod X.K X.mg X.base:=I.ok.mod
theorem Inv.wF(I:Inv X pq σ H s):X.K.In s.heap:=I.ok.mod.MD.keeps I.bk
theorem Inv.nolimit(I:Inv X pq σ H s):s.heap.NoLimit:=I.ok.mod.nolimit.keeps I.bk
theorem Inv.fr(I:Inv X pq σ H s):∃ m,Fr X.base X.env.locals s.heap m :=
 let⟨m,hn,_⟩:=I.loc
 ⟨m,hn,I.bk,Nat.le_trans I.ok.FT I.ok.above⟩
theorem Inv.lt(I:Inv X pq σ H s):X.env.locals<s.heap.objs.size:=let⟨_,hn,_⟩:=I.loc;hn.lt
theorem Inv.sz(I:Inv X pq σ H s):X.s₀.heap.objs.size<=s.heap.objs.size:=Nat.le_trans I.ok.above (Nat.le_of_lt I.lt)
theorem Inv.Ks(I:Inv X pq σ H s){a:Addr}(h:s.heap.objs.size<=a):a∉X.fs:=fun hb=>by
 obtain⟨_,o,ho,_⟩:=I.ok.funs.mem hb;exact absurd (Nat.lt_of_lt_of_le (Heap.lt_size ho) (Nat.le_trans I.sz h)) (Nat.lt_irrefl _)
theorem Inv.Im(I:Inv X pq σ H s):∀ x c,X.env.cells.lookup x=some c->c≠X.env.locals:=fun x c e z=>by
 obtain⟨v,o,ho,hd⟩:=I.cell x c e;obtain⟨m,⟨o',es,ep,ho',hd',_⟩,_⟩:=I.loc;rw[z,ho']at ho;cases ho;rw[hd']at hd;cases hd
theorem Inv.funs(I:Inv X pq σ H s):s.heap.FunFrames X.base X.outer:=by
 have all:∀(l:List Env),(∀ b∈frs l,b∈X.fs)->X.s₀.heap.FunFrames X.base l->s.heap.FunFrames X.base l:=by
  intro l
  induction l with
  | nil=>intro _ _;trivial
  | cons env r ih =>
    intro hs hl;obtain⟨hk,⟨L,o,hf,hn,ho,hd⟩,hr⟩:=hl;have hL:L∈X.fs:=hs L (by unfold frs;rw[List.filterMap_cons,hf];exact List.mem_cons_self)
    obtain⟨sl,e⟩:=I.base.slot L o ho (I.ok.Il L hL) hL fun z=>I.ok.FU L z hL
    exact⟨hk,⟨L,_,hf,hn,e,hd⟩,ih (fun b hb=>hs b (by unfold frs;rw[List.filterMap_cons,hf];exact lJ _ hb)) hr⟩
 exact all X.outer (fun _ hb=>hb) I.ok.funs
theorem Inv.stack(I:Inv X pq σ H s):s.heap.FunFrames X.base X.stack:=by
 rcases I.ok.FQ with e|⟨e,hf⟩
 ·rw[e];exact I.funs
 ·rw[e];obtain⟨m,hn,_⟩:=I.loc;refine .cons (by rw[I.ok.kind];decide) hf hn ?_ I.funs
  exact Heap.get?_none_of_le (Nat.le_trans I.ok.FT I.ok.above)
theorem Inv.qI(I:Inv X pq σ H s):∀ b∈frs X.stack,b∈X.env.locals::X.fs:=fun b hb=>by
 rcases I.ok.FQ with e|⟨e,hf⟩
 ·rw[e]at hb;exact lJ _ hb
 ·rw[e]at hb;unfold frs at hb;rw[List.filterMap_cons,hf]at hb;exact hb
theorem Inv.uN(I:Inv X pq σ H s):∀ b∈frs X.stack,H b=none:=fun b hb=>by
 rcases List.mem_cons.mp (I.qI b hb) with e|hb
 ·rw[e];exact I.free
 ·obtain⟨_,o,ho,_⟩:=I.ok.funs.mem hb;exact I.base.free b o ho (I.ok.Il b hb) fun z=>I.ok.FU b z hb
theorem Inv.step{g' : Array GenState}{t' : Nat}{d' : Drawn}{ch:List Addr}(I:Inv X pq σ H s)
 (hch:∀ b∈ch,(b∈X.ex\/X.s₀.heap.objs.size<=b)/\b≠X.env.locals/\(∀ x c,X.env.cells.lookup x=some c->c≠b)/\∀ p∈X.pn++pq,p.1≠b)
 (keep:∀ b o,b≠X.env.locals->b∉X.fs->b∉ch->s.heap.get? b=some o->H b=none->h'.get? b=some o)
 (slot:∀ b o,b≠X.env.locals->b∈X.fs->b∉ch->s.heap.get? b=some o->H b=none->∃ sl,h'.get? b=some { o with slots:=sl}) (free:∀ b o,b∉ch->s.heap.get? b=some o->H b=none->H' b=none)
 (there:∀ b o,b∉ch->s.heap.get? b=some o->∃ o',h'.get? b=some o')
 (tups:∀ b xs,H b=some (.tup xs)->H' b=some (.tup xs)) (l9:∀ b o u,H b=some (.pU o u)->H' b=some (.pU o u)) (mL:∀ b ps,H b=some (.kH ps)->∃ more,H' b=some (.kH (ps++more)))
 (ns:∀ m,s.heap.Ns X.env.locals m->h'.Ns X.env.locals m) (hok:m9 X.prog X.w H' h') (hg:AllBare g') :
 Inv X pq σ H' { s with heap:=h',gens:=g',drawn:=d',toks:=t'}:=by
 have O0:∀ b o,X.s₀.heap.get? b=some o->b≠X.env.locals:=fun b o e=>Nat.ne_of_lt (Nat.lt_of_lt_of_le (Heap.lt_size e) I.ok.above)
 have MF:∀ b o,X.s₀.heap.get? b=some o->b∉X.ex->b∉ch:=fun b o e hx hb=>by
  rcases(hch b hb).1 with z|z
  ·exact hx z
  ·exact absurd (Nat.lt_of_lt_of_le (Heap.lt_size e) z) (Nat.lt_irrefl _)
 have cellK:∀ x c,X.env.cells.lookup x=some c->∀ v,s.heap.IsCell c v->h'.IsCell c v:=fun x c e v ⟨o,ho,hd⟩=>by
  have Ku:c∉ch:=fun z=>(hch c z).2.2.1 x c e rfl
  by_cases hc:c∈X.fs
  ·obtain⟨sl,q⟩:=slot c o (I.Im x c e) hc Ku ho (I.gO x c e);exact⟨_,q,hd⟩
  ·exact⟨o,keep c o (I.Im x c e) hc Ku ho (I.gO x c e),hd⟩
 refine⟨I.ok,I.os,hg,⟨fun b o e n hb hx=>?_,fun b o e n hb hx=>?_,fun b o e n hx=>?_,fun b o e hx=>?_,fun b xs e=>tups b xs (I.base.tups b xs e),fun b o xs e=>l9 b o xs (I.base.l9 b o xs e),fun b ps e=>?_⟩,?_,fun x c e=>?_,?_,fun x c e=>?_,fun p hp=>?_,hok,I.len⟩
 ·exact keep b o (O0 b o e) hb (MF b o e hx) (I.base.keep b o e n hb hx) (I.base.free b o e n hx)
 ·obtain⟨sl,e1⟩:=I.base.slot b o e n hb hx;obtain⟨MG,e2⟩:=slot b _ (O0 b o e) hb (MF b o e hx) e1 (I.base.free b o e n hx);exact⟨MG,e2⟩
 ·obtain⟨o',e1⟩:=I.base.there b o e hx;exact free b o' (MF b o e hx) e1 (I.base.free b o e n hx)
 ·obtain⟨o',e1⟩:=I.base.there b o e hx;exact there b o' (MF b o e hx) e1
 ·obtain⟨m1,e1⟩:=I.base.mL b ps e;obtain⟨m2,e2⟩:=mL b _ e1;exact⟨m1++m2,by rw[e2,Array.append_assoc]⟩
 ·obtain⟨m,hn,hl⟩:=I.loc;refine⟨m,ns m hn,fun i x v e1 e2 e3=>?_⟩
  obtain⟨u,r,l⟩:=hl i x v e1 e2 e3;refine⟨u,r,?_⟩;rcases l with l|⟨k,c,e,z⟩
  ·exact .inl l
  ·exact .inr ⟨k,c,e,cellK x c e _ z⟩
 ·obtain⟨v,z⟩:=I.cell x c e;exact⟨v,cellK x c e v z⟩
 ·obtain⟨m,⟨o,_,_,ho,_⟩,_⟩:=I.loc;exact free _ o (fun z=>(hch _ z).2.1 rfl) ho I.free
 ·obtain⟨v,o,ho,hd⟩:=I.cell x c e;exact free c o (fun z=>(hch c z).2.2.1 x c e rfl) ho (I.gO x c e)
 ·obtain⟨e,n,ne,nf,d⟩:=I.pin p hp;have Ku:p.1∉ch:=fun z=>(hch p.1 z).2.2.2 p hp rfl
  exact⟨keep p.1 p.2 ne nf Ku e n,free p.1 p.2 Ku e n,ne,nf,d⟩
theorem Inv.un{t' : Nat}(I:Inv X pq σ H s)(u:Un X.fs [] H H' s.heap h')(hok:m9 X.prog X.w H' h'):Inv X pq σ H' { s with heap:=h',toks:=t'}:=by
 obtain⟨m,⟨o,es,ep,ho,r⟩,_⟩:=id I.loc;obtain⟨sl,hL⟩:=u.any ho I.free (by simp)
 exact I.step (g':=s.gens) (d':=s.drawn) (ch:=[]) (fun _ z=>nomatch z) (fun b o _ hb _ e n=>u.keep b o e n hb (by simp)) (fun b o _ hb _ e n=>u.slot b o e n hb (by simp)) (fun b o _ e n=>u.free b o e n (by simp)) (fun b o _ e=>u.there b o e (by simp)) u.tups u.l9 u.mL (fun m' hm=>by
  obtain⟨o',es',MH,ho',r'⟩:=hm;rw[ho]at ho';cases ho';exact⟨_,es',MH,hL,r'⟩) hok I.bare
theorem Inv.call{g' : Array GenState}{t' : Nat}{d' : Drawn}{ch:List Addr}(I:Inv X pq σ H s)(u:Un (frs X.stack) ch H H' s.heap h')(hok:m9 X.prog X.w H' h')(hg:AllBare g')
 (hch:∀ b∈ch,(b∈X.ex\/X.s₀.heap.objs.size<=b)/\b≠X.env.locals/\(∀ x c,X.env.cells.lookup x=some c->c≠b)/\∀ p∈X.pn++pq,p.1≠b) :
 Inv X pq σ H' { s with heap:=h',gens:=g',drawn:=d',toks:=t'}:=by
 obtain⟨m,⟨o,es,ep,ho,r⟩,_⟩:=id I.loc;obtain⟨sl,hL⟩:=u.any ho I.free fun z=>(hch _ z).2.1 rfl
 exact I.step (ch:=ch) hch (fun b o hL hb hc e n=>u.keep b o e n (fun z=>(List.mem_cons.mp (I.qI b z)).elim hL hb) hc) (fun b o _ _ hc e n=>u.any e n hc) (fun b o hc e n=>u.free b o e n hc) (fun b o hc e=>u.there b o e hc) u.tups u.l9 u.mL (fun m' hm=>by
  obtain⟨o',es',MH,ho',r'⟩:=hm;rw[ho]at ho';cases ho';exact⟨_,es',MH,hL,r'⟩) hok hg
theorem Inv.turned{t' : Nat}{it:Addr}(I:Inv X pq σ H s)(k:∀ b o,b≠it->s.heap.get? b=some o->h'.get? b=some o)(hn:H it=none)(hL:it≠X.env.locals)
 (h1:it∈X.ex\/X.s₀.heap.objs.size<=it) (h2:∀ x c,X.env.cells.lookup x=some c->c≠it) (h3:∀ p∈X.pn++pq,p.1≠it):Inv X pq σ H { s with heap:=h',toks:=t'}:=by
 have O1:∀ b u,H b=some u->b≠it:=fun b u e z=>by rw[z,hn]at e;cases e
 refine I.step (g':=s.gens) (d':=s.drawn) (ch:=[it]) (fun b hb=>?_) (fun b o _ _ hc e _=>k b o (fun z=>hc (by simp[z])) e) (fun b o _ _ hc e _=>⟨o.slots,k b o (fun z=>hc (by simp[z])) e⟩) (fun _ _ _ _ n=>n)
  (fun b o hc e=>⟨o,k b o (fun z=>hc (by simp[z])) e⟩) (fun _ _ e=>e) (fun _ _ _ e=>e) (fun b ps e=>⟨#[],by rw[e];simp⟩) (fun m hm=>?_) (fun b u e=>?_) I.bare
 ·have e:b=it:=by simpa using hb
  subst e;exact⟨h1,hL,h2,h3⟩
 ·obtain⟨o,es,ep,ho,r⟩:=hm;exact⟨o,es,ep,k _ o (Ne.symm hL) ho,r⟩
 ·refine(I.hok b u e).stay (fun c v hc q=>k c v ?_ q) (fun _ q=>q) fun _ _ q=>q
  rcases hc with z|z
  ·rw[z];exact O1 b u e
  ·exact O1 c _ z
theorem Inv.tok(I:Inv X pq σ H s)(t:Nat):Inv X pq σ H { s with toks:=t}:=I.un (h':=s.heap) (t':=t) Un.refl I.hok
theorem Inv.kept{t' : Nat}(I:Inv X pq σ H s)(k:∀ b u,s.heap.get? b=some u->h'.get? b=some u):Inv X pq σ H { s with heap:=h',toks:=t'}:=I.un (Un.kept k) (I.hok.kept k)
theorem Inv.laid{a:Addr}{o:HO}{t' : Nat}(I:Inv X pq σ H s)(k:∀ b u,s.heap.get? b=some u->h'.get? b=some u)(hp:s.heap.objs.size<=a)(new:bR X.prog X.w (upd H a o) h' a o):
 Inv X pq σ (upd H a o) { s with heap:=h',toks:=t'}:=I.un (Un.laid k hp (I.hok.fresh hp)) (I.hok.laid k hp new)
theorem Inv.write{x e:Addr}{o:HO}{t' : Nat}(I:Inv X pq σ H s)(mu:MC (H x))(he:e=x\/H e=some (.own x))(k:∀ b u,b≠e->s.heap.get? b=some u->h'.get? b=some u)(JS:∃ u,h'.get? e=some u)
 (new:bR X.prog X.w (upd H x o) h' x o):Inv X pq σ (upd H x o) { s with heap:=h',toks:=t'}:=I.un (Un.write mu he k JS) (I.hok.write mu he k JS new)
theorem Inv.weak{σ' : List (Option V)}(I:Inv X pq σ H s)(hl:σ'.length=σ.length)(w:∀(i:Nat) v,σ'[i]?=some (some v)->σ[i]?=some (some v)):Inv X pq σ' H s :=
 ⟨I.ok,I.os,I.bare,I.base,let⟨m,hn,hl'⟩:=I.loc;⟨m,hn,fun i x v e1 e2 e3=>hl' i x v e1 (w i v e2) e3⟩,I.cell,I.free,I.gO,I.pin,I.hok,hl.trans I.len⟩
theorem Inv.g7{MI:aX}(I:Inv X pq σ H s)(h:∀ p∈MI,s.heap.get? p.1=some p.2/\H p.1=none/\p.1≠X.env.locals/\p.1∉X.fs/\∀ v,p.2.data≠.cell v):Inv X MI σ H s :=
 ⟨I.ok,I.os,I.bare,I.base,I.loc,I.cell,I.free,I.gO,fun p hp=>(List.mem_append.mp hp).elim (fun z=>I.pin p (List.mem_append_left _ z)) (h p),I.hok,I.len⟩
theorem wK{N:List Str}(hN:N.Nodup){i j:Nat}{x:Str}(a:N[i]?=some x)(b:N[j]?=some x):i=j:=by
 obtain⟨h1,e1⟩:=oA.mp a;obtain⟨h2,e2⟩:=oA.mp b;exact(List.getElem_inj hN).mp (e1.trans e2.symm)
theorem Bd{M:Model}{A:Around}{E:gU}{i:Nat}{x:Str}{v:V}{u:Value}{Q:Unit->Shared->Prop}(I:Inv X pq σ H s)(hN:X.N.Nodup)(hi:X.N[i]?=some x)(hx:Loc X.env.scope x)(r:RelV v u)
 (h:∀ s',Inv X pq (σ.set i (some v)) H s'->(∃ a,Heap.SameBut a s.heap s'.heap/\(a=X.env.locals\/X.env.cells.lookup x=some a))->Q () s') (hf:X.fn x=true\/X.env.scope.names.lookup x=some .local:=by first | exact .inl rfl | exact .inr rfl | assumption):wpAny M A (storeName X.env x u) Q E s:=by
 obtain⟨m,hn,hl⟩:=id I.loc;have hcls:(X.env.scope.kind == .class || (X.env.scope.kind == .module&&X.env.locals != X.env.globals))=false:=by rw[I.ok.kind];rfl
 have O2:i<σ.length:=by rw[I.len];exact(oA.mp hi).1
 have Im:=I.Im;have tracked:∀{a:Addr} {h' : Heap},(∃ o,s.heap.get? a=some o/\H a=none)->Heap.SameBut a s.heap h'->m9 X.prog X.w H h':=fun {a h'} ha hs b ob e=>by
  obtain⟨_,_,hfree⟩:=ha;refine(I.hok b ob e).stay (fun c w' hc q=>(hs.2 c ?_).trans q) (fun _ q=>q) fun _ _ q=>q
  rintro rfl;rcases hc with rfl|hc
  ·rw[hfree]at e;cases e
  ·rw[hfree]at hc;cases hc
 rcases hx with hk|hk
 ·refine wpAny_storeName_local hk hn (fun h' hn' hs=>?_) hcls
  obtain⟨oL,_,_,yw,_⟩:=id hn;refine h _ ⟨I.ok,I.os,I.bare,⟨fun b o e n hb hx=>?_,fun b o e n hb hx=>?_,I.base.free,fun b o e hx=>?_,I.base.tups,I.base.l9,I.base.mL⟩,⟨_,hn',fun j y v' e1 e2 e3=>?_⟩,fun y c e=>?_,I.free,I.gO,fun p hp=>?_,tracked ⟨oL,yw,I.free⟩ hs,by simpa using I.len⟩ ⟨_,hs,.inl rfl⟩
  ·exact(hs.2 b (Nat.ne_of_lt (Nat.lt_of_lt_of_le (Heap.lt_size e) I.ok.above))).trans (I.base.keep b o e n hb hx)
  ·obtain⟨sl,e1⟩:=I.base.slot b o e n hb hx;exact⟨sl,(hs.2 b (Nat.ne_of_lt (Nat.lt_of_lt_of_le (Heap.lt_size e) I.ok.above))).trans e1⟩
  ·obtain⟨o',e1⟩:=I.base.there b o e hx;exact⟨o',(hs.2 b (Nat.ne_of_lt (Nat.lt_of_lt_of_le (Heap.lt_size e) I.ok.above))).trans e1⟩
  ·by_cases hj:j=i
   ·subst hj;rw[hi]at e1;cases e1;rw[List.getElem?_set_self O2]at e2;cases e2;exact⟨u,r,.inl ⟨hk,by simp⟩⟩
   ·rw[List.getElem?_set_ne (Ne.symm hj)]at e2;obtain⟨u',r',q⟩:=hl j y v' e1 e2 e3;refine⟨u',r',?_⟩;rcases q with⟨k,e⟩|⟨k,c,e,z⟩
    ·refine .inl ⟨k,?_⟩;have:y≠x:=fun e=>hj (wK hN e1 (e▸hi))
     simp[this,e]
    ·exact .inr ⟨k,c,e,z.sameBut hs (Im y c e)⟩
  ·obtain⟨w',z⟩:=I.cell y c e;exact⟨w',z.sameBut hs (Im y c e)⟩
  ·obtain⟨e,n,ne,nf,d⟩:=I.pin p hp;exact⟨(hs.2 p.1 ne).trans e,n,ne,nf,d⟩
 ·have hfn:X.fn x=true:=by
   rcases hf with z|z
   ·exact z
   ·rw[z]at hk;cases hk
  obtain⟨c,hc⟩:=I.ok.has x (.inl hk);obtain⟨w',z⟩:=I.cell x c hc;refine wpAny_storeName_cell I.ok.kind hk hc z (fun h' hc' hs=>?_)
  obtain⟨oc,hoc,Nq⟩:=id z;refine h { s with heap:=h'} ⟨I.ok,I.os,I.bare,⟨fun b o e n hb hx=>?_,fun b o e n hb hx=>?_,I.base.free,fun b o e hx=>?_,I.base.tups,I.base.l9,I.base.mL⟩,⟨m,hn.sameBut hs (Ne.symm (Im x c hc)),fun j y v' e1 e2 e3=>?_⟩,fun y c' e=>?_,I.free,I.gO,fun p hp=>?_,tracked ⟨oc,hoc,I.gO x c hc⟩ hs,by simpa using I.len⟩ ⟨c,hs,.inr hc⟩
  ·exact(hs.2 b (Nat.ne_of_lt (Nat.lt_of_lt_of_le (Heap.lt_size e) (I.ok.Kq x c hfn hc)))).trans (I.base.keep b o e n hb hx)
  ·obtain⟨sl,e1⟩:=I.base.slot b o e n hb hx;exact⟨sl,(hs.2 b (Nat.ne_of_lt (Nat.lt_of_lt_of_le (Heap.lt_size e) (I.ok.Kq x c hfn hc)))).trans e1⟩
  ·obtain⟨o',e1⟩:=I.base.there b o e hx;exact⟨o',(hs.2 b (Nat.ne_of_lt (Nat.lt_of_lt_of_le (Heap.lt_size e) (I.ok.Kq x c hfn hc)))).trans e1⟩
  ·by_cases hj:j=i
   ·subst hj;rw[hi]at e1;cases e1;rw[List.getElem?_set_self O2]at e2;cases e2;exact⟨u,r,.inr ⟨.inl hk,c,hc,hc'⟩⟩
   ·rw[List.getElem?_set_ne (Ne.symm hj)]at e2;obtain⟨u',r',q⟩:=hl j y v' e1 e2 e3;refine⟨u',r',?_⟩;rcases q with q|⟨k,c',e,z'⟩
    ·exact .inl q
    ·refine .inr ⟨k,c',e,z'.sameBut hs ?_⟩;rintro rfl;exact hj (wK hN e1 (I.ok.inj _ _ _ e hc▸hi))
  ·by_cases hcc:c' = c
   ·subst hcc;exact⟨_,hc'⟩
   ·obtain⟨w2,z2⟩:=I.cell y c' e;exact⟨w2,z2.sameBut hs hcc⟩
  ·obtain⟨e,n,ne,nf,d⟩:=I.pin p hp;refine⟨(hs.2 p.1 ?_).trans e,n,ne,nf,d⟩;intro q;rw[q,hoc]at e;have q' : oc=p.2:=Option.some.inj e;exact d w' (by rw[<-q'];exact Nq)
theorem ng{M:Model}{A:Around}{E:gU}{i:Nat}{x:Str}{v:V}{u:Value}{Q:Unit->Shared->Prop}(I:Inv X pq σ H s)(hN:X.N.Nodup)(hi:X.N[i]?=some x)(hx:Loc X.env.scope x)(r:RelV v u)
 (h:∀ s',Inv X pq (σ.set i (some v)) H s'->Q () s') (hf:X.fn x=true\/X.env.scope.names.lookup x=some .local:=by first | exact .inl rfl | exact .inr rfl | assumption):wpAny M A (storeName X.env x u) Q E s :=
 Bd I hN hi hx r (fun s' I' _=>h s' I') hf
theorem Inv.De{s' : Shared}{ch:List Addr}(I:Inv X pq σ H s)(ho:s'.os=s.os)(u:Un (frs X.stack) ch H H' s.heap s'.heap)(hok:m9 X.prog X.w H' s'.heap)(hg:AllBare s'.gens)
 (hch:∀ b∈ch,(b∈X.ex\/X.s₀.heap.objs.size<=b)/\b≠X.env.locals/\(∀ x c,X.env.cells.lookup x=some c->c≠b)/\∀ p∈X.pn++pq,p.1≠b):Inv X pq σ H' s':=by
 obtain⟨h',g',d',t',o'⟩:=s';have e:o' = s.os:=ho;subst e;exact I.call (g':=g') (t':=t') (d':=d') u hok hg hch
end
abbrev XK:=Value->Option Addr->Hp->Prop
abbrev St:=List (Option V)
abbrev VK:=V->Hp->Prop
abbrev TE:=St->Hp->VK->Prop
abbrev TT:=St->Hp->(Bool->Hp->Prop)->Prop
abbrev TA:=St->Hp->(List V->Hp->Prop)->Prop
structure Ends where
 nx:St->Hp->Prop
 rt:VK
 bk:St->Hp->Prop:=fun _ _=>False
 ct:St->Hp->Prop:=fun _ _=>False
abbrev TS:=Ends->St->Hp->Prop
def EP(X:Cx)(pq:aX)(σ:St)(Q:VK)(u:Value)(s' : Shared):Prop:=∃ v H',Inv X pq σ H' s'/\RelV v u/\Q v H'
def TP(X:Cx)(pq:aX)(σ:St)(Q:Bool->Hp->Prop)(b:Bool)(s' : Shared):Prop:=∃ H',Inv X pq σ H' s'/\Q b H'
def AP(X:Cx)(pq:aX)(σ:St)(Q:List V->Hp->Prop)(us:List Value)(s' : Shared):Prop:=∃ vs H',Inv X pq σ H' s'/\Vals vs us/\Q vs H'
def SP(X:Cx)(pq:aX)(D:Ends)(f:Flow)(s' : Shared):Prop :=
 match f with
 | .next=>∃ σ' H',Inv X pq σ' H' s'/\D.nx σ' H'
 | .brk=>∃ σ' H',Inv X pq σ' H' s'/\D.bk σ' H'
 | .cont=>∃ σ' H',Inv X pq σ' H' s'/\D.ct σ' H'
 | .ret u=>∃ v σ' H',Inv X pq σ' H' s'/\RelV v u/\D.rt v H'
def PE(X:Cx)(e:Expr)(t:TE):Prop :=
 ∀(pq:aX) (s:Shared) (σ:St) (H:Hp) (Q:VK),Inv X pq σ H s->t σ H Q->wpAny (model X.prog X.w) X.A (eval e X.env) (EP X pq σ Q) X.xe s
def PT(X:Cx)(e:Expr)(t:TT):Prop :=
 ∀(pq:aX) (s:Shared) (σ:St) (H:Hp) (Q:Bool->Hp->Prop),Inv X pq σ H s->t σ H Q->wpAny (model X.prog X.w) X.A (isTrue e X.env (eval e X.env)) (TP X pq σ Q) X.xe s
def PW(X:Cx)(e:Expr)(t:TT):Prop :=
 ∀(whole:Sem Value) (pq:aX) (s:Shared) (σ:St) (H:Hp) (Q:Bool->Hp->Prop),Inv X pq σ H s->t σ H Q->wpAny (model X.prog X.w) X.A (isTrue e X.env whole) (TP X pq σ Q) X.xe s
theorem PW.pt{X:Cx}{e:Expr}{t:TT}(h:PW X e t):PT X e t:=h _
def PA(X:Cx)(es:List Expr)(t:TA):Prop :=
 ∀(pos:Pos) (pq:aX) (s:Shared) (σ:St) (H:Hp) (Q:List V->Hp->Prop),Inv X pq σ H s->t σ H Q->wpAny (model X.prog X.w) X.A (spliced (backTo pos (starEach es X.env))) (AP X pq σ Q) X.xe s
def PS(X:Cx)(st:Stmt)(t:TS):Prop :=
 ∀(pq:aX) (s:Shared) (σ:St) (H:Hp) (D:Ends),Inv X pq σ H s->t D σ H->wpAny (model X.prog X.w) X.A (exec st X.env) (SP X pq D) X.xe s
def uO(X:Cx)(st:List Stmt)(t:TS):Prop :=
 ∀(pq:aX) (s:Shared) (σ:St) (H:Hp) (D:Ends),Inv X pq σ H s->t D σ H->wpAny (model X.prog X.w) X.A (execs st X.env) (SP X pq D) X.xe s
theorem eR{α:Type}{t:Sem α}{Q Q' : α->Shared->Prop}{M:Model}{A:Around}{E:gU}{s:Shared}(h:wpAny M A t Q E s)(hQ:∀ a s,Q a s->Q' a s):wpAny M A t Q' E s:=wpAny_mono h hQ fun _ _ x=>x
section
variable {X:Cx}
def Kv(i:Nat):TE:=fun σ H Q=>∃ v,σ[i]?=some (some v)/\Q v H
def tC(v:V):TE:=fun _ H Q=>Q v H
theorem Io{i:Nat}{x:Str}{pos:Pos}(hN:X.N[i]?=some x)(hv:ME X.env.scope x)(hd:(x==("__debug__":Str))=false:=by decide)(hcd:(x==("__classdict__":Str))=false:=by decide):PE X (.Name x pos) (Kv i):=by
 intro pq s σ H Q I h;obtain⟨v,e,h⟩:=h;obtain⟨m,hn,hl⟩:=I.loc;obtain⟨u,r,l⟩:=hl i x v hN e hv;have fin:EP X pq σ Q u s:=⟨v,H,I,r,h⟩;rcases l with⟨hk,hm⟩|⟨hk,c,hc,hcell⟩
 ·exact wpAny_Name (wpAny_loadName_local I.ok.kind hk hn hm fin) hd
 ·rcases hk with hk|hk
  ·exact wpAny_Name (wpAny_loadName_cell I.ok.kind hk hc hcell fin) hd
  ·exact wpAny_Name (wpAny_loadName_free I.ok.kind hk hc hcell fin hcd) hd
theorem ah{i j pos}:PE X (.Constant (.int i) j pos) (tC (.int i)):=fun _ _ _ H _ I h=>wpAny_Constant_int ⟨.int i,H,I.tok _,⟨_,rfl⟩,h⟩
theorem jx{b j pos}:PE X (.Constant (.bool b) j pos) (tC (.bl b)):=fun _ _ _ H _ I h=>Constant_bool ⟨.bl b,H,I,rfl,h⟩
theorem dZ{x j pos}:PE X (.Constant (.str x) j pos) (tC (.str x)):=fun _ _ _ H _ I h=>Calls.Constant_str ⟨.str x,H,I.tok _,⟨_,rfl⟩,h⟩
def Gl(X:Cx)(x:Str):Prop:=X.env.kindOf x=some .globalImplicit
theorem uP{E:gU}{pq:aX}{s:Shared}{σ:St}{H:Hp}{x:Str}{u:Value}{pos:Pos}{Q:gU}(I:Inv X pq σ H s)(hg:Gl X x)(hm:X.mg x=some u)(h:Q u s)
 (hd:(x==("__debug__":Str))=false:=by decide):wpAny (model X.prog X.w) X.A (eval (.Name x pos) X.env) Q E s :=
 Calls.Name_function_global I.ok.kind hg (Calls.loadGlobal_global (by rw[I.ok.glob];exact I.mod.glob.keeps I.bk) hm h) hd
theorem ji{E:gU}{pq:aX}{s:Shared}{σ:St}{H:Hp}{x:Str}{u:Value}{pos:Pos}{Q:gU}(I:Inv X pq σ H s)(hg:Gl X x)(hm:X.mg x=none)(hv:bootBuiltins x=some u)(h:Q u s)
 (hn:x≠"__name__":=by decide) (hd:(x==("__debug__":Str))=false:=by decide):wpAny (model X.prog X.w) X.A (eval (.Name x pos) X.env) Q E s:=by
 obtain⟨mb,h1,h2⟩:=I.mod.blt;exact Calls.Name_function_global I.ok.kind hg (Calls.loadGlobal_builtin (by rw[I.ok.glob];exact I.mod.glob.keeps I.bk) hm (by rw[I.ok.blt];exact h1.keeps I.bk) ((h2 x hn).trans hv) h) hd
theorem FW{x:Str}{v:V}{u:Value}{pos:Pos}(hg:Gl X x)(hm:X.mg x=some u)(r:RelV v u)(hd:(x==("__debug__":Str))=false:=by decide):PE X (.Name x pos) (tC v) :=
 fun _ _ _ H _ I h=>uP I hg hm ⟨v,H,I,r,h⟩ hd
theorem FY{x:Str}{v:V}{u:Value}{pos:Pos}(hg:Gl X x)(hm:X.mg x=none)(hv:bootBuiltins x=some u)(r:RelV v u)(hn:x≠"__name__":=by decide)(hd:(x==("__debug__":Str))=false:=by decide):PE X (.Name x pos) (tC v) :=
 fun _ _ _ H _ I h=>ji I hg hm hv ⟨v,H,I,r,h⟩ hn hd
variable {a b:Expr}{ta tb:TE}{pos:Pos}
def tB(t:TE):TT:=fun σ H Q=>t σ H fun x H1=>∃ c,x = .bl c/\Q c H1
theorem cS{e:Expr}{t:TE}(h:PE X e t)(he:∀ whole,isTrue e X.env whole=(do let v←whole;standAt e.pos;holding [v] (truthy v)):=by intro _;rfl):PT X e (tB t):=by
 intro pq s σ H Q I hw;refine isTrue_plain (eR (h pq s σ H _ I hw) fun v s1 ⟨x,H1,I1,r1,q1⟩=>?_) (he _)
 obtain⟨d,rfl,q⟩:=q1;cases r1;exact wpAny_truthy_bool ⟨H1,I1,q⟩
variable {tA MJ:TT}{rest:List Expr}
def Nr(t u:TT):TT:=fun σ H Q=>t σ H fun c H1=>if c=true then u σ H1 Q else Q false H1
def Rh(t u:TT):TT:=fun σ H Q=>t σ H fun c H1=>if c=true then Q true H1 else u σ H1 Q
def Nt(t:TT):TT:=fun σ H Q=>t σ H fun c H1=>Q (!c) H1
theorem lK(ha:PT X a tA):PW X (.BoolOp .And [a] pos) tA:=by
 intro wh pq s σ H Q I h;refine isTrue_and (eR (ha pq s σ H Q I h) fun c s1 e=>?_)
 cases c with
 | true=>exact isTrue_and_nil e
 | false=>exact e
theorem oG(ha:PT X a tA):PW X (.BoolOp .Or [a] pos) tA:=by
 intro wh pq s σ H Q I h;refine isTrue_or (eR (ha pq s σ H Q I h) fun c s1 e=>?_)
 cases c with
 | false=>exact isTrue_or_nil e
 | true=>exact e
theorem oH(ha:PT X a tA)(hb:PW X (.BoolOp .And (b::rest) pos) MJ):PW X (.BoolOp .And (a::b::rest) pos) (Nr tA MJ):=by
 intro wh pq s σ H Q I h;refine isTrue_and (eR (ha pq s σ H _ I h) fun c s1 ⟨H1,I1,q1⟩=>?_)
 cases c with
 | true=>exact hb wh pq s1 σ H1 Q I1 q1
 | false=>exact⟨H1,I1,q1⟩
theorem nh(ha:PT X a tA)(hb:PW X (.BoolOp .Or (b::rest) pos) MJ):PW X (.BoolOp .Or (a::b::rest) pos) (Rh tA MJ):=by
 intro wh pq s σ H Q I h;refine isTrue_or (eR (ha pq s σ H _ I h) fun c s1 ⟨H1,I1,q1⟩=>?_)
 cases c with
 | true=>exact⟨H1,I1,q1⟩
 | false=>exact hb wh pq s1 σ H1 Q I1 q1
theorem jP(ha:PT X a tA):PT X (.UnaryOp .Not a pos) (Nt tA):=by
 intro pq s σ H Q I h;exact isTrue_not (ha pq s σ H (fun c H1=>Q (!c) H1) I h)
def Kw(ta tb:TE):TE:=fun σ H Q=>ta σ H fun x H1=>∃ c,x = .bl c/\if c=true then tb σ H1 Q else Q (.bl false) H1
def Kx(ta:TE):TE:=fun σ H Q=>ta σ H fun x H1=>∃ c,x = .bl c/\Q (.bl (!c)) H1
theorem kL{op}{t:TE}(h:PE X a t):PE X (.BoolOp op [a] pos) t:=fun pq s σ H Q I hw=>BoolOp_one (h pq s σ H Q I hw)
theorem kM(ha:PE X a ta)(hb:PE X (.BoolOp .And (b::rest) pos) tb):PE X (.BoolOp .And (a::b::rest) pos) (Kw ta tb):=by
 intro pq s σ H Q I h;refine BoolOp_and (eR (ha pq s σ H _ I h) fun v s1 ⟨x,H1,I1,r1,q1⟩=>?_)
 obtain⟨c,rfl,q1⟩:=q1;cases r1;refine wpAny_truthy_bool ?_;cases c with
 | true=>exact hb pq s1 σ H1 Q I1 q1
 | false=>exact⟨.bl false,H1,I1,rfl,q1⟩
theorem Df(ha:PE X a ta):PE X (.UnaryOp .Not a pos) (Kx ta):=by
 intro pq s σ H Q I h;refine UnaryOp_ (eR (ha pq s σ H _ I h) fun v s1 ⟨x,H1,I1,r1,q1⟩=>?_)
 obtain⟨c,rfl,q1⟩:=q1;cases r1;exact not_of (wpAny_truthy_bool ⟨.bl (!c),H1,I1,rfl,q1⟩)
def Ri(t:TT)(ta tb:TE):TE:=fun σ H Q=>t σ H fun c H1=>if c=true then ta σ H1 Q else tb σ H1 Q
theorem wL{c:Expr}(hc:PT X c tA)(ha:PE X a ta)(hb:PE X b tb):PE X (.IfExp c a b pos) (Ri tA ta tb):=by
 intro pq s σ H Q I h;refine wpAny_IfExp (eR (hc pq s σ H _ I h) fun d s1 ⟨H1,I1,q1⟩=>?_)
 cases d with
 | true=>exact ha pq s1 σ H1 Q I1 q1
 | false=>exact hb pq s1 σ H1 Q I1 q1
end
def aQ(K:bI)(H:Hp)(a:Addr)(xs:List V):Prop :=
 Rd H a (.lst xs)\/
  ∃(o:Obj) (its:Array Value) (n:Nat),K.lookup a=some o/\o.cls = .type "list"/\o.dict=none/\o.data = .seq its n/\its.size<=sizeLine/\Vals xs its.toList
def aY(K:bI)(H:Hp)(a:Addr)(xs:List V):Prop :=
 Rd H a (.tup xs)\/
  ∃(o:Obj) (its:Array Value) (n:Nat),K.lookup a=some o/\o.cls = .type "tuple"/\o.data = .seq its n/\its.size<=sizeLine/\Vals xs its.toList
def Nu:Value->Option V
 | .none=>some .gh
 | .bool b=>some (.bl b)
 | .int i _=>some (.int i)
 | .str x _=>some (.str x)
 | .bytes b _=>some (.C7 b)
 | .float b _=>some (.JR b)
 | .ref a=>some (.ref a)
 | .type n=>some (.ty n)
 | _=>none
theorem RelV.abs{x:V}{u:Value}(r:RelV x u):Nu u=some x:=by
 cases x with
 | gh=>cases r;rfl
 | bl _=>cases r;rfl
 | int _=>obtain⟨t,rfl⟩:=r;rfl
 | str _=>obtain⟨t,rfl⟩:=r;rfl
 | C7 _=>obtain⟨t,rfl⟩:=r;rfl
 | JR _=>obtain⟨t,rfl⟩:=r;rfl
 | ref _=>cases r;rfl
 | ty _=>cases r;rfl
theorem RelV.inj{x y:V}{u:Value}(r:RelV x u)(q:RelV y u):x=y:=Option.some.inj (r.abs.symm.trans q.abs)
theorem Vals.inj:∀{xs ys:List V} {us:List Value},Vals xs us->Vals ys us->xs=ys
 | _,_,_,.nil,.nil=>rfl
 | _,_,_,.cons r t,.cons r' t'=>by rw[r.inj r',Vals.inj t t']
section
variable {X:Cx}{pq:aX}{σ:St}{H:Hp}{s:Shared}{a:Addr}{xs ys:List V}
theorem aQ.of{K:bI}(h:H a=some (.lst xs)):aQ K H a xs:=.inl (.inl h)
theorem aY.of{K:bI}(h:H a=some (.tup xs)):aY K H a xs:=.inl (.inl h)
theorem Inv.list(I:Inv X pq σ H s)(h:aQ X.K H a xs):∃ its:List Value,Vals xs its/\PlainL s.heap a its.toArray/\xs.length<=sizeLine:=by
 rcases h with h|⟨o,its,n,hk,hc,hd,hs,hz,r⟩
 ·obtain⟨z,its,n,r,e⟩:=h.ok I.hok;exact⟨its,r,⟨_,n,e,rfl,rfl,rfl⟩,z⟩
 ·refine⟨its.toList,r,⟨o,n,I.wF a o hk,hc,hd,by simpa using hs⟩,?_⟩
  have e:=r.length;simp only[Array.length_toList]at e
  lia
theorem Inv.tuple(I:Inv X pq σ H s)(h:aY X.K H a xs):∃ its:List Value,Vals xs its/\IsTup s.heap a its.toArray/\xs.length<=sizeLine:=by
 rcases h with h|⟨o,its,n,hk,hc,hs,hz,r⟩
 ·obtain⟨z,its,r,p⟩:=h.ok I.hok;exact⟨its,r,p,z⟩
 ·refine⟨its.toList,r,⟨o,I.wF a o hk,hc,n,by simpa using hs⟩,?_⟩
  have e:=r.length;simp only[Array.length_toList]at e
  lia
theorem Inv.ni(I:Inv X pq σ H s)(h:aQ X.K H a xs)(h' : aQ X.K H a ys):xs=ys:=by
 obtain⟨its,r,⟨o,n,e,_,_,d⟩,_⟩:=I.list h;obtain⟨its',r',⟨o',n',e',_,_,d'⟩,_⟩:=I.list h';rw[e]at e';cases e';rw[d]at d';injection d' with d1 _
 have:its=its':=by simpa using congrArg Array.toList d1
 subst this;exact r.inj r'
theorem Inv.Be(I:Inv X pq σ H s)(h:aY X.K H a xs)(h' : aY X.K H a ys):xs=ys:=by
 obtain⟨its,r,⟨o,e,_,n,d⟩,_⟩:=I.tuple h;obtain⟨its',r',⟨o',e',_,n',d'⟩,_⟩:=I.tuple h';rw[e]at e';cases e';rw[d]at d';injection d' with d1 _
 have:its=its':=by simpa using congrArg Array.toList d1
 subst this;exact r.inj r'
end
abbrev Cx.qJ(X:Cx)(E:gU):Cx:={ X with xe:=E}
abbrev Cx.yx(X:Cx):Cx:=X.qJ fun _ _=>False
theorem Cx.Ok.qJ{X:Cx}(ok:X.Ok)(E:gU):(X.qJ E).Ok :=
 ⟨ok.mod,ok.kind,ok.glob,ok.blt,ok.above,ok.inj,ok.has,ok.Kq,ok.hd,ok.frames,ok.FQ,ok.OZ,ok.bs,ok.FT,ok.Dd,ok.FU,ok.funs,ok.Il⟩
theorem Cx.Ok.iC{X:Cx}{E:gU}(ok:(X.qJ E).Ok):X.Ok :=
 ⟨ok.mod,ok.kind,ok.glob,ok.blt,ok.above,ok.inj,ok.has,ok.Kq,ok.hd,ok.frames,ok.FQ,ok.OZ,ok.bs,ok.FT,ok.Dd,ok.FU,ok.funs,ok.Il⟩
section
variable {X:Cx}{pq:aX}{σ:St}{H:Hp}{s:Shared}{E:gU}
theorem Inv.qJ(I:Inv X pq σ H s)(E:gU):Inv (X.qJ E) pq σ H s:=⟨I.ok.qJ E,I.os,I.bare,I.base,I.loc,I.cell,I.free,I.gO,I.pin,I.hok,I.len⟩
theorem Inv.iC(I:Inv (X.qJ E) pq σ H s):Inv X pq σ H s:=⟨I.ok.iC,I.os,I.bare,I.base,I.loc,I.cell,I.free,I.gO,I.pin,I.hok,I.len⟩
theorem SP.iC{D:Ends}{f:Flow}{s' : Shared}(h:SP (X.qJ E) pq D f s'):SP X pq D f s':=by
 cases f with
 | next=>obtain⟨σ',H',I,q⟩:=h;exact⟨σ',H',I.iC,q⟩
 | brk=>obtain⟨σ',H',I,q⟩:=h;exact⟨σ',H',I.iC,q⟩
 | cont=>obtain⟨σ',H',I,q⟩:=h;exact⟨σ',H',I.iC,q⟩
 | ret u=>obtain⟨v,σ',H',I,r,q⟩:=h;exact⟨v,σ',H',I.iC,r,q⟩
theorem uO.yx{st:List Stmt}{t:TS}(h:uO X.yx st t):uO X st t:=fun pq s σ H D I hw =>
 wpAny_mono (h pq s σ H D (I.qJ _) hw) (fun _ _ q=>q.iC) fun _ _ z=>False.elim z
end
section
variable {X:Cx}{st:Stmt}{rest:List Stmt}{t u:TS}{e:Expr}{te:TE}{pos:Pos}
def aO:TS:=fun D σ H=>D.nx σ H
def Ends.on(D:Ends)(u:TS):Ends:={ D with nx:=u D}
def av(t u:TS):TS:=fun D σ H=>t (D.on u) σ H
theorem aP:uO X [] aO:=fun _ _ σ H _ I h=>wpAny_execs_nil ⟨σ,H,I,h⟩
theorem ai(h1:PS X st t)(h2:uO X rest u):uO X (st::rest) (av t u):=by
 intro pq s σ H D I h;refine wpAny_execs_cons (eR (h1 pq s σ H { D with nx:=u D} I h) fun f s1 q=>?_)
 cases f with
 | next =>
   obtain⟨σ',H',I',q⟩:=q;exact h2 pq s1 σ' H' D I' q
 | ret v=>exact q
 | brk=>exact q
 | cont=>exact q
theorem aq(h1:PS X st t):uO X [st] t:=by
 intro pq s σ H D I h;refine wpAny_execs_cons (eR (h1 pq s σ H D I h) fun f s1 q=>?_)
 cases f with
 | next=>exact wpAny_execs_nil q
 | ret v=>exact q
 | brk=>exact q
 | cont=>exact q
theorem Inv.quiet{pq:aX}{σ:St}{H:Hp}{s:Shared}(I:Inv X pq σ H s):interactive X.env=false:=by simp[interactive,I.ok.kind]
def Ky(te:TE):TS:=fun D σ H=>te σ H fun _ H1=>D.nx σ H1
theorem eZ(he:PE X e te)(hs:swapsWith e none pos.line X.env=pure false:=by rfl):PS X (.Expr e pos) (Ky te):=by
 intro pq s σ H D I h;exact wpAny_Expr_any (eR (he pq s σ H _ I h) fun v s1 ⟨x,H1,I1,r1,q1⟩=>⟨σ,H1,I1,q1⟩) I.quiet hs
def Nv(te:TE):TS:=fun D σ H=>te σ H D.rt
theorem aE(he:PE X e te):PS X (.Return (some e) pos) (Nv te):=by
 intro pq s σ H D I h;exact wpAny_Return_some (eR (he pq s σ H _ I h) fun v s1 ⟨x,H1,I1,r1,q1⟩=>⟨x,σ,H1,I1,r1,q1⟩)
def aU(c:TT)(t u:TS):TS:=fun D σ H=>c σ H fun b H1=>if b=true then t D σ H1 else u D σ H1
theorem bf{c:Expr}{a b:List Stmt}{tc:TT}(hc:PT X c tc)(ha:uO X a t)(hb:uO X b u):PS X (.If c a b pos) (aU tc t u):=by
 intro pq s σ H D I h;refine wpAny_If (eR (hc pq s σ H _ I h) fun d s1 ⟨H1,I1,q1⟩=>?_)
 cases d with
 | true=>exact ha pq s1 σ H1 D I1 q1
 | false=>exact hb pq s1 σ H1 D I1 q1
end
abbrev TG:=V->St->Hp->(St->Hp->Prop)->Prop
abbrev Hl:=List V->St->Hp->(St->Hp->Prop)->Prop
def PG(X:Cx)(target:Expr)(t:TG):Prop :=
 ∀(pq:aX) (s:Shared) (σ:St) (H:Hp) (v:V) (u:Value) (Q:St->Hp->Prop),Inv X pq σ H s->RelV v u->t v σ H Q->
  wpAny (model X.prog X.w) X.A (assign target X.env u) (fun _ s'=>∃ σ' H',Inv X pq σ' H' s'/\Q σ' H') X.xe s
def Kz(X:Cx)(ts:List Expr)(t:Hl):Prop :=
 ∀(pq:aX) (s:Shared) (σ:St) (H:Hp) (vs:List V) (us:List Value) (Q:St->Hp->Prop),Inv X pq σ H s->Vals vs us->t vs σ H Q->
  wpAny (model X.prog X.w) X.A (assignInOrder ((assignEach ts X.env).map (·.2)) us) (fun _ s'=>∃ σ' H',Inv X pq σ' H' s'/\Q σ' H') X.xe s
abbrev Dg:=V->V->V->Hp->(Hp->Prop)->Prop
def Ip(X:Cx)(t:Dg):Prop :=
 ∀(pq:aX) (s:Shared) (σ:St) (H:Hp) (o i v:V) (ov iv u:Value) (Q:Hp->Prop),Inv X pq σ H s->RelV o ov->RelV i iv->RelV v u->t o i v H Q->
  wpAny (model X.prog X.w) X.A (setItem ov iv u) (fun _ s'=>∃ H',Inv X pq σ H' s'/\Q H') X.xe s
abbrev KA:=V->V->Hp->VK->Prop
def O3(X:Cx)(op:Operator)(t:KA):Prop :=
 ∀(pq:aX) (s:Shared) (σ:St) (H:Hp) (x y:V) (v u:Value) (Q:VK),Inv X pq σ H s->RelV x v->RelV y u->t x y H Q->
  wpAny (model X.prog X.w) X.A (inplaceOp op v u) (EP X pq σ Q) X.xe s
section
variable {X:Cx}{pos:Pos}
def Dh(i:Nat):TG:=fun v σ H Q=>Q (σ.set i (some v)) H
theorem uQ{i:Nat}{x:Str}(hN:X.N.Nodup)(hi:X.N[i]?=some x)(hx:Loc X.env.scope x)(hf:X.fn x=true\/X.env.scope.names.lookup x=some .local:=by first | exact .inl rfl | exact .inr rfl | assumption):PG X (.Name x pos) (Dh i):=by
 intro pq s σ H v u Q I r h;exact wpAny_assign_Name (ng I hN hi hx r (fun s' I'=>⟨_,H,I',h⟩) hf)
def Nx:Hl:=fun vs σ H Q=>vs=[]/\Q σ H
def KC(t:TG)(u:Hl):Hl:=fun vs σ H Q=>∃ v r,vs=v::r/\t v σ H fun σ' H'=>u r σ' H' Q
theorem iX:Kz X [] Nx:=by
 intro pq s σ H vs us Q I r h;obtain⟨e,h⟩:=h;subst e;cases r;exact assignInOrder_nil ⟨σ,H,I,h⟩
theorem bw{e:Expr}{es:List Expr}{t:TG}{u:Hl}(h1:PG X e t)(h2:Kz X es u)
 (hs:(assignEach (e::es) X.env).map (·.2)=assign e X.env::(assignEach es X.env).map (·.2):=by rfl):Kz X (e::es) (KC t u):=by
 intro pq s σ H vs us Q I r h;obtain⟨v,vr,e1,h⟩:=h;subst e1;cases r with
 | cons r rr =>
   rw[hs];refine assignInOrder_cons (eR (h1 pq s σ H _ _ _ I r h) fun _ s1 ⟨σ1,H1,I1,q1⟩=>?_)
   exact h2 pq s1 σ1 H1 _ _ Q I1 rr q1
def KD(K:bI)(n:Nat)(t:Hl):TG:=fun v σ H Q=>∃ a xs,v = .ref a/\aY K H a xs/\xs.length=n/\t xs σ H Q
theorem Iq{es:List Expr}{k:Nat}{t:Hl}{n:Nat}(hc:X.calm=true)(h:Kz X es t)
 (hn:(assignEach es X.env).length=n:=by rfl) (hst:(assignEach es X.env).findIdx? (·.1)=none:=by rfl):PG X (.Tuple es k pos) (KD X.K n t):=by
 intro pq s σ H v u Q I r hw;obtain⟨a,xs,e1,hq,hl,hw⟩:=hw;subst e1;cases r;obtain⟨its,rv,ht,hz⟩:=I.tuple hq;refine assign_Tuple_tuple (I.ok.hd hc) ht (by simp[hn,<-hl,rv.length]) hst fun h' hx=>?_
 have I1:Inv X pq σ H { s with heap:=h'}:=I.kept (t':=s.toks) fun b o e=>hx b o (Nat.ne_of_lt (Heap.lt_size e)) e
 exact h pq _ σ H xs _ Q I1 (by simpa using rv) hw
def Ny(to ti:TE)(t:Dg):TG:=fun v σ H Q=>to σ H fun o H1=>ti σ H1 fun i H2=>t o i v H2 fun H3=>Q σ H3
theorem Di{o i:Expr}{to ti:TE}{t:Dg}(ho:PE X o to)(hi:PE X i ti)(hs:Ip X t)
 (ha:∀ v,assign (.Subscript o i pos) X.env v=(do
  let ov←holding [v] (eval o X.env)
  let iv←holding [v,ov] (eval i X.env)
  standAt pos
  holding [v,ov,iv] (setItem ov iv v)
  release [v,ov,iv] []):=by intro _;rfl):PG X (.Subscript o i pos) (Ny to ti t):=by
 intro pq s σ H v u Q I r h;rw[ha];refine dY (wpAny_holding (eR (ho pq s σ H _ I h) fun ov s1 ⟨x,H1,I1,r1,q1⟩=>?_))
 refine dY (wpAny_holding (eR (hi pq s1 σ H1 _ I1 q1) fun iv s2 ⟨y,H2,I2,r2,q2⟩=>?_))
 refine dY (wpAny_standAt (dY (wpAny_holding (eR (hs pq s2 σ H2 x y v ov iv u _ I2 r1 r2 r q2) fun _ s3 ⟨H3,I3,q3⟩=>?_))))
 exact wpAny_release ⟨σ,H3,I3,q3⟩
def KG(te:TE)(g:TG):TS:=fun D σ H=>te σ H fun x H1=>g x σ H1 D.nx
theorem Dj{tg e:Expr}{te:TE}{g:TG}(he:PE X e te)(hg:PG X tg g)(hs:swapsWithSole [tg] e pos.line X.env=pure false:=by rfl)(hw:swappedStores [tg] e X.env=pure none:=by rfl)
 (h1:(assignEach [tg] X.env).map (·.2)=[assign tg X.env]:=by rfl):PS X (.Assign [tg] e pos) (KG te g):=by
 intro pq s σ H D I h;refine wpAny_Assign_stores (eR (he pq s σ H _ I h) fun v s1 ⟨x,H1,I1,r1,q1⟩=>?_) hs hw
 rw[h1];exact eR (hg pq s1 σ H1 x v _ I1 r1 q1) fun _ s2 q=>q
theorem aF{i:Nat}{x:Str}{e:Expr}{te:TE}{pos' : Pos}(hN:X.N.Nodup)(hi:X.N[i]?=some x)(hx:Loc X.env.scope x)(he:PE X e te)(hs:swapsWith e (some (.Name x pos')) pos.line X.env=pure false:=by rfl)(hf:X.fn x=true\/X.env.scope.names.lookup x=some .local:=by first | exact .inl rfl | exact .inr rfl | assumption):
 PS X (.Assign [.Name x pos'] e pos) (KG te (Dh i)):=by
 intro pq s σ H D I h;refine wpAny_Assign_Name (eR (he pq s σ H _ I h) fun v s1 ⟨y,H1,I1,r1,q1⟩=>?_) hs
 exact ng I1 hN hi hx r1 (fun s2 I2=>⟨_,H1,I2,q1⟩) hf
def Nz(i:Nat)(te:TE)(ti:KA):TS:=fun D σ H=>∃ x,σ[i]?=some (some x)/\te σ H fun y H1=>ti x y H1 fun z H2=>D.nx (σ.set i (some z)) H2
theorem qK{i:Nat}{x:Str}{e:Expr}{te:TE}{op:Operator}{ti:KA}{pos' : Pos}(hN:X.N.Nodup)(hi:X.N[i]?=some x)(hx:Loc X.env.scope x)(he:PE X e te)(ho:O3 X op ti)(hf:X.fn x=true\/X.env.scope.names.lookup x=some .local:=by first | exact .inl rfl | exact .inr rfl | assumption):
 PS X (.AugAssign (.Name x pos') op e pos) (Nz i te ti):=by
 intro pq s σ H D I h;obtain⟨v,e1,h⟩:=h;obtain⟨m,hn,hl⟩:=I.loc;have Rj:ME X.env.scope x:=by rcases hx with k | k;exact .inl k;exact .inr (.inl k)
 obtain⟨u,r,l⟩:=hl i x v hi e1 Rj;refine wpAny_AugAssign_Name ?_;have go:wpAny (model X.prog X.w) X.A (eval e X.env) (fun w s₂=>wpAny (model X.prog X.w) X.A (inplaceOp op u w) (fun r s₃=>wpAny (model X.prog X.w) X.A (storeName X.env x r) (fun _=>SP X pq D .next) X.xe s₃) X.xe s₂) X.xe s:=by
  refine eR (he pq s σ H _ I h) fun w s1 ⟨y,H1,I1,r1,q1⟩=>?_
  refine eR (ho pq s1 σ H1 v y u w _ I1 r r1 q1) fun z s2 ⟨zv,H2,I2,r2,q2⟩=>?_
  exact ng I2 hN hi hx r2 (fun s3 I3=>⟨_,H2,I3,q2⟩) hf
 rcases l with⟨hk,hm⟩|⟨hk,c,hc,hcell⟩
 ·exact wpAny_loadName_local I.ok.kind hk hn hm go
 ·rcases hk with hk|hk
  ·exact wpAny_loadName_cell I.ok.kind hk hc hcell go
  ·rcases hx with k|k
   ·have:X.env.scope.names.lookup x=some .free:=hk;rw[k]at this;cases this
   ·have:X.env.scope.names.lookup x=some .free:=hk;rw[k]at this;cases this
def KH(to ti te:TE)(FZ:V->V->Hp->VK->Prop)(MK:KA)(F0:Dg):TS:=fun D σ H=>to σ H fun o H1=>ti σ H1 fun i H2=>FZ o i H2 fun x H3=>te σ H3 fun y H4=>MK x y H4 fun z H5=>F0 o i z H5 fun H6=>D.nx σ H6
def KI(X:Cx)(t:V->V->Hp->VK->Prop):Prop :=
 ∀(pq:aX) (s:Shared) (σ:St) (H:Hp) (o i:V) (ov iv:Value) (Q:VK),Inv X pq σ H s->RelV o ov->RelV i iv->t o i H Q->
  wpAny (model X.prog X.w) X.A (getItem ov iv) (EP X pq σ Q) X.xe s
theorem Ak{o i e:Expr}{to ti te:TE}{FZ:V->V->Hp->VK->Prop}{MK:KA}{F0:Dg}{op:Operator}{tpos:Pos}(ho:PE X o to)(hi:PE X i ti)(hg:KI X FZ)(he:PE X e te)(hp:O3 X op MK)(hs:Ip X F0)
 (ha:∀ ov iv new,augStore i ov iv new=(do holding [new,ov,iv] (setItem ov iv new);release [new,ov,iv] [];pure .next):=by intros;rfl):PS X (.AugAssign (.Subscript o i tpos) op e pos) (KH to ti te FZ MK F0):=by
 intro pq s σ H D I h;refine wpAny_AugAssign_SubscriptAny (eR (ho pq s σ H _ I h) fun ov s1 ⟨x1,H1,I1,r1,q1⟩=>?_) ha
 refine eR (hi pq s1 σ H1 _ I1 q1) fun iv s2 ⟨x2,H2,I2,r2,q2⟩=>?_
 refine eR (hg pq s2 σ H2 x1 x2 ov iv _ I2 r1 r2 q2) fun old s3 ⟨x3,H3,I3,r3,q3⟩=>?_
 refine eR (he pq s3 σ H3 _ I3 q3) fun v s4 ⟨x4,H4,I4,r4,q4⟩=>?_
 refine eR (hp pq s4 σ H4 x3 x4 old v _ I4 r3 r4 q4) fun new s5 ⟨x5,H5,I5,r5,q5⟩=>?_
 exact eR (hs pq s5 σ H5 x1 x2 x5 ov iv new _ I5 r1 r2 r5 q5) fun _ s6 ⟨H6,I6,q6⟩=>⟨σ,H6,I6,q6⟩
def yC(c:TT)(tb:TS):TS:=fun D σ H=>∃ W:Nat->St->Hp->Prop,(∃ m,W m σ H)/\∀ m σ H,W m σ H->
 c σ H fun b H1=>if b=true then ∃ N:St->Hp->Prop,(∀ σ' H',N σ' H'->∃ m',m'<m/\W m' σ' H')/\tb { D with nx:=N,ct:=N,bk:=D.nx} σ H1 else D.nx σ H1
theorem Dl{c:Expr}{body:List Stmt}{tc:TT}{tb:TS}(hp:PassesOwn (model X.prog X.w) X.A X.env X.xe)(hc:PT X c tc)(hb:uO X body tb):PS X (.While c body [] pos) (yC tc tb):=by
 intro pq s σ H D I h;obtain⟨W,⟨m0,w0⟩,turn⟩:=h;refine wpAny_While (codeAny_whileLoop (fun n s'=>∃ σ' H',Inv X pq σ' H' s'/\W n σ' H') ?_ m0 ⟨σ,H,I,w0⟩)
 rintro n s1 ⟨σ1,H1,I1,w1⟩;refine wpAny_passesOwn hp (eR (hc pq s1 σ1 H1 _ I1 (turn n σ1 H1 w1)) fun b s2 ⟨H2,I2,q2⟩=>?_)
 cases b with
 | true =>
   obtain⟨N,hN,q2⟩:=q2;rw[if_pos rfl];refine wpAny_passesOwn hp (eR (hb pq s2 σ1 H2 _ I2 q2) fun f s3 q3=>?_)
   cases f with
   | next =>
     obtain⟨σ3,H3,I3,n3⟩:=q3;obtain⟨m',hm,w3⟩:=hN σ3 H3 n3;exact⟨m',hm,σ3,H3,I3,w3⟩
   | cont =>
     obtain⟨σ3,H3,I3,n3⟩:=q3;obtain⟨m',hm,w3⟩:=hN σ3 H3 n3;exact⟨m',hm,σ3,H3,I3,w3⟩
   | brk=>exact q3
   | ret v=>exact q3
 | false =>
   rw[if_neg Bool.false_ne_true];exact wpAny_execs_nil ⟨σ1,H2,I2,q2⟩
end
structure It where
 go:Nat->Hp->Prop
 F1:Nat->Hp->V->Hp->Prop
 stop:Nat->Hp->Prop
def mO(X:Cx)(pq:aX)(H:Hp)(b:Addr):Prop :=
 H b=none/\b≠X.env.locals/\b∉X.fs/\(b∈X.ex\/X.s₀.heap.objs.size<=b)/\(∀ x c,X.env.cells.lookup x=some c->c≠b)/\∀ p∈X.pn++pq,p.1≠b
theorem Inv.Bf{X:Cx}{pq:aX}{σ:St}{H H' : Hp}{s:Shared}{b:Addr}(I:Inv X pq σ H s)(hb:s.heap.objs.size<=b)(hn:H' b=none):mO X pq H' b:=by
 refine⟨hn,Nat.ne_of_gt (Nat.lt_of_lt_of_le I.lt hb),I.Ks hb,.inr (Nat.le_trans I.sz hb),fun x c e z=>?_,fun p hp z=>?_⟩
 ·obtain⟨v,q⟩:=I.cell x c e;exact absurd (Nat.lt_of_lt_of_le q.lt (by rw[z];exact hb)) (Nat.lt_irrefl _)
 ·exact absurd (Nat.lt_of_lt_of_le (Heap.lt_size (I.pin p hp).1) (by rw[z];exact hb)) (Nat.lt_irrefl _)
structure Turn(P:Program)(w:World)(K:bI)(tg:Expr)(J:It)(fp:List Addr)(it:Addr)(tn:Nat->Heap->Prop):Prop where
 mem:it∈fp
 obj:∀ i h,tn i h->∀ b∈fp,∃ o,h.get? b=some o/\∀ v,o.data≠.cell v
 keep:∀ i h h',tn i h->(∀ b∈fp,∀ o,h.get? b=some o->h'.get? b=some o)->tn i h'
 item:∀(X:Cx),X.prog=P->X.w=w->X.K=K->X.calm=true->∀(i:Nat) (pq:aX) (s:Shared) (σ:St) (H:Hp) (E:gU),Inv X pq σ H s->(∀ b∈fp,mO X pq H b)->tn i s.heap->J.go i H->
  wpAny (model P w) X.A (pyNext (.ref it)) (fun r s1=>∃ u,r=some u/\
   wpAny (model P w) X.A (letOwnedTupleGo tg (.ref it) u) (fun _ s2=>∃ x H',Inv X pq σ H' s2/\RelV x u/\J.F1 i H x H'/\tn (i+1) s2.heap/\∀ b∈fp,H' b=none) E s1) E s
 done:∀(X:Cx),X.prog=P->X.w=w->X.K=K->X.calm=true->∀(i:Nat) (pq:aX) (s:Shared) (σ:St) (H:Hp) (E:gU),Inv X pq σ H s->(∀ b∈fp,mO X pq H b)->tn i s.heap->J.stop i H->
  wpAny (model P w) X.A (pyNext (.ref it)) (fun r s1=>r=none/\Inv X pq σ H s1) E s
 self:∀(A:Around) (i:Nat) (s:Shared) (Q:gU) (E:gU),tn i s.heap->Q (.ref it) s->wpAny (model P w) A (pyIter (.ref it)) Q E s
abbrev TI:=St->Hp->(It->Hp->Prop)->Prop
def O4(X:Cx)(pq:aX)(σ:St)(tg:Expr)(R:It->Hp->Prop)(itv:Value)(s2:Shared):Prop :=
 ∃(it:Addr) (fp:List Addr) (tn:Nat->Heap->Prop) (J:It) (H' : Hp),itv = .ref it/\Inv X pq σ H' s2/\Turn X.prog X.w X.K tg J fp it tn/\tn 0 s2.heap/\(∀ b∈fp,mO X pq H' b)/\R J H'
def PI(X:Cx)(tg iter:Expr)(wi:TI):Prop :=
 ∀(pq:aX) (s:Shared) (σ:St) (H:Hp) (R:It->Hp->Prop),Inv X pq σ H s->wi σ H R->
  wpAny (model X.prog X.w) X.A (eval iter X.env) (fun v s1=>wpAny (model X.prog X.w) X.A (pyIter v) (O4 X pq σ tg R) X.xe s1) X.xe s
theorem Dm{M:Model}{A:Around}{E:gU}{s:Shared}{tg:Expr}{it:Addr}{u:Value}{o:Obj}{n:String}{vs:Array Value}{Q:Unit->Shared->Prop}(ho:s.heap.get? it=some o)(hc:o.cls = .type n)(hd:o.data = .fields vs)
 (hn:["enumerate","zip","dict_itemiterator","dict_reverseitemiterator","odict_iterator","itertools.zip_longest","itertools.pairwise"].contains n=false) (hQ:Q () s):wpAny M A (letOwnedTupleGo tg (.ref it) u) Q E s:=by
 unfold letOwnedTupleGo;cases tg<;>first
  | exact wpAny_pure hQ
  | (cases u<;>first
   | exact wpAny_pure hQ
   | (refine dY (wpAny_load ho ?_)
      rw[hc,hd];show wpAny M A (if(["enumerate","zip","dict_itemiterator","dict_reverseitemiterator","odict_iterator","itertools.zip_longest","itertools.pairwise"].contains n&&vs[0]? == some (rawInt _))=true then _ else _) Q E s
      rw[if_neg (by intro h;rw[hn,Bool.false_and]at h;cases h)]
      exact wpAny_pure hQ))
def F3(K:bI)(a:Addr):It :=
 ⟨fun i H=>∃ xs x,aQ K H a xs/\xs[i]?=some x,fun i H x H'=>H' = H/\∀ xs,aQ K H a xs->xs[i]?=some x,fun i H=>∃ xs,aQ K H a xs/\xs.length<=i⟩
def NB(K:bI)(a:Addr):It :=
 ⟨fun i H=>∃ xs x,aY K H a xs/\xs[i]?=some x,fun i H x H'=>H' = H/\∀ xs,aY K H a xs->xs[i]?=some x,fun i H=>∃ xs,aY K H a xs/\xs.length<=i⟩
def Dp(lo:Int)(n:Nat):It:=⟨fun i _=>i<n,fun i H x H'=>H' = H/\x = .int (lo+i),fun i _=>n<=i⟩
theorem Bg{P:Program}{w:World}{K:bI}{tg:Expr}(a it:Addr):Turn P w K tg (F3 K a) [it] it (fun i h=>h.IsListIter it a i) where
 mem:=by simp
 obj:=fun i h st b hb=>by
  have e:b=it:=by simpa using hb
  subst e;obtain⟨o,e,c,d⟩:=st;exact⟨o,e,fun v z=>by rw[d]at z;cases z⟩
 keep:=fun i h h' st k=>st.at fun o e=>k it (by simp) o e
 item:=by
  intro X hP hw hK hc i pq s σ H E I hf st hg;subst hP hw hK;obtain⟨xs,x,hq,hx⟩:=hg;obtain⟨its,rv,p,hz⟩:=I.list hq;obtain⟨u,hu,ru⟩:=rv.get hx;obtain⟨f0,f1,f2,f3,f4,f5⟩:=hf it (by simp)
  refine wpAny_pyNext_list_item st p.isList (x:=u) (by simpa using hu) fun h' st' sb=>?_
  have I1:Inv X pq σ H { s with heap:=h'}:=I.turned (t':=s.toks) (fun b o hb e=>(sb.2 b hb).trans e) f0 f1 f3 f4 f5
  obtain⟨o,e,c,d⟩:=id st';exact⟨u,rfl,Dm (s:={ s with heap:=h'}) e c d (by decide) ⟨x,H,I1,ru,⟨rfl,fun ys hy=>by rw[I.ni hy hq];exact hx⟩,st',fun b hb=>(hf b hb).1⟩⟩
 done:=by
  intro X hP hw hK hc i pq s σ H E I hf st hg;subst hP hw hK;obtain⟨xs,hq,hx⟩:=hg;obtain⟨its,rv,p,hz⟩:=I.list hq;obtain⟨f0,f1,f2,f3,f4,f5⟩:=hf it (by simp)
  have hl:=rv.length;exact wpAny_pyNext_list_end (I.ok.hd hc) st p.isList (by simp;lia) fun h' eb=>⟨rfl,I.turned (t':=s.toks) (fun b o hb e=>eb b o hb e) f0 f1 f3 f4 f5⟩
 self:=fun _ _ _ _ _ st h=>wpAny_pyIter_listiter st h
theorem yD{P:Program}{w:World}{K:bI}{tg:Expr}(a it:Addr):Turn P w K tg (NB K a) [it] it (fun i h=>h.IsTupleIter it a i) where
 mem:=by simp
 obj:=fun i h st b hb=>by
  have e:b=it:=by simpa using hb
  subst e;obtain⟨o,e,c,d⟩:=st;exact⟨o,e,fun v z=>by rw[d]at z;cases z⟩
 keep:=fun i h h' st k=>st.at fun o e=>k it (by simp) o e
 item:=by
  intro X hP hw hK hc i pq s σ H E I hf st hg;subst hP hw hK;obtain⟨xs,x,hq,hx⟩:=hg;obtain⟨its,rv,p,hz⟩:=I.tuple hq;obtain⟨u,hu,ru⟩:=rv.get hx;obtain⟨f0,f1,f2,f3,f4,f5⟩:=hf it (by simp)
  refine wpAny_pyNext_tuple_item st (show s.heap.IsTuple a its.toArray from p) (x:=u) (by simpa using hu) fun h' st' sb=>?_
  have I1:Inv X pq σ H { s with heap:=h'}:=I.turned (t':=s.toks) (fun b o hb e=>(sb.2 b hb).trans e) f0 f1 f3 f4 f5
  obtain⟨o,e,c,d⟩:=id st';exact⟨u,rfl,Dm (s:={ s with heap:=h'}) e c d (by decide) ⟨x,H,I1,ru,⟨rfl,fun ys hy=>by rw[I.Be hy hq];exact hx⟩,st',fun b hb=>(hf b hb).1⟩⟩
 done:=by
  intro X hP hw hK hc i pq s σ H E I hf st hg;subst hP hw hK;obtain⟨xs,hq,hx⟩:=hg;obtain⟨its,rv,p,hz⟩:=I.tuple hq;obtain⟨f0,f1,f2,f3,f4,f5⟩:=hf it (by simp)
  have hl:=rv.length;exact wpAny_pyNext_tuple_end (I.ok.hd hc) st (show s.heap.IsTuple a its.toArray from p) (by simp;lia) fun h' eb=>⟨rfl,I.turned (t':=s.toks) (fun b o hb e=>eb b o hb e) f0 f1 f3 f4 f5⟩
 self:=fun _ _ _ _ _ st h=>wpAny_pyIter_tupleiter st h
theorem yE{P:Program}{w:World}{K:bI}{tg:Expr}(it:Addr)(lo:Int)(n:Nat):Turn P w K tg (Dp lo n) [it] it (fun i h=>IsRangeIter h it (lo+(i:Nat)*1) ((n:Int)-(i:Nat)) 1) where
 mem:=by simp
 obj:=fun i h st b hb=>by
  have e:b=it:=by simpa using hb
  subst e;exact⟨_,st,fun v z=>by
   have z' : Data.fields _=Data.cell v:=z;cases z'⟩
 keep:=fun i h h' st k=>k it (by simp) _ st
 item:=by
  intro X hP hw hK hc i pq s σ H E I hf st hg;subst hP hw hK;obtain⟨f0,f1,f2,f3,f4,f5⟩:=hf it (by simp)
  have W:=Walks.range (prog:=X.prog) (w:=X.w) (I.ok.hd hc) it lo 1 n;refine W.item i s _ _ hg st fun v h' tk hv st' kk=>?_
  obtain⟨t,rfl⟩:=hv;have I1:Inv X pq σ H { s with heap:=h',toks:=tk}:=I.turned (fun b o hb e=>kk b o (by simpa using hb) e) f0 f1 f3 f4 f5
  refine⟨_,rfl,Dm (s:={ s with heap:=h',toks:=tk}) (n:="range_iterator") st' rfl rfl (by decide) ⟨.int (lo+i),H,I1,⟨t,?_⟩,⟨rfl,rfl⟩,st',fun b hb=>(hf b hb).1⟩⟩
  rw[Int.mul_one]
 done:=by
  intro X hP hw hK hc i pq s σ H E I hf st hg;subst hP hw hK;obtain⟨f0,f1,f2,f3,f4,f5⟩:=hf it (by simp)
  exact wpAny_pyNext_range_end (I.ok.hd hc) st (by have:n<=i:=hg;lia) fun h' eb=>⟨rfl,I.turned (t':=s.toks) (fun b o hb e=>eb b o hb e) f0 f1 f3 f4 f5⟩
 self:=fun _ _ _ _ _ st h=>wpAny_pyIter_rangeiter st h
section
variable {X:Cx}{tg:Expr}
def Ho(K:bI)(tl:TE):TI:=fun σ H R=>tl σ H fun x H1=>∃ a,x = .ref a/\(∃ xs,aQ K H1 a xs)/\R (F3 K a) H1
def KJ(K:bI)(tl:TE):TI:=fun σ H R=>tl σ H fun x H1=>∃ a,x = .ref a/\(∃ xs,aY K H1 a xs)/\R (NB K a) H1
theorem F4{l:Expr}{tl:TE}(hl:PE X l tl):PI X tg l (Ho X.K tl):=by
 intro pq s σ H R I h;refine eR (hl pq s σ H _ I h) fun v s1 ⟨x,H1,I1,r1,q1⟩=>?_
 obtain⟨a,e,⟨xs,hq⟩,q⟩:=q1;subst e;cases r1;obtain⟨its,rv,p,hz⟩:=I1.list hq;refine wpAny_pyIter_list p.isList ?_;refine⟨s1.heap.objs.size,[s1.heap.objs.size],_,_,H1,rfl,I1.kept (t':=s1.toks) fun b o e=>Heap.get?_push_of_some _ e,Bg a _,⟨_,Heap.get?_push_size _ rfl,rfl,rfl⟩,fun b hb=>?_,q⟩
 have e:b=s1.heap.objs.size:=by simpa using hb
 subst e;exact I1.Bf (Nat.le_refl _) (I1.hok.fresh (Nat.le_refl _))
theorem Ir{l:Expr}{tl:TE}(hl:PE X l tl):PI X tg l (KJ X.K tl):=by
 intro pq s σ H R I h;refine eR (hl pq s σ H _ I h) fun v s1 ⟨x,H1,I1,r1,q1⟩=>?_
 obtain⟨a,e,⟨xs,hq⟩,q⟩:=q1;subst e;cases r1;obtain⟨its,rv,p,hz⟩:=I1.tuple hq;refine wpAny_pyIter_tuple (show s1.heap.IsTuple a its.toArray from p) ?_
 refine⟨s1.heap.objs.size,[s1.heap.objs.size],_,_,H1,rfl,I1.kept (t':=s1.toks) fun b o e=>Heap.get?_push_of_some _ e,yD a _,⟨_,Heap.get?_push_size _ rfl,rfl,rfl⟩,fun b hb=>?_,q⟩
 have e:b=s1.heap.objs.size:=by simpa using hb
 subst e;exact I1.Bf (Nat.le_refl _) (I1.hok.fresh (Nat.le_refl _))
theorem wM{pq:aX}{σ:St}{H:Hp}{s:Shared}{R:It->Hp->Prop}{E:gU}{lo hi:Int}{t u v:Tok}{tk:Nat}(I:Inv X pq σ H s)(h1 : -(2^62)<=lo)(h2:lo<2^62)(h3 : -(2^62)<=hi)(h4:hi<2^62)
 (q:R (Dp lo (hi-lo).toNat) H):wpAny (model X.prog X.w) X.A (pyIter (.ref s.heap.objs.size)) (O4 X pq σ tg R) E { s with heap:=s.heap.push { cls:=.type "range",data:=.fields #[.int lo t,.int hi u,.int 1 v]},toks:=tk}:=by
 refine wpAny_pyIter_range (IsRange.new ..) (small_one h1 h2 h3 h4) ?_;have I1:Inv X pq σ H { s with heap:=s.heap.push { cls:=.type "range",data:=.fields #[.int lo t,.int hi u,.int 1 v]},toks:=tk}:=I.kept fun b o e=>Heap.get?_push_of_some _ e
 refine⟨(s.heap.push { cls:=.type "range",data:=.fields #[.int lo t,.int hi u,.int 1 v]}).objs.size,[(s.heap.push { cls:=.type "range",data:=.fields #[.int lo t,.int hi u,.int 1 v]}).objs.size],_,_,H,rfl,
  I1.kept (t':=tk) fun b o e=>Heap.get?_push_of_some _ e,yE _ lo (hi-lo).toNat,?_,fun b hb=>?_,q⟩
 ·have e1:lo+((0:Nat):Int)*1=lo:=by simp
  have e2:(((hi-lo).toNat:Nat):Int)-((0:Nat):Int)=Builtin.Range.rangeSize lo hi 1:=by rw[rangeSize_one];split<;>lia
  show IsRangeIter _ _ (lo+((0:Nat):Int)*1) ((((hi-lo).toNat:Nat):Int)-((0:Nat):Int)) 1;rw[e1,e2];exact Heap.get?_push_size _ rfl
 ·have e:b=(s.heap.push { cls:=.type "range",data:=.fields #[.int lo t,.int hi u,.int 1 v]}).objs.size:=by simpa using hb
  subst e;exact I1.Bf (Nat.le_refl _) (I1.hok.fresh (Nat.le_refl _))
def KL(ta:TA):TI:=fun σ H R=>ta σ H fun vs H1=>∃ j:Int,vs=[.int j]/\-(2^62)<=j/\j<2^62/\R (Dp 0 j.toNat) H1
def KN(ta:TA):TI:=fun σ H R=>ta σ H fun vs H1=>∃ i j:Int,vs=[.int i,.int j]/\(-(2^62)<=i/\i<2^62/\-(2^62)<=j/\j<2^62)/\R (Dp i (j-i).toNat) H1
theorem cT{a:Expr}{ta:TA}{p pos:Pos}(hg:Gl X "range")(hm:X.mg "range"=none)(ha:PA X [a] ta)(hs:starEach [a] X.env=[(false,eval a X.env)]:=by rfl):PI X tg (.Call (.Name "range" p) [a] [] pos) (KL ta):=by
 intro pq s σ H R I h;refine Call_ (ji I hg hm boot_range (PyProof.Rows.callWith_type1 (eR (ha pos pq s σ H _ I h) fun us s1 ⟨vs,H1,I1,r1,q1⟩=>?_) hs rfl))
 obtain⟨j,e,q1,q2,q⟩:=q1;subst e;cases r1 with
 | cons r rr =>
   cases rr;obtain⟨t,rfl⟩:=r;exact call_range_1 (wM I1 (by lia) (by lia) q1 q2 (by simpa using q))
theorem Bh{a b:Expr}{ta:TA}{p pos:Pos}(hg:Gl X "range")(hm:X.mg "range"=none)(ha:PA X [a,b] ta)(hs:starEach [a,b] X.env=[(false,eval a X.env),(false,eval b X.env)]:=by rfl)(hs2:starEach [b] X.env=[(false,eval b X.env)]:=by rfl):
 PI X tg (.Call (.Name "range" p) [a,b] [] pos) (KN ta):=by
 intro pq s σ H R I h;refine Call_ (ji I hg hm boot_range (PyProof.Rows.callWith_type1 (eR (ha pos pq s σ H _ I h) fun us s1 ⟨vs,H1,I1,r1,q1⟩=>?_) (by rw[hs,hs2]) (by rw[hs2];rfl)))
 obtain⟨i,j,e,⟨q1,q2,q3,q4⟩,q⟩:=q1;subst e;cases r1 with
 | cons r rr =>
   cases rr with
   | cons r' rr =>
     cases rr;obtain⟨t,rfl⟩:=r;obtain⟨t',rfl⟩:=r';exact call_range_2 (wM I1 q1 q2 q3 q4 q)
def eU(wi:TI)(g:TG)(tb:TS):TS:=fun D σ H=>wi σ H fun J H1=>∃ W:Nat->Nat->St->Hp->Prop,(∃ m,W 0 m σ H1)/\∀ i m σ H,W i m σ H->
 (J.stop i H/\D.nx σ H)\/(J.go i H/\∃ N:St->Hp->Prop,(∀ σ' H',N σ' H'->∃ m',m'<m/\W (i+1) m' σ' H')/\∀ x H',J.F1 i H x H'->g x σ H' fun σ2 H2=>tb { D with nx:=N,ct:=N,bk:=D.nx} σ2 H2)
def oJ(fp:List Addr)(h:Heap):aX:=fp.filterMap fun b=>(h.get? b).map fun o=>(b,o)
theorem gi{fp:List Addr}{h:Heap}{b:Addr}{o:Obj}(hb:b∈fp)(e:h.get? b=some o):(b,o)∈oJ fp h:=List.mem_filterMap.mpr ⟨b,hb,by rw[e];rfl⟩
theorem Bj{fp:List Addr}{h:Heap}{p:Addr×Obj}(hp:p∈oJ fp h):p.1∈fp/\h.get? p.1=some p.2:=by
 obtain⟨b,hb,e⟩:=List.mem_filterMap.mp hp;cases q:h.get? b with
 | none=>rw[q]at e;cases e
 | some o =>
   rw[q]at e;have e' : (b,o)=p:=Option.some.inj e;subst e';exact⟨hb,q⟩
theorem Inv.pinned{pq:aX}{σ:St}{H:Hp}{s:Shared}{fp:List Addr}(I:Inv X pq σ H s)(hf:∀ b∈fp,mO X pq H b)(ho:∀ b∈fp,∃ o,s.heap.get? b=some o/\∀ v,o.data≠.cell v):Inv X (pq++oJ fp s.heap) σ H s :=
 I.g7 fun p hp=>(List.mem_append.mp hp).elim (fun z=>I.pin p (oz _ z)) fun z=>by
  obtain⟨hb,e⟩:=Bj z;obtain⟨f0,f1,f2,_⟩:=hf p.1 hb;obtain⟨o,e',d⟩:=ho p.1 hb;rw[e]at e';cases e';exact⟨e,f0,f1,f2,d⟩
theorem Inv.iD{pq pl:aX}{σ:St}{H:Hp}{s:Shared}(I:Inv X (pq++pl) σ H s):Inv X pq σ H s:=I.g7 fun p hp=>I.pin p (oz _ (List.mem_append_left _ hp))
theorem fJ{iter:Expr}{body:List Stmt}{wi:TI}{g:TG}{tb:TS}{pos:Pos}(hp:PassesOwn (model X.prog X.w) X.A X.env X.xe)(hc:X.calm=true)(hi:PI X tg iter wi)(hg:PG X tg g)(hb:uO X body tb)
 (hs:∀ x,foldedSetIterable iter X.env x=pure x:=by intro _;rfl):PS X (.For tg iter body [] pos) (eU wi g tb):=by
 intro pq s σ H D I h;refine wpAny_For (eR (hi pq s σ H _ I h) fun v s1 h1=>eR h1 fun itv s2 h2=>?_) hs
 obtain⟨it,fp,tn,J,H2,e,I2,T,st2,f2,W,⟨m0,w0⟩,turn⟩:=h2;subst e;have yF:∀{H' : Hp},(∀ b∈fp,H' b=none)->∀ b∈fp,mO X pq H' b:=fun hn b hb=>⟨hn b hb,(f2 b hb).2⟩
 refine codeAny_forLoop_any (fun n s'=>∃ i σ' H',Inv X pq σ' H' s'/\tn i s'.heap/\(∀ b∈fp,H' b=none)/\W i n σ' H') ?_ m0 ⟨0,σ,H2,I2,st2,fun b hb=>(f2 b hb).1,w0⟩
 rintro n s3 ⟨i,σ3,H3,I3,st3,Hq,w3⟩;rcases turn i n σ3 H3 w3 with⟨stop,qn⟩|⟨go,N,hN,step⟩
 ·refine wpAny_passesOwn hp (eR (T.done X rfl rfl rfl hc i pq s3 σ3 H3 X.xe I3 (yF Hq) st3 stop) fun r s4 ⟨hr,I4⟩=>?_)
  subst hr;exact wpAny_execs_nil ⟨σ3,H3,I4,qn⟩
 ·refine wpAny_passesOwn hp (eR (T.item X rfl rfl rfl hc i pq s3 σ3 H3 X.xe I3 (yF Hq) st3 go) fun r s4 ⟨u,hr,h4⟩=>?_)
  subst hr;refine wpAny_passesOwn hp (eR h4 fun _ s5 ⟨x,H5,I5,r5,y5,Dq,KO⟩=>?_)
  have KP:=I5.pinned (yF KO) (T.obj _ _ Dq);refine wpAny_passesOwn hp (eR (hg _ s5 σ3 H5 x u _ KP r5 (step x H5 y5)) fun _ s6 ⟨σ6,H6,I6,q6⟩=>?_)
  refine wpAny_passesOwn hp (eR (hb _ s6 σ6 H6 _ I6 q6) fun f s7 q7=>?_)
  have again:∀{σ7:St} {H7:Hp},Inv X (pq++oJ fp s5.heap) σ7 H7 s7->N σ7 H7->∃ m,m<n/\∃ i σ' H',Inv X pq σ' H' s7/\tn i s7.heap/\(∀ b∈fp,H' b=none)/\W i m σ' H':=fun {σ7 H7} I7 n7=>by
   obtain⟨m',hm,w7⟩:=hN σ7 H7 n7;refine⟨m',hm,i+1,σ7,H7,I7.iD,T.keep _ _ _ Dq fun b hb o e=>(I7.pin (b,o) (oz _ (oz _ (gi hb e)))).1,fun b hb=>?_,w7⟩
   obtain⟨o,e,d⟩:=T.obj _ _ Dq b hb;exact(I7.pin (b,o) (oz _ (oz _ (gi hb e)))).2.1
  cases f with
  | next=>obtain⟨σ7,H7,I7,n7⟩:=q7;exact again I7 n7
  | cont=>obtain⟨σ7,H7,I7,n7⟩:=q7;exact again I7 n7
  | brk=>obtain⟨σ7,H7,I7,q7⟩:=q7;exact⟨σ7,H7,I7.iD,q7⟩
  | ret v=>obtain⟨x7,σ7,H7,I7,r7,q7⟩:=q7;exact⟨x7,σ7,H7,I7.iD,r7,q7⟩
end
theorem Dr{K:bI}{a:Addr}{xs:List V}{g:TG}{tb:TS}{D:Ends}{σ:St}{H:Hp}(Pv:Nat->St->Hp->Prop)(h0:Pv 0 σ H)(hl:∀ i σ H,i<=xs.length->Pv i σ H->aQ K H a xs)
 (hs:∀ i x σ H,xs[i]?=some x->Pv i σ H->g x σ H fun σ2 H2=>tb { D with nx:=Pv (i+1),ct:=Pv (i+1),bk:=D.nx} σ2 H2) (hd:∀ σ H,Pv xs.length σ H->D.nx σ H) :
 ∃ W:Nat->Nat->St->Hp->Prop,(∃ m,W 0 m σ H)/\∀ i m σ H,W i m σ H->
   ((F3 K a).stop i H/\D.nx σ H)\/((F3 K a).go i H/\∃ N:St->Hp->Prop,(∀ σ' H',N σ' H'->∃ m',m'<m/\W (i+1) m' σ' H')/\∀ x H',(F3 K a).F1 i H x H'->g x σ H' fun σ2 H2=>tb { D with nx:=N,ct:=N,bk:=D.nx} σ2 H2):=by
 refine⟨fun i m σ H=>m=xs.length-i/\i<=xs.length/\Pv i σ H,⟨xs.length,by simp,Nat.zero_le _,h0⟩,?_⟩
 rintro i m σ H ⟨rfl,hi,p⟩;have q:=hl i σ H hi p
 by_cases hlt:i<xs.length
 ·refine .inr ⟨⟨xs,xs[i],q,by simp[hlt]⟩,Pv (i+1),fun σ' H' p'=>⟨xs.length-(i+1),by lia,rfl,hlt,p'⟩,fun x H' y=>?_⟩
  obtain⟨e,y⟩:=y;subst e;exact hs i x σ _ (y xs q) p
 ·have e:i=xs.length:=by lia
  subst e;exact .inl ⟨⟨xs,q,Nat.le_refl _⟩,hd σ H p⟩
theorem Bk{lo:Int}{n:Nat}{g:TG}{tb:TS}{D:Ends}{σ:St}{H:Hp}(Pv:Nat->St->Hp->Prop)(h0:Pv 0 σ H)
 (hs:∀ i σ H,i<n->Pv i σ H->g (.int (lo+i)) σ H fun σ2 H2=>tb { D with nx:=Pv (i+1),ct:=Pv (i+1),bk:=D.nx} σ2 H2) (hd:∀ σ H,Pv n σ H->D.nx σ H) :
 ∃ W:Nat->Nat->St->Hp->Prop,(∃ m,W 0 m σ H)/\∀ i m σ H,W i m σ H->
   ((Dp lo n).stop i H/\D.nx σ H)\/((Dp lo n).go i H/\∃ N:St->Hp->Prop,(∀ σ' H',N σ' H'->∃ m',m'<m/\W (i+1) m' σ' H')/\∀ x H',(Dp lo n).F1 i H x H'->g x σ H' fun σ2 H2=>tb { D with nx:=N,ct:=N,bk:=D.nx} σ2 H2):=by
 refine⟨fun i m σ H=>m=n-i/\i<=n/\Pv i σ H,⟨n,by simp,Nat.zero_le _,h0⟩,?_⟩
 rintro i m σ H ⟨rfl,hi,p⟩
 by_cases hlt:i<n
 ·refine .inr ⟨hlt,Pv (i+1),fun σ' H' p'=>⟨n-(i+1),by lia,rfl,hlt,p'⟩,fun x H' y=>?_⟩
  obtain⟨e,y⟩:=y;subst e y;exact hs i σ _ hlt p
 ·have e:i=n:=by lia
  subst e;exact .inl ⟨Nat.le_refl _,hd σ H p⟩
abbrev R2:=V->V->Hp->VK->Prop
def kN(X:Cx)(f:Value->Value->Sem Value)(r:R2):Prop :=
 ∀(pq:aX) (s:Shared) (σ:St) (H:Hp) (x y:V) (v u:Value) (Q:VK),Inv X pq σ H s->RelV x v->RelV y u->r x y H Q->
  wpAny (model X.prog X.w) X.A (f v u) (EP X pq σ Q) X.xe s
def NC(X:Cx)(f:Value->Sem Value)(r:V->Hp->VK->Prop):Prop :=
 ∀(pq:aX) (s:Shared) (σ:St) (H:Hp) (x:V) (v:Value) (Q:VK),Inv X pq σ H s->RelV x v->r x H Q->
  wpAny (model X.prog X.w) X.A (f v) (EP X pq σ Q) X.xe s
def eO(X:Cx)(f:Value)(r:List V->Hp->VK->Prop):Prop :=
 ∀(pq:aX) (s:Shared) (σ:St) (H:Hp) (xs:List V) (us:List Value) (Q:VK),Inv X pq σ H s->Vals xs us->r xs H Q->
  wpAny (model X.prog X.w) X.A (call f us) (EP X pq σ Q) X.xe s
def KQ(r:R2)(ta tb:TE):TE:=fun σ H Q=>ta σ H fun x H1=>tb σ H1 fun y H2=>r x y H2 Q
def Rk(r:V->Hp->VK->Prop)(ta:TE):TE:=fun σ H Q=>ta σ H fun x H1=>r x H1 Q
def rI(C:Int->Int->Prop)(g:Int->Int->V):R2:=fun x y H Q=>∃ i j,x = .int i/\y = .int j/\C i j/\Q (g i j) H
def Bm(g:Int->Int->V):R2:=fun x y H Q=>∃ i j,x = .int i/\y = .int j/\Q (g i j) H
def rU(g:Int->V):V->Hp->VK->Prop:=fun x H Q=>∃ i,x = .int i/\Q (g i) H
section
variable {X:Cx}{a b c:Expr}{ta tb tc:TE}{pos:Pos}
theorem Iu(ha:PE X a ta)(hb:PE X b tb){pq:aX}{s:Shared}{σ:St}{H:Hp}{R:V->V->Hp->Prop}(I:Inv X pq σ H s)
 (h:ta σ H fun x H1=>tb σ H1 fun y H2=>R x y H2) {Q:gU} {f:Value->Value->Sem Value}
 (hf:∀ v u s2 x y H2,Inv X pq σ H2 s2->RelV x v->RelV y u->R x y H2->wpAny (model X.prog X.w) X.A (f v u) Q X.xe s2) :
 wpAny (model X.prog X.w) X.A (eval a X.env) (fun v s₁=>wpAny (model X.prog X.w) X.A (eval b X.env) (fun u s₂=>wpAny (model X.prog X.w) X.A (f v u) Q X.xe s₂) X.xe s₁) X.xe s:=by
 refine eR (ha pq s σ H _ I h) fun v s1 ⟨x,H1,I1,r1,q1⟩=>?_
 refine eR (hb pq s1 σ H1 _ I1 q1) fun u s2 ⟨y,H2,I2,r2,q2⟩=>?_
 exact hf v u s2 x y H2 I2 r1 r2 q2
theorem aD{op:Operator}{r:R2}(ho:kN X (binaryOp op) r)(ha:PE X a ta)(hb:PE X b tb):PE X (.BinOp a op b pos) (KQ r ta tb):=by
 intro pq s σ H Q I h;exact wpAny_BinOp (Iu ha hb I h fun v u s2 x y H2 I2 rx ry q=>ho pq s2 σ H2 x y v u Q I2 rx ry q)
theorem Al{op:UnaryOp}{r:V->Hp->VK->Prop}(ho:NC X (unaryOp op) r)(ha:PE X a ta):PE X (.UnaryOp op a pos) (Rk r ta):=by
 intro pq s σ H Q I h;exact UnaryOp_ (eR (ha pq s σ H _ I h) fun v s1 ⟨x,H1,I1,r1,q1⟩=>ho pq s1 σ H1 x v Q I1 r1 q1)
theorem JU{f:Value->Value->Sem Value}{C:Int->Int->Prop}{g:Int->Int->Int}
 (rule:∀(i j:Int) (t u:Tok) (s:Shared) (Q:gU) (E:gU),C i j->Q (.int (g i j) s.toks) { s with toks:=s.toks+1}->wpAny (model X.prog X.w) X.A (f (.int i t) (.int j u)) Q E s) :
 kN X f (rI C fun i j=>.int (g i j)):=by
 intro pq s σ H x y v u Q I rx ry h;obtain⟨i,j,rfl,rfl,hc,q⟩:=h;obtain⟨t,rfl⟩:=rx;obtain⟨t',rfl⟩:=ry;exact rule i j t t' s _ _ hc ⟨.int (g i j),H,I.tok _,⟨_,rfl⟩,q⟩
theorem yG{f:Value->Value->Sem Value}{g:Int->Int->Int}
 (rule:∀(i j:Int) (t u:Tok) (s:Shared) (Q:gU) (E:gU),Q (.int (g i j) s.toks) { s with toks:=s.toks+1}->wpAny (model X.prog X.w) X.A (f (.int i t) (.int j u)) Q E s) :
 kN X f (Bm fun i j=>.int (g i j)):=by
 intro pq s σ H x y v u Q I rx ry h;obtain⟨i,j,rfl,rfl,q⟩:=h;obtain⟨t,rfl⟩:=rx;obtain⟨t',rfl⟩:=ry;exact rule i j t t' s _ _ ⟨.int (g i j),H,I.tok _,⟨_,rfl⟩,q⟩
theorem F5{f:Value->Value->Sem Value}{g:Int->Int->Bool}
 (rule:∀(i j:Int) (t u:Tok) (s:Shared) (Q:gU) (E:gU),Q (.bool (g i j)) s->wpAny (model X.prog X.w) X.A (f (.int i t) (.int j u)) Q E s) :
 kN X f (Bm fun i j=>.bl (g i j)):=by
 intro pq s σ H x y v u Q I rx ry h;obtain⟨i,j,rfl,rfl,q⟩:=h;obtain⟨t,rfl⟩:=rx;obtain⟨t',rfl⟩:=ry;exact rule i j t t' s _ _ ⟨.bl (g i j),H,I,rfl,q⟩
def ND(i j:Int):Prop:=0<j/\j<1073741824
def KR(i j:Int):Prop:=0<=j/\j<=1000000/\i.natAbs<2^64
def Iv(i j:Int):Prop:=(-(2^64)<i/\i<2^64)\/(-(2^64)<j/\j<2^64)
theorem Iv.ok{i j:Int}(h:Iv i j):IntMulOk i j:=by
 rcases h with⟨h1,h2⟩|⟨h1,h2⟩
 ·exact .of_left (intBits_le_64 h1 h2)
 ·exact .of_right (intBits_le_64 h1 h2)
theorem yH(k:Nat):(0:Int)<=2^k:=by
 rw[two_pow_cast];exact Int.natCast_nonneg _
theorem cY:kN X (binaryOp .Add) (Bm fun i j=>.int (i+j)):=yG fun _ _ _ _ _ _ _ q=>add_int q
theorem gV:kN X (binaryOp .Sub) (Bm fun i j=>.int (i-j)):=yG fun _ _ _ _ _ _ _ q=>sub_int q
theorem yI:kN X (binaryOp .Mult) (rI Iv fun i j=>.int (i*j)):=JU fun _ _ _ _ _ _ _ hc q=>mul_int q hc.ok
theorem gB:kN X (binaryOp .FloorDiv) (rI ND fun i j=>.int (i/j)):=JU fun i j _ _ _ _ _ hc q=>by
 have h1:(0:Int)<j:=hc.1;have h2:j<1073741824:=hc.2;exact floordiv_int (by lia) (by rw[Int.fdiv_eq_ediv_of_nonneg i (by lia)];exact q) (.inl (PyProof.noPylong_small (by lia)))
theorem bA:kN X (binaryOp .Mod) (rI (fun _ j=>0<j) fun i j=>.int (i%j)):=JU fun i j _ _ _ _ _ hc q=>by
 have h1:(0:Int)<j:=hc;exact mod_int' (by lia) (by rw[Int.fmod_eq_emod_of_nonneg i (by lia)];exact q)
theorem Ds:kN X (binaryOp .Pow) (rI KR fun i j=>.int (i^j.toNat)):=JU fun _ _ _ _ _ _ _ hc q=>pow_int_small hc.1 hc.2.1 hc.2.2 q
theorem jj:kN X (binaryOp .LShift) (rI KR fun i j=>.int (i*2^j.toNat)):=JU fun _ _ _ _ _ _ _ hc q=>lshift_int_small hc.1 hc.2.1 hc.2.2 q
theorem uR:kN X (binaryOp .RShift) (rI (fun _ j=>0<=j) fun i j=>.int (i/2^j.toNat)):=JU fun i j _ _ _ _ _ hc q =>
 rshift_int hc (by rw[Int.fdiv_eq_ediv_of_nonneg i (yH _)];exact q)
theorem uS:kN X (binaryOp .BitAnd) (Bm fun i j=>.int (Builtin.bitAnd i j)):=yG fun _ _ _ _ _ _ _ q=>and_int q
theorem iE:kN X (binaryOp .BitXor) (Bm fun i j=>.int (Builtin.bitXor i j)):=yG fun _ _ _ _ _ _ _ q=>xor_int q
theorem Am:kN X (inplaceOp .Add) (Bm fun i j=>.int (i+j)):=yG fun _ _ _ _ _ _ _ q=>iadd_int q
theorem Dt:kN X (inplaceOp .BitOr) (Bm fun i j=>.int (Builtin.bitOr i j)):=yG fun _ _ _ _ _ _ _ q=>ior_int q
theorem uT:kN X (inplaceOp .BitXor) (Bm fun i j=>.int (Builtin.bitXor i j)):=yG fun _ _ _ _ _ _ _ q=>ixor_int q
theorem Rl{f:Value->Sem Value}{g:Int->Int}
 (rule:∀(i:Int) (t:Tok) (s:Shared) (Q:gU) (E:gU),Q (.int (g i) s.toks) { s with toks:=s.toks+1}->wpAny (model X.prog X.w) X.A (f (.int i t)) Q E s) :
 NC X f (rU fun i=>.int (g i)):=by
 intro pq s σ H x v Q I rx h;obtain⟨i,rfl,q⟩:=h;obtain⟨t,rfl⟩:=rx;exact rule i t s _ _ ⟨.int (g i),H,I.tok _,⟨_,rfl⟩,q⟩
theorem uU:NC X (unaryOp .USub) (rU fun i=>.int (-i)):=Rl fun _ _ _ _ _ q=>neg_int q
end
def KS:V->V->Bool
 | .gh,.gh=>true | .gh,.int _=>true | .int _,.gh=>true | .gh,.bl _=>true | .bl _,.gh=>true | .gh,.str _=>true | .str _,.gh=>true
 | .int _,.int _=>true | .bl _,.bl _=>true | .str _,.str _=>true | .C7 _,.C7 _=>true
 | .int _,.str _=>true | .str _,.int _=>true | .bl _,.str _=>true | .str _,.bl _=>true
 | _,_=>false
def Rm:R2:=fun x y H Q=>KS x y=true/\Q (.bl (decide (x=y))) H
def Rn:R2:=fun x y H Q=>KS x y=true/\Q (.bl (!decide (x=y))) H
theorem An{i j:Int}:decide (V.int i=V.int j)=(i==j):=by
 rw[Bool.eq_iff_iff];simp
theorem Du{i j:Bool}:decide (V.bl i=V.bl j)=(i==j):=by
 rw[Bool.eq_iff_iff];simp
theorem Ao{i j:Str}:decide (V.str i=V.str j)=(i==j):=by
 rw[Bool.eq_iff_iff];simp
theorem Aq{i j:Array UInt8}:decide (V.C7 i=V.C7 j)=(i.toList==j.toList):=by
 rw[Bool.eq_iff_iff];cases i;cases j;simp
section
variable {X:Cx}{a b c:Expr}{ta tb tc:TE}{pos:Pos}
theorem bB{pq:aX}{σ:St}{H:Hp}{s:Shared}{Q:VK}{k k' : Bool}(I:Inv X pq σ H s)(q:Q (.bl k) H)(e:k=k'):EP X pq σ Q (.bool k') s:=by
 subst e;exact⟨.bl k,H,I,rfl,q⟩
theorem bE:kN X (compareOp .Eq) Rm:=by
 intro pq s σ H x y v u Q I rx ry h;obtain⟨hs,q⟩:=h;cases x with
 | gh =>
   cases rx;cases y with
   | gh=>cases ry;exact PySem.EqNone.eq_none_none (bB I q (by simp))
   | bl j=>cases ry;exact PySem.EqNone.eq_none_bool (bB I q (by simp))
   | int j=>obtain⟨t',rfl⟩:=ry;exact PySem.EqNone.eq_none_int (bB I q (by simp))
   | str j=>obtain⟨t',rfl⟩:=ry;exact PySem.EqNone.eq_none_str (bB I q (by simp))
   | _=>exact absurd (show false=true from hs) Bool.false_ne_true
 | bl i =>
   cases rx;cases y with
   | gh=>cases ry;exact PySem.EqNone.eq_bool_none (bB I q (by simp))
   | bl j=>cases ry;exact eq_bool (bB I q Du)
   | str j=>obtain⟨t',rfl⟩:=ry;exact PySem.EqMixed.eq_bool_str (bB I q (by simp))
   | _=>exact absurd (show false=true from hs) Bool.false_ne_true
 | int i =>
   obtain⟨t,rfl⟩:=rx;cases y with
   | gh=>cases ry;exact PySem.EqNone.eq_int_none (bB I q (by simp))
   | int j=>obtain⟨t',rfl⟩:=ry;exact eq_int (bB I q An)
   | str j=>obtain⟨t',rfl⟩:=ry;exact PySem.EqMixed.eq_int_str (bB I q (by simp))
   | _=>exact absurd (show false=true from hs) Bool.false_ne_true
 | str i =>
   obtain⟨t,rfl⟩:=rx;cases y with
   | gh=>cases ry;exact PySem.EqNone.eq_str_none (bB I q (by simp))
   | bl j=>cases ry;exact PySem.EqMixed.eq_str_bool (bB I q (by simp))
   | int j=>obtain⟨t',rfl⟩:=ry;exact PySem.EqMixed.eq_str_int (bB I q (by simp))
   | str j=>obtain⟨t',rfl⟩:=ry;exact eq_str (bB I q Ao)
   | _=>exact absurd (show false=true from hs) Bool.false_ne_true
 | C7 i =>
   obtain⟨t,rfl⟩:=rx;cases y with
   | C7 j=>obtain⟨t',rfl⟩:=ry;exact PySem.W.eq_bytes (bB I q Aq)
   | _=>exact absurd (show false=true from hs) Bool.false_ne_true
 | _=>cases y<;>exact absurd (show false=true from hs) Bool.false_ne_true
theorem qL:kN X (compareOp .NotEq) Rn:=by
 intro pq s σ H x y v u Q I rx ry h;obtain⟨hs,q⟩:=h;cases x with
 | gh =>
   cases rx;cases y with
   | gh=>cases ry;exact PySem.EqNone.ne_none_none (bB I q (by simp))
   | bl j=>cases ry;exact PySem.EqNone.ne_none_bool (bB I q (by simp))
   | int j=>obtain⟨t',rfl⟩:=ry;exact PySem.EqNone.ne_none_int (bB I q (by simp))
   | str j=>obtain⟨t',rfl⟩:=ry;exact PySem.EqNone.ne_none_str (bB I q (by simp))
   | _=>exact absurd (show false=true from hs) Bool.false_ne_true
 | bl i =>
   cases rx;cases y with
   | gh=>cases ry;exact PySem.EqNone.ne_bool_none (bB I q (by simp))
   | bl j=>cases ry;exact ne_bool (bB I q (congrArg not Du))
   | str j=>obtain⟨t',rfl⟩:=ry;exact PySem.EqMixed.ne_bool_str (bB I q (by simp))
   | _=>exact absurd (show false=true from hs) Bool.false_ne_true
 | int i =>
   obtain⟨t,rfl⟩:=rx;cases y with
   | gh=>cases ry;exact PySem.EqNone.ne_int_none (bB I q (by simp))
   | int j=>obtain⟨t',rfl⟩:=ry;exact ne_int (bB I q (congrArg not An))
   | str j=>obtain⟨t',rfl⟩:=ry;exact PySem.EqMixed.ne_int_str (bB I q (by simp))
   | _=>exact absurd (show false=true from hs) Bool.false_ne_true
 | str i =>
   obtain⟨t,rfl⟩:=rx;cases y with
   | gh=>cases ry;exact PySem.EqNone.ne_str_none (bB I q (by simp))
   | bl j=>cases ry;exact PySem.EqMixed.ne_str_bool (bB I q (by simp))
   | int j=>obtain⟨t',rfl⟩:=ry;exact PySem.EqMixed.ne_str_int (bB I q (by simp))
   | str j=>obtain⟨t',rfl⟩:=ry;exact ne_str (bB I q (congrArg not Ao))
   | _=>exact absurd (show false=true from hs) Bool.false_ne_true
 | C7 i =>
   obtain⟨t,rfl⟩:=rx;cases y with
   | C7 j=>obtain⟨t',rfl⟩:=ry;exact PySem.W.ne_bytes (bB I q (congrArg not Aq))
   | _=>exact absurd (show false=true from hs) Bool.false_ne_true
 | _=>cases y<;>exact absurd (show false=true from hs) Bool.false_ne_true
theorem qM:kN X (compareOp .Lt) (Bm fun i j=>.bl (decide (i<j))):=F5 fun _ _ _ _ _ _ _ q=>lt_int q
theorem qN:kN X (compareOp .LtE) (Bm fun i j=>.bl (decide (i<=j))):=F5 fun _ _ _ _ _ _ _ q=>le_int q
theorem nj:kN X (compareOp .Gt) (Bm fun i j=>.bl (decide (j<i))):=F5 fun _ _ _ _ _ _ _ q=>gt_int q
theorem Dv:kN X (compareOp .GtE) (Bm fun i j=>.bl (decide (j<=i))):=F5 fun _ _ _ _ _ _ _ q=>ge_int q
theorem aK(b:Expr){op:CmpOp}(h:op≠.In:=by decide)(h2:op≠.NotIn:=by decide):behindInMarks op b=false:=by
 have e1:(op==CmpOp.In)=false:=by cases op<;>first | rfl | exact absurd rfl h
 have e2:(op==CmpOp.NotIn)=false:=by cases op<;>first | rfl | exact absurd rfl h2
 cases b<;>simp[behindInMarks,e1,e2]
theorem cB{op:CmpOp}{r:R2}(ho:kN X (compareOp op) r)(ha:PE X a ta)(hb:PE X b tb)(hm:behindInMarks op b=false):PE X (.Compare a [op] [b] pos) (KQ r ta tb):=by
 intro pq s σ H Q I h;exact wpAny_Compare1 (Iu ha hb I h fun v u s2 x y H2 I2 rx ry q=>ho pq s2 σ H2 x y v u Q I2 rx ry q) hm
def KU(t:TE):TT:=fun σ H Q=>t σ H fun x H'=>∃ k,x = .bl k/\Q k H'
theorem aI{op:CmpOp}{r:R2}(ho:kN X (compareOp op) r)(ha:PE X a ta)(hb:PE X b tb)(hm:behindInMarks op b=false):PT X (.Compare a [op] [b] pos) (KU (KQ r ta tb)):=by
 intro pq s σ H Q I h;refine wpAny_isTrue_Compare1 (eR (ha pq s σ H _ I h) fun v s1 ⟨x,H1,I1,r1,q1⟩=>eR (hb pq s1 σ H1 _ I1 q1) fun u s2 ⟨y,H2,I2,r2,q2⟩ =>
  eR (ho pq s2 σ H2 x y v u _ I2 r1 r2 q2) fun c s3 ⟨z,H3,I3,r3,k,e,q3⟩=>?_) hm
 subst e;cases r3;exact wpAny_truthy_bool ⟨H3,I3,q3⟩
theorem qO:(sizeLine:Nat)<2^63:=by rw[sizeLine_eq];decide
theorem vals1{x:V}{us:List Value}(r:Vals [x] us):∃ u,us=[u]/\RelV x u:=by
 cases r with
 | cons r1 r2=>cases r2;exact⟨_,rfl,r1⟩
theorem vals2{x y:V}{us:List Value}(r:Vals [x,y] us):∃ u w',us=[u,w']/\RelV x u/\RelV y w':=by
 cases r with
 | cons r1 r2 =>
   cases r2 with
   | cons r3 r4=>cases r4;exact⟨_,_,rfl,r1,r3⟩
theorem tV(hc:X.calm=true):eO X (.builtin "max") (fun xs H Q=>∃ i j,xs=[.int i,.int j]/\Q (.int (if j > i then j else i)) H):=by
 intro pq s σ H xs us Q I r h;obtain⟨i,j,rfl,q⟩:=h;obtain⟨u,w',rfl,⟨t,rfl⟩,⟨t',rfl⟩⟩:=vals2 r;refine max_two_ints (I.ok.hd hc) fun h' tk k=>⟨_,H,I.kept k,?_,q⟩
 by_cases hj:j > i
 ·rw[if_pos hj,if_pos hj];exact⟨_,rfl⟩
 ·rw[if_neg hj,if_neg hj];exact⟨_,rfl⟩
theorem Bo(hc:X.calm=true):eO X (.builtin "min") (fun xs H Q=>∃ i j,xs=[.int i,.int j]/\Q (.int (if j<i then j else i)) H):=by
 intro pq s σ H xs us Q I r h;obtain⟨i,j,rfl,q⟩:=h;obtain⟨u,w',rfl,⟨t,rfl⟩,⟨t',rfl⟩⟩:=vals2 r;refine min_two_ints (I.ok.hd hc) fun h' tk k=>⟨_,H,I.kept k,?_,q⟩
 by_cases hj:j<i
 ·rw[if_pos hj,if_pos hj];exact⟨_,rfl⟩
 ·rw[if_neg hj,if_neg hj];exact⟨_,rfl⟩
theorem oM:eO X (.type "int") (fun xs H Q=>(∃ i,xs=[.int i]/\Q (.int i) H)\/∃ k,xs=[.bl k]/\Q (.int (if k then 1 else 0)) H):=by
 intro pq s σ H xs us Q I r h;rcases h with⟨i,rfl,q⟩|⟨k,rfl,q⟩
 ·obtain⟨u,rfl,t,rfl⟩:=vals1 r;exact call_int_int ⟨.int i,H,I,⟨_,rfl⟩,q⟩
 ·obtain⟨u,rfl,r1⟩:=vals1 r;cases r1;exact call_int_bool ⟨.int (if k then 1 else 0),H,I.tok _,⟨_,rfl⟩,q⟩
end
structure Iw(h:Heap)(x dx C:Addr)(mA:kK):Prop where
 obj:h.get? x=some (PySem.W.instObj C dx)
 ns:h.Ns1 dx mA
 ne:dx≠x
theorem Bp{h:Heap}{dx:Addr}{mA:kK}(n:h.Ns1 dx mA):∃ od,h.get? dx=some od/\∀ name,PySem.W.lookIn name od=some (mA name):=by
 obtain⟨o,es,ep,ho,hd,hk,_,hm⟩:=n;refine⟨o,ho,fun name=>?_⟩
 have e:=hm name;unfold nsFind findBy at e;rw[<-Array.find?_toList]at e;unfold PySem.W.lookIn;rw[hd];dsimp only
 split
 ·rename_i y q
  rw[q]at e;exact congrArg some e
 ·rename_i q
  rw[q]at e;have a:es.toList.any (·.refKey)=false:=by
   rw[List.any_eq_false];intro y hy;obtain⟨z,t,hkey⟩:=hk y (Array.mem_toList_iff.mp hy);simp[DictEntry.refKey,hkey]
  have a' : ¬ es.toList.any (·.refKey)=true:=by rw[a];exact Bool.false_ne_true
  rw[if_neg a'];exact congrArg some e
theorem Iw.look{h:Heap}{x dx C:Addr}{mA:kK}(I:Iw h x dx C mA):∃ od,PySem.W.InstAt h x (PySem.W.instObj C dx) C (some od)/\∀ name,PySem.W.lookIn name od=some (mA name) :=
 let⟨od,ho,hl⟩:=Bp I.ns
 ⟨od,⟨I.obj,rfl,rfl,ho⟩,hl⟩
section
variable {P:Program}{w:World}{H H' : Hp}{h h' : Heap}{a C dx:Addr}{fs fs' : List (Str×V)}
theorem F6(hok:m9 P w H h)(e:H a=some (.ins C dx fs)):∃ mA,Iw h a dx C mA/\(∀ f,Ii (fs.lookup f) (mA f))/\PySem.Within mA (fs.map (·.1))/\fs.length<=1000/\H dx=some (.own a):=by
 obtain⟨d,z,ne,ob,mA,n,r,q⟩:=(show bR P w H h a (.ins C dx fs) from hok a _ e)
 exact⟨mA,⟨ob,n,ne⟩,r,q,z,d⟩
end
structure NF(K:bI)(C:Addr):Prop where
 pg:PySem.W.plainGet K C Str.empty=true
 hd:PySem.W.hasDictIn K C=true
 po:PySem.W.plainOver K C=true
 sa:PySem.W.findIn K (.ref C) "__setattr__"=some (some (.builtin "object.__setattr__"))
theorem NF.get{K:bI}{C:Addr}(c:NF K C)(f:Str):PySem.W.plainGet K C f=true:=c.pg
section
variable {X:Cx}{pq:aX}{σ:St}{H:Hp}{s:Shared}{A:Around}{E:gU}{Q:gU}{c:Value}{b:Bool}
inductive oN(K:bI)(H:Hp):V->Value->Prop where
 | gh:oN K H .gh (.type "NoneType")
 | bl (x:Bool):oN K H (.bl x) (.type "bool")
 | int (i:Int):oN K H (.int i) (.type "int")
 | str (x:Str):oN K H (.str x) (.type "str")
 | JR (x:UInt64):oN K H (.JR x) (.type "float")
 | lst {a:Addr} {xs:List V} (e:H a=some (.lst xs)):oN K H (.ref a) (.type "list")
 | pU {a:Addr} {o:Obj} {xs:List V} (e:H a=some (.pU o (.lst xs))):oN K H (.ref a) (.type "list")
 | tup {a:Addr} {xs:List V} (e:H a=some (.tup xs)):oN K H (.ref a) (.type "tuple")
 | dK {a:Addr} {kvs:List (Key×V)} (e:H a=some (.dK kvs)):oN K H (.ref a) (.type "dict")
 | dT {a:Addr} {kvs:List (List Key×V)} (e:H a=some (.dT kvs)):oN K H (.ref a) (.type "dict")
 | ins {a C dx:Addr} {fs:List (Str×V)} (e:H a=some (.ins C dx fs)) (cl:NF K C) (ha:PySem.W.findIn K (.ref C) "__class__"=some (some (.builtin "object.__class__")))
  (hn:PySem.W.specialIn K (.builtin "object.__class__") "__get__"=some (some (.builtin "getset_descriptor.__get__"))) (htk:PySem.W.takesIn K (.builtin "object.__class__")=some true)
  (hm:PySem.W.mroIn K C (.type "object")=some true):oN K H (.ref a) (.ref C)
theorem Bq{x:V}{u t:Value}(I:Inv X pq σ H s)(rx:RelV x u)(ty:oN X.K H x t)(e:PySem.W.kitOne X.K t c=some b)(h:∀ tk,Q (.bool b) { s with toks:=tk}):
 wpAny (model X.prog X.w) A (call (.builtin "isinstance") [u,c]) Q E s:=by
 cases ty with
 | gh=>cases(show u=Value.none from rx);exact PySem.W.kia_one PySem.W.kitx_none I.wF True.intro e (fun z=>nomatch z) h
 | bl y=>cases(show u=Value.bool y from rx);exact PySem.W.kia_one PySem.W.kitx_bool I.wF True.intro e (fun z=>nomatch z) h
 | int i=>obtain⟨t,q⟩:=(show ∃ t,u=Value.int i t from rx);cases q;exact PySem.W.kia_one PySem.W.kitx_int I.wF True.intro e (fun z=>nomatch z) h
 | str y=>obtain⟨t,q⟩:=(show ∃ t,u=Value.str y t from rx);cases q;exact PySem.W.kia_one PySem.W.kitx_str I.wF True.intro e (fun z=>nomatch z) h
 | JR y=>obtain⟨t,q⟩:=(show ∃ t,u=Value.float y t from rx);cases q;exact PySem.W.kia_one PySem.W.kitx_float I.wF True.intro e (fun z=>nomatch z) h
 | @lst a xs ea =>
   cases(show u=Value.ref a from rx)
   obtain⟨_,_,n,_,h1⟩:=(show bR X.prog X.w H s.heap a (.lst xs) from I.hok a _ ea)
   exact PySem.W.kia_one PySem.W.kitx_list I.wF ⟨_,h1,rfl⟩ e (fun z=>nomatch z) h
 | @pU a ob xs ea =>
   cases(show u=Value.ref a from rx)
   obtain⟨_,_,_,n,_,h1⟩:=(show bR X.prog X.w H s.heap a (.pU ob (.lst xs)) from I.hok a _ ea)
   exact PySem.W.kia_one PySem.W.kitx_list I.wF ⟨_,h1,rfl⟩ e (fun z=>nomatch z) h
 | @tup a xs ea =>
   cases(show u=Value.ref a from rx)
   obtain⟨_,_,_,p⟩:=(show bR X.prog X.w H s.heap a (.tup xs) from I.hok a _ ea)
   obtain⟨o,h1,h2,_⟩:=p;exact PySem.W.kia_one PySem.W.kitx_tuple I.wF ⟨o,h1,h2⟩ e (fun z=>nomatch z) h
 | @dK a kvs ea =>
   cases(show u=Value.ref a from rx)
   obtain⟨_,_,vs,_,p⟩:=(show bR X.prog X.w H s.heap a (.dK kvs) from I.hok a _ ea)
   obtain⟨o,es,ep,h1,h2,_⟩:=p;exact PySem.W.kia_one PySem.W.kitx_dict I.wF ⟨o,h1,h2.1⟩ e (fun z=>nomatch z) h
 | @dT a kvs ea =>
   cases(show u=Value.ref a from rx)
   obtain⟨_,_,xs,_,o,es,ep,h1,h2,_⟩:=(show bR X.prog X.w H s.heap a (.dT kvs) from I.hok a _ ea)
   exact PySem.W.kia_one PySem.W.kitx_dict I.wF ⟨o,h1,h2.1⟩ e (fun z=>nomatch z) h
 | @ins a C dx fs ea cl ha hn htk hm =>
   cases(show u=Value.ref a from rx)
   obtain⟨mA,O,_⟩:=F6 I.hok ea;obtain⟨od,J,_⟩:=O.look;exact PySem.W.kia_one (PySem.W.kitx_own (cl.get _) cl.hd ha hn htk hm) I.wF J e (fun z=>nomatch z) h
end
structure fZ(k:Nat)(A:Around):Prop where
 hd:A.handled=none
 dp:A.depth+3*k+5<recursionLimit
 un:A.units+16*k+200<cLine
theorem fZ.mono{j k:Nat}{A:Around}(r:fZ k A)(h:j<=k):fZ j A:=⟨r.hd,by have:=r.dp;lia,by have:=r.un;lia⟩
theorem fZ.deeper{k:Nat}{A:Around}(r:fZ (k+1) A)(env:Env):fZ k (A.deeper env) :=
 ⟨r.hd,by have:=r.dp;show A.depth+1+3*k+5<_;lia,by have:=r.un;show A.units+3+16*k+200<_;lia⟩
theorem fZ.in1{k:Nat}{A:Around}(r:fZ (k+1) A):fZ k A.in1 :=
 ⟨r.hd,by have:=r.dp;show A.depth+3*k+5<_;lia,by have:=r.un;show A.units+1+16*k+200<_;lia⟩
theorem fZ.depth{k:Nat}{A:Around}(r:fZ k A):A.depth<recursionLimit:=by have:=r.dp;lia
theorem fZ.units{k:Nat}{A:Around}(r:fZ k A):A.units+64<cLine:=by have:=r.un;lia
def NG:TA:=fun _ H Q=>Q [] H
def KW(ta:TE)(tr:TA):TA:=fun σ H Q=>ta σ H fun x H1=>tr σ H1 fun xs H2=>Q (x::xs) H2
section
variable {X:Cx}{e:Expr}{es:List Expr}{te:TE}{t:TA}{pos:Pos}
theorem af:PA X [] NG:=fun _ _ _ _ H Q I h=>Calls.spliced_nil ⟨[],H,I,.nil,h⟩
theorem aa(ha:PE X e te)(hr:PA X es t)(hs:starEach (e::es) X.env=(false,eval e X.env)::starEach es X.env:=by rfl):PA X (e::es) (KW te t):=by
 intro pos pq s σ H Q I h;rw[hs];show wpAny _ _ (spliced ((false,eval e X.env)::backTo pos (starEach es X.env))) _ _ s;refine Calls.spliced_cons (eR (ha pq s σ H _ I h) fun u s1 ⟨x,H1,I1,r1,q1⟩=>?_)
 exact eR (hr pos pq s1 σ H1 _ I1 q1) fun us s2 ⟨xs,H2,I2,r2,q2⟩=>⟨x::xs,H2,I2,.cons r1 r2,q2⟩
def NH(t:TA):TE:=fun σ H Q=>t σ H fun xs H1=>xs.length<=sizeLine/\∀ p,H1 p=none->Q (.ref p) (upd H1 p (.tup xs))
def NI(t:TA):TE:=fun σ H Q=>t σ H fun xs H1=>xs.length<=sizeLine/\∀ p,H1 p=none->Q (.ref p) (upd H1 p (.lst xs))
theorem fm{x1}(h:PA X es t):PE X (.Tuple es x1 pos) (NH t):=by
 intro pq s σ H Q I hq;refine wpAny_Tuple_spliced (eR (h pos pq s σ H _ I hq) fun us s1 ⟨xs,H1,I1,r,z,q⟩=>⟨by rw[<-r.length];exact z,?_⟩)
 have hf:H1 s1.heap.objs.size=none:=I1.hok.fresh (Nat.le_refl _);refine⟨.ref s1.heap.objs.size,upd H1 s1.heap.objs.size (.tup xs),I1.laid (t':=s1.toks) (fun b u e=>Heap.get?_push_of_some _ e) (Nat.le_refl _) ?_,rfl,q _ hf⟩
 exact⟨z,us,r,⟨_,Heap.get?_push_size _ rfl,rfl,_,rfl⟩⟩
theorem cU(h:PA X es t):PE X (.List es pos) (NI t):=by
 intro pq s σ H Q I hq;refine wpAny_List_spliced (eR (h pos pq s σ H _ I hq) fun us s1 ⟨xs,H1,I1,r,z,q⟩=>⟨by rw[<-r.length];exact z,?_⟩)
 have hf:H1 s1.heap.objs.size=none:=I1.hok.fresh (Nat.le_refl _);refine⟨.ref s1.heap.objs.size,upd H1 s1.heap.objs.size (.lst xs),I1.laid (t':=s1.toks) (fun b u e=>Heap.get?_push_of_some _ e) (Nat.le_refl _) ?_,rfl,q _ hf⟩
 exact⟨z,us,0,r,Heap.get?_push_size _ rfl⟩
end
abbrev Sp:=List V->Hp->VK->XK->Prop
abbrev CW:=List Env->Hp->Shared->XK->Value->Shared->Prop
structure F7(P:Program)(w:World)(K:bI)(mg:kK)(base:Heap)(A:Around)(outer:List Env)(s:Shared)(H:Hp):Prop where
 frames:A.frames=some outer
 mod:Mod K mg base
 bs:∀ b o,base.get? b=some o->s.heap.get? b=some o/\H b=none
 FT:base.objs.size<=s.heap.objs.size
 funs:s.heap.FunFrames base outer
 Il:∀ b∈frs outer,H b=none
 hok:m9 P w H s.heap
 bare:AllBare s.gens
def CE(outer:List Env)(P:Program)(w:World)(H:Hp)(s:Shared)(Q:VK)(u:Value)(s' : Shared):Prop :=
 ∃ v H',s'.os=s.os/\AllBare s'.gens/\Un (frs outer) [] H H' s.heap s'.heap/\m9 P w H' s'.heap/\RelV v u/\Q v H'
def CR(CX:CW)(outer:List Env)(P:Program)(w:World)(H:Hp)(s:Shared)(Q:VK)(E:XK)(r:Result)(s' : Shared):Prop :=
 match r with
 | .ok (.ret u)=>CE outer P w H s Q u s'
 | .ok _=>False
 | .error e=>CX outer H s E e s'
structure kO(P:Program)(w:World)(K:bI)(mg:kK)(base:Heap)(CX:CW)(k:Nat)(f:Addr)(fd:FuncData)(ps:List Str)(sp:Sp):Prop where
 len:∀ vs H Q E,sp vs H Q E->vs.length=ps.length
 run:∀(A:Around) (outer:List Env) (s:Shared) (H:Hp) (args:Args) (us:List Value) (vs:List V) (Q:VK) (E:XK),fZ k A->F7 P w K mg base A outer s H->BindsTo s fd args (ps.zip us)->Vals vs us->sp vs H Q E->
  codeAny (model P w) A (.call (.ref f) args) (CR CX outer P w H s Q E) s
section
variable {X:Cx}{pq:aX}{σ:St}{H:Hp}{s s' : Shared}
theorem Inv.NJ(I:Inv X pq σ H s):F7 X.prog X.w X.K X.mg X.base X.A X.stack s H :=
 ⟨I.ok.frames,I.ok.mod,I.bs,Nat.le_trans I.ok.FT I.sz,I.stack,I.uN,I.hok,I.bare⟩
theorem Inv.after{Q:VK}{u:Value}(I:Inv X pq σ H s)(h:CE X.stack X.prog X.w H s Q u s'):EP X pq σ Q u s':=by
 obtain⟨v,H',os,bare,un,hok,r,q⟩:=h;obtain⟨hh,g,d,t,os'⟩:=s';obtain rfl:os' = s.os:=os;exact⟨v,H',I.call (h':=hh) (g':=g) (d':=d) (t':=t) (ch:=[]) un hok bare (fun b z=>absurd z (by simp)),r,q⟩
end
def Hr(sp:Sp)(Hs:List V)(E:XK)(t:TA):TE:=fun σ H Q=>t σ H fun vs H1=>sp (vs++Hs) H1 Q E
def Binds(K:bI)(fd:FuncData)(ps:List Str)(ds:List Value):Prop :=
 ∀(s:Shared) (us:List Value),K.In s.heap->(us++ds).length=ps.length->BindsTo s fd ⟨us,[]⟩ (ps.zip (us++ds))
theorem Binds.all{K:bI}{fd:FuncData}{ps:List Str}(h:∀ us:List Value,us.length=ps.length->bindArgs fd ⟨us,[]⟩=pure (ps.zip us)):Binds K fd ps []:=fun s us _ hl=>by
 rw[List.append_nil]at hl ⊢;exact .of_eq (h us hl)
def Passes(CX:CW)(X:Cx)(E:XK):Prop:=∀(pq:aX) (σ:St) (H:Hp) (s:Shared) (e:Value) (s' : Shared),Inv X pq σ H s->CX X.stack H s E e s'->X.xe e s'
section
variable {X:Cx}{CX:CW}{k:Nat}{f C:Addr}{fd:FuncData}{ps:List Str}{sp:Sp}{Hs:List V}{ds:List Value}{E:XK}{x m:Str}{p pos apos:Pos}{e o:Expr}{es:List Expr}{ta:TE}{t:TA}
theorem Iz{pq:aX}{σ:St}{H:Hp}{s:Shared}{Q:VK}{us:List Value}{vs:List V}(F:kO X.prog X.w X.K X.mg X.base CX k f fd ps sp)(hr:fZ k X.A)(hb:Binds X.K fd ps ds)(hd:Vals Hs ds)(hx:Passes CX X E)
 (I:Inv X pq σ H s) (r:Vals vs us) (h:sp (vs++Hs) H Q E):wpAny (model X.prog X.w) X.A (call (.ref f) us) (EP X pq σ Q) X.xe s:=by
 have r2:Vals (vs++Hs) (us++ds):=r.append hd;have hl:(us++ds).length=ps.length:=by rw[<-r2.length];exact F.len _ _ _ _ h
 refine wpAny_call (codeAny_mono (F.run X.A X.stack s H ⟨us,[]⟩ (us++ds) (vs++Hs) Q E hr I.NJ (hb s us I.wF hl) r2 h) fun r s' hq=>?_)
 cases r with
 | error e=>exact hx pq σ H s e s' I hq
 | ok fl =>
   cases fl with
   | ret u=>exact I.after hq
   | next=>exact False.elim hq
   | brk=>exact False.elim hq
   | cont=>exact False.elim hq
theorem F8(F:kO X.prog X.w X.K X.mg X.base CX k f fd ps sp)(hr:fZ k X.A)(hg:Gl X x)(hm:X.mg x=some (.ref f))(hk:PySem.W.keepIn X.K (.ref f)=true)(hb:Binds X.K fd ps ds)(hd:Vals Hs ds)(hx:Passes CX X E)
 (ha:PA X (e::es) t) (hdb:(x==("__debug__":Str))=false:=by decide) (he:starEach (e::es) X.env=(false,eval e X.env)::starEach es X.env:=by rfl) (hpl:(backTo pos (starEach es X.env)).any (·.1)=false:=by rfl) :
 PE X (.Call (.Name x p) (e::es) [] pos) (Hr sp Hs E t):=by
 intro pq s σ H Q I h;refine wpAny_Call_Name_kw (uP I hg hm ?_ hdb);refine PySem.W.callWith_K (h₀:=X.base) I.ok.mod.MD hk (eR (ha pos pq s σ H _ I h) fun us s1 ⟨vs,H1,I1,r,q⟩=>⟨I1.wF,?_⟩) he hpl
 exact Iz F hr hb hd hx I1 r q
end
structure aH(N P:List Str)(sc:Scope):Prop where
 kind:sc.kind = .function
 co:sc.isCoroutine=false
 gen:sc.isGenerator=false
 nd:N.Nodup
 pre:N.take P.length=P
 par:∀ x∈P,sc.names.lookup x=some .local\/sc.names.lookup x=some .cell
 IA:∀ y∈sc.names,y.2≠.free
theorem tW{kindOf:Str->Option NameKind}{x:Str}:∀{binds:List (Str×Value)} {m:kK},(∀ v,(x,v)∉binds)->bindL kindOf binds m x=m x
 | [],_,_=>rfl
 | (n,v)::r,m,h=>by
   unfold bindL;rw[tW fun w hw=>h w (lJ _ hw)]
   split
   ·have:x≠n:=by rintro rfl;exact h v List.mem_cons_self
    simp[this]
   ·rfl
theorem tX{kindOf:Str->Option NameKind}{x:Str}:∀{binds:List (Str×Value)} {m:kK},(∀ v,(x,v)∉binds)->bindC kindOf binds m x=m x
 | [],_,_=>rfl
 | (n,v)::r,m,h=>by
   unfold bindC;rw[tX fun w hw=>h w (lJ _ hw)]
   split
   ·rfl
   ·have:x≠n:=by rintro rfl;exact h v List.mem_cons_self
    simp[this]
theorem tY{kindOf:Str->Option NameKind}{x:Str}{v:Value}:∀{P:List Str} {vs:List Value} {i:Nat} {m:kK},P.Nodup->P[i]?=some x->vs[i]?=some v->kindOf x=some .local->
 bindL kindOf (P.zip vs) m x=some v
 | [],_,_,_,_,h,_,_=>by simp at h
 | _::_,[],_,_,_,_,h,_=>by simp at h
 | p::P,w::vs,0,m,nd,h1,h2,hk=>by
   simp at h1 h2;subst h1;subst h2;show bindL kindOf ((p,w)::P.zip vs) m p=_;unfold bindL;rw[tW fun v hv=>(List.nodup_cons.mp nd).1 (List.of_mem_zip hv).1,if_pos hk]
   simp
 | p::P,w::vs,i+1,m,nd,h1,h2,hk=>by
   show bindL kindOf ((p,w)::P.zip vs) m x=_;unfold bindL;exact tY (i:=i) (List.nodup_cons.mp nd).2 (by simpa using h1) (by simpa using h2) hk
theorem tZ{kindOf:Str->Option NameKind}{x:Str}{v:Value}:∀{P:List Str} {vs:List Value} {i:Nat} {m:kK},P.Nodup->P[i]?=some x->vs[i]?=some v->kindOf x≠some .local->
 bindC kindOf (P.zip vs) m x=some v
 | [],_,_,_,_,h,_,_=>by simp at h
 | _::_,[],_,_,_,_,h,_=>by simp at h
 | p::P,w::vs,0,m,nd,h1,h2,hk=>by
   simp at h1 h2;subst h1;subst h2;show bindC kindOf ((p,w)::P.zip vs) m p=_;unfold bindC;rw[tX fun v hv=>(List.nodup_cons.mp nd).1 (List.of_mem_zip hv).1,if_neg hk]
   simp
 | p::P,w::vs,i+1,m,nd,h1,h2,hk=>by
   show bindC kindOf ((p,w)::P.zip vs) m x=_;unfold bindC;exact tZ (i:=i) (List.nodup_cons.mp nd).2 (by simpa using h1) (by simpa using h2) hk
def start(N:List Str)(vs:List V):St:=vs.map some++List.replicate (N.length-vs.length) none
def p5(CX:CW)(P:Program)(w:World)(K:bI)(mg:kK)(base:Heap)(N:List Str)(qual:Str)(scope:Scope)(f:Addr)(cd:Value)(A:Around)(outer:List Env)(s:Shared)(H:Hp)(E:XK):Cx where
 prog:=P
 w:=w
 K:=K
 mg:=mg
 base:=base
 A:=A.deeper (envOfC qual scope s.heap.objs.size f cd)
 N:=N
 s₀:=s
 H₀:=H
 env:=envOfC qual scope s.heap.objs.size f cd
 outer:=outer
 stack:=envOfC qual scope s.heap.objs.size f cd::outer
 ex:=[]
 calm:=true
 fn:=fun _=>true
 pn:=[]
 xe:=fun e s'=>wpAny (model P w) (A.deeper (envOfC qual scope s.heap.objs.size f cd)) (leaving (envOfC qual scope s.heap.objs.size f cd) e) (fun _ s''=>CX outer H s E e s'') (fun e' s''=>CX outer H s E e' s'') s'
theorem wN{sc:Scope}{n:Nat}{x:Str}(h:sc.names.lookup x=some .cell):∃ c,(cellsFrom n sc.names []).lookup x=some c:=by
 have q:=PySem.W.cellsFrom_some sc.names n [] (.inl h);exact Option.isSome_iff_exists.mp q
theorem Br{CX:CW}{P:Program}{w:World}{K:bI}{mg:kK}{base:Heap}{N ps:List Str}{qual:Str}{scope:Scope}{f:Addr}{cd:Value}{A:Around}{outer:List Env}{s s1:Shared}{H:Hp}{E:XK}{us:List Value}{vs:List V}
 (S:aH N ps scope) (hd:A.handled=none) (e0:F7 P w K mg base A outer s H) (hl:vs.length=ps.length) (r:Vals vs us)
 (x:InCallC s s.heap.objs.size (bindL (envOfC qual scope s.heap.objs.size f cd).kindOf (ps.zip us) fun _=>none) (cellsFrom (s.heap.objs.size+1) scope.names []) (bindC (envOfC qual scope s.heap.objs.size f cd).kindOf (ps.zip us) fun _=>none) s1) :
 Inv (p5 CX P w K mg base N qual scope f cd A outer s H E) [] (start N vs) H s1:=by
 have hpl:ps.length<=N.length:=by have:=congrArg List.length S.pre;rw[List.length_take]at this;lia
 obtain⟨h1,tk,rfl,hk⟩:=x.done;have NK:∀ b:Addr,b∉(p5 CX P w K mg base N qual scope f cd A outer s H E).ex:=fun b z=>absurd (show b∈([]:List Addr) from z) (by simp)
 refine⟨⟨e0.mod,S.kind,rfl,rfl,Nat.le_refl _,fun y z c h1 h2=>?_,fun y hy=>?_,fun y c _ h=>?_,fun _=>hd,Around.frames_deeper e0.frames,.inr ⟨rfl,rfl⟩,fun b z=>absurd z (NK b),e0.bs,e0.FT,fun b _ _=>NK b,fun b z=>absurd z (NK b),e0.funs,e0.Il⟩,
  rfl,e0.bare,Un.kept hk,⟨_,x.toInCall.ns,fun i y v h1 h2 h3=>?_⟩,fun y c h=>⟨_,x.cell y c h⟩,e0.hok.fresh (Nat.le_refl _),fun y c h=>?_,fun p hp=>absurd (show p∈([]:aX) from hp) (by simp),e0.hok.kept hk,?_⟩
 ·exact name_of_addr x.apart (PySem.mem_of_lookup h1) (PySem.mem_of_lookup h2)
 ·have hy:scope.names.lookup y=some .cell\/scope.names.lookup y=some .free:=hy;rcases hy with hy|hy
  ·exact wN hy
  ·exact absurd rfl (S.IA _ (PySem.mem_of_lookup hy))
 ·exact Nat.le_of_lt (x.above y c (PySem.mem_of_lookup h))
 ·have hi:i<vs.length:=by
   unfold start at h2
   by_cases hi:i<vs.length
   ·exact hi
   ·rw[List.getElem?_append_right (by simpa using hi)]at h2
    rw[List.getElem?_replicate]at h2
    split at h2<;>cases h2
  have ha:vs[i]?=some v:=by
   unfold start at h2;rw[List.getElem?_append_left (by simpa using hi),List.getElem?_map]at h2
   cases e:vs[i]? with
   | none=>rw[e]at h2;cases h2
   | some a=>rw[e]at h2;cases h2;rfl
  obtain⟨u,hu,rv⟩:=r.get ha;have hp:ps[i]?=some y:=by
   rw[<-S.pre,List.getElem?_take_of_lt (by lia)];exact h1
  have O5:ps.Nodup:=by rw[<-S.pre];exact S.nd.sublist (List.take_sublist _ _)
  refine⟨u,rv,?_⟩;rcases S.par y (m8 hp) with k|k
  ·exact .inl ⟨k,tY O5 hp hu k⟩
  ·obtain⟨c,e⟩:=wN (n:=s.heap.objs.size+1) k;refine .inr ⟨.inl k,c,e,?_⟩;have q:=x.cell y c e;rw[tZ O5 hp hu (by show scope.names.lookup y≠_;rw[k];decide)]at q
   exact q
 ·exact e0.hok.fresh (Nat.le_of_lt (x.above y c (PySem.mem_of_lookup h)))
 ·unfold start;show _=N.length;rw[List.length_append,List.length_map,List.length_replicate]
  lia
theorem Dw{CX:CW}{P:Program}{w:World}{K:bI}{mg:kK}{base:Heap}{k:Nat}{f:Addr}{name qual:Str}{params:Arguments}{body:List Stmt}{scope:Scope}{dV kV doc pm cdv ct oc:Value}{an od:Option Addr}
 {osl:Array (Option Value)} {N ps:List Str} {sp:Sp} (lk:K.lookup f=some ⟨oc,od,.func (PySem.W.fnOf name qual params body scope dV kV doc pm an cdv ct),osl⟩) (hcd:PySem.W.codeIn K cdv qual=true) (S:aH N ps scope)
 (len:∀ vs H Q E,sp vs H Q E->vs.length=ps.length)
 (hbody:∀(A:Around) (outer:List Env) (s:Shared) (H:Hp) (vs:List V) (Q:VK) (E:XK),fZ k (A.deeper (envOfC qual scope s.heap.objs.size f cdv))->sp vs H Q E->
  ∃ t,uO (p5 CX P w K mg base N qual scope f cdv A outer s H E) body t/\t { nx:=fun _ H'=>Q .gh H',rt:=Q} (start N vs) H) :
 kO P w K mg base CX (k+1) f (PySem.W.fnOf name qual params body scope dV kV doc pm an cdv ct) ps sp:=by
 refine⟨len,fun A outer s H args us vs Q E hr e0 hb r qP=>?_⟩
 have hl:=len _ _ _ _ qP;have KX:K.In s.heap:=e0.mod.MD.keeps fun b o e=>(e0.bs b o e).1
 have lim:s.heap.NoLimit:=e0.mod.nolimit.keeps fun b o e=>(e0.bs b o e).1
 have hkind:∀ y∈ps.zip us,scope.names.lookup y.1=some .local\/(scope.names.lookup y.1=some .cell/\((cellsFrom (s.heap.objs.size+1) scope.names []).lookup y.1).isSome=true):=fun⟨n,v⟩ hy=>by
  rcases S.par n (List.of_mem_zip hy).1 with q|q
  ·exact .inl q
  ·exact .inr ⟨q,PySem.W.cellsFrom_some _ _ _ (.inl q)⟩
 refine codeAny_call_function hr.depth (KX _ _ lk) rfl S.co S.gen rfl (PySem.W.codeRec_of KX hcd) (hb _ _ _ _ ?_);refine wpAny_newFunctionEnv_cells S.kind hkind fun env he s1 x=>?_
 subst he;refine⟨lim.keeps x.toInCall.keep,codeAny_func ?_⟩;obtain⟨t,ht,hq⟩:=hbody A outer s H vs Q E (hr.deeper _) qP;have I:Inv (p5 CX P w K mg base N qual scope f cdv A outer s H E) [] (start N vs) H s1:=Br S hr.hd e0 hl r x;refine wpAny_mono (ht [] s1 (start N vs) H _ I hq) (fun fl s' hs=>?_) fun e s' hs=>hs
 have fin:∀{σ' : St} {H' : Hp} {v:V} {u:Value},Inv (p5 CX P w K mg base N qual scope f cdv A outer s H E) [] σ' H' s'->RelV v u->Q v H'->CE outer P w H s Q u s' :=
  fun {σ' H' v u} J rv q=>⟨v,H',J.os,J.bare,J.base,J.hok,rv,q⟩
 cases fl with
 | ret u =>
   obtain⟨v,σ',H',J,rv,q⟩:=hs;exact fin J rv q
 | next =>
   obtain⟨σ',H',J,q⟩:=hs;exact fin (v:=V.gh) (u:=Value.none) J rfl q
 | brk =>
   obtain⟨_,_,_,q⟩:=hs;exact False.elim q
 | cont =>
   obtain⟨_,_,_,q⟩:=hs;exact False.elim q
section
variable {X:Cx}{x:Str}{p pos:Pos}{e:Expr}{es:List Expr}{t:TA}{id T:String}{r:List V->Hp->VK->Prop}
def NL(r:List V->Hp->VK->Prop)(t:TA):TE:=fun σ H Q=>t σ H fun vs H1=>r vs H1 Q
theorem bS(hc:eO X (.builtin id) r)(hg:Gl X x)(hm:X.mg x=none)(hv:bootBuiltins x=some (.builtin id))(ha:PA X (e::es) t)(hn:x≠"__name__":=by decide)(hdb:(x==("__debug__":Str))=false:=by decide)
 (he:starEach (e::es) X.env=(false,eval e X.env)::starEach es X.env:=by rfl) (hpl:(backTo pos (starEach es X.env)).any (·.1)=false:=by rfl):PE X (.Call (.Name x p) (e::es) [] pos) (NL r t):=by
 intro pq s σ H Q I h;refine wpAny_Call_Name_kw (ji I hg hm hv ?_ hn hdb);exact PyProof.Rows.callWith_builtin1 (eR (ha pos pq s σ H _ I h) fun us s1 ⟨vs,H1,I1,r1,q1⟩=>hc pq s1 σ H1 vs us Q I1 r1 q1) he hpl
theorem di(hc:eO X (.type T) r)(hg:Gl X x)(hm:X.mg x=none)(hv:bootBuiltins x=some (.type T))(ha:PA X (e::es) t)(hn:x≠"__name__":=by decide)(hdb:(x==("__debug__":Str))=false:=by decide)
 (he:starEach (e::es) X.env=(false,eval e X.env)::starEach es X.env:=by rfl) (hpl:(backTo pos (starEach es X.env)).any (·.1)=false:=by rfl):PE X (.Call (.Name x p) (e::es) [] pos) (NL r t):=by
 intro pq s σ H Q I h;refine wpAny_Call_Name_kw (ji I hg hm hv ?_ hn hdb);exact PyProof.Rows.callWith_type1 (eR (ha pos pq s σ H _ I h) fun us s1 ⟨vs,H1,I1,r1,q1⟩=>hc pq s1 σ H1 vs us Q I1 r1 q1) he hpl
end
end L2
namespace HT
open PySem PyProof.Rows
section
variable {prog:Program}{w:World}{A:Around}{E:gU}{s:Shared}
def eB(n d:Nat):Option Int->Nat
 | none=>d
 | some v=>if v<0 then(v+(n:Int)).toNat else min v.toNat n
theorem Dy(n d:Nat):eB n d none=d:=rfl
theorem F9(n d k:Nat):eB n d (some (k:Int))=min k n:=by
 show(if(k:Int)<0 then((k:Int)+(n:Int)).toNat else min (k:Int).toNat n)=min k n
 rw[if_neg (by lia),Int.toNat_natCast]
theorem IB(n d:Nat)(hd:d<=n)(o:Option Int):eB n d o<=n:=by
 cases o with
 | none=>exact hd
 | some v =>
   show(if v<0 then(v+(n:Int)).toNat else min v.toNat n)<=n
   by_cases hv:v<0
   ·rw[if_pos hv];lia
   ·rw[if_neg hv];exact Nat.min_le_right _ _
theorem Ar(v:Int)(n d:Nat):(if v<0 then max (v+(n:Int)) 0 else min v (n:Int))=((eB n d (some v):Nat):Int):=by
 show(if v<0 then max (v+(n:Int)) 0 else min v (n:Int))=(((if v<0 then(v+(n:Int)).toNat else min v.toNat n):Nat):Int)
 by_cases hv:v<0
 ·simp only[if_pos hv];lia
 ·simp only[if_neg hv];lia
theorem yJ(lo hi:Option Int)(n:Nat):Builtin.Slice.sliceAdjust lo hi 1 (n:Int)=(((eB n 0 lo:Nat):Int),((eB n n hi:Nat):Int)):=by
 have h1 : ¬((1:Int)<0):=by lia
 unfold Builtin.Slice.sliceAdjust;simp only[h1,if_false];refine Prod.ext ?_ ?_
 ·cases lo with
  | none=>rfl
  | some v=>exact Ar v n 0
 ·cases hi with
  | none=>rfl
  | some v=>exact Ar v n n
theorem yK(i j:Nat):Builtin.Slice.slicePlaces (i:Int) (j:Int) 1=j-i:=by
 unfold Builtin.Slice.slicePlaces;have h1:(1:Int) > 0:=by lia
 simp only[h1,if_true,Int.ediv_one]
 split<;>lia
theorem qQ{v:Value}{o:Option Int}{Q:Option Int->Shared->Prop}(p:IsPart v o)(h:Q o s):wpAny (model prog w) A (Builtin.Slice.slicePartIndex v) Q E s:=by
 cases p with
 | none=>exact slicePart_none h
 | int i t=>exact slicePart_int h
theorem jy{sl:Addr}{vl vu:Value}{lo hi:Option Int}{n:Nat}{Q:Int×Int×Nat->Shared->Prop}(hs:s.heap.IsSliceOf sl vl vu .none)(pl:IsPart vl lo)(pu:IsPart vu hi)
 (h:Q (((eB n 0 lo:Nat):Int),1,eB n n hi-eB n 0 lo) s):wpAny (model prog w) A (Builtin.Slice.sliceApplied (.ref sl) (pure (n:Int))) Q E s:=by
 obtain⟨os,hos,hcs,hds⟩:=id hs;unfold Builtin.Slice.sliceApplied Builtin.Slice.sliceFields;refine wpAny_bind (wpAny_bind (wpAny_field hos hds (x:=vl) rfl (wpAny_bind (wpAny_field hos hds (x:=vu) rfl (wpAny_bind (wpAny_field hos hds (x:=.none) rfl (wpAny_pure ?_)))))));refine wpAny_bind (slicePart_none ?_);show wpAny _ _ (if((1:Int)==0)=true then _ else _) _ _ s
 rw[if_neg (by decide)]
 refine wpAny_bind (qQ pl (wpAny_bind (qQ pu (wpAny_bind (wpAny_pure ?_)))));show wpAny _ _ (match Builtin.Slice.sliceAdjust lo hi 1 (n:Int) with | (lo,hi)=>pure (lo,(1:Int),Builtin.Slice.slicePlaces lo hi 1)) _ _ s
 rw[yJ lo hi n];show wpAny _ _ (pure (((eB n 0 lo:Nat):Int),(1:Int),Builtin.Slice.slicePlaces ((eB n 0 lo:Nat):Int) ((eB n n hi:Nat):Int) 1)) _ _ s;rw[yK];exact wpAny_pure h
theorem Dz(xs:Array Value)(i k:Nat):((List.range k).filterMap fun(m:Nat)=>xs[((i:Int)+(m:Int)*1).toNat]?).toArray=((xs.toList.drop i).take k).toArray:=by
 have e:(fun(m:Nat)=>xs[((i:Int)+(m:Int)*1).toNat]?)=fun m=>xs[i+m]?:=by
  funext m
  have:((i:Int)+(m:Int)*1).toNat=i+m:=by lia
  rw[this]
 rw[e];have:=pick_run xs i k;rw[List.filterMap_map]at this;have e2:((fun x=>xs[x]?)∘fun x=>i+x)=fun m=>xs[i+m]?:=rfl
 rw[e2]at this;rw[this]
theorem nk{t sl:Addr}{items:Array Value}{vl vu:Value}{lo hi:Option Int}{Q:gU}(ht:IsTup s.heap t items)(hs:s.heap.IsSliceOf sl vl vu .none)(pl:IsPart vl lo)(pu:IsPart vu hi)
 (hw : ¬(eB items.size 0 lo=0/\eB items.size items.size hi=items.size))
 (h:Q (.ref s.heap.objs.size) { s with heap:=s.heap.push { cls:=.type "tuple",data:=.seq ((items.toList.drop (eB items.size 0 lo)).take (eB items.size items.size hi-eB items.size 0 lo)).toArray}})
 (hsz:items.size<=sizeLine):wpAny (model prog w) A (getItem (.ref t) (.ref sl)) Q E s:=by
 have As:sizeOk (.seq ((items.toList.drop (eB items.size 0 lo)).take (eB items.size items.size hi-eB items.size 0 lo)).toArray):=by
  show((items.toList.drop (eB items.size 0 lo)).take (eB items.size items.size hi-eB items.size 0 lo)).toArray.size<=sizeLine;rw[List.size_toArray,List.length_take,List.length_drop,Array.length_toList]
  lia
 have hj:eB items.size items.size hi<=items.size:=IB _ _ (Nat.le_refl _) hi;obtain⟨os,hos,hcs,hds⟩:=id hs;have NO:s.TypeIs (.ref sl) "slice":=⟨os,hos,hcs⟩;unfold getItem
 try with_reducible refine wpAny_holding ?_
 first | refine wpAny_bind (wpAny_pure ?_) | skip
 refine wpAny_bind (wpAny_sequenceKey ht.typeIs (by decide) ?_)
 refine wpAny_bind (wpAny_callSpecial?_slot (name:=Str.ofString "__getitem__") ht.typeIs PyProof.Rows.slot_tuple_getitem
  (wpAny_call_entry PyProof.Rows.slot_tuple_getitem ht.typeIs entry_tuple_getitem ?_ (args_tuple_getitem _ _)))
 show wpAny _ _ (Builtin.Tuple.tupleItemsOf (.ref t) >>= _) _ _ s;refine wpAny_bind (tupleItemsOf_ ht ?_);refine wpAny_bind (wpAny_typeOf NO ?_);rw[if_pos (by decide)]
 refine wpAny_bind (jy hs pl pu ?_);have hno : ¬((((eB items.size 0 lo:Nat):Int)==0&&(1:Int)==1&&(eB items.size items.size hi-eB items.size 0 lo)==items.size)=true):=by
  intro q;rw[Bool.and_eq_true,Bool.and_eq_true]at q;have q1:((eB items.size 0 lo:Nat):Int)=0:=eq_of_beq q.1.1;have q2:eB items.size items.size hi-eB items.size 0 lo=items.size:=eq_of_beq q.2;exact hw ⟨by lia,by lia⟩
 show wpAny _ _ (if(((eB items.size 0 lo:Nat):Int)==0&&(1:Int)==1&&(eB items.size items.size hi-eB items.size 0 lo)==items.size)=true then _ else _) _ _ s
 rw[if_neg hno,Dz]
 first
  | exact wpAny_bind (m:=Builtin.Tuple.tupleExact _) (wpAny_newObj_type (wpAny_pure ⟨_,rfl,wpAny_pure h⟩) As)
  | exact wpAny_bind (m:=Builtin.Tuple.tupleExact _) (wpAny_newObj_type (wpAny_bind (wpAny_pure (wpAny_pure ⟨_,rfl,wpAny_pure h⟩))) As)
  | exact wpAny_bind (wpAny_bind (m:=Builtin.Tuple.tupleExact _) (wpAny_newObj_type (wpAny_pure (wpAny_pure ⟨_,rfl,wpAny_pure h⟩)) As))
  | exact wpAny_bind (wpAny_bind (m:=Builtin.Tuple.tupleExact _) (wpAny_newObj_type (wpAny_pure ⟨_,rfl,wpAny_pure h⟩) As))
end
end HT
namespace L2
open PySem PySem.Spec PyProof.Rows
abbrev TO:=St->Hp->(Option Int->Hp->Prop)->Prop
def PO(X:Cx)(e:Option Expr)(t:TO):Prop :=
 ∀(pq:aX) (s:Shared) (σ:St) (H:Hp) (Q:Option Int->Hp->Prop),Inv X pq σ H s->t σ H Q->
  wpAny (model X.prog X.w) X.A (evalPart e X.env) (fun u s'=>∃ o H',Inv X pq σ H' s'/\IsPart u o/\Q o H') X.xe s
def Ga:TO:=fun _ H Q=>Q none H
def KY(t:TE):TO:=fun σ H Q=>t σ H fun x H1=>∃ i,x = .int i/\Q (some i) H1
theorem intsAre_of{ns:List Int}:∀{us:List Value},Vals (ns.map V.int) us->IntsAre us ns:=by
 induction ns with
 | nil=>intro us r;rw[List.map_nil]at r;cases r;exact .nil
 | cons n ns ih =>
   intro us r;rw[List.map_cons]at r;cases r with
   | cons r1 r2 =>
     obtain⟨t,e⟩:=r1;subst e;exact .cons n t (ih r2)
section
variable {X:Cx}{e:Expr}{te:TE}{lo hi:Option Expr}{tl th:TO}{pos p2:Pos}
theorem lM:PO X none Ga:=by
 intro pq s σ H Q I h;rw[evalPart_none];exact wpAny_pure ⟨none,H,I,.none,h⟩
theorem iY(h:PE X e te):PO X (some e) (KY te):=by
 intro pq s σ H Q I hw;rw[evalPart_some];refine eR (h pq s σ H _ I hw) fun u s1 ⟨x,H1,I1,r1,q1⟩=>?_
 obtain⟨i,rfl,q⟩:=q1;obtain⟨t,rfl⟩:=r1;exact⟨some i,H1,I1,.int i t,q⟩
def ML(X:Cx)(r:V->Option Int->Option Int->Hp->VK->Prop):Prop :=
 ∀(pq:aX) (s:Shared) (σ:St) (H:Hp) (x:V) (v vl vu:Value) (lo hi:Option Int) (sl:Addr) (Q:VK),Inv X pq σ H s->RelV x v->s.heap.IsSliceOf sl vl vu .none->IsPart vl lo->IsPart vu hi->r x lo hi H Q->
  ∃ T id,typeLookup (.type T) "__getitem__"=pure (some (.builtin id))/\s.TypeIs v T/\wpAny (model X.prog X.w) X.A (getItem v (.ref sl)) (EP X pq σ Q) X.xe s
def Ro(r:V->Option Int->Option Int->Hp->VK->Prop)(te:TE)(tl th:TO):TE:=fun σ H Q=>te σ H fun x H1=>tl σ H1 fun l H2=>th σ H2 fun u H3=>r x l u H3 Q
theorem iF{r:V->Option Int->Option Int->Hp->VK->Prop}(hr:ML X r)(he:PE X e te)(hl:PO X lo tl)(hu:PO X hi th):PE X (.Subscript e (.Slice lo hi none p2) pos) (Ro r te tl th):=by
 intro pq s σ H Q I h;refine Subscript_ (eR (he pq s σ H _ I h) fun v s1 ⟨x,H1,I1,r1,q1⟩=>?_)
 refine wpAny_Slice (eR (hl pq s1 σ H1 _ I1 q1) fun vl s2 ⟨l,H2,I2,pl,q2⟩=>eR (hu pq s2 σ H2 _ I2 q2) fun vu s3 ⟨u,H3,I3,pu,q3⟩=>?_)
 rw[evalPart_none];refine wpAny_pure ?_;have I4:Inv X pq σ H3 { s3 with heap:=s3.heap.push { cls:=.type "slice",data:=.fields #[vl,vu,.none]}}:=I3.kept (t':=s3.toks) fun b ob q=>Heap.get?_push_of_some _ q
 obtain⟨T,id,hT,ht,hg⟩:=hr pq { s3 with heap:=s3.heap.push { cls:=.type "slice",data:=.fields #[vl,vu,.none]}} σ H3 x v vl vu l u s3.heap.objs.size Q I4 r1 (Heap.IsSliceOf.new ..) pl pu q3
 show wpAny (model X.prog X.w) X.A (subscriptTail e (.Slice lo hi none p2) v (.ref s3.heap.objs.size)) (EP X pq σ Q) X.xe { s3 with heap:=s3.heap.push { cls:=.type "slice",data:=.fields #[vl,vu,.none]}}
 exact tail_any (ops:=[.ref s3.heap.objs.size,v]) ht hT hg (by with_unfolding_all rfl)
def oO(xs:List V)(lo hi:Option Int):List V:=(xs.drop (HT.eB xs.length 0 lo)).take (HT.eB xs.length xs.length hi-HT.eB xs.length 0 lo)
theorem pV(xs:List V)(lo hi:Option Int):(oO xs lo hi).length<=xs.length:=by
 unfold oO;rw[List.length_take,List.length_drop]
 lia
end
def Gb(n:Nat)(i:Int):Option Nat:=if 0<=i then(if i<n then some i.toNat else none) else if -(n:Int)<=i then some (i+n).toNat else none
def yy{α:Type}(xs:List α)(i:Int):Option α:=(Gb xs.length i).bind fun j=>xs[j]?
theorem Au{n:Nat}{i:Int}{j:Nat}(h:Gb n i=some j):seqIndex? i n=some j/\j<n/\-(n:Int)<=i/\i<n:=by
 unfold Gb at h
 by_cases h0:0<=i
 ·rw[if_pos h0]at h
  by_cases h1:i<n
  ·rw[if_pos h1]at h;have e:i.toNat=j:=Option.some.inj h;exact⟨by rw[seqIndex_of h0 h1,e],by lia,by lia,h1⟩
  ·rw[if_neg h1]at h;cases h
 ·rw[if_neg h0]at h
  by_cases h1 : -(n:Int)<=i
  ·rw[if_pos h1]at h;have e:(i+n).toNat=j:=Option.some.inj h;exact⟨by rw[seqIndex_neg (by lia) h1,e],by lia,h1,by lia⟩
  ·rw[if_neg h1]at h;cases h
theorem Av{α:Type}{xs:List α}{i:Int}{v:α}(h:yy xs i=some v):∃ j,seqIndex? i xs.length=some j/\xs[j]?=some v/\j<xs.length/\-(xs.length:Int)<=i/\i<xs.length:=by
 unfold yy at h;cases e:Gb xs.length i with
 | none=>rw[e]at h;cases h
 | some j =>
   rw[e]at h;obtain⟨h1,h2,h3,h4⟩:=Au e;exact⟨j,h1,h,h2,h3,h4⟩
theorem ao{α:Type}{xs:List α}{j:Nat}{v:α}(h:xs[j]?=some v):yy xs (j:Int)=some v:=by
 have hj:j<xs.length:=(oA.mp h).1;have e:Gb xs.length (j:Int)=some j:=by
  unfold Gb;rw[if_pos (by lia),if_pos (by lia)];simp
 unfold yy;rw[e];exact h
def Aw(b:Expr):Prop:=∀ o i,subscripted b false o i=operate [o,i] (getItem o i)
def JV(X:Cx)(r:R2):Prop :=
 ∀(value slice:Expr) (pq:aX) (s:Shared) (σ:St) (H:Hp) (x y:V) (v u:Value) (Q:VK),Inv X pq σ H s->RelV x v->RelV y u->r x y H Q->
  subscripted slice false v u=operate [v,u] (getItem v u)->wpAny (model X.prog X.w) X.A (subscriptTail value slice v u) (EP X pq σ Q) X.xe s
def NP(X:Cx)(id:String)(r:V->List V->Hp->VK->Prop):Prop :=
 ∀(pq:aX) (s:Shared) (σ:St) (H:Hp) (x:V) (xs:List V) (v:Value) (us:List Value) (Q:VK),Inv X pq σ H s->RelV x v->Vals xs us->r x xs H Q->
  wpAny (model X.prog X.w) X.A (call (.builtin id) (v::us)) (EP X pq σ Q) X.xe s
section
variable {X:Cx}{a b:Expr}{ta tb:TE}{pos:Pos}
theorem KZ{r:R2}(hr:JV X r)(ha:PE X a ta)(hb:PE X b tb)(hs:Aw b):PE X (.Subscript a b pos) (KQ r ta tb):=by
 intro pq s σ H Q I h;exact Subscript_ (Iu ha hb I h fun v u s2 x y H2 I2 rx ry q=>hr a b pq s2 σ H2 x y v u Q I2 rx ry q (hs _ _))
def K0(K:bI):R2:=fun x y H Q=>∃ p xs i v,x = .ref p/\y = .int i/\aQ K H p xs/\yy xs i=some v/\Q v H
def K1(K:bI):R2:=fun x y H Q=>∃ p xs i v,x = .ref p/\y = .int i/\aY K H p xs/\yy xs i=some v/\Q v H
theorem Gd:JV X (K0 X.K):=by
 intro value slice pq s σ H x y v u Q I rx ry h hs;obtain⟨p,xs,i,z,rfl,rfl,hq,he,q⟩:=h;cases rx;obtain⟨t,rfl⟩:=ry;obtain⟨its,r,pl,hz⟩:=I.list hq;obtain⟨j,h1,h2,h3,h4,h5⟩:=Av he;obtain⟨w,ew,rw'⟩:=r.get h2;have hl:=r.length;have hn:=qO;have fin:EP X pq σ Q w s:=⟨z,H,I,rw',q⟩
 by_cases h0:0<=i
 ·have hj:i.toNat=j:=by
   rw[seqIndex_of h0 h5]at h1;exact Option.some.inj h1
  exact item_listR pl.isList h0 (by lia) (by rw[hj];simpa using ew) fin hs
 ·have hj:(i+(its.toArray.size:Int)).toNat=j:=by
   rw[seqIndex_neg (by lia) h4]at h1
   rw[List.size_toArray,<-hl];exact Option.some.inj h1
  exact subscriptTail_builtinR (x:=w) pl.isList.typeIs slot_list_getitem.lookup
   (wpAny_getItem_list_neg (Q:=fun r s'=>r=w/\EP X pq σ Q r s') pl.isList (by lia) (by rw[List.size_toArray]<;>lia) (by lia) (by rw[hj];simpa using ew) ⟨rfl,fin⟩) hs
theorem IC:JV X (K1 X.K):=by
 intro value slice pq s σ H x y v u Q I rx ry h hs;obtain⟨p,xs,i,z,rfl,rfl,hq,he,q⟩:=h;cases rx;obtain⟨t,rfl⟩:=ry;obtain⟨its,r,pl,hz⟩:=I.tuple hq;obtain⟨j,h1,h2,h3,h4,h5⟩:=Av he;obtain⟨w,ew,rw'⟩:=r.get h2;have hl:=r.length;have hn:=qO;have fin:EP X pq σ Q w s:=⟨z,H,I,rw',q⟩;exact subscriptTail_builtinR (x:=w) pl.typeIs slot_tuple_getitem.lookup
  (getItem_tuple (j:=j) (Q:=fun r s'=>r=w/\EP X pq σ Q r s') pl (by lia) (by lia) (by rw[List.size_toArray,<-hl];exact h1) (by simpa using ew) ⟨rfl,fin⟩) hs
theorem yL(its:List Value)(n j:Nat)(u:Value):Obj.mapSeq (·.setIfInBounds j u) { cls:=.type "list",data:=.seq its.toArray n}={ cls:=.type "list",data:=.seq (its.set j u).toArray n}:=by
 simp[Obj.mapSeq]
theorem Inv.lst{pq:aX}{σ:St}{H:Hp}{s:Shared}{p:Addr}{xs:List V}(I:Inv X pq σ H s)(h:H p=some (.lst xs)):
 ∃(its:List Value) (n:Nat),Vals xs its/\s.heap.get? p=some { cls:=.type "list",data:=.seq its.toArray n}/\xs.length<=sizeLine:=by
 obtain⟨z,its,n,r,e⟩:=I.hok p _ h;exact⟨its,n,r,e,z⟩
theorem Inv.ID{pq:aX}{σ:St}{H:Hp}{s:Shared}{p:Addr}{xs ys:List V}{its its' : List Value}{n n' : Nat}{f:Obj->Obj}(I:Inv X pq σ H s)(h:H p=some (.lst xs))
 (ho:s.heap.get? p=some { cls:=.type "list",data:=.seq its.toArray n}) (hf:f { cls:=.type "list",data:=.seq its.toArray n}={ cls:=.type "list",data:=.seq its'.toArray n'}) (r:Vals ys its') (hz:ys.length<=sizeLine) (t:Nat) :
 Inv X pq σ (upd H p (.lst ys)) { s with heap:=s.heap.update p f,toks:=t}:=by
 have e:(s.heap.update p f).get? p=some { cls:=.type "list",data:=.seq its'.toArray n'}:=by
  rw[Heap.get?_update_self f ho (by rw[hf]<;>rfl),hf]
 refine I.write (x:=p) (e:=p) (by rw[h];trivial) (.inl rfl) (fun b u hb q=>(Heap.get?_update_other _ _ (Ne.symm hb)).trans q) ⟨_,e⟩ ?_
 exact⟨hz,its',n',r,e⟩
def K2:V->V->V->Hp->(Hp->Prop)->Prop:=fun o i v H Q=>∃ p xs k j,o = .ref p/\i = .int k/\H p=some (.lst xs)/\Gb xs.length k=some j/\Q (upd H p (.lst (xs.set j v)))
theorem set_list:Ip X K2:=by
 intro pq s σ H o i v ov iv u Q I ro ri rv h;obtain⟨p,xs,k,j,rfl,rfl,hp,hj,q⟩:=h;cases ro;obtain⟨t,rfl⟩:=ri;obtain⟨its,n,r,ho,hz⟩:=I.lst hp;obtain⟨h1,h2,h3,h4⟩:=Au hj;have hl:=r.length;have hn:=qO;have I' : Inv X pq σ (upd H p (.lst (xs.set j v))) { s with heap:=s.heap.update p (Obj.mapSeq (·.setIfInBounds j u))} :=
  I.ID hp ho (yL its n j u) (r.set rv j) (by rw[List.length_set];exact hz) s.toks
 by_cases h0:0<=k
 ·have hk:k.toNat=j:=by
   rw[seqIndex_of h0 h4]at h1;exact Option.some.inj h1
  exact PySem.W.ki_setAt ho h0 (by lia) (by rw[List.size_toArray,<-hl];exact h4) (by rw[hk];exact⟨_,I',q⟩)
 ·have hk:(k+(its.toArray.size:Int)).toNat=j:=by
   rw[seqIndex_neg (by lia) h3]at h1
   rw[List.size_toArray,<-hl];exact Option.some.inj h1
  exact PySem.W.ki_setBack ho (by lia) (by rw[List.size_toArray,<-hl];exact h3) (by lia) (by rw[hk];exact⟨_,I',q⟩)
theorem uV(lo hi:Option Int)(n:Nat):(sliceBounds lo hi none n).1=((HT.eB n 0 lo:Nat):Int)/\(sliceBounds lo hi none n).2.1=((HT.eB n n hi:Nat):Int)/\(sliceBounds lo hi none n).2.2=1:=by
 refine⟨?_,?_,rfl⟩
 ·cases lo with
  | none=>simp[sliceBounds,HT.eB]
  | some i =>
    simp only[sliceBounds,HT.eB,Option.getD_none,show(1:Int) > 0 by decide,if_true]
    by_cases h:i<0
    ·simp only[h,if_true]<;>lia
    ·simp only[h,if_false]<;>lia
 ·cases hi with
  | none=>simp[sliceBounds,HT.eB]
  | some i =>
    simp only[sliceBounds,HT.eB,Option.getD_none,show(1:Int) > 0 by decide,if_true]
    by_cases h:i<0
    ·simp only[h,if_true]<;>lia
    ·simp only[h,if_false]<;>lia
theorem sO(its:List Value)(lo hi:Option Int):slicePick its.toArray lo hi none=((its.drop (HT.eB its.length 0 lo)).take (HT.eB its.length its.length hi-HT.eB its.length 0 lo)).toArray:=by
 obtain⟨h1,h2,h3⟩:=uV lo hi its.toArray.size;unfold slicePick;rw[h1,h2,h3];simp only[sliceRange_one,pick_run,List.size_toArray]<;>rfl
def K3(K:bI):V->Option Int->Option Int->Hp->VK->Prop:=fun x lo hi H Q=>∃ a xs,x = .ref a/\aQ K H a xs/\∀ p,H p=none->Q (.ref p) (upd H p (.lst (oO xs lo hi)))
theorem Ge:ML X (K3 X.K):=by
 intro pq s σ H x v vl vu lo hi sl Q I rx hs pl pu h;obtain⟨a,xs,rfl,hx,q⟩:=h;cases rx;obtain⟨its,r,ht,hz⟩:=I.list hx;have hlen:=r.length;refine⟨"list",_,slot_list_getitem.lookup,ht.isList.typeIs,?_⟩;refine wpAny_getItem_list_slice ht.isList hs pl pu .none (by simp) ?_ (by rw[List.size_toArray]<;>lia)
 rw[sO,<-hlen];refine⟨.ref s.heap.objs.size,_,I.laid (t':=s.toks) (o:=.lst (oO xs lo hi)) (fun b ob q=>Heap.get?_push_of_some _ q) (Nat.le_refl _) ?_,rfl,q _ (I.hok.fresh (Nat.le_refl _))⟩
 exact⟨Nat.le_trans (pV xs lo hi) hz,_,0,(r.drop (HT.eB xs.length 0 lo)).take (HT.eB xs.length xs.length hi-HT.eB xs.length 0 lo),Heap.get?_push_size _ rfl⟩
def my:V->Bool
 | .gh=>true
 | .bl _=>true
 | .int _=>true
 | .str _=>true
 | _=>false
def FE:V->V->Bool
 | .gh,.gh=>true
 | .bl a,.bl b=>a==b
 | .bl a,.int b=>(if a then 1 else 0)==b
 | .int a,.bl b=>a==(if b then 1 else 0)
 | .int a,.int b=>a==b
 | .str a,.str b=>a==b
 | _,_=>false
theorem IE{A:Around}{s:Shared}{y x:V}{u v:Value}(ry:RelV y u)(rx:RelV x v)(fy:my y=true)(fx:my x=true):SeqAt.EqAt A s u v (FE y x):=by
 cases y with
 | gh =>
   cases ry;cases x with
   | gh=>cases rx;exact SeqAt.EqAt.same _
   | bl b=>cases rx;exact SeqAt.EqAt.none_bool b
   | int b=>obtain⟨t,rfl⟩:=rx;exact SeqAt.EqAt.none_int b t
   | str b=>obtain⟨t,rfl⟩:=rx;exact SeqAt.EqAt.none_str b t
   | _=>exact absurd (show false=true from fx) Bool.false_ne_true
 | bl a =>
   cases ry;cases x with
   | gh=>cases rx;exact SeqAt.EqAt.bool_none a
   | bl b=>cases rx;exact SeqAt.EqAt.bool_bool a b
   | int b=>obtain⟨t,rfl⟩:=rx;exact SeqAt.EqAt.bool_int a b t
   | str b=>obtain⟨t,rfl⟩:=rx;exact SeqAt.EqAt.bool_str a b t
   | _=>exact absurd (show false=true from fx) Bool.false_ne_true
 | int a =>
   obtain⟨t',rfl⟩:=ry;cases x with
   | gh=>cases rx;exact SeqAt.EqAt.int_none a t'
   | bl b=>cases rx;exact SeqAt.EqAt.int_bool a t' b
   | int b=>obtain⟨t,rfl⟩:=rx;exact SeqAt.EqAt.int_int a t' b t
   | str b=>obtain⟨t,rfl⟩:=rx;exact SeqAt.EqAt.int_str a t' b t
   | _=>exact absurd (show false=true from fx) Bool.false_ne_true
 | str a =>
   obtain⟨t',rfl⟩:=ry;cases x with
   | gh=>cases rx;exact SeqAt.EqAt.str_none a t'
   | bl b=>cases rx;exact SeqAt.EqAt.str_bool a t' b
   | int b=>obtain⟨t,rfl⟩:=rx;exact SeqAt.EqAt.str_int a t' b t
   | str b=>obtain⟨t,rfl⟩:=rx;exact SeqAt.EqAt.str_str a t' b t
   | _=>exact absurd (show false=true from fx) Bool.false_ne_true
 | _=>exact absurd (show false=true from fy) Bool.false_ne_true
def yM(x:V)(u:Value):Bool:=match u with
 | .none=>FE .gh x
 | .bool b=>FE (.bl b) x
 | .int i _=>FE (.int i) x
 | .str z _=>FE (.str z) x
 | _=>false
theorem DA{x y:V}{u:Value}(r:RelV y u)(f:my y=true):yM x u=FE y x:=by
 cases y with
 | gh=>cases r;rfl
 | bl b=>cases r;rfl
 | int i=>obtain⟨t,rfl⟩:=r;rfl
 | str z=>obtain⟨t,rfl⟩:=r;rfl
 | _=>exact absurd (show false=true from f) Bool.false_ne_true
theorem nq{x:V}:∀{xs:List V} {us:List Value},Vals xs us->xs.all my=true->us.any (yM x)=xs.any fun y=>FE y x
 | _,_,.nil,_=>rfl
 | y::xs,u::us,.cons r t,f=>by
   rw[List.all_cons,Bool.and_eq_true]at f;rw[List.any_cons,List.any_cons,DA r f.1,nq t f.2]
theorem kP{A:Around}{s:Shared}{x:V}{v:Value}(rx:RelV x v)(fx:my x=true):∀{xs:List V} {us:List Value},Vals xs us->xs.all my=true->∀ u∈us,SeqAt.EqAt A s u v (yM x u)
 | _,_,.nil,_=>fun u hu=>by cases hu
 | y::xs,u::us,.cons r t,f=>fun u' hu=>by
   rw[List.all_cons,Bool.and_eq_true]at f;rcases List.mem_cons.mp hu with rfl|hu
   ·rw[DA r f.1];exact IE r rx f.1 fx
   ·exact kP rx fx t f.2 u' hu
def FF(x:V)(xs:List V):Bool:=xs.any fun y=>FE y x
def MM(K:bI)(neg:Bool):R2:=fun x y H Q=>∃ p xs,y = .ref p/\(aQ K H p xs\/aY K H p xs)/\my x=true/\xs.all my=true/\Q (.bl (if neg then !FF x xs else FF x xs)) H
theorem Bs:kN X (compareOp .In) (MM X.K false):=by
 intro pq s σ H x y v u Q I rx ry h;obtain⟨p,xs,rfl,hq,fx,fs,q⟩:=h;cases ry;rcases hq with hq|hq
 ·obtain⟨its,r,pl,hz⟩:=I.list hq;refine SeqAt.in_listAt (yM x) pl.isList (fun w hw=>kP rx fx r fs w (by simpa using hw)) ⟨.bl _,H,I,rfl,?_⟩
  rw[show its.toArray.any (yM x)=its.any (yM x) by simp,nq r fs]
  exact q
 ·obtain⟨its,r,pl,hz⟩:=I.tuple hq;refine SeqAt.in_tupleAt (yM x) pl (fun w hw=>kP rx fx r fs w (by simpa using hw)) ⟨.bl _,H,I,rfl,?_⟩
  rw[show its.toArray.any (yM x)=its.any (yM x) by simp,nq r fs]
  exact q
theorem uW:kN X (compareOp .NotIn) (MM X.K true):=by
 intro pq s σ H x y v u Q I rx ry h;obtain⟨p,xs,rfl,hq,fx,fs,q⟩:=h;cases ry;rcases hq with hq|hq
 ·obtain⟨its,r,pl,hz⟩:=I.list hq;refine SeqAt.notIn_listAt (yM x) pl.isList (fun w hw=>kP rx fx r fs w (by simpa using hw)) ⟨.bl _,H,I,rfl,?_⟩
  rw[show its.toArray.any (yM x)=its.any (yM x) by simp,nq r fs]
  exact q
 ·obtain⟨its,r,pl,hz⟩:=I.tuple hq;refine SeqAt.notIn_tupleAt (yM x) pl (fun w hw=>kP rx fx r fs w (by simpa using hw)) ⟨.bl _,H,I,rfl,?_⟩
  rw[show its.toArray.any (yM x)=its.any (yM x) by simp,nq r fs]
  exact q
theorem uX:eO X (.builtin "len") (fun xs H Q=>∃ p ys,xs=[.ref p]/\(aQ X.K H p ys\/aY X.K H p ys)/\Q (.int ys.length) H):=by
 intro pq s σ H xs us Q I r h;obtain⟨p,ys,rfl,hq,q⟩:=h;obtain⟨u,rfl,rx⟩:=vals1 r;cases rx;have hn:=qO;rcases hq with hq|hq
 ·obtain⟨its,r',pl,hz⟩:=I.list hq;have hlen:=r'.length;exact Calls.call_len_list pl.isList (by simp only[List.size_toArray]<;>lia) ⟨.int ys.length,H,I.tok _,⟨s.toks+1,by rw[List.size_toArray,hlen]⟩,q⟩
 ·obtain⟨its,r',pl,hz⟩:=I.tuple hq;have hlen:=r'.length;exact len_tuple pl (by simp only[List.size_toArray]<;>lia) ⟨.int ys.length,H,I.tok _,⟨s.toks+1,by rw[List.size_toArray,hlen]⟩,q⟩
theorem uY:eO X (.type "list") (fun xs H Q=>∃ p ys,xs=[.ref p]/\(aQ X.K H p ys\/aY X.K H p ys)/\∀ l,H l=none->Q (.ref l) (upd H l (.lst ys))):=by
 intro pq s σ H xs us Q I r h;obtain⟨p,ys,rfl,hq,q⟩:=h;obtain⟨u,rfl,rx⟩:=vals1 r;cases rx;have fin:∀(its:List Value),Vals ys its->ys.length<=sizeLine->∀(h' : Heap) (c' : Nat),(∀ b o',s.heap.get? b=some o'->h'.get? b=some o')->
  h'.get? s.heap.objs.size=some { cls:=.type "list",dict:=none,data:=.seq its.toArray c',slots:=#[]}->EP X pq σ Q (.ref s.heap.objs.size) { s with heap:=h'}:=fun its r' hz h' c' kp e =>
  ⟨.ref s.heap.objs.size,_,I.laid (t':=s.toks) kp (Nat.le_refl _) (show bR X.prog X.w _ h' _ (.lst ys) from⟨hz,its,c',r',e⟩),rfl,q _ (I.hok.fresh (Nat.le_refl _))⟩
 rcases hq with hq|hq
 ·obtain⟨its,r',pl,hz⟩:=I.list hq;have hlen:=r'.length;obtain⟨o,ho,hc,n,hd⟩:=pl.isList;exact call_list_seq p (.inl rfl) ho hc hd (fun h' c' kp e=>fin its r' hz h' c' kp e) (by simp only[List.size_toArray]<;>lia)
 ·obtain⟨its,r',pl,hz⟩:=I.tuple hq;have hlen:=r'.length;obtain⟨o,ho,hc,n,hd⟩:=pl;exact call_list_seq p (.inr rfl) ho hc hd (fun h' c' kp e=>fin its r' hz h' c' kp e) (by simp only[List.size_toArray]<;>lia)
theorem sP:eO X (.type "tuple") (fun xs H Q=>∃ p ys,xs=[.ref p]/\((aQ X.K H p ys/\∀ l,H l=none->Q (.ref l) (upd H l (.tup ys)))\/(aY X.K H p ys/\Q (.ref p) H))):=by
 intro pq s σ H xs us Q I r h;obtain⟨p,ys,rfl,h⟩:=h;obtain⟨u,rfl,rx⟩:=vals1 r;cases rx;rcases h with⟨hq,q⟩|⟨hq,q⟩
 ·obtain⟨its,r',pl,hz⟩:=I.list hq;have hlen:=r'.length;refine call_tuple_list pl.isList (fun h' kp=>?_) (by simp only[List.size_toArray]<;>lia)
  have I1:Inv X pq σ H { s with heap:=h'}:=I.kept (t':=s.toks) kp
  have I2:Inv X pq σ (upd H h'.objs.size (.tup ys)) { s with heap:=h'.push { cls:=.type "tuple",data:=.seq its.toArray}} :=
   I1.laid (t':=s.toks) (fun b o e=>Heap.get?_push_of_some _ e) (Nat.le_refl _) (show bR X.prog X.w _ _ _ (.tup ys) from⟨hz,its,r',IsTup.new _ _⟩)
  exact⟨.ref h'.objs.size,_,I2,rfl,q _ (I1.hok.fresh (Nat.le_refl _))⟩
 ·obtain⟨its,r',pl,hz⟩:=I.tuple hq;exact call_tuple_same pl ⟨.ref p,H,I,rfl,q⟩
def NQ(K:bI)(T:String)(x:V)(H:Hp):Prop:=match x with
 | .str _=>T="str"
 | .int _=>T="int"
 | .ref p=>(T="list"/\∃ xs,aQ K H p xs)\/(T="tuple"/\∃ o,K.lookup p=some o/\o.cls = .type "tuple"/\o.dict=none)\/
  (T="dict"/\((∃ kvs,H p=some (.dK kvs))\/∃ kvs,H p=some (.dT kvs)))\/(T="set"/\∃ S n,H p=some (.set S n))
 | _=>False
theorem DB{pq:aX}{σ:St}{H:Hp}{s:Shared}{T:String}{x:V}{v:Value}(I:Inv X pq σ H s)(r:RelV x v)(ty:NQ X.K T x H):
 s.TypeIs v T/\∀ a,v = .ref a->∃ ob,s.heap.get? a=some ob/\ob.dict=none:=by
 cases x with
 | str z =>
   obtain⟨t,rfl⟩:=r;cases(show T="str" from ty)
   exact⟨typeIs_str s z t,fun _ e=>nomatch e⟩
 | int i =>
   obtain⟨t,rfl⟩:=r;cases(show T="int" from ty)
   exact⟨typeIs_int s i t,fun _ e=>nomatch e⟩
 | ref p =>
   cases r;rcases ty with⟨rfl,xs,hq⟩|⟨rfl,o,hk,hc,hd⟩|⟨rfl,hk⟩|⟨rfl,S,n,hk⟩
   ·obtain⟨its,_,pl,_⟩:=I.list hq;refine⟨pl.isList.typeIs,fun a e=>?_⟩
    cases e;obtain⟨o,n,e,c,hd,_⟩:=pl;exact⟨o,e,hd⟩
   ·refine⟨⟨o,I.wF p o hk,hc⟩,fun a e=>?_⟩
    cases e;exact⟨o,I.wF _ o hk,hd⟩
   ·have z:∃ o,s.heap.get? p=some o/\o.ExactDict:=by
     rcases hk with⟨kvs,hk⟩|⟨kvs,hk⟩
     ·obtain⟨_,_,_,_,o,_,_,e,ex,_⟩:=I.hok p _ hk;exact⟨o,e,ex⟩
     ·obtain⟨_,_,_,_,o,_,_,e,ex,_⟩:=I.hok p _ hk;exact⟨o,e,ex⟩
    obtain⟨o,e,ex⟩:=z;refine⟨⟨o,e,ex.1⟩,fun a e2=>?_⟩
    cases e2;exact⟨o,e,ex.2.1⟩
   ·obtain⟨o,_,_,_,e,ex,_⟩:=I.hok p _ hk;refine⟨⟨o,e,ex.1⟩,fun a e2=>?_⟩
    cases e2;exact⟨o,e,ex.2.1⟩
 | _=>exact False.elim ty
def NR(K:bI)(T:String)(r:V->List V->Hp->VK->Prop)(to:TE):TE:=fun σ H Q=>to σ H fun x H1=>NQ K T x H1/\r x [] H1 Q
def NS(K:bI)(T:String)(r:V->List V->Hp->VK->Prop)(to:TE)(t:TA):TE:=fun σ H Q=>to σ H fun x H1=>NQ K T x H1/\t σ H1 fun xs H2=>r x xs H2 Q
variable {o e:Expr}{es:List Expr}{to:TE}{t:TA}{name:Str}{apos cpos:Pos}{T id:String}{r:V->List V->Hp->VK->Prop}
theorem DC(pa:PlainAttrs T)(slot:Slot T name id)(hty:typeOf (.builtin id)=pure (.type "method_descriptor"))(hm:NP X id r)(ho:PE X o to)
 (hbase:attributeBase o name X.env (eval o X.env)=eval o X.env:=by rfl) (hline:(apos.endLine==cpos.line)=true:=by rfl):PE X (.Call (.Attribute o name apos) [] [] cpos) (NR X.K T r to):=by
 intro pq s σ H Q I h;refine wpAny_Call_method0_late hbase hline (eR (ho pq s σ H _ I h) fun v s1 ⟨x,H1,I1,r1,ty,q1⟩=>?_)
 obtain⟨h1,h2⟩:=DB I1 r1 ty;exact⟨T,id,pa,slot,hty,h1,h2,Calls.callWith_builtin rfl (PySem.evalArgs_none (hm pq s1 σ H1 x [] v [] Q I1 r1 .nil q1))⟩
theorem t8(pa:PlainAttrs T)(slot:Slot T name id)(hty:typeOf (.builtin id)=pure (.type "method_descriptor"))(hm:NP X id r)(ho:PE X o to)(ha:PA X (e::es) t)
 (hbase:attributeBase o name X.env (eval o X.env)=eval o X.env:=by rfl)
 (hfew:((backTo cpos (starEach (e::es) X.env)).all (fun x=>!x.1)&&(backToKw cpos (keywordEach [] X.env)).all (fun x=>x.1.isSome)
  && decide ((e::es).length+([]:List Keyword).length+(if([]:List Keyword).isEmpty then 0 else 1)<30))=true:=by rfl)
 (hline:(apos.endLine==cpos.line)=true:=by rfl) (hs:starEach (e::es) X.env=(false,eval e X.env)::starEach es X.env:=by rfl) (hplain:(backTo cpos (starEach es X.env)).any (·.1)=false:=by rfl) :
 PE X (.Call (.Attribute o name apos) (e::es) [] cpos) (NS X.K T r to t):=by
 intro pq s σ H Q I h;refine wpAny_Call_method_late hbase hfew hline rfl (eR (ho pq s σ H _ I h) fun v s1 ⟨x,H1,I1,r1,ty,q1⟩=>?_)
 obtain⟨h1,h2⟩:=DB I1 r1 ty;refine⟨T,id,pa,slot,hty,h1,h2,?_⟩;have hA:=ha cpos pq s1 σ H1 _ I1 q1;rw[hs]at hA ⊢;refine Calls.callWith_builtin (by show(false || (backTo cpos (starEach es X.env)).any (·.1))=false;rw[hplain]<;>rfl) (Calls.evalArgs_plain ?_)
 exact eR hA fun us s2 ⟨vs,H2,I2,r2,q2⟩=>hm pq s2 σ H2 x vs v us Q I2 r1 r2 q2
end
def O6(X:Cx)(id:String)(r:V->List V->Hp->VK->Prop):Prop :=
 ∀(pq:aX) (s:Shared) (σ:St) (H:Hp) (x:V) (xs:List V) (v:Value) (us:List Value) (Q:VK),Inv X pq σ H s->RelV x v->Vals xs us->r x xs H Q->
  wpAny (model X.prog X.w) X.A (call (.builtin id) (v::us)) (EP X pq σ Q) X.xe s
theorem Vals.one:∀{x:V} {us:List Value},Vals [x] us->∃ u,us=[u]/\RelV x u
 | _,_,.cons r .nil=>⟨_,rfl,r⟩
theorem Vals.rep{xs:List V}{us:List Value}(h:Vals xs us):∀ k:Nat,Vals (List.replicate k xs).flatten (List.replicate k us).flatten
 | 0=>.nil
 | k+1=>by
   rw[List.replicate_succ,List.replicate_succ,List.flatten_cons,List.flatten_cons];exact Vals.append h (Vals.rep h k)
theorem foldl_rep(its:List Value):∀(k:Nat) (acc:List Value),
 List.foldl (fun x1 x2=>x1++x2) acc.toArray (List.replicate k its.toArray)=(acc++(List.replicate k its).flatten).toArray
 | 0,acc=>by simp
 | k+1,acc=>by
   have e:acc.toArray++its.toArray=(acc++its).toArray:=by simp
   have e2:(acc++its)++(List.replicate k its).flatten=acc++(List.replicate (k+1) its).flatten:=by
    rw[List.replicate_succ,List.flatten_cons,List.append_assoc]
   rw[<-e2,<-foldl_rep its k (acc++its),<-e,List.replicate_succ,List.foldl_cons]
section
variable {X:Cx}{pq:aX}{σ:St}{H:Hp}{s:Shared}{l b:Addr}{xs ys zs:List V}
theorem Inv.K4{its its' : List Value}{n:Nat}{f:Array Value->Array Value}{t' : Nat}(I:Inv X pq σ H s)(hH:H l=some (.lst xs))
 (e:s.heap.get? l=some { cls:=.type "list",data:=.seq its.toArray n}) (hf:f its.toArray=its'.toArray) (hv:Vals ys its') (hz:ys.length<=sizeLine) :
 Inv X pq σ (upd H l (.lst ys)) { s with heap:=s.heap.update l (Obj.mapSeq f),toks:=t'}:=by
 have q:=PySem.IsL.update e f;rw[hf]at q;refine I.write (x:=l) (e:=l) (by rw[hH];exact trivial) (.inl rfl) (fun b' u hb hu=>(Heap.get?_update_other s.heap (Obj.mapSeq f) (Ne.symm hb)).trans hu) ⟨_,q⟩ ?_
 exact⟨hz,its',_,hv,q⟩
theorem Inv.K5{its:List Value}{t' : Nat}(I:Inv X pq σ H s)(hv:Vals ys its)(hz:ys.length<=sizeLine):
 Inv X pq σ (upd H s.heap.objs.size (.lst ys)) { s with heap:=s.heap.push { cls:=.type "list",data:=.seq its.toArray},toks:=t'} :=
 I.laid (fun _ _ q=>Heap.get?_push_of_some _ q) (Nat.le_refl _) ⟨hz,its,0,hv,Heap.get?_push_size _ rfl⟩
theorem Inv.fresh(I:Inv X pq σ H s):H s.heap.objs.size=none:=I.hok.fresh (Nat.le_refl _)
theorem Inv.Gf(I:Inv X pq σ H s)(hH:H l=some (.lst xs)):xs.length<=sizeLine/\∃(its:List Value) (n:Nat),Vals xs its/\xs.length=its.length/\s.heap.get? l=some { cls:=.type "list",data:=.seq its.toArray n}:=by
 obtain⟨z,its,n,r,e⟩:=I.hok l _ hH;exact⟨z,its,n,r,r.length,e⟩
theorem wO{n:Nat}(h:n<=sizeLine):Builtin.List.listTooLong n=false:=by
 unfold Builtin.List.listTooLong;exact fk (by lia)
end
section
variable {X:Cx}
def Gg:V->List V->Hp->VK->Prop:=fun x vs H Q=>∃ l xs y,x = .ref l/\vs=[y]/\H l=some (.lst xs)/\xs.length<sizeLine/\Q .gh (upd H l (.lst (xs++[y])))
theorem iq:O6 X "list.append" Gg:=by
 intro pq s σ H x vs v us Q I rx rv h;obtain⟨l,xs,y,rfl,rfl,hH,hz,q⟩:=h;cases rx;obtain⟨u,rfl,ru⟩:=rv.one;obtain⟨z,its,n,r,hl,e⟩:=I.Gf hH;refine call_meets F.slot_list_append ⟨_,e,rfl⟩ F.entry_list_append (F.args_list_append_2 _ _) (PySem.list_append l its.toArray n u (by rw[List.size_toArray];lia)) ⟨e,?_⟩
 refine⟨.gh,_,I.K4 (its':=its++[u]) hH e (by simp) (r.append (.cons ru .nil)) ?_,rfl,q⟩
 rw[List.length_append,List.length_singleton]
 lia
def Gh:V->List V->Hp->VK->Prop:=fun x vs H Q=>∃ l b xs zs,x = .ref l/\vs=[.ref b]/\H l=some (.lst xs)/\H b=some (.lst zs)/\xs.length+zs.length<=sizeLine/\Q .gh (upd H l (.lst (xs++zs)))
theorem Bt:O6 X "list.extend" Gh:=by
 intro pq s σ H x vs v us Q I rx rv h;obtain⟨l,b,xs,zs,rfl,rfl,hH,hB,hz,q⟩:=h;cases rx;obtain⟨u,rfl,ru⟩:=rv.one;cases ru;obtain⟨z,its,n,r,hl,e⟩:=I.Gf hH;obtain⟨z2,its2,n2,r2,hl2,e2⟩:=I.Gf hB;have hsz:its.toArray.size+its2.toArray.size<=sizeLine:=by rw[List.size_toArray,List.size_toArray];lia
 have DE : ¬(!its.toArray.isEmpty&&Builtin.List.listTooLong (its.toArray.size+its2.toArray.size))=true:=by
  rw[wO hsz,Bool.and_false];exact Bool.false_ne_true
 refine call_meets F.slot_list_extend ⟨_,e,rfl⟩ F.entry_list_extend (F.args_list_extend_2 _ _)
  (AutoSeq1.list_extend_list_list_0 l its.toArray n b its2.toArray n2 DE (by rw[List.size_toArray];lia) (by lia)) ⟨e,e2,?_⟩
 refine⟨.gh,_,I.K4 (its':=its++its2) hH e (by simp) (r.append r2) ?_,rfl,q⟩
 rw[List.length_append]
 lia
def NT:R2:=fun x y H Q=>∃ l k xs,x = .ref l/\y = .int k/\H l=some (.lst xs)/\-(2^63)<=k/\k<2^63/\xs.length*k.toNat<=sizeLine/\
 ∀ p,H p=none->Q (.ref p) (upd H p (.lst (List.replicate k.toNat xs).flatten))
theorem len_rep{α:Type}(xs:List α)(k:Nat):(List.replicate k xs).flatten.length=k*xs.length:=by
 induction k with
 | zero=>simp
 | succ k ih=>rw[List.replicate_succ,List.flatten_cons,List.length_append,ih,Nat.succ_mul,Nat.add_comm]
theorem yN:kN X (binaryOp .Mult) NT:=by
 intro pq s σ H x y v u Q I rx ry h;obtain⟨l,k,xs,rfl,rfl,hH,h1,h2,hz,q⟩:=h;cases rx;obtain⟨t,rfl⟩:=ry;obtain⟨z,its,n,r,hl,e⟩:=I.Gf hH;have hlen:its.toArray.size*k.toNat<=sizeLine:=by rw[List.size_toArray,<-hl];exact hz
 have NU : ¬ its.toArray.size*k.toNat > (2^63-1)/8:=by
  have:(sizeLine:Nat)<=(2^63-1)/8:=by decide
  lia
 have hfit : ¬(!Builtin.List.listFitsIndex k)=true:=by
  rw[fitsIndex_both h1 h2];exact Bool.false_ne_true
 have DE : ¬ Builtin.List.listTooLong (its.toArray.size*k.toNat)=true:=by
  rw[wO hlen];exact Bool.false_ne_true
 have hnew:List.foldl (fun x1 x2=>x1++x2) #[] (List.replicate (if its.toArray.isEmpty=true then 0 else k.toNat) its.toArray)=(List.replicate k.toNat its).flatten.toArray:=by
  have f0:∀ m:Nat,List.foldl (fun x1 x2=>x1++x2) #[] (List.replicate m its.toArray)=(List.replicate m its).flatten.toArray:=fun m=>by
   have:=foldl_rep its m [];rw[List.nil_append]at this;exact this
  rw[f0];cases its with
  | nil=>simp
  | cons a r'=>rw[if_neg (by simp)]
 refine wpAny_binaryOp_repeat_ref (T:="list") (U:="int") (by decide) ⟨_,e,rfl⟩ (fun s'=>typeIs_int s' k t) noFill_list_mul F.fills_int_mul F.slot_int_rmul repeat_list F.slot_int_index.lookup
  (call_meets F.slot_int_rmul (typeIs_int s k t) F.entry_int_rmul (F.args_int_rmul_2 _ _) (int___rmul___int_list k t l its.toArray n)
   ⟨e,rfl,⟨_,e,rfl⟩,call_meets F.slot_list_mul ⟨_,e,rfl⟩ F.entry_list_mul (F.args_list_mul_2 _ _) (AutoListH.list___mul___list_int_3 l its.toArray n k t hfit NU DE) ⟨e,?_⟩⟩)
 rw[hnew];exact⟨.ref _,_,I.K5 (t':=s.toks) (r.rep k.toNat) (by rw[len_rep,Nat.mul_comm];exact hz),rfl,q _ I.fresh⟩
end
end L2
namespace Att
open PySem PySem.W PySem.Calls PyProof.Rows
theorem p7{P:Params}{h:Heap}:∀(ns:List Int) (vs:List Value),WellAll P h vs (ns.map WData.int)->IntsAre vs ns:=by
 intro ns
 induction ns with
 | nil =>
   intro vs w;rw[List.map_nil]at w;cases w;exact .nil
 | cons n ns ih =>
   intro vs w;rw[List.map_cons]at w;cases w with
   | cons a b =>
     cases a;exact .cons _ _ (ih _ b)
theorem Bu{l:OpenLaw}{n:Nat}(hn:l.most=some n){P:Params}{h:Heap}{args:List WData}{vals:List Value}
 (hpre:l.row.toRowW.claim.pre args=true) (NV:WellAll P h vals args) :
 ∃ a vs ns,vals=[Value.ref a]/\args=[WData.list (ns.map WData.int)]/\h.get? a=some { cls:=.type "list",data:=.seq vs.toArray}/\IntsAre vs ns/\ns.length<=n:=by
 have hsh:WShape.hasAll [] args [.list .int]=true:=(pre_splitW hpre).1;have hc:l.pre.holds [] { args:=args}=true:=(pre_splitW hpre).2;obtain⟨d,r,rfl,h1,h2⟩:=hasAllW_cons hsh;obtain rfl:=hasAllW_nil h2;obtain⟨xs,rfl,h3⟩:=hasW_list h1;obtain⟨ns,rfl⟩:=items_int h3;have hlen:ns.length<=n:=by
  unfold OpenLaw.pre at hc;have h4:(WTm.not (.lt (.lit (.int (n:Int))) (.len (.arg 0)))).holds [] { args:=[.list (ns.map .int)]}=true:=by
   have h4:=(holds_andW hc).1;rw[hn]at h4;exact h4
  have h5:=condW_of h4 (w_not (w_lt w_lit (w_len_list (w_arg rfl))));rw[List.length_map]at h5;refine Nat.le_of_not_lt fun q=>?_
  have q' : (n:Int)<((ns.length:Nat):Int):=by lia
  first
   | (rw[cN q']at h5;exact absurd h5 (by decide))
   | (simp at h5;lia)
 cases NV with
 | cons w1 w2 =>
   cases w2;cases w1 with
   | list ho hall=>exact⟨_,_,ns,rfl,rfl,ho,p7 ns _ hall,hlen⟩
theorem Bv(l:OpenLaw)(args:List WData):l.row.toRowW.claim.post args (.bool true) args=true :=
 postW_of (r:=l.row.toRowW) (X:=(true==true))
  (show WShape.has [] (.bool true) .bool=true by first | rfl | decide | simp[WShape.has,WShape.arms,WShape.armsAll])
  (show(WTm.eq .res (.lit (.bool true))).value [] { args:=args,res:=some (.bool true),after:=args}=some (.bool (true==true)) from w_eq_bool (w_res rfl) w_lit) rfl
theorem wQ{l:OpenLaw}{n:Nat}{q:Program}{loose:List Str}{XP:(Str->Option Value)->Heap->Prop}{YP:World->Heap->Prop}{d:DefRec}
 (hn:l.most=some n) (K6:d.params.defaults=[])
 (call:∀(w:World) (s₀ s₁:Shared) (mg mb:kK) (fa:Addr) (o:Obj) (pm cd doc:Value) (a:Addr) (vs:List Value) (ns:List Int),
  Ground q loose [] XP w s₀ mg mb s₁.heap->YP w s₁.heap->
  s₁.heap.get? fa=some o->o.data = .func (docDef d.name d.params d.body d.scope pm cd doc)->s₁.heap.CodeRec cd d.name->mg d.name=some (.ref fa)->
  s₁.heap.get? a=some { cls:=.type "list",data:=.seq vs.toArray}->IntsAre vs ns->ns.length<=n->s₁.gens = #[]->
  codeAny (model l.prog w) callerA (.call (.ref fa) ⟨[.ref a],[]⟩) (fun r s'=>r = .ok (.ret (.bool true))/\OldK s₁.heap s'.heap/\s'.os=s₁.os/\AllBare s'.gens) s₁) :
 WalkO q loose XP YP l.row.toRowW d [] (fun f vs=>PySem.call f vs):=by
 intro w s₀ s₁ mg mb G Y fa o pm cd doc dV kV ho hd hcd hD hmg hg args vals as hpre hlay hrd NV hlo;obtain rfl:dV = .none:=Dflts.none hD K6;obtain rfl:kV = .none:=Dflts.noKw hD;obtain⟨a,vs,ns,rfl,rfl,hobj,hints,hlen⟩:=Bu hn hpre NV;refine enter_call (codeAny_mono (call w s₀ s₁ mg mb fa o pm cd doc a vs ns G Y ho (fd_plain hd) hcd hmg hobj hints hlen hg) fun r s' hq=>?_)
 obtain⟨rfl,h2,h3,h4⟩:=hq;exact⟨.inl ⟨.bool true,.bool true,[],rfl,fun _=>rfl,.bool true,Bv l _,fun _=>⟨List.Pairwise.nil,fun _ hm=>(nomatch hm)⟩⟩,h2,h3,h4⟩
end Att
namespace L2
open PySem PySem.Spec PyProof.Rows
theorem ua:∀{vs:List Value} {ns:List Int},IntsAre vs ns->Vals (ns.map V.int) vs
 | _,_,.nil=>.nil
 | _,_,.cons n t h=>.cons ⟨t,rfl⟩ (ua h)
end L2
namespace L2
open PySem PySem.Spec PyProof.Rows
def dG(s:Stmt):Arguments:=match s with
 | .FunctionDef _ a _ _ _ _ _ _ _ _=>a
 | _=>{ posonlyargs:=[],args:=[],vararg:=none,kwonlyargs:=[],kw_defaults:=[],kwarg:=none,defaults:=[]}
def bY(s:Stmt):List Stmt:=match s with
 | .FunctionDef _ _ b _ _ _ _ _ _ _=>b
 | _=>[]
def ak(s:Stmt):Scope:=match s with
 | .FunctionDef _ _ _ _ _ _ sc _ _ _=>sc
 | _=>{ kind:=.function,names:=[],isGenerator:=false,isCoroutine:=false}
abbrev Ax:CW:=fun _ _ _ _ _ _=>False
abbrev E0:XK:=fun _ _ _=>False
theorem aL{X:Cx}:Passes Ax X E0:=fun _ _ _ _ _ _ _ h=>h.elim
structure Gi(K:bI)(x qual:Str)(st:Stmt)(f:Addr)(fd:FuncData):Prop where
 ex:∃(oc:Value) (od:Option Addr) (kV doc pm:Value) (an:Option Addr) (cdv ct:Value) (osl:Array (Option Value)),
  fd=PySem.W.fnOf x qual (dG st) (bY st) (ak st) .none kV doc pm an cdv ct/\K.lookup f=some ⟨oc,od,.func fd,osl⟩/\PySem.W.codeIn K cdv qual=true
 kp:PySem.W.keepIn K (.ref f)=true
section
variable {P:Program}{w:World}{K:bI}{mg:kK}{base:Heap}
theorem Gi.ok{x qual:Str}{st:Stmt}{f:Addr}{fd:FuncData}{N ps:List Str}{k:Nat}{sp:Sp}(F:Gi K x qual st f fd)(S:aH N ps (ak st))(len:∀ vs H Q E,sp vs H Q E->vs.length=ps.length)
 (hbody:∀(cdv:Value) (A:Around) (outer:List Env) (s:Shared) (H:Hp) (vs:List V) (Q:VK) (E:XK),fZ k (A.deeper (envOfC qual (ak st) s.heap.objs.size f cdv))->sp vs H Q E->
  ∃ t,uO (p5 Ax P w K mg base N qual (ak st) f cdv A outer s H E).yx (bY st) t/\t { nx:=fun _ H'=>Q .gh H',rt:=Q} (start N vs) H):kO P w K mg base Ax (k+1) f fd ps sp:=by
 obtain⟨oc,od,kV,doc,pm,an,cdv,ct,osl,rfl,lk,hcd⟩:=F.ex;refine Dw lk hcd S len fun A outer s H vs Q E hr qP=>?_
 obtain⟨t,h,q⟩:=hbody cdv A outer s H vs Q E hr qP;exact⟨t,h.yx,q⟩
theorem Gi.binds{x qual:Str}{st:Stmt}{f:Addr}{fd:FuncData}{ps:List Str}(F:Gi K x qual st f fd)
 (h:∀(kV doc pm:Value) (an:Option Addr) (cdv ct:Value) (us:List Value),us.length=ps.length->bindArgs (PySem.W.fnOf x qual (dG st) (bY st) (ak st) .none kV doc pm an cdv ct) ⟨us,[]⟩=pure (ps.zip us)):Binds K fd ps []:=by
 obtain⟨oc,od,kV,doc,pm,an,cdv,ct,osl,rfl,lk,hcd⟩:=F.ex;exact .all (h kV doc pm an cdv ct)
theorem IF{x qual:Str}{st:Stmt}{f:Addr}{oc:Value}{od an:Option Addr}{osl:Array (Option Value)}{kV doc pm cdv ct:Value}(l:K.lookup f=some ⟨oc,od,.func (PySem.W.fnOf x qual (dG st) (bY st) (ak st) .none kV doc pm an cdv ct),osl⟩)
 (c:PySem.W.codeIn K cdv qual=true) (k:PySem.W.keepIn K (.ref f)=true):Gi K x qual st f (PySem.W.fnOf x qual (dG st) (bY st) (ak st) .none kV doc pm an cdv ct):=⟨⟨oc,od,kV,doc,pm,an,cdv,ct,osl,rfl,l,c⟩,k⟩
end
theorem ir{n:Nat}(h:n<=1000):n<sizeLine:=Nat.lt_of_le_of_lt h (by decide)
section
variable {X:Cx}
theorem pv(i:Nat){x:Str}{pos:Pos}(hN:X.N[i]?=some x:=by rfl)(hv:ME X.env.scope x:=by first | exact Or.inl rfl | exact Or.inr (Or.inl rfl) | exact Or.inr (Or.inr rfl))(hd:(x==("__debug__":Str))=false:=by decide)
 (hcd:(x==("__classdict__":Str))=false:=by decide):PE X (.Name x pos) (Kv i):=Io hN hv hd hcd
end
theorem bK{A B:Prop}(h:B):if false=true then A else B:=by
 rw[if_neg Bool.false_ne_true];exact h
theorem bW{A B:Prop}(h:A):if true=true then A else B:=by
 rw[if_pos rfl];exact h
theorem dD{c A B:Prop}[Decidable c](h1:c->A)(h2 : ¬ c->B):if c then A else B:=by
 by_cases h:c
 ·rw[if_pos h];exact h1 h
 ·rw[if_neg h];exact h2 h
def au(H H' : Hp):Prop:=∀ b o,H b=some o->H' b=some o
theorem au.refl(H:Hp):au H H:=fun _ _ h=>h
theorem au.trans{H H1 H2:Hp}(a:au H H1)(b:au H1 H2):au H H2:=fun c o h=>b c o (a c o h)
theorem au.free{H H' : Hp}(e:au H H'){l:Addr}(h:H' l=Option.none):H l=Option.none:=by
 cases q:H l with
 | none=>rfl
 | some o =>
   rw[e l o q]at h;cases h
theorem au.seq{K:bI}{H H' : Hp}{a:Addr}{xs:List V}(e:au H H')(h:aQ K H a xs):aQ K H' a xs:=by
 rcases h with(h|⟨o,h⟩) | h
 ·exact .inl (.inl (e _ _ h))
 ·exact .inl (.inr ⟨o,e _ _ h⟩)
 ·exact .inr h
def cV(cells:List (Str×Addr)):List (Str×NameKind)->List (Str×Addr)->List (Str×Addr)
 | [],cs=>cs
 | (n,k)::r,cs=>cV cells r (if(k==NameKind.free)=true then(n,(cells.lookup n).getD 0)::cs else cs)
theorem qR{env:Env}{f:Str×NameKind->List (Str×Addr)->Sem (ForInStep (List (Str×Addr)))}
 (hf1:∀ n k cs c,(k==NameKind.free)=true->env.cells.lookup n=some c->f (n,k) cs=pure (.yield ((n,c)::cs)))
 (hf2:∀ n k cs,(k==NameKind.free)=false->f (n,k) cs=pure (.yield cs)) :
 ∀(names:List (Str×NameKind)) (cs:List (Str×Addr)),(∀ n k,(n,k)∈names->(k==NameKind.free)=true->∃ c,env.cells.lookup n=some c)->
  forIn names cs f=(pure (cV env.cells names cs):Sem (List (Str×Addr)))
 | [],cs,_=>by rw[List.forIn_nil];rfl
 | (n,k)::r,cs,h=>by
   have ih:=fun cs=>qR hf1 hf2 r cs fun m j hm=>h m j (lJ _ hm)
   rw[List.forIn_cons];cases e:(k==NameKind.free) with
   | true =>
     obtain⟨c,hc⟩:=h n k List.mem_cons_self e;rw[hf1 n k cs c e hc,pure_bind];show forIn r ((n,c)::cs) f=_;rw[ih]
     conv=>rhs;unfold cV
     rw[if_pos e,hc];rfl
   | false =>
     rw[hf2 n k cs e,pure_bind];show forIn r cs f=_;rw[ih]
     conv=>rhs;unfold cV
     rw[if_neg (by rw[e];exact Bool.false_ne_true)]
theorem mP{scope:Scope}{env:Env}(h:∀ n k,(n,k)∈scope.names->(k==NameKind.free)=true->∃ c,env.cells.lookup n=some c):closureFor scope env=pure (cV env.cells scope.names []):=by
 simp only[closureFor];rw[qR (env:=env) ?_ ?_ scope.names [] h]
 ·rfl
 ·intro n k cs c e hc;show(if(k==NameKind.free)=true then _ else _)=_
  rw[if_pos e];unfold cellOf;rw[hc];rfl
 ·intro n k cs e;show(if(k==NameKind.free)=true then _ else _)=_
  rw[if_neg (by rw[e];exact Bool.false_ne_true)]
theorem iZ{cells:List (Str×Addr)}{x:Str}{c:Addr}:∀{names:List (Str×NameKind)} {cs:List (Str×Addr)},(cV cells names cs).lookup x=some c->cs.lookup x=some c\/((x,NameKind.free)∈names/\(cells.lookup x).getD 0=c)
 | [],cs,h=>.inl h
 | (n,k)::r,cs,h=>by
   unfold cV at h;rcases iZ h with q|⟨q1,q2⟩
   ·by_cases e:(k==NameKind.free)=true
    ·rw[if_pos e]at q
     by_cases hx:x=n
     ·subst hx;rw[List.lookup_cons_self]at q;have hk:k=NameKind.free:=eq_of_beq e;exact .inr ⟨by rw[hk];exact List.mem_cons_self,Option.some.inj q⟩
     ·have hb:(x==n)=false:=beq_eq_false_iff_ne.mpr hx;simp only[List.lookup_cons,hb]at q;exact .inl q
    ·rw[if_neg e]at q;exact .inl q
   ·exact .inr ⟨lJ _ q1,q2⟩
theorem iG{cells:List (Str×Addr)}{x:Str}:∀{names:List (Str×NameKind)} {cs:List (Str×Addr)},((x,NameKind.free)∈names\/∃ c,cs.lookup x=some c)->∃ c,(cV cells names cs).lookup x=some c
 | [],cs,h=>by
   rcases h with h|h
   ·cases h
   ·exact h
 | (n,k)::r,cs,h=>by
   unfold cV;apply iG;rcases h with h|⟨c,h⟩
   ·rcases List.mem_cons.mp h with h|h
    ·cases h
     right
     rw[if_pos (by rfl)]
     exact⟨_,List.lookup_cons_self⟩
    ·exact .inl h
   ·right
    by_cases e:(k==NameKind.free)=true
    ·rw[if_pos e]
     by_cases hx:x=n
     ·subst hx;exact⟨_,List.lookup_cons_self⟩
     ·have hb:(x==n)=false:=beq_eq_false_iff_ne.mpr hx;exact⟨c,by simp only[List.lookup_cons,hb];exact h⟩
    ·rw[if_neg e];exact⟨c,h⟩
theorem jQ{env:Env}{x:Str}{k:NameKind}:∀{names:List (Str×NameKind)},
 (names.map fun(n,k)=>if(k==NameKind.free&&env.scope.kind == .function&&env.kindOf n==some .cell) then(n,NameKind.cell) else(n,k)).lookup x=some k->
  ∃ k0,names.lookup x=some k0/\(k=k0\/(k0 = .free/\k = .cell))
 | [],h=>by cases h
 | (n,j)::r,h=>by
   have ih:=@jQ env x k r
   replace h:List.lookup x ((if(j==NameKind.free&&env.scope.kind == .function&&env.kindOf n==some .cell)=true then(n,NameKind.cell) else(n,j))::_)=some k:=h
   cases hx:x==n with
   | true =>
     by_cases hc:(j==NameKind.free&&env.scope.kind == .function&&env.kindOf n==some .cell)=true
     ·rw[if_pos hc]at h;simp only[List.lookup_cons,hx]at h ⊢;have hj:j=NameKind.free:=by
       rw[Bool.and_eq_true,Bool.and_eq_true]at hc;exact eq_of_beq hc.1.1
      exact⟨j,rfl,.inr ⟨hj,(Option.some.inj h).symm⟩⟩
     ·rw[if_neg hc]at h;simp only[List.lookup_cons,hx]at h ⊢;exact⟨j,rfl,.inl (Option.some.inj h).symm⟩
   | false =>
     by_cases hc:(j==NameKind.free&&env.scope.kind == .function&&env.kindOf n==some .cell)=true
     ·rw[if_pos hc]at h;simp only[List.lookup_cons,hx]at h ⊢;exact ih h
     ·rw[if_neg hc]at h;simp only[List.lookup_cons,hx]at h ⊢;exact ih h
theorem nu{env:Env}{x:Str}:∀{names:List (Str×NameKind)},names.lookup x=some .free->
 (names.map fun(n,k)=>if(k==NameKind.free&&env.scope.kind == .function&&env.kindOf n==some .cell) then(n,NameKind.cell) else(n,k)).lookup x=some .cell\/
 (names.map fun(n,k)=>if(k==NameKind.free&&env.scope.kind == .function&&env.kindOf n==some .cell) then(n,NameKind.cell) else(n,k)).lookup x=some .free
 | [],h=>by cases h
 | (n,j)::r,h=>by
   have ih:=@nu env x r;show List.lookup x ((if(j==NameKind.free&&env.scope.kind == .function&&env.kindOf n==some .cell)=true then(n,NameKind.cell) else(n,j))::_)=_\/
    List.lookup x ((if(j==NameKind.free&&env.scope.kind == .function&&env.kindOf n==some .cell)=true then(n,NameKind.cell) else(n,j))::_)=_
   cases hx:x==n with
   | true =>
     simp only[List.lookup_cons,hx]at h;cases h
     by_cases hc:(NameKind.free==NameKind.free&&env.scope.kind == .function&&env.kindOf n==some .cell)=true
     ·rw[if_pos hc];simp only[List.lookup_cons,hx];exact .inl trivial
     ·rw[if_neg hc];simp only[List.lookup_cons,hx];exact .inr trivial
   | false =>
     simp only[List.lookup_cons,hx]at h
     by_cases hc:(j==NameKind.free&&env.scope.kind == .function&&env.kindOf n==some .cell)=true
     ·rw[if_pos hc];simp only[List.lookup_cons,hx];exact ih h
     ·rw[if_neg hc];simp only[List.lookup_cons,hx];exact ih h
def cW(X:Cx)(N:List Str)(scope:Scope)(xe:gU)(C:Addr)(s:Shared)(H:Hp)(fp:List Addr):Cx where
 prog:=X.prog
 w:=X.w
 K:=X.K
 mg:=X.mg
 base:=X.base
 A:=X.A
 N:=N
 s₀:=s
 H₀:=H
 env:=compEnvC scope (cV X.env.cells scope.names []) C X.env
 outer:=X.stack
 stack:=X.stack
 ex:=fp
 fn:=fun _=>false
 calm:=X.calm
 pn:=[]
 xe:=xe
def fK(σ:St)(js:List Nat):St:=js.map fun j=>(σ[j]?).getD none
structure eV(X:Cx)(scope:Scope)(own fq:List Str)(js:List Nat):Prop where
 kind:scope.kind = .function
 uZ:∀ y∈scope.names,y.2≠.cell
 names:∀ y∈scope.names,y.2 = .local->scope.names.lookup y.1=some .local
 free:∀ y∈scope.names,y.2 = .free->X.env.scope.names.lookup y.1=some .cell\/X.env.scope.names.lookup y.1=some .free
 at_:js.map (fun j=>X.N[j]?)=fq.map some
 fr:∀ x∈fq,scope.names.lookup x=some .free
theorem qS{σ:St}{js:List Nat}{i:Nat}{v:V}(h:(fK σ js)[i]?=some (some v)):∃ j,js[i]?=some j/\σ[j]?=some (some v):=by
 unfold fK at h;rw[List.getElem?_map]at h;cases e:js[i]? with
 | none=>rw[e]at h;cases h
 | some j =>
   rw[e]at h;have h' : (σ[j]?).getD none=some v:=Option.some.inj h;refine⟨j,rfl,?_⟩;cases q:σ[j]? with
   | none=>rw[q]at h';cases h'
   | some o=>rw[q]at h';rw[show o=some v from h']
section
variable {X:Cx}
theorem gj{pq:aX}{σ:St}{H:Hp}{s:Shared}{scope:Scope}{own fq:List Str}{js:List Nat}(I:Inv X pq σ H s)(T:eV X scope own fq js):
 ∀ n k,(n,k)∈scope.names->(k==NameKind.free)=true->∃ c,X.env.cells.lookup n=some c:=fun n k hm e=>by
 have hk:k=NameKind.free:=eq_of_beq e;exact I.ok.has n (T.free (n,k) hm hk)
theorem DF{pq:aX}{σ:St}{H:Hp}{s:Shared}{scope:Scope}{own fq:List Str}{js:List Nat}{fp:List Addr}{D C:Addr}{h1:Heap}{t1:Nat}{m:kK}{xe:gU}
 (I:Inv X pq σ H s) (T:eV X scope own fq js) (hf:∀ b∈fp,mO X pq H b) (hfo:∀ b∈fp,∃ o,s.heap.get? b=some o) (hD:s.heap.objs.size<=D) (hC:s.heap.objs.size<=C) (hDC:D≠C)
 (old:∀ b o,s.heap.get? b=some o->h1.get? b=some o) (hl:h1.get? D=some { cls:=.type "list",data:=.seq ([]:List Value).toArray 0}) (hn:h1.Ns C m) :
 Inv (cW X (own++fq) scope xe C s H fp) [] (List.replicate own.length none++fK σ js) (upd H D (.lst [])) { s with heap:=h1,toks:=t1}:=by
 have cells:∀ x c,(cV X.env.cells scope.names []).lookup x=some c->X.env.cells.lookup x=some c:=fun x c h=>by
  rcases iZ h with q|⟨q1,q2⟩
  ·cases q
  ·obtain⟨c',hc'⟩:=gj I T x .free q1 rfl;rw[hc']at q2;rw[hc'];exact congrArg some q2
 have K7:∀ b o,s.heap.get? b=some o->b<s.heap.objs.size:=fun b o e=>Heap.lt_size e
 have hcl:∀ x c,X.env.cells.lookup x=some c->c<s.heap.objs.size:=fun x c e=>by
  obtain⟨v,q⟩:=I.cell x c e;exact q.lt
 have Rp:∀ b∈frs X.stack,b<s.heap.objs.size:=fun b hb=>by
  obtain⟨_,o,ho,_⟩:=I.stack.mem hb;exact Heap.lt_size ho
 have Rq:H D=none:=I.hok.fresh hD;have IG:H C=none:=I.hok.fresh hC;refine⟨⟨I.ok.mod,T.kind,I.ok.glob,I.ok.blt,hC,fun x y c a b=>I.ok.inj x y c (cells x c a) (cells y c b),fun x hx=>?_,fun x c z _=>(nomatch z),I.ok.hd,I.ok.frames,.inl rfl,fun b hb=>⟨?_,fun x c e z=>?_⟩,
  fun b o e=>I.bs b o e,Nat.le_trans I.ok.FT I.sz,fun b o e hb=>?_,fun b hb z=>?_,I.stack,I.uN⟩,
  rfl,I.bare,Un.laid old hD Rq,⟨m,hn,fun i x v e1 e2 e3=>?_⟩,fun x c e=>?_,?_,fun x c e=>?_,fun p hp=>absurd (show p∈([]:aX) from hp) (by simp),?_,?_⟩
 ·
  have hx:(relabel scope X.env).names.lookup x=some .cell\/(relabel scope X.env).names.lookup x=some .free:=hx;have Rr:(x,NameKind.free)∈scope.names:=by
   rcases hx with hx|hx
   ·obtain⟨k0,q,r⟩:=jQ hx;have hm:=PySem.mem_of_lookup q;rcases r with r|⟨r,_⟩
    ·exact absurd r.symm (T.uZ _ hm)
    ·rw[r]at hm;exact hm
   ·obtain⟨k0,q,r⟩:=jQ hx;have hm:=PySem.mem_of_lookup q;rcases r with r|⟨_,r⟩
    ·rw[<-r]at hm;exact hm
    ·cases r
  exact iG (.inl Rr)
 ·
  obtain⟨o,ho⟩:=hfo b hb;exact Nat.ne_of_lt (Nat.lt_of_lt_of_le (K7 b o ho) hC)
 ·exact(hf b hb).2.2.2.2.1 x c (cells x c e) z
 ·
  obtain⟨_,_,_,f3,_,_⟩:=hf b hb;rcases f3 with z|z
  ·exact I.ok.Dd b o e z
  ·exact absurd (Nat.lt_of_lt_of_le (Heap.lt_size (I.ok.bs b o e).1) z) (Nat.lt_irrefl _)
 ·
  obtain⟨_,f1,f2,_⟩:=hf b hb;rcases List.mem_cons.mp (I.qI b z) with q|q
  ·exact f1 q
  ·exact f2 q
 ·
  by_cases hi:i<own.length
  ·rw[List.getElem?_append_left (by simpa using hi),List.getElem?_replicate,if_pos hi]at e2
   cases e2
  ·rw[List.getElem?_append_right (by simpa using hi),List.length_replicate]at e2
   replace e1:(own++fq)[i]?=some x:=e1
   rw[List.getElem?_append_right (by lia)]at e1
   obtain⟨j,hj,hσ⟩:=qS e2;have hN:X.N[j]?=some x:=by
    have q:=congrArg (fun l=>l[i-own.length]?) T.at_
    simp only[List.getElem?_map,hj,e1,Option.map_some]at q;exact Option.some.inj q
   have hfx:=T.fr x (m8 e1);have hm:=PySem.mem_of_lookup hfx;have hk:=T.free (x,.free) hm rfl;obtain⟨m0,hn0,DG⟩:=I.loc;obtain⟨u,r,l⟩:=DG j x v hN hσ (by rcases hk with k|k;exact .inr (.inl k);exact .inr (.inr k))
   refine⟨u,r,.inr ⟨nu hfx,?_⟩⟩;rcases l with⟨oB,_⟩|⟨_,c,hc,hcell⟩
   ·have oB:X.env.scope.names.lookup x=some .local:=oB;rcases hk with k|k<;>(rw[oB]at k;cases k)
   ·obtain⟨c',hc'⟩:=iG (cells:=X.env.cells) (names:=scope.names) (cs:=[]) (x:=x) (.inl hm);have q:=cells x c' hc';rw[hc]at q;cases q;exact⟨c,hc',hcell.keeps old⟩
 ·
  obtain⟨v,q⟩:=I.cell x c (cells x c e);exact⟨v,q.keeps old⟩
 ·
  show upd H D (.lst []) C=none;rw[ay (Ne.symm hDC)];exact IG
 ·show upd H D (.lst []) c=none;have e:=cells x c e;rw[ay (Nat.ne_of_lt (Nat.lt_of_lt_of_le (hcl x c e) hD))];exact I.gO x c e
 ·exact I.hok.laid old hD ⟨Nat.zero_le _,[],0,.nil,hl⟩
 ·show _=(own++fq).length;have q:=congrArg List.length T.at_;rw[List.length_map,List.length_map]at q;rw[List.length_append,List.length_append,List.length_replicate];unfold fK;rw[List.length_map,q]
theorem mz{pq:aX}{σ σ' : St}{H H' : Hp}{s s' : Shared}{scope:Scope}{N:List Str}{fp:List Addr}{C:Addr}{h' : Heap}{xe:gU}
 (I:Inv X pq σ H s) (hf:∀ b∈fp,mO X pq H b) (hC:s.heap.objs.size<=C) (J:Inv (cW X N scope xe C s H fp) [] σ' H' s') (sb:Heap.SameBut C s'.heap h'):Inv X pq σ H' { s' with heap:=h'}:=by
 have IG:H' C=none:=J.free;refine I.De (ch:=fp) J.os ?_ ?_ J.bare (fun b hb=>?_)
 ·have u:Un (frs X.stack) fp H H' s.heap s'.heap:=J.base;have ne:∀ b o,s.heap.get? b=some o->b≠C:=fun b o e=>Nat.ne_of_lt (Nat.lt_of_lt_of_le (Heap.lt_size e) hC)
  refine⟨fun b o e n hb hx=>(sb.2 b (ne b o e)).trans (u.keep b o e n hb hx),fun b o e n hb hx=>?_,u.free,fun b o e hx=>?_,u.tups,u.l9,u.mL⟩
  ·obtain⟨sl,q⟩:=u.slot b o e n hb hx;exact⟨sl,(sb.2 b (ne b o e)).trans q⟩
  ·obtain⟨o',q⟩:=u.there b o e hx;exact⟨o',(sb.2 b (ne b o e)).trans q⟩
 ·intro b ob e;refine(J.hok b ob e).stay (fun c w' hc q=>(sb.2 c ?_).trans q) (fun _ q=>q) fun _ _ q=>q
  rintro rfl;rcases hc with rfl|hc
  ·rw[IG]at e;cases e
  ·rw[IG]at hc;cases hc
 ·obtain⟨_,f1,_,f3,f4,f5⟩:=hf b hb;exact⟨f3,f1,f4,f5⟩
end
section
variable {prog:Program}{w:World}{A:Around}{R:Result->Shared->Prop}{s:Shared}
abbrev Ay(ifs:List Expr)(env:Env):Sem Bool:=forIn ifs true fun c r=>if r=true then do let ok←isTrue c env (eval c env);pure (ForInStep.yield ok) else pure (ForInStep.yield r)
theorem u0{elt target iter:Expr}{ifs:List Expr}{scope:Scope}{pos:Pos}{it acc:Value}{env:Env}(I:Nat->Shared->Prop)
 (turn:∀ n s,I n s->wpAny (model prog w) A (pyNext it) (fun r s₁=>match r with
  | none=>R (.ok .next) s₁
  | some v=>wpAny (model prog w) A (letOwnedTupleGo target it v) (fun _ s₀=>wpAny (model prog w) A (assign target env v) (fun _ s₂ =>
   wpAny (model prog w) A (Ay ifs env) (fun ok s₃ =>
    if ok=true then wpAny (model prog w) A (eval elt env) (fun x s₄ =>
     wpAny (model prog w) A (call (.builtin "list.append") [acc,x]) (fun _ s₅=>∃ m,m<n/\I m s₅) (notedBy (model prog w) A env fun e s'=>R (.error e) s') s₄) (notedBy (model prog w) A env fun e s'=>R (.error e) s') s₃
    else ∃ m,m<n/\I m s₃) (notedBy (model prog w) A env fun e s'=>R (.error e) s') s₂) (notedBy (model prog w) A env fun e s'=>R (.error e) s') s₀) (notedBy (model prog w) A env fun e s'=>R (.error e) s') s₁) (notedBy (model prog w) A env fun e s'=>R (.error e) s') s)
 (n:Nat) (h:I n s) :
 codeAny (model prog w) A (.compLoop (.ListComp elt [⟨target,iter,ifs,0⟩] scope pos) 0 it acc env) R s:=by
 refine codeAny_loop rfl I (fun n s hI=>?_) n h
 show wpAny _ A ((compTurn (.ListComp elt [⟨target,iter,ifs,0⟩] scope pos) 0 it acc env).onRaise (fun x=>do noteFrame x env;theTreesLotGoes x)) _ _ s
 refine wpAny_noted ?_;rw[compTurn_list];refine dY (wpAny_standAt (dY (wpAny_mono (turn n s hI) (fun r s₁ h₁=>?_) fun _ _ h'=>h')))
 cases r with
 | none=>exact wpAny_pure h₁
 | some v =>
   refine dY (wpAny_mono h₁ (fun _ s₀ h₀=>?_) fun _ _ h'=>h')
   refine dY (wpAny_mono h₀ (fun _ s₂ h₂=>dY (wpAny_mono h₂ (fun ok s₃ h₃=>?_) fun _ _ h'=>h')) fun _ _ h'=>h')
   cases ok with
   | false=>exact wpAny_pure ⟨rfl,h₃⟩
   | true =>
     exact dY (dY (wpAny_mono h₃ (fun x s₄ h₄=>dY (wpAny_mono h₄ (fun _ s₅ h₅=>wpAny_pure (wpAny_pure ⟨rfl,h₅⟩)) fun _ _ h'=>h')) fun _ _ h'=>h'))
end
def K8(X:Cx)(ifs:List Expr)(t:TT):Prop :=
 ∀(pq:aX) (s:Shared) (σ:St) (H:Hp) (Q:Bool->Hp->Prop),Inv X pq σ H s->t σ H Q->wpAny (model X.prog X.w) X.A (Ay ifs X.env) (TP X pq σ Q) X.xe s
def K9:TT:=fun _ H Q=>Q true H
theorem cI{X:Cx}:K8 X [] K9:=fun _ _ _ H _ I h=>wpAny_tests_nil ⟨H,I,h⟩
theorem cO{X:Cx}{c:Expr}{t:TT}(h:PT X c t):K8 X [c] t:=fun pq s σ H Q I q=>wpAny_tests_one (h pq s σ H Q I q)
def iH(J:It)(g:TG)(tt:TT)(te:TE)(n:Nat)(fr:St)(D:Addr)(Q:Hp->Prop)(H1:Hp):Prop :=
 ∃ W:Nat->Nat->List V->Hp->Prop,(∃ m,W 0 m [] H1)/\∀ i m acc H,W i m acc H->H D=some (.lst acc)/\
   ((J.stop i H/\Q H)\/(J.go i H/\acc.length<sizeLine/\∃ N:List V->Hp->Prop,(∀ acc' H',N acc' H'->∃ m',m'<m/\W (i+1) m' acc' H')/\
     ∀ x H',J.F1 i H x H'->g x (List.replicate n none++fr) H' fun σ2 H2=>σ2.drop n=fr/\tt σ2 H2 fun b H3 =>
     if b=true then te σ2 H3 fun v H4=>H4 D=some (.lst acc)/\N (acc++[v]) (upd H4 D (.lst (acc++[v])))
     else N acc H3))
def Ht(wi:TI)(g:TG)(tt:TT)(te:TE)(n:Nat)(js:List Nat):TE:=fun σ H Q=>wi σ H fun J H1=>∀ D,H1 D=none->iH J g tt te n (fK σ js) D (fun H2=>Q (.ref D) H2) (upd H1 D (.lst []))
structure Hu(A:Around)(cm:Bool)(P:Program)(w:World)(K:bI)(tg:Expr)(J:It)(fp:List Addr)(it:Addr)(tn:Nat->Heap->Prop):Prop where
 mem:it∈fp
 obj:∀ i h,tn i h->∀ b∈fp,∃ o,h.get? b=some o/\∀ v,o.data≠.cell v
 keep:∀ i h h',tn i h->(∀ b∈fp,∀ o,h.get? b=some o->h'.get? b=some o)->tn i h'
 item:∀(X:Cx),X.prog=P->X.w=w->X.K=K->X.A=A->X.calm=cm->∀(i:Nat) (pq:aX) (s:Shared) (σ:St) (H:Hp) (E:gU),Inv X pq σ H s->(∀ b∈fp,mO X pq H b)->tn i s.heap->J.go i H->
  wpAny (model P w) X.A (pyNext (.ref it)) (fun r s1=>∃ u,r=some u/\
   wpAny (model P w) X.A (letOwnedTupleGo tg (.ref it) u) (fun _ s2=>∃ x H',Inv X pq σ H' s2/\RelV x u/\J.F1 i H x H'/\tn (i+1) s2.heap/\∀ b∈fp,H' b=none) E s1) E s
 done:∀(X:Cx),X.prog=P->X.w=w->X.K=K->X.A=A->X.calm=cm->∀(i:Nat) (pq:aX) (s:Shared) (σ:St) (H:Hp) (E:gU),Inv X pq σ H s->(∀ b∈fp,mO X pq H b)->tn i s.heap->J.stop i H->
  wpAny (model P w) X.A (pyNext (.ref it)) (fun r s1=>r=none/\Inv X pq σ H s1) E s
 self:∀(A:Around) (i:Nat) (s:Shared) (Q:gU) (E:gU),tn i s.heap->Q (.ref it) s->wpAny (model P w) A (pyIter (.ref it)) Q E s
theorem Turn.x{A:Around}{cm:Bool}{P:Program}{w:World}{K:bI}{tg:Expr}{J:It}{fp:List Addr}{it:Addr}{tn:Nat->Heap->Prop}(T:Turn P w K tg J fp it tn)(hc:cm=true):Hu A cm P w K tg J fp it tn :=
 ⟨T.mem,T.obj,T.keep,fun X a b c _ d=>T.item X a b c (d.trans hc),fun X a b c _ d=>T.done X a b c (d.trans hc),T.self⟩
section
variable {X:Cx}{elt iter tg:Expr}{ifs:List Expr}{scope:Scope}{pos:Pos}{own fq:List Str}{js:List Nat}{wi:TI}{g:TG}{tt:TT}{te:TE}
theorem qT{pq:aX}{σ:St}{H2:Hp}{s2:Shared}{it:Addr}{fp:List Addr}{tn:Nat->Heap->Prop}{J:It}{E:gU}{RR:Value->Addr->Result->Shared->Prop}{QQ:Addr->Hp->Prop}
 (T:eV X scope own fq js)
 (hg:∀ C s H fp,PG (cW X (own++fq) scope (fun _ _=>False) C s H fp) tg g)
 (ht:∀ C s H fp,K8 (cW X (own++fq) scope (fun _ _=>False) C s H fp) ifs tt)
 (he:∀ C s H fp,PE (cW X (own++fq) scope (fun _ _=>False) C s H fp) elt te)
 (I2:Inv X pq σ H2 s2) (CY:Hu X.A X.calm X.prog X.w X.K tg J fp it tn) (st2:tn 0 s2.heap) (f2:∀ b∈fp,mO X pq H2 b)
 (hl:∀ D,H2 D=none->iH J g tt te own.length (fK σ js) D (QQ D) (upd H2 D (.lst [])))
 (hRR:∀ D C σ' H' s',s2.heap.objs.size<=C->Inv (cW X (own++fq) scope (fun _ _=>False) C s2 H2 fp) [] σ' H' s'->QQ D H'->RR (.ref D) C (.ok .next) s') :
 wpAny (model X.prog X.w) X.A (newList []) (fun acc s₃=>wpAny (model X.prog X.w) X.A (newFunctionEnv scope X.env.globals (cV X.env.cells scope.names []) [] X.env.qual none .none (some X.env)) (fun cenv s₄ =>
  codeAny (model X.prog X.w) X.A (.compStart (.ListComp elt [⟨tg,iter,ifs,0⟩] scope pos) 0 (.ref it) acc { cenv with scope:=relabel scope X.env}) (RR acc cenv.locals) s₄) E s₃) E s2:=by
 refine wpAny_newObj_type (wpAny_newFunctionEnv T.uZ (by intro y hy;simp at hy) (fun h₁ II Gj=>?_) T.kind)
 dsimp only at II Gj ⊢;generalize JW:s2.heap.push { cls:=.type "list",dict:=none,data:=.seq ([]:List Value).toArray}=G2 at II Gj ⊢;have hC:G2.objs.size=s2.heap.objs.size+1:=by rw[<-JW,Heap.size_push]
 have hDC:s2.heap.objs.size≠G2.objs.size:=by rw[hC];exact Nat.ne_of_lt (Nat.lt_succ_self _)
 have La:s2.heap.objs.size<=G2.objs.size:=by rw[hC];exact Nat.le_succ _
 have below:∀ b,b<s2.heap.objs.size->b≠G2.objs.size:=fun b hb=>by rw[hC];exact Nat.ne_of_lt (Nat.lt_succ_of_lt hb)
 have old:∀ b o,s2.heap.get? b=some o->h₁.get? b=some o:=fun b o e=>Gj.extBut b o (below b (Heap.lt_size e)) (Heap.get?_push_of_some _ (JW▸Heap.get?_push_of_some _ e))
 have hacc:h₁.get? s2.heap.objs.size=some { cls:=.type "list",data:=.seq ([]:List Value).toArray 0}:=Gj.extBut _ _ hDC (Heap.get?_push_of_some _ (JW▸Heap.get?_push_size _ rfl));have NW:∀ b∈fp,∃ o,s2.heap.get? b=some o:=fun b hb=>let⟨o,e,_⟩:=CY.obj _ _ st2 b hb;⟨o,e⟩
 have st1:tn 0 h₁:=CY.keep _ _ _ st2 fun b _ o e=>old b o e
 obtain⟨W,⟨m0,w0⟩,turn⟩:=hl s2.heap.objs.size (I2.hok.fresh (Nat.le_refl _));have hfx:∀{H' : Hp},(∀ b∈fp,H' b=none)->∀ b∈fp,mO (cW X (own++fq) scope (fun _ _=>False) G2.objs.size s2 H2 fp) [] H' b:=fun {H'} hn b hb=>by
  obtain⟨_,f1,Rt,_,f4,_⟩:=f2 b hb;obtain⟨o,ho⟩:=NW b hb;refine⟨hn b hb,below b (Heap.lt_size ho),fun z=>?_,.inl hb,fun x c e=>?_,fun p hp=>absurd (show p∈([]:aX) from hp) (by simp)⟩
  ·rcases List.mem_cons.mp (I2.qI b z) with q|q
   ·exact f1 q
   ·exact Rt q
  ·rcases iZ (show(cV X.env.cells scope.names []).lookup x=some c from e) with q|⟨q1,q2⟩
   ·cases q
   ·obtain⟨c',hc'⟩:=gj I2 T x .free q1 rfl;rw[hc']at q2;have q2:c' = c:=q2;rw[<-q2];exact f4 x c' hc'
 have Ru:∀ b∈fp,upd H2 s2.heap.objs.size (.lst []) b=none:=fun b hb=>by
  obtain⟨o,ho⟩:=NW b hb;rw[ay (Nat.ne_of_lt (Heap.lt_size ho))];exact(f2 b hb).1
 have back:∀{σ6:St} {p6:aX} {H6:Hp} {s6:Shared},Inv (cW X (own++fq) scope (fun _ _=>False) G2.objs.size s2 H2 fp) p6 σ6 H6 s6->σ6.drop own.length=fK σ js->
  Inv (cW X (own++fq) scope (fun _ _=>False) G2.objs.size s2 H2 fp) [] (List.replicate own.length none++fK σ js) H6 s6:=fun {σ6 p6 H6 s6} I6 hd=>by
  have Rv:σ6.length=(own++fq).length:=I6.len;have J6:=I6.g7 (MI:=[]) fun p hp=>absurd hp (by simp)
  refine J6.weak ?_ fun i v e=>?_
  ·have q:=congrArg List.length hd;rw[List.length_drop]at q;rw[List.length_append]at Rv;rw[List.length_append,List.length_replicate]
   lia
  ·by_cases hi:i<own.length
   ·rw[List.getElem?_append_left (by simpa using hi),List.getElem?_replicate,if_pos hi]at e
    cases e
   ·rw[List.getElem?_append_right (by simpa using hi),List.length_replicate,<-hd,List.getElem?_drop]at e
    rw[show own.length+(i-own.length)=i by lia]at e
    exact e
 have loop:∀ s₃:Shared,s₃={ s2 with heap:=h₁,toks:=s2.toks+([]:List (Str×Value)).length}->
  codeAny (model X.prog X.w) X.A (.compLoop (.ListComp elt [⟨tg,iter,ifs,0⟩] scope pos) 0 (.ref it) (.ref s2.heap.objs.size) (compEnvC scope (cV X.env.cells scope.names []) G2.objs.size X.env))
   (RR (.ref s2.heap.objs.size) G2.objs.size) s₃:=by
  rintro s₃ rfl;refine u0 (fun n s'=>∃ i acc H',Inv (cW X (own++fq) scope (fun _ _=>False) G2.objs.size s2 H2 fp) [] (List.replicate own.length none++fK σ js) H' s'/\tn i s'.heap/\(∀ b∈fp,H' b=none)/\W i n acc H') ?_ m0
   ⟨0,[],upd H2 s2.heap.objs.size (.lst []),DF I2 T f2 NW (Nat.le_refl _) La hDC old hacc II,st1,Ru,w0⟩
  rintro n s3 ⟨i,acc,H3,I3,st3,Hq,w3⟩;obtain⟨uc,Lb⟩:=turn i n acc H3 w3;rcases Lb with⟨stop,qn⟩|⟨go,hz,NN,O7,step⟩
  ·refine wpAny_mono (CY.done (cW X (own++fq) scope (fun _ _=>False) G2.objs.size s2 H2 fp) rfl rfl rfl rfl rfl i [] s3 _ H3 (fun _ _=>False) I3 (hfx Hq) st3 stop) (fun r s4 ⟨hr,I4⟩=>?_) fun _ _ z=>z.elim
   subst hr;exact hRR _ _ _ H3 s4 La I4 qn
  ·refine wpAny_mono (CY.item (cW X (own++fq) scope (fun _ _=>False) G2.objs.size s2 H2 fp) rfl rfl rfl rfl rfl i [] s3 _ H3 (fun _ _=>False) I3 (hfx Hq) st3 go) (fun r s4 ⟨u,hr,h4⟩=>?_) fun _ _ z=>z.elim
   subst hr;refine wpAny_mono h4 (fun _ s5 ⟨x,H5,I5,r5,y5,Dq,KO⟩=>?_) fun _ _ z=>z.elim
   have KP:=I5.pinned (hfx KO) (CY.obj _ _ Dq);refine wpAny_mono (hg _ _ _ _ _ s5 _ H5 x u _ KP r5 (step x H5 y5)) (fun _ s6 ⟨σ6,H6,I6,O8,q6⟩=>?_) fun _ _ z=>z.elim
   refine wpAny_mono (ht _ _ _ _ _ s6 σ6 H6 _ I6 q6) (fun ok s7 ⟨H7,I7,q7⟩=>?_) fun _ _ z=>z.elim
   have again:∀{H8:Hp} {s8:Shared},Inv (cW X (own++fq) scope (fun _ _=>False) G2.objs.size s2 H2 fp) ([]++oJ fp s5.heap) σ6 H8 s8->tn (i+1) s8.heap/\∀ b∈fp,H8 b=none:=fun {H8 s8} I8=>by
    refine⟨CY.keep _ _ _ Dq fun b hb o e=>(I8.pin (b,o) (oz _ (oz _ (gi hb e)))).1,fun b hb=>?_⟩
    obtain⟨o,e,d⟩:=CY.obj _ _ Dq b hb;exact(I8.pin (b,o) (oz _ (oz _ (gi hb e)))).2.1
   cases ok with
   | false =>
     rw[if_neg Bool.false_ne_true];obtain⟨m',hm,w7⟩:=O7 _ _ q7;obtain⟨t7,n7⟩:=again I7;exact⟨m',hm,i+1,acc,H7,back I7 O8,t7,n7,w7⟩
   | true =>
     rw[if_pos rfl];refine wpAny_mono (he _ _ _ _ _ s7 σ6 H7 _ I7 q7) (fun xv s8 ⟨v,H8,I8,r8,Rx,q8⟩=>?_) fun _ _ z=>z.elim
     obtain⟨m',hm,w8⟩:=O7 _ _ q8;refine wpAny_mono (iq (X:=cW X (own++fq) scope (fun _ _=>False) G2.objs.size s2 H2 fp) _ s8 σ6 H8 (.ref s2.heap.objs.size) [v] (.ref s2.heap.objs.size) [xv] (fun y H9=>y = .gh/\H9=upd H8 s2.heap.objs.size (.lst (acc++[v]))) I8 rfl (.cons r8 .nil) ⟨_,acc,v,rfl,rfl,Rx,hz,rfl,rfl⟩)
      (fun _ s9 ⟨y,H9,I9,_,_,e9⟩=>?_) fun _ _ z=>z.elim
     subst e9;obtain⟨t9,n9⟩:=again I9;exact⟨m',hm,i+1,acc++[v],_,back I9 O8,t9,n9,w8⟩
 exact codeAny_compStart_list (loop _ rfl) (CY.self _ 0 _ _ _ st1 (loop _ rfl))
theorem bh(T:eV X scope own fq js)(hc:X.calm=true)(hi:PI X tg iter wi)
 (hg:∀ C s H fp,PG (cW X (own++fq) scope (fun _ _=>False) C s H fp) tg g)
 (ht:∀ C s H fp,K8 (cW X (own++fq) scope (fun _ _=>False) C s H fp) ifs tt)
 (he:∀ C s H fp,PE (cW X (own++fq) scope (fun _ _=>False) C s H fp) elt te)
 (hs:∀ x,foldedSetIterable iter X.env x=pure x:=by intro _;rfl) :
 PE X (.ListComp elt [⟨tg,iter,ifs,0⟩] scope pos) (Ht wi g tt te own.length js):=by
 intro pq s σ H Q I h;rw[eval_ListComp];refine wpAny_comprehension_free (use:=none) rfl hs (mP (gj I T)) T.kind T.names ?_;refine wpAny_mono (hi pq s σ H _ I h) (fun v s1 h1=>wpAny_mono h1 (fun itv s2 h2=>?_) fun _ _ z=>z) fun _ _ z=>z
 obtain⟨it,fp,tn,J,H2,e,I2,CY,st2,f2,hl⟩:=h2;subst e;refine qT (QQ:=fun D H'=>Q (.ref D) H') T hg ht he I2 (CY.x hc) st2 f2 hl fun D C σ' H' s' hC J' q=>?_
 obtain⟨m,hn,_⟩:=J'.loc;exact⟨m,hn,fun h' sb=>⟨.ref D,H',mz I2 f2 hC J' sb,rfl,q⟩⟩
def DH(i:Nat)(wi:TI)(g:TG)(tt:TT)(te:TE)(n:Nat)(js:List Nat):TS:=fun D σ H=>Ht wi g tt te n js σ H fun v H1=>D.nx (σ.set i (some v)) H1
theorem lN{i:Nat}{x:Str}{pos' spos:Pos}(hN:X.N.Nodup)(hix:X.N[i]?=some x)(hx:X.env.scope.names.lookup x=some .local)(T:eV X scope own fq js)(hc:X.calm=true)(hi:PI X tg iter wi)
 (hg:∀ C s H fp,PG (cW X (own++fq) scope (fun _ _=>False) C s H fp) tg g)
 (ht:∀ C s H fp,K8 (cW X (own++fq) scope (fun _ _=>False) C s H fp) ifs tt)
 (he:∀ C s H fp,PE (cW X (own++fq) scope (fun _ _=>False) C s H fp) elt te)
 (hsw:swapsWith (.ListComp elt [⟨tg,iter,ifs,0⟩] scope pos) (some (.Name x pos')) spos.line X.env=pure true:=by rfl)
 (hs:∀ x,foldedSetIterable iter X.env x=pure x:=by intro _;rfl) :
 PS X (.Assign [.Name x pos'] (.ListComp elt [⟨tg,iter,ifs,0⟩] scope pos) spos) (DH i wi g tt te own.length js):=by
 intro pq s σ H D I h;rw[exec_Assign_Name_used _ _ _ _ hsw];refine dY (wpAny_standAt (dY ?_));show wpAny _ X.A (do let _←comprehension (.ListComp elt [⟨tg,iter,ifs,0⟩] scope pos) scope X.env _ (newList []) false (eval iter X.env) (some (assign (.Name x pos') X.env))) _ _ s
 refine dY (wpAny_mono (wpAny_comprehension_free (use:=some (assign (.Name x pos') X.env)) (Q:=fun _ s'=>SP X pq D .next s') rfl hs (mP (gj I T)) T.kind T.names ?_) (fun _ s' hq=>wpAny_pure (wpAny_pure hq)) fun _ _ e=>e)
 refine wpAny_mono (hi pq s σ H _ I h) (fun v s1 h1=>wpAny_mono h1 (fun itv s2 h2=>?_) fun _ _ z=>z) fun _ _ z=>z
 obtain⟨it,fp,tn,J,H2,e,I2,CY,st2,f2,hl⟩:=h2;subst e;refine qT (QQ:=fun D' H'=>D.nx (σ.set i (some (.ref D'))) H') T hg ht he I2 (CY.x hc) st2 f2 hl fun D' C σ' H' s' hC J' q=>?_
 have I3:Inv X pq σ H' s':=by
  obtain⟨hh,gg,dd,Vn,oo⟩:=s';exact mz I2 f2 hC J' (Heap.SameBut.refl ..)
 obtain⟨m,hn,_⟩:=J'.loc;obtain⟨oC,es,ep,Ry,O9,rest⟩:=id hn;have IG:H' C=none:=J'.free;have Pa:C≠X.env.locals:=Nat.ne_of_gt (Nat.lt_of_lt_of_le I2.lt hC);have Rz:C∉X.fs:=fun z=>by
  obtain⟨_,o,ho,_⟩:=I2.funs.mem z;exact absurd (Nat.lt_of_lt_of_le (Heap.lt_size ho) hC) (Nat.lt_irrefl _)
 have I4:Inv X (pq++[(C,oC)]) σ H' s':=I3.g7 fun p hp=>(List.mem_append.mp hp).elim (fun z=>I3.pin p (oz _ z)) fun z=>by
  have e:p=(C,oC):=by simpa using z
  subst e;exact⟨Ry,IG,Pa,Rz,fun v z=>by have z' : oC.data = .cell v:=z;rw[O9]at z';cases z'⟩
 show wpAny _ X.A (assign (.Name x pos') X.env (.ref D')) _ _ _;refine wpAny_assign_Name (ng (v:=.ref D') I4 hN hix (.inl hx) rfl (fun s5 I5=>?_) (.inr hx))
 have e5:s5.heap.get? C=some oC:=(I5.pin (C,oC) (oz _ (oz _ (by simp)))).1
 refine⟨m,⟨oC,es,ep,e5,O9,rest⟩,fun h' sb=>⟨_,H',?_,q⟩⟩
 have I6:Inv X pq (σ.set i (some (.ref D'))) H' s5:=I5.iD;refine I6.turned (t':=s5.toks) (fun b o hb e=>(sb.2 b hb).trans e) IG Pa (.inr (Nat.le_trans I2.sz hC)) (fun y c e=>?_) (fun p hp z=>?_)
 ·obtain⟨v,qc⟩:=I2.cell y c e;exact Nat.ne_of_lt (Nat.lt_of_lt_of_le qc.lt hC)
 ·have Pb:=(I2.pin p hp).1;exact absurd (Nat.lt_of_lt_of_le (Heap.lt_size Pb) (by rw[z];exact hC)) (Nat.lt_irrefl _)
end
section
variable {K:bI}{a:Addr}{xs:List V}{g:TG}{tt:TT}{te:TE}{n:Nat}{fr:St}{D:Addr}{Q:Hp->Prop}{H1:Hp}
theorem aV(Pv:Nat->List V->Hp->Prop)(h0:Pv 0 [] H1)(hl:∀ i acc H,i<=xs.length->Pv i acc H->aQ K H a xs/\H D=some (.lst acc)/\acc.length<=i)(hz:xs.length<=sizeLine)
 (hs:∀ i x acc H,xs[i]?=some x->Pv i acc H->g x (List.replicate n none++fr) H fun σ2 H2=>σ2.drop n=fr/\tt σ2 H2 fun b H3 =>
  if b=true then te σ2 H3 fun v H4=>H4 D=some (.lst acc)/\Pv (i+1) (acc++[v]) (upd H4 D (.lst (acc++[v]))) else Pv (i+1) acc H3)
 (hd:∀ acc H,Pv xs.length acc H->Q H):iH (F3 K a) g tt te n fr D Q H1:=by
 refine⟨fun i m acc H=>m=xs.length-i/\i<=xs.length/\Pv i acc H,⟨xs.length,by simp,Nat.zero_le _,h0⟩,?_⟩
 rintro i m acc H ⟨rfl,hi,p⟩;obtain⟨q,hD,ha⟩:=hl i acc H hi p;refine⟨hD,?_⟩
 by_cases hlt:i<xs.length
 ·refine .inr ⟨⟨xs,xs[i],q,by simp[hlt]⟩,by lia,Pv (i+1),fun acc' H' p'=>⟨xs.length-(i+1),by lia,rfl,hlt,p'⟩,fun x H' y=>?_⟩
  obtain⟨e,y⟩:=y;subst e;exact hs i x acc _ (y xs q) p
 ·have e:i=xs.length:=by lia
  subst e;exact .inl ⟨⟨xs,q,Nat.le_refl _⟩,hd acc H p⟩
theorem wR(Pv:Nat->List V->Hp->Prop)(h0:Pv 0 [] H1)(hl:∀ i acc H,i<=xs.length->Pv i acc H->aY K H a xs/\H D=some (.lst acc)/\acc.length<=i)(hz:xs.length<=sizeLine)
 (hs:∀ i x acc H,xs[i]?=some x->Pv i acc H->g x (List.replicate n none++fr) H fun σ2 H2=>σ2.drop n=fr/\tt σ2 H2 fun b H3 =>
  if b=true then te σ2 H3 fun v H4=>H4 D=some (.lst acc)/\Pv (i+1) (acc++[v]) (upd H4 D (.lst (acc++[v]))) else Pv (i+1) acc H3)
 (hd:∀ acc H,Pv xs.length acc H->Q H):iH (NB K a) g tt te n fr D Q H1:=by
 refine⟨fun i m acc H=>m=xs.length-i/\i<=xs.length/\Pv i acc H,⟨xs.length,by simp,Nat.zero_le _,h0⟩,?_⟩
 rintro i m acc H ⟨rfl,hi,p⟩;obtain⟨q,hD,ha⟩:=hl i acc H hi p;refine⟨hD,?_⟩
 by_cases hlt:i<xs.length
 ·refine .inr ⟨⟨xs,xs[i],q,by simp[hlt]⟩,by lia,Pv (i+1),fun acc' H' p'=>⟨xs.length-(i+1),by lia,rfl,hlt,p'⟩,fun x H' y=>?_⟩
  obtain⟨e,y⟩:=y;subst e;exact hs i x acc _ (y xs q) p
 ·have e:i=xs.length:=by lia
  subst e;exact .inl ⟨⟨xs,q,Nat.le_refl _⟩,hd acc H p⟩
theorem fu{lo:Int}{m:Nat}(Pv:Nat->List V->Hp->Prop)(h0:Pv 0 [] H1)(hl:∀ i acc H,i<=m->Pv i acc H->H D=some (.lst acc)/\acc.length<=i)(hz:m<=sizeLine)
 (hs:∀ i acc H,i<m->Pv i acc H->g (.int (lo+i)) (List.replicate n none++fr) H fun σ2 H2=>σ2.drop n=fr/\tt σ2 H2 fun b H3 =>
  if b=true then te σ2 H3 fun v H4=>H4 D=some (.lst acc)/\Pv (i+1) (acc++[v]) (upd H4 D (.lst (acc++[v]))) else Pv (i+1) acc H3)
 (hd:∀ acc H,Pv m acc H->Q H):iH (Dp lo m) g tt te n fr D Q H1:=by
 refine⟨fun i k acc H=>k=m-i/\i<=m/\Pv i acc H,⟨m,by simp,Nat.zero_le _,h0⟩,?_⟩
 rintro i k acc H ⟨rfl,hi,p⟩;obtain⟨hD,ha⟩:=hl i acc H hi p;refine⟨hD,?_⟩
 by_cases hlt:i<m
 ·refine .inr ⟨hlt,by lia,Pv (i+1),fun acc' H' p'=>⟨m-(i+1),by lia,rfl,hlt,p'⟩,fun x H' y=>?_⟩
  obtain⟨e,y⟩:=y;subst e y;exact hs i acc _ hlt p
 ·have e:i=m:=by lia
  subst e;exact .inl ⟨Nat.le_refl _,hd acc H p⟩
end
def wU(scope Lc:Scope)(N fq:List Str)(js:List Nat):Bool :=
 decide (scope.kind = .function)&&scope.names.all (fun y=>decide (y.2≠.cell))&&scope.names.all (fun y=>decide (y.2 = .local->scope.names.lookup y.1=some .local)) &&
 scope.names.all (fun y=>decide (y.2 = .free->Lc.names.lookup y.1=some .cell\/Lc.names.lookup y.1=some .free))&&decide (js.map (fun j=>N[j]?)=fq.map some)&&fq.all (fun x=>decide (scope.names.lookup x=some .free))
theorem aJ{X:Cx}{scope:Scope}{own fq:List Str}{js:List Nat}(Lc:Scope)(N:List Str)(h1:X.env.scope=Lc:=by rfl)(h2:X.N=N:=by rfl)(h:wU scope Lc N fq js=true:=by decide +kernel):eV X scope own fq js:=by
 unfold wU at h;simp only[Bool.and_eq_true,decide_eq_true_eq,List.all_eq_true]at h;obtain⟨⟨⟨⟨⟨a,b⟩,c⟩,d⟩,e⟩,f⟩:=h;exact⟨a,b,c,by rw[h1];exact d,by rw[h2];exact e,f⟩
mutual
inductive nv(K:bI)(H:Hp):V->PyData->Prop
 | gh:nv K H .gh .none
 | bl (b:Bool):nv K H (.bl b) (.bool b)
 | int (i:Int):nv K H (.int i) (.int i)
 | str (x:Str):nv K H (.str x) (.str x)
 | lst {a:Addr} {xs:List V} {ds:List PyData} (h:aQ K H a xs) (r:DatVs K H xs ds):nv K H (.ref a) (.list ds)
 | tup {a:Addr} {xs:List V} {ds:List PyData} (h:aY K H a xs) (r:DatVs K H xs ds):nv K H (.ref a) (.tuple ds)
inductive DatVs(K:bI)(H:Hp):List V->List PyData->Prop
 | nil:DatVs K H [] []
 | cons {x:V} {d:PyData} {xs:List V} {ds:List PyData} (h:nv K H x d) (r:DatVs K H xs ds):DatVs K H (x::xs) (d::ds)
end
section
variable {X:Cx}{pq:aX}{σ:St}{H:Hp}{s:Shared}
mutual
theorem nv.reads(I:Inv X pq σ H s):∀{v:V} {d:PyData} {u:Value},nv X.K H v d->RelV v u->∃ as,Reads s.heap u d as
 | _,_,u,.gh,r=>by cases(show u=Value.none from r);exact⟨_,.none⟩
 | _,_,u,.bl b,r=>by cases(show u=Value.bool b from r);exact⟨_,.bool b⟩
 | _,_,u,.int i,r=>by obtain⟨t,rfl⟩:=(show ∃ t,u=Value.int i t from r);exact⟨_,.int i t⟩
 | _,_,u,.str x,r=>by obtain⟨t,rfl⟩:=(show ∃ t,u=Value.str x t from r);exact⟨_,.str x t⟩
 | _,_,u,.lst (a:=a) h rs,r=>by
   cases(show u=Value.ref a from r)
   obtain⟨its,rv,⟨o,n,e,c,_,d⟩,_⟩:=I.list h;obtain⟨as,q⟩:=DatVs.reads I rs rv;exact⟨_,.list e c d (by simpa using q)⟩
 | _,_,u,.tup (a:=a) h rs,r=>by
   cases(show u=Value.ref a from r)
   obtain⟨its,rv,⟨o,e,c,n,d⟩,_⟩:=I.tuple h;obtain⟨as,q⟩:=DatVs.reads I rs rv;exact⟨_,.tuple e c d (by simpa using q)⟩
theorem DatVs.reads(I:Inv X pq σ H s):∀{vs:List V} {ds:List PyData} {us:List Value},DatVs X.K H vs ds->Vals vs us->∃ as,ReadsAll s.heap us ds as
 | _,_,_,.nil,.nil=>⟨_,.nil⟩
 | _,_,_,.cons h r,.cons rv rr=>by
   obtain⟨as,q⟩:=nv.reads I h rv;obtain⟨bs,q2⟩:=DatVs.reads I r rr;exact⟨_,.cons q q2⟩
end
end
section
variable {X:Cx}
def Ld(K:bI):R2:=fun x y H Q=>∃ d e,nv K H x d/\nv K H y e/\SeqAt.shaped d=true/\SeqAt.shaped e=true/\Q (.bl (PyData.eqv d e)) H
def Le(K:bI):R2:=fun x y H Q=>∃ d e,nv K H x d/\nv K H y e/\SeqAt.shaped d=true/\SeqAt.shaped e=true/\Q (.bl (!PyData.eqv d e)) H
theorem IJ(hu:X.A.units+64<cLine):kN X (compareOp .Eq) (Ld X.K):=by
 intro pq s σ H x y v u Q I rx ry h;obtain⟨d,e,h1,h2,s1,s2,q⟩:=h;obtain⟨as,ra⟩:=h1.reads I rx;obtain⟨bs,rb⟩:=h2.reads I ry;exact eq_dataH ra rb s1 s2 hu ⟨.bl _,H,I,rfl,q⟩
theorem IK(hu:X.A.units+64<cLine):kN X (compareOp .NotEq) (Le X.K):=by
 intro pq s σ H x y v u Q I rx ry h;obtain⟨d,e,h1,h2,s1,s2,q⟩:=h;obtain⟨as,ra⟩:=h1.reads I rx;obtain⟨bs,rb⟩:=h2.reads I ry;exact ne_dataH ra rb s1 s2 hu ⟨.bl _,H,I,rfl,q⟩
def Lf:V->Option Value
 | .ty n=>some (.type n)
 | .ref a=>some (.ref a)
 | _=>none
theorem Gk{c:V}{u w:Value}(h:Lf c=some u)(r:RelV c w):w=u:=by
 cases c with
 | ty n=>exact(show w=Value.type n from r).trans (Option.some.inj h)
 | ref a=>exact(show w=Value.ref a from r).trans (Option.some.inj h)
 | _=>cases h
def Lg(K:bI):List V->Hp->VK->Prop:=fun xs H Q=>∃ x c t u b,xs=[x,c]/\Lf c=some u/\oN K H x t/\PySem.W.kitOne K t u=some b/\Q (.bl b) H
theorem DI:eO X (.builtin "isinstance") (Lg X.K):=by
 intro pq s σ H xs us Q I r h;obtain⟨x,c,t,u,b,rfl,rc,ty,e,q⟩:=h;cases r with
 | cons r1 r2 =>
   cases r2 with
   | cons r2 r3 =>
     cases r3;cases Gk rc r2;exact Bq I r1 ty e fun tk=>⟨.bl b,H,I.tok tk,rfl,q⟩
theorem IL(K:bI):PySem.W.kitOne K (.type "bool") (.type "bool")=some true:=by with_unfolding_all rfl
theorem DJ(K:bI):PySem.W.kitOne K (.type "list") (.type "list")=some true:=by with_unfolding_all rfl
theorem Az:NP X "int.bit_length" (fun x xs H Q=>∃ i,x = .int i/\xs=[]/\Q (.int (Builtin.Int.intBits i)) H):=by
 intro pq s σ H x xs v us Q I rx rs h;obtain⟨i,rfl,rfl,q⟩:=h;obtain⟨t,rfl⟩:=rx;cases rs;exact call_int_bit_length ⟨.int _,H,I.tok _,⟨_,rfl⟩,q⟩
theorem Gm{x:Str}{v:Int}{pos:Pos}(hg:Gl X x)(h:∃ t,X.mg x=some (.int v t))(hd:(x==("__debug__":Str))=false:=by decide):PE X (.Name x pos) (tC (.int v)):=by
 obtain⟨t,e⟩:=h;exact FW hg e ⟨t,rfl⟩ hd
end
theorem dl{n:Nat}(h:Nat.ble n 1000=true):n<=sizeLine:=Nat.le_of_lt (ir (Nat.le_of_ble_eq_true h))
theorem jk{j:Int}(h:decide (0<j)=true):0<j:=jw h
theorem au.new{H:Hp}{p:Addr}{o:HO}(h:H p=none):au H (upd H p o):=fun b u e=>by
 rw[ay (aS e h)];exact e
theorem au.put{H H2:Hp}{D:Addr}{o:HO}(s:au H H2)(h:H D=none):au H (upd H2 D o):=fun b u e=>by
 rw[ay (aS e h)];exact s b u e
def jz(H H' : Hp):Prop:=∀ b xs,H b=some (.tup xs)->H' b=some (.tup xs)
theorem au.tups{H H' : Hp}(s:au H H'):jz H H':=fun b xs e=>s b _ e
theorem jz.trans{H H1 H2:Hp}(a:jz H H1)(b:jz H1 H2):jz H H2:=fun c xs e=>b c xs (a c xs e)
theorem jz.put{H:Hp}{D:Addr}{o:HO}{ys:List V}(h:H D=some (.lst ys)):jz H (upd H D o):=fun b xs e=>by
 rw[ay (c8 e h (by intro z;cases z))]
 exact e
theorem Paired.qU{α β:Type}{F:α->β->Prop}:∀{l:List α} {r:List β} {i:Nat} {x:α},Paired F l r->l[i]?=some x->∃ y,r[i]?=some y/\F x y
 | _,_,_,_,.nil,e=>by simp at e
 | _,_,0,_,.cons h _,e=>by
   simp at e;subst e;exact⟨_,rfl,h⟩
 | _,_,i+1,x,.cons _ t,e=>by
   obtain⟨y,h1,h2⟩:=Paired.qU (i:=i) (x:=x) t (by simpa using e)
   exact⟨y,by simpa using h1,h2⟩
theorem wV(ns:List Int)(lo hi:Option Int):oO (ns.map V.int) lo hi=((ns.drop (HT.eB ns.length 0 lo)).take (HT.eB ns.length ns.length hi-HT.eB ns.length 0 lo)).map V.int:=by
 unfold oO;rw[List.length_map,<-List.map_drop,<-List.map_take]
section
variable {X:Cx}{l:Expr}{tl:TE}{tg a b o e:Expr}{ta tb to:TE}{es:List Expr}
theorem yO(K:bI)(hu:X.A.units+64<cLine)(h:X.K=K:=by rfl):kN X (compareOp .Eq) (Ld K):=by subst h;exact IJ hu
theorem IM(K:bI)(hu:X.A.units+64<cLine)(h:X.K=K:=by rfl):kN X (compareOp .NotEq) (Le K):=by subst h;exact IK hu
theorem IP(K:bI)(h:X.K=K:=by rfl):eO X (.builtin "isinstance") (Lg K):=by subst h;exact DI
def Lh(K:bI):List V->Hp->VK->Prop:=fun xs H Q=>∃ p ys,xs=[.ref p]/\(aQ K H p ys\/aY K H p ys)/\Q (.int ys.length) H
theorem NX(K:bI)(h:X.K=K:=by rfl):eO X (.builtin "len") (Lh K):=by subst h;exact uX
def Li(K:bI):List V->Hp->VK->Prop:=fun xs H Q=>∃ p ys,xs=[.ref p]/\(aQ K H p ys\/aY K H p ys)/\∀ l,H l=none->Q (.ref l) (upd H l (.lst ys))
theorem Lj(K:bI)(h:X.K=K:=by rfl):eO X (.type "list") (Li K):=by subst h;exact uY
def Lk(K:bI):List V->Hp->VK->Prop:=fun xs H Q=>∃ p ys,xs=[.ref p]/\((aQ K H p ys/\∀ l,H l=none->Q (.ref l) (upd H l (.tup ys)))\/(aY K H p ys/\Q (.ref p) H))
theorem Ll(K:bI)(h:X.K=K:=by rfl):eO X (.type "tuple") (Lk K):=by subst h;exact sP
theorem mh(K:bI)(h:X.K=K:=by rfl):JV X (K0 K):=by subst h;exact Gd
theorem cC(K:bI)(h:X.K=K:=by rfl):JV X (K1 K):=by subst h;exact IC
theorem Lm(K:bI)(h:X.K=K:=by rfl):ML X (K3 K):=by subst h;exact Ge
theorem RA(K:bI)(h:X.K=K:=by rfl):kN X (compareOp .In) (MM K false):=by subst h;exact Bs
theorem yP(K:bI)(h:X.K=K:=by rfl):kN X (compareOp .NotIn) (MM K true):=by subst h;exact uW
theorem mC(K:bI)(hl:PE X l tl)(h:X.K=K:=by rfl):PI X tg l (Ho K tl):=by subst h;exact F4 hl
theorem Pc(K:bI)(hl:PE X l tl)(h:X.K=K:=by rfl):PI X tg l (KJ K tl):=by subst h;exact Ir hl
theorem Hv(K:bI){k:Nat}{t:Hl}{n:Nat}{pos:Pos}(hc:X.calm=true)(hp:Kz X es t)(hn:(assignEach es X.env).length=n:=by rfl)(hst:(assignEach es X.env).findIdx? (·.1)=none:=by rfl)(h:X.K=K:=by rfl):
 PG X (.Tuple es k pos) (KD K n t):=by subst h;exact Iq hc hp hn hst
theorem DK{x:Str}{T:String}{pos:Pos}(hg:Gl X x)(hm:X.mg x=none)(hv:bootBuiltins x=some (.type T))(hn:x≠"__name__":=by decide)(hd:(x==("__debug__":Str))=false:=by decide):PE X (.Name x pos) (tC (.ty T)) :=
 FY hg hm hv rfl hn hd
end
def sQ(od:Option Addr)(c:Value)(e:Addr)(h:Heap):Prop:=∃ oe vs,h.get? e=some oe/\oe.data = .fields vs/\vs[2]?=some c/\oe.dict=od
theorem DL(o:Obj)(f):(o.mapFields f).dict=o.dict:=by
 obtain⟨c,d,dt,sl⟩:=o;cases dt<;>rfl
section
variable {M:Model}{A:Around}{E:gU}{s:Shared}{B:Heap}{env:Env}{outer l:List Env}{L e:Addr}{cls a0:Value}{Q:Unit->Shared->Prop}{od:Option Addr}{c:Value}
theorem u7{h:Heap}{T:Addr}{oT:Obj}{ts:Array Value}(f:Obj->Obj)(hT:h.get? T=some oT)(hd:oT.data = .fields ts):h.UpToSlots (h.update T f):=fun b o hb hn=>by
 have ne:T≠b:=fun z=>by
  rw[<-z,hT]at hb;cases hb;exact hn ts hd
 exact⟨o.slots,(Heap.get?_update_other h f ne).trans hb⟩
theorem oQ{h:Heap}{T:Addr}(f:Obj->Obj)(k:B.StaysIn h)(n:B.get? T=none):B.StaysIn (h.update T f):=fun b o hb=>by
 have ne:T≠b:=fun z=>by
  rw[<-z,n]at hb;cases hb
 exact(Heap.get?_update_other h f ne).trans (k b o hb)
theorem jR{h h' : Heap}(x:h.FunFrames B l)(u:h.UpToSlots h'):h'.FunFrames B l:=x.of_keeps fun b o hb hn =>
 let⟨_,q⟩:=u b o hb hn
 ⟨_,q,rfl⟩
theorem Hw{fl:Value}(hk:B.StaysIn s.heap)(hn:B.get? e=none)(hl:s.heap.FunFrames B l)(ht:s.heap.TracedAtW B e cls a0 fl)(h2:sQ od c e s.heap)
 (q:∀ h',Heap.FlyingW B l e cls a0 h'->sQ od c e h'->s.heap.UpToSlots h'->Q () { s with heap:=h'}):wpAny M A (setFlight (.ref e) none) Q E s:=by
 obtain⟨oe,vs,T,oT,ts,ge,hc,de,f1,nT,Te,gT,dT,f3⟩:=ht;have z3:3<ts.size:=(Array.getElem?_eq_some_iff.mp f3).1;rw[setFlight];refine dY (wpAny_field ge de f1 ?_);rw[if_pos (by simp)]
 refine wpAny_setField gT dT z3 ?_;have up:=u7 (Obj.mapFields (·.setIfInBounds 3 ((none:Option Addr).elim Value.none fun f=>rawInt f))) gT dT
 have MN:=(Heap.get?_update_other s.heap (Obj.mapFields (·.setIfInBounds 3 ((none:Option Addr).elim Value.none fun f=>rawInt f))) Te).trans ge
 have Pd:=Obj.data_mapFields dT (·.setIfInBounds 3 ((none:Option Addr).elim Value.none fun f=>rawInt f))
 refine q _ ⟨oQ _ hk nT,hn,jR hl up,oe,vs,T,_,_,MN,hc,de,f1,nT,Te,Heap.get?_update_self _ gT (Obj.isFreed_of_fields Pd),Pd,by simp[z3]⟩ ?_ up
 obtain⟨o2,v2,g2,d2,k2,z2⟩:=h2;rw[ge]at g2;cases g2;exact⟨oe,v2,MN,d2,k2,z2⟩
theorem DM{oe:Obj}{vs:Array Value}{head:Value}{hadNext:Bool}(hfr:A.frames=some (env::outer))(hl:s.heap.FunFrames B (env::outer))(hf:env.frame=some L)(ge:s.heap.get? e=some oe)(hk:B.StaysIn s.heap)(hn:B.get? e=none)
 (de:oe.data = .fields vs) (hz:1<vs.size) (h0:vs[0]?=some a0) (h2:vs[2]?=some c) (hz2:oe.dict=od)
 (q:∀ h',Heap.HeldW B (env::outer) e oe.cls a0 L h'->sQ od c e h'->s.heap.UpToSlots h'->Q () { s with heap:=h'}) :
 wpAny M A (do let a←frameOf env;let pl←entryPlaceOf L hadNext;let b←EntryCells.newEntry head a .none (rawInt L) .none pl;setField (.ref e) 1 b) Q E s:=by
 have NY:e∉(env::outer).filterMap (·.frame):=fun z=>by
  obtain⟨_,o,ho,nf⟩:=hl.mem z;rw[ge]at ho;cases ho;exact nf vs de
 refine dY (wpAny_frameOf_fun hfr hl hf fun h1 so=>dY (wpAny_entryPlaceOf fun pl ip=>?_))
 rw[EntryCells.newEntry,newFields];refine dY (wpAny_newObj_type ?_ (ip.sizeOk5 _ _ _ _ _));generalize hnw:({ cls:=.type "traceback",dict:=none,data:=.fields ([head,.ref L,.none,rawInt L,.none]++(if pl.isEmpty then List.replicate 6 Value.none else pl)).toArray}:Obj)=nw
 have dn:nw.data = .fields ([head,.ref L,.none,rawInt L,.none]++(if pl.isEmpty then List.replicate 6 Value.none else pl)).toArray:=by rw[<-hnw]
 have ge1:h1.get? e=some oe:=(so.2.1 e NY).trans ge;have NZ:=Heap.get?_push_of_some (h:=h1) nw ge1;have Te:h1.objs.size≠e:=Nat.ne_of_gt (Heap.lt_size ge1);refine wpAny_setField NZ de hz ?_;have N1:=Obj.data_mapFields de (·.setIfInBounds 1 (Value.ref h1.objs.size));have Pe:=Heap.get?_update_self (Obj.mapFields (·.setIfInBounds 1 (Value.ref h1.objs.size))) NZ (Obj.isFreed_of_fields N1);have RB:=(Heap.get?_update_other (h1.push nw) (Obj.mapFields (·.setIfInBounds 1 (Value.ref h1.objs.size))) (Ne.symm Te)).trans (Heap.get?_push_size h1 (by rw[<-hnw];rfl))
 have up:s.heap.UpToSlots ((h1.push nw).update e (Obj.mapFields (·.setIfInBounds 1 (Value.ref h1.objs.size)))):=by
  have u1:s.heap.UpToSlots h1:=fun b o hb _=>so.2.2 b o hb
  exact(u1.trans (.of_keeps fun b o hb=>Heap.get?_push_of_some nw hb)).trans (u7 _ NZ de)
 have k1:B.StaysIn h1:=fun b o hb=>(so.2.1 b fun z=>by rw[(hl.mem z).1]at hb;cases hb).trans (hk b o hb)
 have k2:B.StaysIn (h1.push nw):=fun b o hb=>Heap.get?_push_of_some nw (k1 b o hb)
 refine q _ ⟨oQ _ k2 hn,hn,jR hl up,_,_,h1.objs.size,nw,_,Pe,⟨Obj.cls_mapFields _ _,by rw[Array.getElem?_setIfInBounds_ne (by decide)];exact h0⟩,N1,by simp[hz],k1.fresh,Te,RB,dn,?_⟩ ?_ up
 ·first | (simp;done) | (rcases ip with rfl | ⟨_,_,_,_,_,_,_,rfl⟩<;>simp)
 ·exact⟨_,_,Pe,N1,by rw[Array.getElem?_setIfInBounds_ne (by decide)];exact h2,(DL _ _).trans hz2⟩
theorem Ln(hfr:A.frames=some (env::outer))(hf:env.frame=some L)(fl:Heap.FlyingW B (env::outer) e cls a0 s.heap)(h2:sQ od c e s.heap)
 (q:∀ h',Heap.HeldW B (env::outer) e cls a0 L h'->sQ od c e h'->s.heap.UpToSlots h'->Q () { s with heap:=h'}):wpAny M A (noteFrame (.ref e) env) Q E s:=by
 obtain⟨hk,hn,hl,oe,vs,T,oT,ts,ge,⟨hc,h0⟩,de,f1,nT,Te,gT,dT,f3⟩:=fl;obtain⟨o2,v2,g2,d2,k2,z2⟩:=h2;rw[ge]at g2;cases g2;rw[de]at d2;cases d2;cases hc;rw[noteFrame];simp only[hf];refine dY (wpAny_field ge de f1 ?_);rw[if_pos (by simp)]
 refine dY (wpAny_field gT dT f3 ?_);rw[if_neg (by simp[rawInt])]
 refine dY (wpAny_setField gT dT (Array.getElem?_eq_some_iff.mp f3).1 ?_);have up:=u7 (Obj.mapFields (·.setIfInBounds 3 Value.none)) gT dT;have MN:=(Heap.get?_update_other s.heap (Obj.mapFields (·.setIfInBounds 3 Value.none)) Te).trans ge;exact DM (s:={ s with heap:=s.heap.update T (Obj.mapFields (·.setIfInBounds 3 Value.none))}) hfr (jR hl up) hf MN (oQ _ hk nT) hn de (Array.getElem?_eq_some_iff.mp f1).1 h0 k2 z2 fun h' x1 x2 x3=>q h' x1 x2 (up.trans x3)
theorem Lo(x:Heap.FlyingW B (env::outer) e cls a0 s.heap):Heap.FlyingW B outer e cls a0 s.heap :=
 let⟨k1,k2,⟨_,_,k3⟩,k4⟩:=x
 ⟨k1,k2,k3,k4⟩
theorem leave_on2(hfr:A.frames=some (env::outer))(hf:env.frame=some L)(fl:Heap.FlyingW B (env::outer) e cls a0 s.heap)(h2:sQ od c e s.heap)
 (q:∀ h',Heap.FlyingW B outer e cls a0 h'->sQ od c e h'->s.heap.UpToSlots h'->Q () { s with heap:=h'}):wpAny M A (leaving env (.ref e)) Q E s:=by
 rw[leaving];refine dY (Ln hfr hf fl h2 fun h' x1 x2 x3=>?_)
 obtain⟨y1,y2,y3,y4⟩:=x1;exact Hw (s:={ s with heap:=h'}) y1 y2 y3 y4 x2 fun h'' z1 z2 z3=>q h'' (Lo (s:={ s with heap:=h''}) z1) z2 (x3.trans z3)
theorem leave_new{oe:Obj}{vs:Array Value}(hfr:A.frames=some (env::outer))(hf:env.frame=some L)(hk:B.StaysIn s.heap)(hn:B.get? e=none)(hl:s.heap.FunFrames B (env::outer))(ge:s.heap.get? e=some oe)(de:oe.data = .fields vs)
 (h0:vs[0]?=some a0) (h1:vs[1]?=some .none) (h2:vs[2]?=some c) (hz2:oe.dict=od)
 (q:∀ h',Heap.FlyingW B outer e oe.cls a0 h'->sQ od c e h'->s.heap.UpToSlots h'->Q () { s with heap:=h'}):wpAny M A (leaving env (.ref e)) Q E s:=by
 rw[leaving,noteFrame];simp only[hf];refine dY (dY (wpAny_field ge de h1 ?_));rw[if_neg (by decide)]
 refine DM (a0:=a0) hfr hl hf ge hk hn de (Array.getElem?_eq_some_iff.mp h1).1 h0 h2 hz2 fun h' x1 x2 x3=>?_
 obtain⟨y1,y2,y3,y4⟩:=x1;exact Hw (s:={ s with heap:=h'}) y1 y2 y3 y4 x2 fun h'' z1 z2 z3=>q h'' (Lo (s:={ s with heap:=h''}) z1) z2 (x3.trans z3)
end
section
variable {P:Program}{w:World}{H H0 H1:Hp}{h h0 h1 h2:Heap}{a:Addr}{o:HO}{fs:List Addr}{B:Heap}
theorem bR.thing(x:bR P w H h a o):∃ ob,h.get? a=some ob:=by
 cases o with
 | lst xs=>obtain⟨_,_,_,_,e⟩:=x;exact⟨_,e⟩
 | tup xs=>obtain⟨_,_,_,ob,e,_⟩:=x;exact⟨ob,e⟩
 | dK kvs=>obtain⟨_,_,_,_,ob,_,_,e,_⟩:=x;exact⟨ob,e⟩
 | dT kvs=>obtain⟨_,_,_,_,ob,_,_,e,_⟩:=x;exact⟨ob,e⟩
 | set S n=>obtain⟨ob,_,_,_,e,_⟩:=x;exact⟨ob,e⟩
 | ins C dx fs=>obtain⟨_,_,_,e,_⟩:=x;exact⟨_,e⟩
 | own y=>exact x
 | xd fs=>obtain⟨_,⟨ob,_,_,e,_⟩,_⟩:=x;exact⟨ob,e⟩
 | Bb lo hi=>obtain⟨_,_,_,e⟩:=x;exact⟨_,e⟩
 | pU ob u=>obtain⟨e,_⟩:=x;exact⟨_,e⟩
 | kH ps=>obtain⟨_,e,_⟩:=x;exact⟨_,e⟩
 | met f y=>exact⟨_,(show h.get? a=some _ from x)⟩
 | ext φ=>obtain⟨_,e,_⟩:=x;exact e
def Gn(B:Heap)(fs:List Addr)(h0:Heap)(H:Hp)(h:Heap):Prop:=∀ b o,h.get? b=some o->(H b≠none\/∃ o',h0.get? b=some o')->b∉fs->B.get? b=some o
theorem DN(un:Un fs [] H0 H1 h0 h1)(hok:m9 P w H1 h1)(RC:∀ b∈fs,H1 b=none)(fr:∀ b∈fs,∀ ob,h1.get? b=some ob->∀ vs,ob.data≠.fields vs)(Hx:Gn B fs h0 H1 h1)
 (hB:B.StaysIn h2) (up:h1.UpToSlots h2):Un fs [] H0 H1 h0 h2/\m9 P w H1 h2/\Gn B fs h0 H1 h2:=by
 have N2:∀ b ob,h1.get? b=some ob->(H1 b≠none\/∃ o',h0.get? b=some o')->b∉fs->h2.get? b=some ob:=fun b ob e c n=>hB b ob (Hx b ob e c n)
 have JT:∀ b u,H1 b=some u->b∉fs:=fun b u e z=>by
  rw[RC b z]at e;cases e
 refine⟨⟨fun b ob e n hb hx=>N2 b ob (un.keep b ob e n hb hx) (.inr ⟨ob,e⟩) hb,fun b ob e n hb hx=>?_,un.free,fun b ob e hx=>?_,un.tups,un.l9,un.mL⟩,fun b u e=>?_,fun b ob e c n=>?_⟩
 ·obtain⟨sl,q⟩:=un.slot b ob e n hb hx;obtain⟨MG,q'⟩:=up b _ q (fr b hb _ q);exact⟨MG,q'⟩
 ·obtain⟨o',q⟩:=un.there b ob e hx
  by_cases hb:b∈fs
  ·obtain⟨MG,q'⟩:=up b _ q (fr b hb _ q);exact⟨_,q'⟩
  ·exact⟨o',N2 b o' q (.inr ⟨ob,e⟩) hb⟩
 ·refine(hok b u e).stay (fun c v hc q=>?_) (fun _ q=>q) fun _ _ q=>q
  have hct:∃ z,H1 c=some z:=by
   rcases hc with hc|hc
   ·rw[hc];exact⟨u,e⟩
   ·exact⟨_,hc⟩
  obtain⟨z,hz⟩:=hct;exact N2 c v q (.inl (by rw[hz];simp)) (JT c z hz)
 ·have ht:∃ o1,h1.get? b=some o1:=by
   rcases c with c|⟨o',c⟩
   ·cases hz:H1 b with
    | none=>exact absurd hz c
    | some z=>exact(hok b z hz).thing
   ·exact un.there b o' c (by simp)
  obtain⟨o1,q⟩:=ht;have q2:=Hx b o1 q c n;have q3:=hB b o1 q2;rw[e]at q3;rw[Option.some.inj q3];exact q2
end
def N3(ea:Addr)(cls:Value):HO:=.ext fun h=>∃ oe vs,h.get? ea=some oe/\oe.cls=cls/\oe.data = .fields vs/\vs[2]?=some .none
def IQ(E:XK)(cls:Value)(od:Option Addr)(c:Value)(H:Hp):Prop:=(c = .none/\(∃ C0:Addr,cls = .ref C0)/\E cls od H)\/∃ C e' C',cls = .ref C/\od=none/\c = .ref e'/\H e' = some (N3 e' C')/\E (.int (C:Int) e') none H
def DO(P:Program)(w:World):CW:=fun outer H s E e s'=>∃(ea:Addr) (cls a0:Value) (od:Option Addr) (c:Value) (H' : Hp) (B:Heap),e = .ref ea/\s'.os=s.os/\AllBare s'.gens/\Un (frs outer) [] H H' s.heap s'.heap/\m9 P w H' s'.heap/\H' ea=none/\
 Gn B (frs outer) s.heap H' s'.heap/\Heap.FlyingW B outer ea cls a0 s'.heap/\sQ od c ea s'.heap/\IQ E cls od c H'
structure Out(X:Cx)(E:XK):Prop where
 FQ:X.stack=X.env::X.outer
 fr:X.env.frame=some X.env.locals
 ex:X.ex=[]
 xe:∀ e s',wpAny (model X.prog X.w) X.A (leaving X.env e) (fun _ s''=>DO X.prog X.w X.outer X.H₀ X.s₀ E e s'') (fun e' s''=>DO X.prog X.w X.outer X.H₀ X.s₀ E e' s'') s'->X.xe e s'
def Pf(X:Cx)(E:XK):Prop:=∀(pq:aX) (σ:St) (H:Hp) (s:Shared) (h1:Heap) (ea C0:Addr) (vs:List Value),Inv X pq σ H s->Heap.MadeExcOf s.heap h1 ea (.ref C0) vs->E (.ref C0) none H->X.xe (.ref ea) { s with heap:=h1}
section
variable {X:Cx}{E:XK}{pq:aX}{σ:St}{H:Hp}{s:Shared}
theorem Inv.IS(I:Inv X pq σ H s):∀ b∈X.fs,∀ ob,s.heap.get? b=some ob->∀ vs,ob.data≠.fields vs:=fun b hb ob e=>by
 obtain⟨_,o,ho,hnf⟩:=I.funs.mem hb;rw[e]at ho;cases ho;exact hnf
theorem Inv.IT(I:Inv X pq σ H s)(hx:X.ex=[]):∀ b∈X.fs,H b=none:=fun b hb=>by
 obtain⟨_,o,ho,_⟩:=I.ok.funs.mem hb;exact I.base.free b o ho (I.ok.Il b hb) (by rw[hx];simp)
theorem Gn.outer{B h0:Heap}{h:Heap}(I:Inv X pq σ H s)(Hx:Gn B (frs X.stack) h0 H h)(k:∀ b o,X.s₀.heap.get? b=some o->∃ o',h0.get? b=some o'):Gn B X.fs X.s₀.heap H h:=fun b o e c n=>by
 refine Hx b o e (c.imp id fun⟨o',q⟩=>k b o' q) fun z=>?_
 rcases List.mem_cons.mp (I.qI b z) with q|q
 ·subst q;rcases c with c|⟨o',c⟩
  ·exact c I.free
  ·exact absurd (Nat.lt_of_lt_of_le (Heap.lt_size c) I.ok.above) (Nat.lt_irrefl _)
 ·exact n q
theorem AA(O:Out X E)(I:Inv X pq σ H s){B:Heap}{ea:Addr}{cls a0:Value}{od:Option Addr}{c:Value}{h2:Heap}(Hx:Gn B X.fs X.s₀.heap H s.heap)(fl:Heap.FlyingW B X.outer ea cls a0 h2)(sc:sQ od c ea h2)(up:s.heap.UpToSlots h2)(hn:H ea=none)(q:IQ E cls od c H):
 DO X.prog X.w X.outer X.H₀ X.s₀ E (.ref ea) { s with heap:=h2}:=by
 have un:Un X.fs [] X.H₀ H X.s₀.heap s.heap:=by
  have u:=I.base;rw[O.ex]at u;exact u
 obtain⟨u2,RD,c2⟩:=DN un I.hok (I.IT O.ex) I.IS Hx fl.1 up;exact⟨ea,cls,a0,od,c,H,B,rfl,I.os,I.bare,u2,RD,hn,c2,fl,sc,q⟩
theorem Out.N4(O:Out X E){ea:Addr}{oe:Obj}{vs:Array Value}{a0 c:Value}(I:Inv X pq σ H s)(ge:s.heap.get? ea=some oe)(de:oe.data = .fields vs)(h0:vs[0]?=some a0)(h1:vs[1]?=some .none)(h2:vs[2]?=some c)
 (hn:H ea=none) (new:X.s₀.heap.get? ea=none) (q:IQ E oe.cls oe.dict c H):X.xe (.ref ea) s:=by
 refine O.xe _ _ ?_;have hfr:X.A.frames=some (X.env::X.outer):=by rw[I.ok.frames,O.FQ]
 have hl:s.heap.FunFrames (PySem.W.hideAll s.heap (ea::frs X.stack)) (X.env::X.outer):=by
  have z:=PySem.W.funFrames_hide (as:=ea::frs X.stack) I.stack fun env he b hb=>lJ _ (List.mem_filterMap.mpr ⟨env,he,hb⟩)
  rw[O.FQ]at z ⊢;exact z
 refine leave_new hfr O.fr (fun b o e=>PySem.W.of_hideAll _ e) (PySem.W.hideAll_none _ (List.mem_cons_self ..)) hl ge de h0 h1 h2 rfl fun h3 fl sc up=>?_
 refine AA O I (Gn.outer I (h0:=X.s₀.heap) (fun b o e c n=>?_) fun b o e=>⟨o,e⟩) fl sc up hn q
 refine PySem.W.hideAll_get _ e fun z=>?_
 rcases List.mem_cons.mp z with z|z
 ·subst z;rcases c with c|⟨o',c⟩
  ·exact c hn
  ·rw[new]at c;cases c
 ·exact n z
theorem Out.N5(O:Out X E){ea:Addr}{oe:Obj}{vs:Array Value}{a0:Value}(I:Inv X pq σ H s)(ge:s.heap.get? ea=some oe)(de:oe.data = .fields vs)(h0:vs[0]?=some a0)(h1:vs[1]?=some .none)(h2:vs[2]?=some .none)
 (hn:H ea=none) (new:X.s₀.heap.get? ea=none) (hcl:∃ C0:Addr,oe.cls = .ref C0) (q:E oe.cls oe.dict H):X.xe (.ref ea) s:=O.N4 I ge de h0 h1 h2 hn new (.inl ⟨rfl,hcl,q⟩)
theorem Out.MO(O:Out X E):Pf X E:=by
 intro pq σ H s h1 ea C0 vs I mk q;have I1:Inv X pq σ H { s with heap:=h1}:=I.kept (t':=s.toks) mk.keeps
 have hn:H ea=none:=by
  cases hz:H ea with
  | none=>rfl
  | some z =>
    obtain⟨ob,e⟩:=(I.hok ea z hz).thing;rw[mk.new]at e;cases e
 obtain⟨t,ge,_,_⟩:=mk.there;refine O.N5 I1 (a0:=.ref t) ge rfl rfl rfl rfl hn ?_ ⟨_,rfl⟩ q;cases hz:X.s₀.heap.get? ea with
 | none=>rfl
 | some o =>
   obtain⟨o',e⟩:=I.base.there ea o hz (by rw[O.ex];simp)
   rw[mk.new]at e;cases e
theorem Inv.Lp{H' : Hp}{s' : Shared}(I:Inv X pq σ H s)(os:s'.os=s.os)(bare:AllBare s'.gens)(un:Un (frs X.stack) [] H H' s.heap s'.heap)(hok:m9 X.prog X.w H' s'.heap):Inv X pq σ H' s' :=
 I.De (ch:=[]) os un hok bare fun b z=>absurd z (by simp)
theorem Out.passes(O:Out X E):Passes (DO X.prog X.w) X E:=by
 intro pq σ H s e s' I q;obtain⟨ea,cls,a0,od,c,H',B,rfl,os,bare,un,hok,hn,Hx,fl,sc,qE⟩:=q;have I1:=I.Lp os bare un hok;refine O.xe _ _ ?_;have hfr:X.A.frames=some (X.env::X.outer):=by rw[I.ok.frames,O.FQ]
 rw[O.FQ]at fl;refine leave_on2 hfr O.fr fl sc fun h2 RE FG up=>?_
 exact AA O I1 (Gn.outer I1 Hx fun b o e=>I.base.there b o e (by rw[O.ex];simp)) RE FG up hn qE
end
theorem ef{P:Program}{w:World}{K:bI}{mg:kK}{base:Heap}{N:List Str}{qual:Str}{scope:Scope}{f:Addr}{cd:Value}{A:Around}{outer:List Env}{s:Shared}{H:Hp}{E:XK}:
 Out (p5 (DO P w) P w K mg base N qual scope f cd A outer s H E) E:=⟨rfl,rfl,rfl,fun _ _ h=>h⟩
theorem Gi.yQ{P:Program}{w:World}{K:bI}{mg:kK}{base:Heap}{x qual:Str}{st:Stmt}{f:Addr}{fd:FuncData}{N ps:List Str}{k:Nat}{sp:Sp}(F:Gi K x qual st f fd)(S:aH N ps (ak st))
 (len:∀ vs H Q E,sp vs H Q E->vs.length=ps.length)
 (hbody:∀(cdv:Value) (A:Around) (outer:List Env) (s:Shared) (H:Hp) (vs:List V) (Q:VK) (E:XK),fZ k (A.deeper (envOfC qual (ak st) s.heap.objs.size f cdv))->sp vs H Q E->
  ∃ t,uO (p5 (DO P w) P w K mg base N qual (ak st) f cdv A outer s H E) (bY st) t/\t { nx:=fun _ H'=>Q .gh H',rt:=Q} (start N vs) H):kO P w K mg base (DO P w) (k+1) f fd ps sp:=by
 obtain⟨oc,od,kV,doc,pm,an,cdv,ct,osl,rfl,lk,hcd⟩:=F.ex;exact Dw lk hcd S len fun A outer s H vs Q E hr qP=>hbody cdv A outer s H vs Q E hr qP
section
variable {X:Cx}{E:XK}
def IU(C:Addr)(E:XK)(t:TA):TS:=fun _ σ H=>t σ H fun vs H1=>vs.length<=sizeLine/\E (.ref C) none H1
theorem ny{x:Str}{C:Addr}{bm:List Value}{B newId initId:String}{e:Expr}{es:List Expr}{ta:TA}{np cpos pos:Pos}(th:Pf X E)(hc:X.calm=true)(hg:Gl X x)(O:∀ h,X.K.In h->h.Ns mainGlobals X.mg->OwnCls x C bm newId X.mg h)
 (FB:ExcBaseFacts B newId initId bm) (ha:PA X (e::es) ta) (he:starEach (e::es) X.env=(false,eval e X.env)::starEach es X.env:=by rfl) (hpl:(backTo cpos (starEach es X.env)).any (·.1)=false:=by rfl)
 (hd:(x==("__debug__":Str))=false:=by decide):PS X (.Raise (some (.Call (.Name x np) (e::es) [] cpos)) none pos) (IU C E ta):=by
 intro pq s σ H D I h;have OC:=O _ I.mod.MD I.mod.glob;obtain⟨tl,N,nm,q,bs,hdct,sn,sub,ab,col,dd,k0,k1,k2,k3,k5,mN,hC,hN,hni,T⟩:=OC.obj;refine wpAny_Raise_call_subT (C:=C) (nm:=nm) (q:=q) (N:=N) (bs:=bs) (bm:=tl) (hdct:=hdct) (sn:=sn) (sub:=sub) (ab:=ab) (col:=col) (dd:=dd) (k0:=k0) (k1:=k1) (k2:=k2) (k3:=k3) (k5:=k5)
  FB (mN:=mN) (T.hasType FB.hasBase) (I.ok.hd hc) (by rw[he];show(false || (backTo cpos (starEach es X.env)).any (·.1))=false;rw[hpl];rfl) hni (uP I hg OC.bound ⟨rfl,?_⟩ hd)
 have hA:=ha cpos pq s σ H _ I h;rw[he]at hA ⊢;refine Calls.evalArgs_plain (wpAny_mono hA (fun us s1 ⟨vs,H1,I1,r1,z,q1⟩=>?_) fun _ _ y=>y)
 exact⟨rfl,by rw[<-r1.length];exact z,I1.bk _ _ hC,hN.keeps I1.bk,T.keeps I1.bk,fun h' ea hm=>th pq σ H1 s1 h' ea _ us I1 hm q1⟩
end
open PySem PySem.Spec PySem.Calls PyProof.Rows PySem.W PySem.Builtin PySem.Builtin.ObjectAttr PySem.Builtin.Getset_descriptor
section
variable {X:Cx}
def Lq(K:bI):V->V->Hp->VK->Prop:=fun o i H Q=>∃ p xs j v,o = .ref p/\i = .int ((j:Nat):Int)/\aQ K H p xs/\xs[j]?=some v/\Q v H
theorem getL(K:bI)(hK:X.K=K:=by rfl):KI X (Lq K):=by
 subst hK;intro pq s σ H o i ov iv Q I ro ri h;obtain⟨p,xs,j,v,rfl,rfl,hq,e,q⟩:=h;cases ro;obtain⟨t,rfl⟩:=ri;obtain⟨its,r,pl,hz⟩:=I.list hq;obtain⟨u,eu,ru⟩:=r.get e;have hj:j<xs.length:=(oA.mp e).1;have hn:=qO;exact wpAny_getItem_list pl.isList (by lia) (by lia) (by simpa using eu) ⟨v,H,I,ru,q⟩
def Lr(K:bI):R2:=fun x y H Q=>∃ l b xs zs,x = .ref l/\y = .ref b/\aQ K H l xs/\aQ K H b zs/\xs.length+zs.length<=sizeLine/\∀ p,H p=none->Q (.ref p) (upd H p (.lst (xs++zs)))
theorem Bw(K:bI)(hK:X.K=K:=by rfl):kN X (binaryOp .Add) (Lr K):=by
 subst hK;intro pq s σ H x y v u Q I rx ry h;obtain⟨l,b,xs,zs,rfl,rfl,hH,hB,hz,q⟩:=h;cases rx;cases ry;obtain⟨its,r,pl,_⟩:=I.list hH;obtain⟨its2,r2,MP,_⟩:=I.list hB;obtain⟨⟨cls,dd,data,sl⟩,n,e,hc,_,hd⟩:=pl;obtain⟨⟨RG,dd2,data2,sl2⟩,n2,e2,hc2,_,hd2⟩:=MP;simp only at hc hd hc2 hd2;subst hc hd hc2 hd2;have l1:=r.length;have l2:=r2.length;have ea:its.toArray++its2.toArray=(its++its2).toArray:=by simp
 refine concat_meets ⟨_,e,rfl⟩ ⟨_,e2,rfl⟩ noFill_list_add seq_list_add PySem.F.slot_list_add PySem.F.entry_list_add (PySem.F.args_list_add_2 _ _)
  (list_addW l b its.toArray its2.toArray n n2 dd dd2 sl sl2 (by rw[List.size_toArray,List.size_toArray];lia)) ⟨e,e2,?_⟩
 rw[ea];exact⟨.ref _,_,I.K5 (t':=s.toks) (r.append r2) (by rw[List.length_append];lia),rfl,q _ I.fresh⟩
end
section
variable {X:Cx}{tg:Expr}
theorem u9{iter:Expr}{body:List Stmt}{wi:TI}{g:TG}{tb:TS}{pos:Pos}(hc:X.calm=true)(hi:PI X tg iter wi)(hg:PG X.yx tg g)(hb:uO X.yx body tb)(hs:∀ x,foldedSetIterable iter X.env x=pure x:=by intro _;rfl):
 PS X (.For tg iter body [] pos) (eU wi g tb):=by
 intro pq s σ H D I h;refine wpAny_For (eR (hi pq s σ H _ I h) fun v s1 h1=>eR h1 fun itv s2 h2=>?_) hs
 obtain⟨it,fp,tn,J,H2,e,I2,T,st2,f2,W,⟨m0,w0⟩,turn⟩:=h2;subst e;have yF:∀{H' : Hp},(∀ b∈fp,H' b=none)->∀ b∈fp,mO X.yx pq H' b:=fun hn b hb=>⟨hn b hb,(f2 b hb).2⟩
 refine codeAny_forLoop_any (fun n s'=>∃ i σ' H',Inv X.yx pq σ' H' s'/\tn i s'.heap/\(∀ b∈fp,H' b=none)/\W i n σ' H') ?_ m0 ⟨0,σ,H2,I2.qJ _,st2,fun b hb=>(f2 b hb).1,w0⟩
 rintro n s3 ⟨i,σ3,H3,I3,st3,Hq,w3⟩;rcases turn i n σ3 H3 w3 with⟨stop,qn⟩|⟨go,N,hN,step⟩
 ·refine wpAny_mono (T.done X.yx rfl rfl rfl hc i pq s3 σ3 H3 (fun _ _=>False) I3 (yF Hq) st3 stop) (fun r s4 ⟨hr,I4⟩=>?_) fun _ _ z=>z.elim
  subst hr;exact wpAny_execs_nil ⟨σ3,H3,I4.iC,qn⟩
 ·refine wpAny_mono (T.item X.yx rfl rfl rfl hc i pq s3 σ3 H3 (fun _ _=>False) I3 (yF Hq) st3 go) (fun r s4 ⟨u,hr,h4⟩=>?_) fun _ _ z=>z.elim
  subst hr;refine wpAny_mono h4 (fun _ s5 ⟨x,H5,I5,r5,y5,Dq,KO⟩=>?_) fun _ _ z=>z.elim
  have KP:=I5.pinned (yF KO) (T.obj _ _ Dq);refine wpAny_mono (hg _ s5 σ3 H5 x u _ KP r5 (step x H5 y5)) (fun _ s6 ⟨σ6,H6,I6,q6⟩=>?_) fun _ _ z=>z.elim
  refine wpAny_mono (hb _ s6 σ6 H6 _ I6 q6) (fun f s7 q7=>?_) fun _ _ z=>z.elim
  have again:∀{σ7:St} {H7:Hp},Inv X.yx (pq++oJ fp s5.heap) σ7 H7 s7->N σ7 H7->∃ m,m<n/\∃ i σ' H',Inv X.yx pq σ' H' s7/\tn i s7.heap/\(∀ b∈fp,H' b=none)/\W i m σ' H':=fun {σ7 H7} I7 n7=>by
   obtain⟨m',hm,w7⟩:=hN σ7 H7 n7;refine⟨m',hm,i+1,σ7,H7,I7.iD,T.keep _ _ _ Dq fun b hb o e=>(I7.pin (b,o) (oz _ (oz _ (gi hb e)))).1,fun b hb=>?_,w7⟩
   obtain⟨o,e,d⟩:=T.obj _ _ Dq b hb;exact(I7.pin (b,o) (oz _ (oz _ (gi hb e)))).2.1
  cases f with
  | next=>obtain⟨σ7,H7,I7,n7⟩:=q7;exact again I7 n7
  | cont=>obtain⟨σ7,H7,I7,n7⟩:=q7;exact again I7 n7
  | brk=>obtain⟨σ7,H7,I7,q7⟩:=q7;exact⟨σ7,H7,I7.iD.iC,q7⟩
  | ret v=>obtain⟨x7,σ7,H7,I7,r7,q7⟩:=q7;exact⟨x7,σ7,H7,I7.iD.iC,r7,q7⟩
theorem gP{P:Program}{w:World}{X:Cx}:Passes (DO P w) X (fun _ _ _=>False):=by
 intro pq σ H s e s' I q;obtain⟨_,_,_,_,_,_,_,_,_,_,_,_,_,_,_,_,z⟩:=q;rcases z with⟨_,_,z⟩|⟨_,_,_,_,_,_,_,z⟩
 ·exact z.elim
 ·exact z.elim
end
theorem vc{K:bI}{h:Heap}{mg:kK}{x:Str}{C:Addr}{bmB:List Value}{newId:String}(X:K.In h)(G:h.Ns mainGlobals mg)(e:PySem.W.nsIn K mainGlobals x=some (some (.ref C)))(q:PySem.W.excIn K C bmB newId=true):
 OwnCls x C bmB newId mg h:=by
 refine⟨PySem.W.mg_of X G e,?_⟩;unfold PySem.W.excIn at q
 split at q
 ·rename_i od cd sl look
  split at q
  ·rename_i Cx bm j0 j1 j2 j3 nw j5 hmro hsl
   simp only[Bool.and_eq_true,beq_iff_eq,Bool.not_eq_true']at q;obtain⟨⟨⟨⟨⟨rfl,rfl⟩,Lu⟩,ht⟩,hok⟩,hni⟩:=q;obtain⟨nm,bs,mro,ns,qn,hd,sn,sub,ab,col,del⟩:=cd
   (dsimp only at hmro Lu hok hni;subst hmro Lu)
   have hs2:sl = #[j0,j1,j2,j3,some (.builtin nw),j5]:=by
    obtain⟨l⟩:=sl;simp only at hsl;rw[hsl]
   subst hs2;exact⟨bm,ns,nm,qn,bs,hd,sn,sub,ab,col,od,j0,j1,j2,j3,j5,_,X _ _ look,.of_isNs (PySem.W.isNs_of_in X hok),PySem.W.nsMap_none_of_in X hok hni,PySem.W.tail_of_in X ht⟩
  ·cases q
 ·cases q
theorem N6{α:Type}:∀ us:List α,us.length=1->∃ a,us=[a]
 | [_],_=>⟨_,rfl⟩
theorem N7{α:Type}:∀ us:List α,us.length=2->∃ a b,us=[a,b]
 | [_,_],_=>⟨_,_,rfl⟩
theorem N8{α:Type}:∀ us:List α,us.length=3->∃ a b c,us=[a,b,c]
 | [_,_,_],_=>⟨_,_,_,rfl⟩
theorem N9{α:Type}:∀ us:List α,us.length=4->∃ a b c d,us=[a,b,c,d]
 | [_,_,_,_],_=>⟨_,_,_,_,rfl⟩
section
variable {X:Cx}{pq:aX}{σ:St}{H:Hp}{s:Shared}{h' : Heap}
theorem Inv.yields{t' : Nat}{wr:List Addr}{T:Addr}{o:HO}(I:Inv X pq σ H s)(k:∀ b u,b∉wr->s.heap.get? b=some u->h'.get? b=some u)(hf:∀ b∈wr,mO X pq H b)(hT:s.heap.objs.size<=T)
 (new:bR X.prog X.w (upd H T o) h' T o):Inv X pq σ (upd H T o) { s with heap:=h',toks:=t'}:=by
 have Pg:H T=none:=I.hok.fresh hT;have nT:∀ b u,H b=some u->b≠T:=fun b u e=>aS e Pg
 have nw:∀ b u,H b=some u->b∉wr:=fun b u e hb=>by rw[(hf b hb).1]at e;cases e
 refine I.step (g':=s.gens) (d':=s.drawn) (ch:=wr) (fun b hb=>?_) (fun b o _ _ hc e _=>k b o hc e) (fun b o _ _ hc e _=>⟨o.slots,k b o hc e⟩) (fun b u hc e n=>?_)
  (fun b o hc e=>⟨o,k b o hc e⟩) (fun b xs e=>?_) (fun b ob xs e=>?_) (fun b ps e=>⟨#[],?_⟩) (fun m hm=>?_) (fun b u e=>?_) I.bare
 ·obtain⟨_,f1,_,f3,f4,f5⟩:=hf b hb;exact⟨f3,f1,f4,f5⟩
 ·rw[ay (Nat.ne_of_lt (Nat.lt_of_lt_of_le (Heap.lt_size e) hT))];exact n
 ·rw[ay (nT b _ e)];exact e
 ·rw[ay (nT b _ e)];exact e
 ·rw[ay (nT b _ e),e];simp
 ·obtain⟨o,es,ep,ho,r⟩:=hm;exact⟨o,es,ep,k _ o (fun hb=>(hf _ hb).2.1 rfl) ho,r⟩
 ·by_cases hb:b=T
  ·subst hb;rw[ae]at e;cases e;exact new
  ·rw[ay hb]at e;refine(I.hok b u e).stay (fun c v hc q=>k c v ?_ q) (fun c q=>by rw[ay (nT c _ q)];exact q) fun c xs q=>by rw[ay (nT c _ q)];exact q
   rcases hc with z|z
   ·rw[z];exact nw b u e
   ·exact nw c _ z
theorem Inv.Gp{t' : Nat}{wr:List Addr}(I:Inv X pq σ H s)(k:∀ b u,b∉wr->s.heap.get? b=some u->h'.get? b=some u)(hf:∀ b∈wr,mO X pq H b):Inv X pq σ H { s with heap:=h',toks:=t'}:=by
 have nw:∀ b u,H b=some u->b∉wr:=fun b u e hb=>by rw[(hf b hb).1]at e;cases e
 refine I.step (g':=s.gens) (d':=s.drawn) (ch:=wr) (fun b hb=>?_) (fun b o _ _ hc e _=>k b o hc e) (fun b o _ _ hc e _=>⟨o.slots,k b o hc e⟩) (fun _ _ _ _ n=>n)
  (fun b o hc e=>⟨o,k b o hc e⟩) (fun _ _ e=>e) (fun _ _ _ e=>e) (fun b ps e=>⟨#[],by rw[e];simp⟩) (fun m hm=>?_) (fun b u e=>?_) I.bare
 ·obtain⟨_,f1,_,f3,f4,f5⟩:=hf b hb;exact⟨f3,f1,f4,f5⟩
 ·obtain⟨o,es,ep,ho,r⟩:=hm;exact⟨o,es,ep,k _ o (fun hb=>(hf _ hb).2.1 rfl) ho,r⟩
 ·refine(I.hok b u e).stay (fun c v hc q=>k c v ?_ q) (fun _ q=>q) fun _ _ q=>q
  rcases hc with z|z
  ·rw[z];exact nw b u e
  ·exact nw c _ z
end
def JX(K:bI)(a:Addr):It :=
 ⟨fun i H=>∃ xs x,aQ K H a xs/\xs[i]?=some x,fun i H v H'=>∃ T x,v = .ref T/\H T=none/\H' = upd H T (.tup [.int (i:Int),x])/\∀ xs,aQ K H a xs->xs[i]?=some x,fun i H=>∃ xs,aQ K H a xs/\xs.length<=i⟩
theorem Bx{P:Program}{w:World}{K:bI}{elts:List Expr}{k:Nat}{pos:Pos}(a e it:Addr)(hne:e≠it):
 Turn P w K (.Tuple elts k pos) (JX K a) [e,it] e (fun i h=>(∃ old,IsEnum h e it (i:Int) old)/\h.IsListIter it a i) where
 mem:=by simp
 obj:=fun i h st b hb=>by
  obtain⟨⟨old,he⟩,o,ho,c,d⟩:=st;have hb' : b=e\/b=it:=by simpa using hb
  rcases hb' with rfl|rfl
  ·exact⟨_,he,fun v z=>by cases z⟩
  ·exact⟨o,ho,fun v z=>by rw[d]at z;cases z⟩
 keep:=fun i h h' st k=>by
  obtain⟨⟨old,he⟩,hit⟩:=st;exact⟨⟨old,k e (by simp) _ he⟩,hit.at fun o x=>k it (by simp) o x⟩
 item:=by
  intro X hP hw hK hc i pq s σ H E I hf st hg;subst hP hw hK;obtain⟨xs,x,hq,hx⟩:=hg;obtain⟨its,rv,p,hz⟩:=I.list hq;obtain⟨u,hu,ru⟩:=rv.get hx;obtain⟨⟨old,he⟩,hit⟩:=st;refine wpAny_pyNext_enum_item he hit p.isList (x:=u) (by simpa using hu) hne fun h1 ho Oa hT hsz hk=>?_
  refine⟨_,rfl,wpAny_letOwnedTupleGo_enum ho fun h2 IV hs2=>?_⟩
  have Ph:s.heap.objs.size≠e:=Nat.ne_of_gt (Heap.lt_size he);have hT2:h2.get? s.heap.objs.size=some { cls:=.type "tuple",data:=.seq #[.int i s.toks,u]}:=(hs2.2 _ Ph).trans hT;refine⟨.ref s.heap.objs.size,upd H s.heap.objs.size (.tup [.int (i:Int),x]),I.yields (wr:=[e,it]) (t':=s.toks+1) (fun b o hb q=>?_) hf (Nat.le_refl _) ?_,rfl,⟨_,x,rfl,I.fresh,rfl,fun ys hy=>by rw[I.ni hy hq];exact hx⟩,⟨⟨u,by simpa using IV⟩,?_⟩,fun b hb=>?_⟩
  ·have Hy:b≠e:=fun z=>hb (by simp[z])
   have Lv:b≠it:=fun z=>hb (by simp[z])
   exact(hs2.2 b Hy).trans (hk b o Hy Lv q)
  ·exact⟨dl rfl,[.int i s.toks,u],.cons ⟨_,rfl⟩ (.cons ru .nil),⟨_,hT2,rfl,_,rfl⟩⟩
  ·exact Oa.at fun o q=>(hs2.2 it (Ne.symm hne)).trans q
  ·rw[ay]
   ·exact(hf b hb).1
   ·have hb' : b=e\/b=it:=by simpa using hb
    rcases hb' with rfl|rfl
    ·exact Ne.symm Ph
    ·obtain⟨o,q,_⟩:=hit;exact Nat.ne_of_lt (Heap.lt_size q)
 done:=by
  intro X hP hw hK hc i pq s σ H E I hf st hg;subst hP hw hK;obtain⟨xs,hq,hx⟩:=hg;obtain⟨its,rv,p,hz⟩:=I.list hq;obtain⟨⟨old,he⟩,hit⟩:=st;obtain⟨f0,f1,f2,f3,f4,f5⟩:=hf it (by simp)
  have hl:=rv.length;exact wpAny_pyNext_enum_end (I.ok.hd hc) he hit p.isList (by simp;lia) fun h' eb=>⟨rfl,I.turned (t':=s.toks) (fun b o hb e=>eb b o hb e) f0 f1 f3 f4 f5⟩
 self:=fun _ _ _ _ _ st h=>by
  obtain⟨⟨old,he⟩,_⟩:=st;exact wpAny_pyIter_enum he h
def Ob(K:bI)(a b:Addr):It :=
 ⟨fun i H=>∃ xs ys x y,aQ K H a xs/\aQ K H b ys/\xs[i]?=some x/\ys[i]?=some y,
  fun i H v H'=>∃ T x y,v = .ref T/\H T=none/\H' = upd H T (.tup [x,y])/\(∀ xs,aQ K H a xs->xs[i]?=some x)/\∀ ys,aQ K H b ys->ys[i]?=some y,
  fun i H=>∃ xs ys,aQ K H a xs/\aQ K H b ys/\(xs.length<=i\/ys.length<=i)⟩
theorem DP{P:Program}{w:World}{K:bI}{elts:List Expr}{k:Nat}{pos:Pos}(a b z TI TO i1 i2:Addr)(D:ZipApart z TI TO i1 i2 a b):
 Turn P w K (.Tuple elts k pos) (Ob K a b) [z,TI,TO,i1,i2] z (fun i h=>IsZip h z TI TO .none/\IsPair h TI (.ref i1) (.ref i2)/\(∃ u v,IsPair h TO u v)/\h.IsListIter i1 a i/\h.IsListIter i2 b i) where
 mem:=by simp
 obj:=fun i h st c hc=>by
  obtain⟨hz,hI,⟨u,v,hO⟩,⟨o1,FH,_,d1⟩,o2,ho2,_,d2⟩:=st;have hc' : c=z\/c=TI\/c=TO\/c=i1\/c=i2:=by simpa using hc
  rcases hc' with rfl|rfl|rfl|rfl|rfl
  ·exact⟨_,hz,fun v z=>by cases z⟩
  ·exact⟨_,hI,fun v z=>by cases z⟩
  ·exact⟨_,hO,fun v z=>by cases z⟩
  ·exact⟨o1,FH,fun v z=>by rw[d1]at z;cases z⟩
  ·exact⟨o2,ho2,fun v z=>by rw[d2]at z;cases z⟩
 keep:=fun i h h' st k=>by
  obtain⟨hz,hI,⟨u,v,hO⟩,h1,h2⟩:=st;exact⟨k z (by simp) _ hz,k TI (by simp) _ hI,⟨u,v,k TO (by simp) _ hO⟩,h1.at fun o e=>k i1 (by simp) o e,h2.at fun o e=>k i2 (by simp) o e⟩
 item:=by
  intro X hP hw hK hc i pq s σ H E I hf st hg;subst hP hw hK;obtain⟨xs,ys,x,y,hq,hq2,hx,hy⟩:=hg;obtain⟨its,rv,p,RH⟩:=I.list hq;obtain⟨its2,MQ,p2,Oc⟩:=I.list hq2;obtain⟨u,hu,ru⟩:=rv.get hx;obtain⟨u2,RI,RJ⟩:=MQ.get hy;obtain⟨hz,hI,⟨v1,v2,hO⟩,h1,h2⟩:=st;refine wpAny_pyNext_zip_item D hz hI hO h1 h2 p.isList p2.isList (x:=u) (y:=u2) (by simpa using hu) (by simpa using RI) fun h3 RK RL RN RO hT hsz hk=>?_
  refine⟨_,rfl,wpAny_letOwnedTupleGo_zip RK fun h4 RP JY=>?_⟩
  have lt:∀{c o},s.heap.get? c=some o->s.heap.objs.size≠c:=fun e=>Nat.ne_of_gt (Heap.lt_size e)
  have RQ:h4.get? s.heap.objs.size=some { cls:=.type "tuple",data:=.seq #[u,u2]}:=(JY.2 _ (lt hz)).trans hT;have kk:∀ c o,c∉[z,TO,i1,i2]->s.heap.get? c=some o->h4.get? c=some o:=fun c o hc q=>by
   have c1:c≠z:=fun e=>hc (by simp[e])
   exact(JY.2 c c1).trans (hk c o c1 (fun e=>hc (by simp[e])) (fun e=>hc (by simp[e])) (fun e=>hc (by simp[e])) q)
  have hsub:∀ c∈[z,TO,i1,i2],c∈[z,TI,TO,i1,i2]:=fun c hc=>by
   have hc' : c=z\/c=TO\/c=i1\/c=i2:=by simpa using hc
   rcases hc' with rfl|rfl|rfl|rfl<;>simp
  refine⟨.ref s.heap.objs.size,upd H s.heap.objs.size (.tup [x,y]),I.yields (wr:=[z,TO,i1,i2]) (t':=s.toks) kk (fun c hc=>hf c (hsub c hc)) (Nat.le_refl _) ?_,rfl,
   ⟨_,x,y,rfl,I.fresh,rfl,fun zs hy=>by rw[I.ni hy hq];exact hx,fun zs hz=>by rw[I.ni hz hq2];exact hy⟩,⟨RP,(JY.2 _ D.TIz).trans (hk _ _ D.TIz D.TITO D.TIi1 D.TIi2 hI),⟨u,u2,(JY.2 _ D.TOz).trans RL⟩,?_,?_⟩,fun c hc=>?_⟩
  ·exact⟨dl rfl,[u,u2],.cons ru (.cons RJ .nil),⟨_,RQ,rfl,_,rfl⟩⟩
  ·exact RN.at fun o q=>(JY.2 _ D.i1z).trans q
  ·exact RO.at fun o q=>(JY.2 _ D.i2z).trans q
  ·rw[ay]
   ·exact(hf c hc).1
   ·have hc' : c=z\/c=TI\/c=TO\/c=i1\/c=i2:=by simpa using hc
    rcases hc' with rfl|rfl|rfl|rfl|rfl
    ·exact Ne.symm (lt hz)
    ·exact Ne.symm (lt hI)
    ·exact Ne.symm (lt hO)
    ·obtain⟨o,q,_⟩:=h1;exact Ne.symm (lt q)
    ·obtain⟨o,q,_⟩:=h2;exact Ne.symm (lt q)
 done:=by
  intro X hP hw hK hc i pq s σ H E I hf st hg;subst hP hw hK;obtain⟨xs,ys,hq,hq2,hx⟩:=hg;obtain⟨its,rv,p,RH⟩:=I.list hq;obtain⟨its2,MQ,p2,Oc⟩:=I.list hq2;obtain⟨hz,hI,⟨v1,v2,hO⟩,h1,h2⟩:=st;have hl:=rv.length;have hl2:=MQ.length;have hsub:∀ c∈[z,TO,i1,i2],c∈[z,TI,TO,i1,i2]:=fun c hc=>by
   have hc' : c=z\/c=TO\/c=i1\/c=i2:=by simpa using hc
   rcases hc' with rfl|rfl|rfl|rfl<;>simp
  refine wpAny_pyNext_zip_end (I.ok.hd hc) D hz hI hO h1 h2 p.isList p2.isList (hx.imp (fun q=>by simp;lia) fun q=>by simp;lia) fun h' kk=>⟨rfl,I.Gp (wr:=[z,TO,i1,i2]) (t':=s.toks) (fun c o hc q=>?_) fun c hc=>hf c (hsub c hc)⟩
  exact kk c o (fun e=>hc (by simp[e])) (fun e=>hc (by simp[e])) (fun e=>hc (by simp[e])) (fun e=>hc (by simp[e])) q
 self:=fun _ _ _ _ _ st h=>wpAny_pyIter_zip st.1 h
theorem By{n a b:Nat}(la:a<n)(lb:b<n):ZipApart (n+4) (n+2) (n+3) n (n+1) a b:=by
 have k:∀{x y:Nat},x<y\/y<x->x≠y:=fun h=>by lia
 constructor<;>exact k (by lia)
section
variable {X:Cx}{elts:List Expr}{n:Nat}{tp:Pos}
def Lw(K:bI)(ta:TA):TI:=fun σ H R=>ta σ H fun vs H1=>∃ a,vs=[.ref a]/\(∃ xs,aQ K H1 a xs)/\R (JX K a) H1
def Od(K:bI)(ta:TA):TI:=fun σ H R=>ta σ H fun vs H1=>∃ a b,vs=[.ref a,.ref b]/\(∃ xs,aQ K H1 a xs)/\(∃ ys,aQ K H1 b ys)/\R (Ob K a b) H1
theorem vd(K:bI){a:Expr}{ta:TA}{p pos:Pos}(hg:Gl X "enumerate")(hm:X.mg "enumerate"=none)(ha:PA X [a] ta)(hs:starEach [a] X.env=[(false,eval a X.env)]:=by rfl)(hK:X.K=K:=by rfl):
 PI X (.Tuple elts n tp) (.Call (.Name "enumerate" p) [a] [] pos) (Lw K ta):=by
 subst hK;intro pq s σ H R I h;refine Call_ (ji I hg hm boot_enumerate (PyProof.Rows.callWith_type1 (eR (ha pos pq s σ H _ I h) fun us s1 ⟨vs,H1,I1,r1,q1⟩=>?_) hs rfl))
 obtain⟨a,e,⟨xs,hq⟩,q⟩:=q1;subst e;cases r1 with
 | cons r rr =>
   cases rr;cases r;obtain⟨its,rv,pl,hz⟩:=I1.list hq;refine call_enumerate_list pl.isList fun h' he hit hsz hk=>?_
   have I2:Inv X pq σ H1 { s1 with heap:=h'}:=I1.kept (t':=s1.toks) hk
   refine wpAny_pyIter_enum he ⟨_,[s1.heap.objs.size+1,s1.heap.objs.size],_,_,H1,rfl,I2,Bx a _ _ (Nat.succ_ne_self _),⟨⟨_,he⟩,hit⟩,fun b hb=>?_,q⟩
   have hb' : b=s1.heap.objs.size+1\/b=s1.heap.objs.size:=by simpa using hb
   have Pj:s1.heap.objs.size<=b:=by
    rcases hb' with rfl|rfl
    ·exact Nat.le_succ _
    ·exact Nat.le_refl _
   exact I1.Bf Pj (I1.hok.fresh Pj)
theorem IW(K:bI){a b:Expr}{ta:TA}{p pos:Pos}(hg:Gl X "zip")(hm:X.mg "zip"=none)(ha:PA X [a,b] ta)(hs:starEach [a,b] X.env=[(false,eval a X.env),(false,eval b X.env)]:=by rfl)(hs2:starEach [b] X.env=[(false,eval b X.env)]:=by rfl)(hK:X.K=K:=by rfl):
 PI X (.Tuple elts n tp) (.Call (.Name "zip" p) [a,b] [] pos) (Od K ta):=by
 subst hK;intro pq s σ H R I h;refine Call_ (ji I hg hm boot_zip (PyProof.Rows.callWith_type1 (eR (ha pos pq s σ H _ I h) fun us s1 ⟨vs,H1,I1,r1,q1⟩=>?_) (by rw[hs,hs2]) (by rw[hs2];rfl)))
 obtain⟨a,b,e,⟨xs,hq⟩,⟨ys,hq2⟩,q⟩:=q1;subst e;cases r1 with
 | cons r rr =>
   cases rr with
   | cons r' rr =>
     cases rr;cases r;cases r';obtain⟨its,rv,pl,hz⟩:=I1.list hq;obtain⟨its2,MQ,MP,hz2⟩:=I1.list hq2;refine call_zip_2 pl.isList MP.isList fun h' Pk hI hO h1 h2 hsz hk=>?_
     have I2:Inv X pq σ H1 { s1 with heap:=h'}:=I1.kept (t':=s1.toks) hk
     have la:a<s1.heap.objs.size:=by obtain⟨_,q,_⟩:=pl.isList;exact Heap.lt_size q
     have lb:b<s1.heap.objs.size:=by obtain⟨_,q,_⟩:=MP.isList;exact Heap.lt_size q
     refine wpAny_pyIter_zip Pk ⟨_,[s1.heap.objs.size+4,s1.heap.objs.size+2,s1.heap.objs.size+3,s1.heap.objs.size,s1.heap.objs.size+1],_,_,H1,rfl,I2,
      DP a b _ _ _ _ _ (By la lb),⟨Pk,hI,⟨_,_,hO⟩,h1,h2⟩,fun c hc=>?_,q⟩
     have hc' : c=s1.heap.objs.size+4\/c=s1.heap.objs.size+2\/c=s1.heap.objs.size+3\/c=s1.heap.objs.size\/c=s1.heap.objs.size+1:=by simpa using hc
     have hcs:s1.heap.objs.size<=c:=by
      rcases hc' with rfl|rfl|rfl|rfl|rfl
      ·exact Nat.le_add_right _ _
      ·exact Nat.le_add_right _ _
      ·exact Nat.le_add_right _ _
      ·exact Nat.le_refl _
      ·exact Nat.le_add_right _ _
     exact I1.Bf hcs (I1.hok.fresh hcs)
end
section
variable {K:bI}{a b:Addr}{xs ys:List V}{g:TG}{tt:TT}{te:TE}{n:Nat}{fr:St}{D:Addr}{Q:Hp->Prop}{H1:Hp}
theorem wW{tb:TS}{D:Ends}{σ:St}{H:Hp}(Pv:Nat->St->Hp->Prop)(h0:Pv 0 σ H)(hl:∀ i σ H,i<=xs.length->Pv i σ H->aQ K H a xs)
 (hs:∀ i x T σ H,xs[i]?=some x->Pv i σ H->H T=none->g (.ref T) σ (upd H T (.tup [.int (i:Int),x])) fun σ2 H2=>tb { D with nx:=Pv (i+1),ct:=Pv (i+1),bk:=D.nx} σ2 H2) (hd:∀ σ H,Pv xs.length σ H->D.nx σ H) :
 ∃ W:Nat->Nat->St->Hp->Prop,(∃ m,W 0 m σ H)/\∀ i m σ H,W i m σ H->
   ((JX K a).stop i H/\D.nx σ H)\/((JX K a).go i H/\∃ N:St->Hp->Prop,(∀ σ' H',N σ' H'->∃ m',m'<m/\W (i+1) m' σ' H')/\∀ x H',(JX K a).F1 i H x H'->g x σ H' fun σ2 H2=>tb { D with nx:=N,ct:=N,bk:=D.nx} σ2 H2):=by
 refine⟨fun i m σ H=>m=xs.length-i/\i<=xs.length/\Pv i σ H,⟨xs.length,by simp,Nat.zero_le _,h0⟩,?_⟩
 rintro i m σ H ⟨rfl,hi,p⟩;have q:=hl i σ H hi p
 by_cases hlt:i<xs.length
 ·refine .inr ⟨⟨xs,xs[i],q,by simp[hlt]⟩,Pv (i+1),fun σ' H' p'=>⟨xs.length-(i+1),by lia,rfl,hlt,p'⟩,fun v H' y=>?_⟩
  obtain⟨T,x,rfl,hT,rfl,y⟩:=y;exact hs i x T σ _ (y xs q) p hT
 ·have e:i=xs.length:=by lia
  subst e;exact .inl ⟨⟨xs,q,Nat.le_refl _⟩,hd σ H p⟩
theorem DQ(hxy:xs.length=ys.length)(Pv:Nat->List V->Hp->Prop)(h0:Pv 0 [] H1)(hl:∀ i acc H,i<=xs.length->Pv i acc H->aQ K H a xs/\aQ K H b ys/\H D=some (.lst acc)/\acc.length<=i)(hz:xs.length<=sizeLine)
 (hs:∀ i x y T acc H,xs[i]?=some x->ys[i]?=some y->Pv i acc H->H T=none->g (.ref T) (List.replicate n none++fr) (upd H T (.tup [x,y])) fun σ2 H2=>σ2.drop n=fr/\tt σ2 H2 fun b H3 =>
  if b=true then te σ2 H3 fun v H4=>H4 D=some (.lst acc)/\Pv (i+1) (acc++[v]) (upd H4 D (.lst (acc++[v]))) else Pv (i+1) acc H3)
 (hd:∀ acc H,Pv xs.length acc H->Q H):iH (Ob K a b) g tt te n fr D Q H1:=by
 refine⟨fun i m acc H=>m=xs.length-i/\i<=xs.length/\Pv i acc H,⟨xs.length,by simp,Nat.zero_le _,h0⟩,?_⟩
 rintro i m acc H ⟨rfl,hi,p⟩;obtain⟨q,q2,hD,ha⟩:=hl i acc H hi p;refine⟨hD,?_⟩
 by_cases hlt:i<xs.length
 ·have Oe:i<ys.length:=by lia
  refine .inr ⟨⟨xs,ys,xs[i],ys[i],q,q2,by simp[hlt],by simp[Oe]⟩,by lia,Pv (i+1),fun acc' H' p'=>⟨xs.length-(i+1),by lia,rfl,hlt,p'⟩,fun v H' y=>?_⟩
  obtain⟨T,x,z,rfl,hT,rfl,y1,y2⟩:=y;exact hs i x z T acc _ (y1 xs q) (y2 ys q2) p hT
 ·have e:i=xs.length:=by lia
  subst e;exact .inl ⟨⟨xs,ys,q,q2,.inl (Nat.le_refl _)⟩,hd acc H p⟩
end
section
variable {X:Cx}
theorem wX:eO X (.type "range") (fun xs H Q=>∃ j:Int,xs=[.int j]/\∀ p,H p=none->Q (.ref p) (upd H p (.Bb 0 j))):=by
 intro pq s σ H xs us Q I r h;obtain⟨j,rfl,q⟩:=h;obtain⟨u,rfl,t,rfl⟩:=vals1 r;refine call_range_1 ⟨.ref s.heap.objs.size,_,I.laid (t':=s.toks+1+1) (fun b o e=>Heap.get?_push_of_some _ e) (Nat.le_refl _) ?_,rfl,q _ I.fresh⟩
 exact⟨_,_,_,Heap.get?_push_size _ rfl⟩
def sR(n:Nat):List V:=(List.range n).map fun i=>V.int ((i:Nat):Int)
theorem Hz(hc:X.calm=true):eO X (.type "list") (fun xs H Q=>∃ p,∃ n:Nat,xs=[.ref p]/\H p=some (.Bb 0 (n:Int))/\n<=900/\∀ l,H l=none->Q (.ref l) (upd H l (.lst (sR n)))):=by
 intro pq s σ H xs us Q I r h;obtain⟨p,n,rfl,hp,hn,q⟩:=h;obtain⟨u,rfl,rx⟩:=vals1 r;cases rx;obtain⟨t,u,v,e⟩:=(show bR X.prog X.w H s.heap p (.Bb 0 (n:Int)) from I.hok p _ hp)
 have hsz:Builtin.Range.rangeSize 0 (n:Int) 1=(n:Int):=by rw[rangeSize_one];split<;>lia
 refine call_list_range (I.ok.hd hc) e (small_one (by lia) (by lia) (by lia) (by lia)) hsz (Nat.le_trans hn (by decide)) fun h' tk acc c kp e' hacc=>?_
 refine⟨.ref s.heap.objs.size,_,I.laid (t':=tk) kp (Nat.le_refl _) ?_,rfl,q _ I.fresh⟩;have hl:acc.toList.length=n:=by rw[Array.length_toList];exact hacc.1
 have hz:(sR n).length<=sizeLine:=by
  unfold sR;rw[List.length_map,List.length_range];exact Nat.le_of_lt (ir (by lia))
 refine⟨hz,acc.toList,c,?_,by simpa using e'⟩
 have key:∀(ys:List Value) (k:Nat),(∀ j v,ys[j]?=some v->∃ t,v=Value.int (((k+j:Nat)):Int) t)->Vals ((List.range' k ys.length).map fun i=>V.int ((i:Nat):Int)) ys:=by
  intro ys
  induction ys with
  | nil=>intro k _;exact .nil
  | cons y r ih =>
    intro k hy;obtain⟨t,ht⟩:=hy 0 y rfl;refine .cons ⟨t,by simpa using ht⟩ (ih (k+1) fun j v hv=>?_)
    obtain⟨t',ht'⟩:=hy (j+1) v (by simpa using hv)
    exact⟨t',by rw[ht'];congr 2;lia⟩
 have z:=key acc.toList 0 fun j v hv=>by
  obtain⟨t,ht⟩:=hacc.2 j v (by simpa using hv)
  exact⟨t,by rw[ht];congr 1;lia⟩
 rw[hl]at z;unfold sR;rw[List.range_eq_range'];exact z
theorem sumK(K:bI)(hc:X.calm=true)(hK:X.K=K:=by rfl):eO X (.builtin "sum") (fun xs H Q=>∃(p:Addr) (ns:List Int),xs=[.ref p]/\aQ K H p (ns.map V.int)/\Q (.int ns.sum) H):=by
 subst hK;intro pq s σ H xs us Q I r h;obtain⟨p,ns,rfl,hq,q⟩:=h;obtain⟨u,rfl,rx⟩:=vals1 r;cases rx;obtain⟨its,rv,pl,hz⟩:=I.list hq;have hi:∀{ns:List Int} {its:List Value},Vals (ns.map V.int) its->∃ xs:Array (Int×Tok),its.toArray=intItems xs/\xs.toList.map (·.1)=ns:=by
  intro ns
  induction ns with
  | nil=>intro its r;cases r;exact⟨#[],by simp[intItems],rfl⟩
  | cons a l ih =>
    intro its r;cases r with
    | cons r1 r2 =>
      obtain⟨t,rfl⟩:=r1;obtain⟨xs,h1,h2⟩:=ih r2;refine⟨#[(a,t)]++xs,?_,by simp[h2]⟩
      have Hy:=congrArg Array.toList h1;simp only[intItems,Array.toList_map,List.toList_toArray]at Hy;simp[intItems,Hy,Array.map_append]
 obtain⟨ar,e1,e2⟩:=hi rv;have hl:s.heap.IsList p (intItems ar):=e1▸pl.isList;refine sum_intListG (I.ok.hd hc) hl fun h' tk t' hk=>?_
 have e3:preSum (numAt ar) ar.size=ns.sum:=by rw[preSum_eq,List.take_of_length_le (by simp),e2]
 rw[e3];exact⟨.int ns.sum,H,I.kept hk,⟨t',rfl⟩,q⟩
end
theorem wY:∀{us:List Value} {ns:List Int},IntsAre us ns->Vals (ns.map V.int) us
 | _,_,.nil=>.nil
 | _,_,.cons n t r=>.cons ⟨t,rfl⟩ (wY r)
section
variable {X:Cx}
theorem sortedK(K:bI)(hK:X.K=K:=by rfl):eO X (.builtin "sorted") (fun xs H Q=>∃(p:Addr) (ns:List Int),xs=[.ref p]/\aQ K H p (ns.map V.int)/\ns.length<64/\
 ∀(l:Addr) (ns' : List Int),H l=none->ns'.Perm ns->ns'.Pairwise (·<=·)->Q (.ref l) (upd H l (.lst (ns'.map V.int)))):=by
 subst hK;intro pq s σ H xs us Q I r h;obtain⟨p,ns,rfl,hq,hn,q⟩:=h;obtain⟨u,rfl,rx⟩:=vals1 r;cases rx;obtain⟨its,rv,pl,hz⟩:=I.list hq;have hl:=rv.length;rw[List.length_map]at hl;refine PyProof.Rows.sorted_ints pl.isList (intsAre_of rv) (by lia) fun out ns' a1 a2 a3=>?_
 obtain⟨e,he⟩:=sortedAll_at s.heap its out;have hfr:H (s.heap.objs.size+1)=none:=I.hok.fresh (Nat.le_succ _);refine⟨.ref (s.heap.objs.size+1),_,I.laid (t':=s.toks) (fun _ _=>sortedAll_old) (Nat.le_succ _) ?_,rfl,q _ ns' hfr a2 a3⟩
 refine⟨?_,out.toList,e,wY a1,?_⟩
 ·rw[List.length_map,a2.length_eq];exact Nat.le_of_lt (ir (by lia))
 ·have:out.toList.toArray=out:=by simp
  rw[this];exact he
theorem Of(K:bI)(hc:X.calm=true)(hK:X.K=K:=by rfl):eO X (.type "set") (fun xs H Q=>∃(p:Addr) (ns:List Int),xs=[.ref p]/\aQ K H p (ns.map V.int)/\ns.length<=900/\
 ∀(l:Addr) (S:Int->Bool),H l=none->Q (.ref l) (upd H l (.set S (firstMet (fun i=>ns.getD i 0) ns.length).length))):=by
 subst hK;intro pq s σ H xs us Q I r h;obtain⟨p,ns,rfl,hq,hn,q⟩:=h;obtain⟨u,rfl,rx⟩:=vals1 r;cases rx;obtain⟨its,rv,pl,hz⟩:=I.list hq;have hl:=rv.length;rw[List.length_map]at hl;have hsz:its.toArray.size=ns.length:=by rw[List.size_toArray];lia
 refine PySem.call_set_list (I.ok.hd hc) pl.isList (ns:=ns) (by simpa using intsAre_of rv) (by rw[hsz];show ns.length+1<4096;lia) fun h' tk hS hk=>?_
 rw[hsz]at hS;exact⟨.ref s.heap.objs.size,_,I.laid (t':=tk) (o:=.set (fun k'=>(firstMet (fun i=>ns.getD i 0) ns.length).any fun x=>x==k') (firstMet (fun i=>ns.getD i 0) ns.length).length) (fun b o e=>hk b o (Heap.lt_size e) e) (Nat.le_refl _) hS,rfl,q _ _ I.fresh⟩
theorem IX:eO X (.builtin "len") (fun xs H Q=>∃(p:Addr) (S:Int->Bool) (n:Nat),xs=[.ref p]/\H p=some (.set S n)/\Q (.int (n:Int)) H):=by
 intro pq s σ H xs us Q I r h;obtain⟨p,S,n,rfl,hp,q⟩:=h;obtain⟨u,rfl,rx⟩:=vals1 r;cases rx;obtain⟨o,es,ep,t,ho,hex,hd,_,_,hb,hf,rfl⟩:=(show bR X.prog X.w H s.heap p (.set S n) from I.hok p _ hp)
 refine call_len_set ho hex hd hf (by have:es.size<4096:=hb;lia) ⟨.int _,H,I.tok _,⟨_,rfl⟩,q⟩
end
end L2
namespace HT
open PySem PyProof.Rows
section
variable {prog:Program}{w:World}{A:Around}{E:gU}{s:Shared}
theorem mj{t sl:Addr}{items:Array Value}{vl vu:Value}{lo hi:Option Int}{Q:gU}(ht:IsTup s.heap t items)(hs:s.heap.IsSliceOf sl vl vu .none)(pl:IsPart vl lo)(pu:IsPart vu hi)
 (hw:eB items.size 0 lo=0/\eB items.size items.size hi=items.size) (h:Q (.ref t) s):wpAny (model prog w) A (getItem (.ref t) (.ref sl)) Q E s:=by
 obtain⟨os,hos,hcs,hds⟩:=id hs;have NO:s.TypeIs (.ref sl) "slice":=⟨os,hos,hcs⟩;unfold getItem
 try with_reducible refine wpAny_holding ?_
 first | refine wpAny_bind (wpAny_pure ?_) | skip
 refine wpAny_bind (wpAny_sequenceKey ht.typeIs (by decide) ?_)
 refine wpAny_bind (wpAny_callSpecial?_slot (name:=Str.ofString "__getitem__") ht.typeIs PyProof.Rows.slot_tuple_getitem
  (wpAny_call_entry PyProof.Rows.slot_tuple_getitem ht.typeIs entry_tuple_getitem ?_ (args_tuple_getitem _ _)))
 show wpAny _ _ (Builtin.Tuple.tupleItemsOf (.ref t) >>= _) _ _ s;refine wpAny_bind (tupleItemsOf_ ht ?_);refine wpAny_bind (wpAny_typeOf NO ?_);rw[if_pos (by decide)]
 refine wpAny_bind (jy hs pl pu ?_);have hyes:(((eB items.size 0 lo:Nat):Int)==0&&(1:Int)==1&&(eB items.size items.size hi-eB items.size 0 lo)==items.size)=true:=by
  rw[hw.1,hw.2];simp
 show wpAny _ _ (if(((eB items.size 0 lo:Nat):Int)==0&&(1:Int)==1&&(eB items.size items.size hi-eB items.size 0 lo)==items.size)=true then _ else _) _ _ s
 rw[if_pos hyes];refine wpAny_bind ?_;unfold Builtin.Tuple.tupleIsExact;refine wpAny_bind (wpAny_typeOf ht.typeIs (wpAny_pure ?_));rw[if_pos (by decide)]
 exact wpAny_bind (wpAny_rule (wpAny_pure ⟨_,rfl,wpAny_pure h⟩))
end
end HT
namespace L2
open PySem PySem.Spec PyProof.Rows
section
variable {X:Cx}
def Lx:V->Option Int->Option Int->Hp->VK->Prop:=fun x lo hi H Q=>∃ a xs,x = .ref a/\H a=some (.tup xs)/\∀ p H',au H H'->H' p=some (.tup (oO xs lo hi))->Q (.ref p) H'
theorem Ly:ML X Lx:=by
 intro pq s σ H x v vl vu lo hi sl Q I rx hs pl pu h;obtain⟨a,xs,rfl,hx,q⟩:=h;cases rx;obtain⟨its,r,ht,hz⟩:=I.tuple (aY.of hx);have hlen:its.toArray.size=xs.length:=by rw[List.size_toArray];exact r.length.symm
 refine⟨"tuple",_,PyProof.Rows.slot_tuple_getitem.lookup,ht.typeIs,?_⟩
 by_cases hw:HT.eB xs.length 0 lo=0/\HT.eB xs.length xs.length hi=xs.length
 ·refine HT.mj ht hs pl pu (by rw[hlen];exact hw) ⟨.ref a,H,I,rfl,q a H (au.refl _) ?_⟩
  unfold oO;rw[hw.1,hw.2,List.drop_zero,Nat.sub_zero,List.take_length];exact hx
 ·refine HT.nk ht hs pl pu (by rw[hlen];exact hw) ?_ (by rw[hlen];exact hz)
  rw[hlen];refine⟨.ref s.heap.objs.size,_,I.laid (t':=s.toks) (o:=.tup (oO xs lo hi)) (fun b ob q=>Heap.get?_push_of_some _ q) (Nat.le_refl _) ?_,rfl,q _ _ (au.new (I.hok.fresh (Nat.le_refl _))) ae⟩
  exact⟨Nat.le_trans (pV xs lo hi) hz,_,(r.drop (HT.eB xs.length 0 lo)).take (HT.eB xs.length xs.length hi-HT.eB xs.length 0 lo),IsTup.new _ _⟩
end
end L2
namespace Ring
open PySem
abbrev c9:=Int×Int×Int
def bit(S:Int)(k:Nat):Bool:=decide (S/2^k%2=1)
def bC(S:Int):List Nat:=(List.range (Builtin.Int.intBits S)).filter (bit S)
def bump(e:List Int)(i:Int):List Int:=e.set i.toNat (e.getD i.toNat 0+1)
def step(ts:List c9)(e:List Int)(k:Nat):List Int:=match ts[k]? with
 | some t=>bump (bump e t.1) t.2.1
 | none=>e
def jl(p:Nat)(ts:List c9)(S:Int):List Int:=(bC S).foldl (step ts) (List.replicate p 0)
def qV(p:Nat)(ts:List c9)(S:Int):List Nat:=(List.range p).filter fun i=>decide ((jl p ts S).getD i 0%2=1)
def FI(ts:List c9)(k i:Nat):Int:=match ts[k]? with
 | some t=>(if t.1=(i:Int) then 1 else 0)+(if t.2.1=(i:Int) then 1 else 0)
 | none=>0
theorem jA(e:List Int)(i:Int):(bump e i).length=e.length:=by unfold bump;rw[List.length_set]
theorem DR(ts:List c9)(e:List Int)(k:Nat):(step ts e k).length=e.length:=by
 unfold step
 split
 ·rw[jA,jA]
 ·rfl
theorem wZ(e:List Int)(j:Int)(i:Nat)(h0:0<=j)(h1:j<e.length):(bump e j).getD i 0=e.getD i 0+if j=(i:Int) then 1 else 0:=by
 unfold bump;rw[List.getD_eq_getElem?_getD,List.getD_eq_getElem?_getD,List.getD_eq_getElem?_getD]
 by_cases h:j=(i:Int)
 ·have hi:j.toNat=i:=by lia
  rw[if_pos h,hi,List.getElem?_set_self (by lia)]
  rfl
 ·have hi:j.toNat≠i:=by lia
  rw[if_neg h,List.getElem?_set_ne hi]
  lia
structure AB(p:Nat)(ts:List c9):Prop where
 ends:∀ t∈ts,0<=t.1/\t.1<(p:Int)/\0<=t.2.1/\t.2.1<(p:Int)
theorem step_get{p:Nat}{ts:List c9}(W:AB p ts)(e:List Int)(k i:Nat)(he:e.length=p):(step ts e k).getD i 0=e.getD i 0+FI ts k i:=by
 unfold step FI;cases h:ts[k]? with
 | none=>simp
 | some t =>
   obtain⟨a0,a1,b0,b1⟩:=W.ends t (m8 h);dsimp only;rw[wZ _ _ _ b0 (by rw[jA,he];exact b1),wZ _ _ _ a0 (by rw[he];exact a1)]
   lia
def oR(ts:List c9)(ks:List Nat)(i:Nat):Int:=(ks.map fun k=>FI ts k i).sum
theorem w6{p:Nat}{ts:List c9}(W:AB p ts)(i:Nat):∀(ks:List Nat) (e:List Int),e.length=p->(ks.foldl (step ts) e).getD i 0=e.getD i 0+oR ts ks i
 | [],e,_=>by simp[oR]
 | k::r,e,he=>by
   rw[List.foldl_cons,w6 W i r _ (by rw[DR,he]),step_get W e k i he]
   unfold oR;rw[List.map_cons,List.sum_cons]
   lia
theorem DS{p:Nat}{ts:List c9}(W:AB p ts)(S:Int)(i:Nat):(jl p ts S).getD i 0=oR ts (bC S) i:=by
 unfold jl;rw[w6 W i _ _ (by simp)]
 have e:(List.replicate p (0:Int)).getD i 0=0:=by
  rw[List.getD_eq_getElem?_getD,List.getElem?_replicate]
  split<;>rfl
 rw[e]
 lia
theorem i0(m k:Nat):bit (m:Int) k=m.testBit k:=by
 unfold bit;rw[Nat.testBit_eq_decide_div_mod_eq];have e:((m:Int)/2^k%2=1)↔(m/2^k%2=1):=by
  have h2:((2:Int)^k)=((2^k:Nat):Int):=by simp
  rw[h2,<-Int.natCast_ediv]
  lia
 simp only[e]
theorem qW(m:Nat):Builtin.Int.intBits (m:Int)=if m=0 then 0 else m.log2+1:=by
 unfold Builtin.Int.intBits
 by_cases h:m=0
 ·simp[h]
 ·simp[h]
theorem bits_le{m n:Nat}(h:m<2^n):Builtin.Int.intBits (m:Int)<=n:=by
 rw[qW]
 split
 ·exact Nat.zero_le _
 ·rename_i h0
  exact(Nat.log2_lt h0).mpr h
theorem DT{m k:Nat}(h:Builtin.Int.intBits (m:Int)<=k):bit (m:Int) k=false:=by
 rw[i0];rw[qW]at h
 by_cases h0:m=0
 ·simp[h0]
 ·rw[if_neg h0]at h;exact Nat.testBit_lt_two_pow (Nat.lt_of_lt_of_le Nat.lt_log2_self (Nat.pow_le_pow_right (by decide) h))
theorem nA(f:Nat->Bool)(a:Nat):∀ d,(∀ k,a<=k->f k=false)->(List.range (a+d)).filter f=(List.range a).filter f
 | 0,_=>rfl
 | d+1,h=>by
   rw[<-Nat.add_assoc,List.range_succ,List.filter_append,nA f a d h];have e:[a+d].filter f=[]:=by rw[List.filter_cons,if_neg (by rw[h _ (by lia)];simp)];rfl
   rw[e,List.append_nil]
theorem fL{m n:Nat}(h:m<2^n):bC (m:Int)=(List.range n).filter fun k=>m.testBit k:=by
 unfold bC;have hb:=bits_le h;obtain⟨d,hd⟩:=Nat.exists_eq_add_of_le hb;have e:(fun k=>m.testBit k)=bit (m:Int):=funext fun k=>(i0 m k).symm
 rw[e]
 conv=>rhs;rw[hd]
 exact(nA _ _ d fun k hk=>DT hk).symm
theorem qv{m n:Nat}(h:m<2^n){k:Nat}(hk:k∈bC (m:Int)):k<n:=by
 rw[fL h]at hk;exact List.mem_range.mp (List.mem_filter.mp hk).1
theorem sum_filter(ts:List c9)(i:Nat)(f:Nat->Bool):∀ ks:List Nat,oR ts (ks.filter f) i=(ks.map fun k=>if f k=true then FI ts k i else 0).sum
 | []=>rfl
 | k::r=>by
   have ih:=sum_filter ts i f r;rw[List.map_cons,List.sum_cons,<-ih];cases h:f k with
   | true =>
     rw[List.filter_cons,if_pos h];unfold oR;rw[List.map_cons,List.sum_cons];simp
   | false =>
     rw[List.filter_cons,if_neg (by rw[h];simp)]
     simp
theorem DU{a b x y:Nat}(q:x/2+2*(y/2)=a/2+b/2)(h:x%2+2*(y%2)=a%2+b%2):x+2*y=a+b:=by lia
theorem mod_one{u v:Nat}(hu:u=0\/u=1)(hv:v=0\/v=1):(u^^^v)+2*(u&&&v)=u+v:=by
 rcases hu with rfl|rfl<;>rcases hv with rfl|rfl<;>rfl
theorem Gq:∀ a b:Nat,(a^^^b)+2*(a&&&b)=a+b:=by
 intro a
 induction a using Nat.strongRecOn with
 | ind a ih =>
   intro b
   by_cases h:a=0
   ·subst h;simp
   ·have q:=ih (a/2) (by lia) (b/2)
    rw[<-Nat.xor_div_two,<-Nat.and_div_two]at q;refine DU q ?_;have e1:(a^^^b)%2=a%2^^^b%2:=Nat.xor_mod_two_pow (n:=1);have e2:(a&&&b)%2=a%2&&&b%2:=Nat.and_mod_two_pow (n:=1);rw[e1,e2];exact mod_one (Nat.mod_two_eq_zero_or_one a) (Nat.mod_two_eq_zero_or_one b)
theorem xor_int(a b:Nat):Builtin.bitXor (a:Int) (b:Int)=((a^^^b:Nat):Int):=by
 have h:(a:Int)+b-2*((a&&&b:Nat):Int)=((a^^^b:Nat):Int):=by
  have q:=Gq a b
  lia
 have e:=PyProof.Rows.bitXor_and (a:Int) (b:Int);rw[e,PyProof.Rows.bitAnd_pp (by lia) (by lia)]
 simpa using h
open PySem L2
def Gr(t:c9):List V:=[.int t.1,.int t.2.1,.int t.2.2]
def TupAt(H:Hp)(x:V)(t:c9):Prop:=∃ b,x = .ref b/\H b=some (.tup (Gr t))
structure bg(H:Hp)(w:Addr)(p:Nat)(ts:List c9):Prop where
 ex:∃ b xs,H w=some (.tup [.int (p:Int),.ref b])/\H b=some (.tup xs)/\Paired (TupAt H) xs ts
structure HA(p:Nat)(ts:List c9):Prop where
 Pn:AB p ts
 len:ts.length<=24
 Po:p<=10
theorem TupAt.tups{H H' : Hp}(s:jz H H'){x:V}{t:c9}(h:TupAt H x t):TupAt H' x t:=by
 obtain⟨b,e,h⟩:=h;exact⟨b,e,s _ _ h⟩
theorem bg.tups{H H' : Hp}{w:Addr}{p:Nat}{ts:List c9}(s:jz H H')(h:bg H w p ts):bg H' w p ts:=by
 obtain⟨b,xs,h1,h2,h3⟩:=h.ex;exact⟨b,xs,s _ _ h1,s _ _ h2,Paired.imp' (fun _ _ z=>z.tups s) h3⟩
theorem bg.same{H H' : Hp}{w:Addr}{p:Nat}{ts:List c9}(s:au H H')(h:bg H w p ts):bg H' w p ts:=h.tups s.tups
def aG(l:List Nat):List V:=l.map fun k=>V.int ((k:Nat):Int)
theorem bL(l:List Nat)(k:Nat):aG (l++[k])=aG l++[.int (k:Int)]:=by unfold aG;rw[List.map_append];rfl
theorem aA(l:List Nat):(aG l).length=l.length:=by unfold aG;rw[List.length_map]
theorem bJ{l:List Nat}{i:Nat}{x:V}(h:(aG l)[i]?=some x):∃ k,l[i]?=some k/\x = .int (k:Int):=by
 unfold aG at h;rw[List.getElem?_map]at h;obtain⟨k,e,q⟩:=Ah.mp h;exact⟨k,e,q.symm⟩
theorem aW(f:Nat->Bool)(i:Nat):(List.range (i+1)).filter f=(List.range i).filter f++(if f i=true then[i] else[]):=by
 rw[List.range_succ,List.filter_append]
 congr 1
 cases h:f i with
 | true=>rw[List.filter_cons,if_pos h,if_pos rfl];rfl
 | false=>rw[List.filter_cons,if_neg (by rw[h];simp),if_neg (by simp)];rfl
def nB(f:Nat->Bool)(H:Hp)(D:Addr)(i:Nat)(acc:List V)(H2:Hp):Prop:=au H H2/\H2 D=some (.lst acc)/\acc=aG ((List.range i).filter f)
section
variable {f:Nat->Bool}{H H2 H3:Hp}{D:Addr}{i:Nat}{acc:List V}
theorem nB.start(hD:H D=none):nB f H D 0 [] (upd H D (.lst [])):=⟨au.new hD,ae,rfl⟩
theorem nB.len(p:nB f H D i acc H2):H2 D=some (.lst acc)/\acc.length<=i:=by
 refine⟨p.2.1,?_⟩;rw[p.2.2,aA];exact Nat.le_trans (List.length_filter_le _ _) (by rw[List.length_range];exact Nat.le_refl _)
theorem nB.yes(p:nB f H D i acc H2)(hD:H D=none)(s:au H2 H3)(hf:f i=true):H3 D=some (.lst acc)/\nB f H D (i+1) (acc++[.int (i:Int)]) (upd H3 D (.lst (acc++[.int (i:Int)]))):=by
 refine⟨s _ _ p.2.1,(p.1.trans s).put hD,ae,?_⟩;rw[aW,if_pos hf,bL,<-p.2.2]
theorem nB.no(p:nB f H D i acc H2)(s:au H2 H3)(hf:f i=false):nB f H D (i+1) acc H3:=by
 refine⟨p.1.trans s,s _ _ p.2.1,?_⟩;rw[aW,if_neg (by rw[hf];simp),List.append_nil]
 exact p.2.2
end
def cD(ts:List c9)(k:Nat):c9:=ts.getD k (0,0,0)
def stepT(e:List Int)(t:c9):List Int:=bump (bump e t.1) t.2.1
theorem ud{ts:List c9}:∀(ks:List Nat) (e:List Int),(∀ k∈ks,k<ts.length)->(ks.map (cD ts)).foldl stepT e=ks.foldl (step ts) e
 | [],_,_=>rfl
 | k::r,e,h=>by
   rw[List.map_cons,List.foldl_cons,List.foldl_cons,ud r _ fun j hj=>h j (lJ _ hj)]
   have hk:=h k List.mem_cons_self;have e1:ts[k]?=some (cD ts k):=by
    unfold cD;rw[List.getD_eq_getElem?_getD];simp[hk]
   have e2:step ts e k=stepT e (cD ts k):=by
    unfold step stepT;rw[e1]
   rw[e2]
theorem ue{p:Nat}{ts:List c9}{m:Nat}(h:m<2^ts.length):jl p ts (m:Int)=((bC (m:Int)).map (cD ts)).foldl stepT (List.replicate p 0):=by
 unfold jl;rw[ud _ _ fun k hk=>qv h hk]
theorem BA(e:List Int)(t:c9):(stepT e t).length=e.length:=by unfold stepT;rw[jA,jA]
theorem oS:∀(l:List c9) (e:List Int),(l.foldl stepT e).length=e.length
 | [],_=>rfl
 | t::r,e=>by rw[List.foldl_cons,oS r,BA]
def kQ(l:List Int):List V:=l.map V.int
theorem oU{l:List Int}{i:Nat}(h:i<l.length):(kQ l)[i]?=some (.int (l.getD i 0)):=by
 unfold kQ;rw[List.getElem?_map,List.getD_eq_getElem?_getD];simp[h]
theorem qX(l:List Int)(i:Nat):(kQ l).set i (.int (l.getD i 0+1))=kQ (bump l (i:Int)):=by
 unfold kQ bump;rw[Int.toNat_natCast,List.map_set]
theorem DV(p:Nat):(List.replicate p [V.int 0]).flatten=kQ (List.replicate p 0):=by
 induction p with
 | zero=>rfl
 | succ p ih=>rw[List.replicate_succ,List.flatten_cons,ih,List.replicate_succ];rfl
theorem qw{n j:Nat}(h:j<n):Gb n (j:Int)=some j:=by
 unfold Gb;rw[if_pos (by lia),if_pos (by lia),Int.toNat_natCast]
def ve(k:Nat):PyData:=.int (k:Int)
theorem nC{K:bI}{H:Hp}:∀ l:List Nat,DatVs K H (aG l) (l.map ve)
 | []=>.nil
 | _::r=>.cons (.int _) (nC r)
theorem w9:∀ l:List Nat,PyData.canLayAll0 (l.map ve)=true
 | []=>rfl
 | _::r=>by
   have ih:=w9 r;simp only[List.map_cons,PyData.canLayAll0,ih,Bool.and_true];rfl
theorem uf:∀ l:List Nat,PyData.depthAll (l.map ve)=0
 | []=>rfl
 | _::r=>by
   have ih:=uf r;show max (PyData.depth (PyData.int _)) (PyData.depthAll (r.map _))=0;rw[ih];rfl
theorem kR(l:List Nat):SeqAt.shaped (.list (l.map ve))=true:=by
 unfold SeqAt.shaped;have e:(PyData.list (l.map ve)).canLay0=PyData.canLayAll0 (l.map ve):=by simp[PyData.canLay0]
 rw[e,w9,Bool.true_and];refine cN ?_;have e2:PyData.depth (PyData.list (l.map ve))=PyData.depthAll (l.map ve)+1:=by simp[PyData.depth]
 rw[e2,uf]
 decide
theorem vf(l:List Nat):PyData.eqv (.list (l.map ve)) (.list [])=decide (l=[]):=by
 cases l with
 | nil=>rfl
 | cons a r=>rfl
theorem IY(S:Int)(k:Nat):decide (V.int (Builtin.bitAnd (S/2^k) 1)=V.int 1)=bit S k:=by
 unfold bit;rw[PyProof.Rows.bitAnd_m1];rw[Bool.eq_iff_iff];simp
theorem yR(S:Int)(k:Nat):decide (V.int (S/2^k%2)=V.int 1)=bit S k:=by
 unfold bit;rw[Bool.eq_iff_iff];simp
theorem Gs(x:Int):decide (V.int x=V.int 1)=decide (x=1):=by
 rw[Bool.eq_iff_iff];simp
structure nE(p:Int)(t:c9):Prop where
 a0:0<=t.1
 a1:t.1<p
 b0:0<=t.2.1
 b1:t.2.1<p
 ne:t.1≠t.2.1
 l0:1<=t.2.2
 l1:t.2.2<=1000000000000000000000000000000
structure aB(p:Nat)(ts:List c9):Prop where
 p1:1<=p
 p2:p<=10
 len:ts.length<=24
 BB:∀ t∈ts,nE (p:Int) t
theorem aB.CZ{p:Nat}{ts:List c9}(g:aB p ts):HA p ts:=⟨⟨fun t ht=>let z:=g.BB t ht;⟨z.a0,z.a1,z.b0,z.b1⟩⟩,g.len,g.p2⟩
def p8(p:Int)(H:Hp)(D:Addr)(n:Nat)(H2:Hp):Prop:=au H H2/\∃ acc ts,H2 D=some (.lst acc)/\Paired (TupAt H2) acc ts/\acc.length=n/\∀ t∈ts,nE p t
section
variable {p:Int}{H H2 H3:Hp}{D b:Addr}{n:Nat}{t:c9}
theorem p8.start(hD:H D=none):p8 p H D 0 (upd H D (.lst [])):=⟨au.new hD,[],[],ae,.nil,rfl,fun t ht=>nomatch ht⟩
theorem p8.push(h:p8 p H D n H2)(hD:H D=none)(s:au H2 H3)(g:nE p t)(hb:H3 b=some (.tup (Gr t))):
 ∃ acc,H3 D=some (.lst acc)/\acc.length=n/\p8 p H D (n+1) (upd H3 D (.lst (acc++[.ref b]))):=by
 obtain⟨s2,acc,ts,hd,pr,hn,gt⟩:=h;have HB:H3 D=some (.lst acc):=s _ _ hd;refine⟨acc,HB,hn,(s2.trans s).put hD,acc++[.ref b],ts++[t],ae,?_,by rw[List.length_append,List.length_singleton,hn],fun u hu=>?_⟩
 ·exact Paired.snoc (Paired.imp' (fun _ _ z=>z.tups (s.tups.trans (jz.put HB))) pr) ⟨b,rfl,jz.put HB _ _ hb⟩
 ·rcases List.mem_append.mp hu with hu|hu
  ·exact gt u hu
  ·cases List.mem_singleton.mp hu;exact g
theorem p8.fin{q:Nat}(h:p8 (q:Int) H D n H2):∃ acc ts,H2 D=some (.lst acc)/\ts.length=n/\(∀ t∈ts,nE (q:Int) t)/\∀ l,H2 l=none->∀ w,upd H2 l (.tup acc) w=none->
 au H (upd (upd H2 l (.tup acc)) w (.tup [.int (q:Int),.ref l]))/\bg (upd (upd H2 l (.tup acc)) w (.tup [.int (q:Int),.ref l])) w q ts:=by
 obtain⟨s2,acc,ts,hd,pr,hn,gt⟩:=h;refine⟨acc,ts,hd,by rw[<-pr.length,hn],gt,fun l hl w hw=>?_⟩
 have n1:au H2 (upd H2 l (.tup acc)):=au.new hl;have n2:=n1.trans (au.new (o:=.tup [.int (q:Int),.ref l]) hw);refine⟨s2.trans n2,l,acc,ae,?_,Paired.imp' (fun _ _ z=>z.tups n2.tups) pr⟩
 rw[ay (aS ae hw),ae]
end
theorem DW{p o r:Int}(h:0<=o)(h1:o<p)(r0:0<=r)(r1:r<p-1):0<=(o+1+r)%p/\(o+1+r)%p<p/\o≠(o+1+r)%p:=by
 have hp:0<p:=by lia
 refine⟨Int.emod_nonneg _ (by lia),Int.emod_lt_of_pos _ hp,?_⟩
 by_cases hlt:o+1+r<p
 ·rw[Int.emod_eq_of_lt (by lia) hlt]
  lia
 ·have e:(o+1+r)%p=o+1+r-p:=by
   rw[<-Int.sub_emod_right,Int.emod_eq_of_lt (by lia) (by lia)]
  rw[e]
  lia
theorem e7{n:Nat}(h:n<=24):n<=sizeLine:=Nat.le_of_lt (ir (by lia))
theorem bT{n:Nat}(h:n<=900):n<sizeLine:=ir (by lia)
theorem Gu{ns:List Int}{k:Nat}(h:k<ns.length):(ns.map V.int)[k]?=some (.int (ns.getD k 0)):=by
 rw[List.getElem?_map,List.getD_eq_getElem?_getD];simp[h]
theorem mD(x m:Int)(h:0<m):0<=x%m/\x%m<m:=⟨Int.emod_nonneg _ (by lia),Int.emod_lt_of_pos _ h⟩
end Ring
namespace RM
def bF(f:Nat->Bool):Nat->Bool
 | 0=>false
 | n+1=>bF f n^^f n
theorem bM{f g:Nat->Bool}:∀{n:Nat},(∀ k,k<n->f k=g k)->bF f n=bF g n
 | 0,_=>rfl
 | n+1,h=>by
   unfold bF;rw[bM fun k hk=>h k (by lia),h n (by lia)]
theorem iI(f g:Nat->Bool):∀ n,bF (fun k=>f k^^g k) n=(bF f n^^bF g n)
 | 0=>rfl
 | n+1=>by
   unfold bF;rw[iI f g n];cases bF f n<;>cases bF g n<;>cases f n<;>cases g n<;>rfl
theorem mQ:∀ n,bF (fun _=>false) n=false
 | 0=>rfl
 | n+1=>by unfold bF;rw[mQ n];rfl
theorem nF(c:Bool)(f:Nat->Bool):∀ n,bF (fun k=>c&&f k) n=(c&&bF f n)
 | 0=>by cases c<;>rfl
 | n+1=>by
   unfold bF;rw[nF c f n];cases c<;>simp
theorem ug(f:Nat->Nat->Bool)(n:Nat):∀ m,bF (fun x=>bF (fun k=>f x k) n) m=bF (fun k=>bF (fun x=>f x k) m) n
 | 0=>by
   show false=_;rw[<-mQ n];rfl
 | m+1=>by
   show(bF (fun x=>bF (fun k=>f x k) n) m^^bF (fun k=>f m k) n)=_
   rw[ug f n m,<-iI];rfl
theorem iw{f:Nat->Bool}{n:Nat}(h:∀ k,k<n->f k=false):bF f n=false:=by
 rw[bM (g:=fun _=>false) h,mQ]
theorem qY{f:Nat->Bool}{a:Nat}:∀{n:Nat},a<n->(∀ k,k<n->k≠a->f k=false)->bF f n=f a
 | 0,h,_=>absurd h (Nat.not_lt_zero _)
 | n+1,h,z=>by
   unfold bF
   by_cases e:a=n
   ·subst e;rw[iw fun k hk=>z k (by lia) (by lia)]
    simp
   ·rw[qY (a:=a) (by lia) fun k hk hn=>z k (by lia) hn,z n (by lia) (fun q=>e q.symm)]
    simp
theorem iJ(C:Nat->Bool){a m:Nat}(h:a<m):bF (fun x=>C x&&decide (a=x)) m=C a:=by
 rw[qY h fun k _ hk=>by simp[Ne.symm hk]]
 simp
structure Net where
 p:Nat
 n:Nat
 a:Nat->Nat
 b:Nat->Nat
 al:∀ k,k<n->a k<p
 bl:∀ k,k<n->b k<p
 ne:∀ k,k<n->a k≠b k
variable (N:Net)
def Net.inc(k x:Nat):Bool:=decide (N.a k=x)^^decide (N.b k=x)
def Net.bd(m x:Nat):Bool:=bF (fun k=>m.testBit k&&N.inc k x) N.n
def Net.eg(m:Nat):Prop:=∀ x,x<N.p->N.bd m x=false
variable {N}
theorem gW(m q x:Nat):N.bd (m^^^q) x=(N.bd m x^^N.bd q x):=by
 unfold Net.bd;rw[<-iI];refine bM fun k _=>?_
 rw[Nat.testBit_xor];cases m.testBit k<;>cases q.testBit k<;>cases N.inc k x<;>rfl
theorem vg(x:Nat):N.bd 0 x=false:=by
 unfold Net.bd;exact iw fun k _=>by simp
theorem mR{k:Nat}(h:k<N.n)(x:Nat):N.bd (2^k) x=N.inc k x:=by
 unfold Net.bd;rw[qY h fun j _ hj=>by simp[Nat.testBit_two_pow,Ne.symm hj]]
 simp[Nat.testBit_two_pow]
theorem eg.xor{m q:Nat}(h:N.eg m)(h' : N.eg q):N.eg (m^^^q):=fun x hx=>by rw[gW,h x hx,h' x hx];rfl
theorem eg.zero:N.eg 0:=fun x _=>vg x
theorem DX{m:Nat}(C:Nat->Bool)(h:∀ k,k<N.n->m.testBit k=true->C (N.a k)=C (N.b k)):bF (fun x=>C x&&N.bd m x) N.p=false:=by
 have e:bF (fun x=>C x&&N.bd m x) N.p=bF (fun x=>bF (fun k=>C x&&(m.testBit k&&N.inc k x)) N.n) N.p :=
  bM fun x _=>(nF (C x) _ N.n).symm
 rw[e,ug];refine iw fun k hk=>?_
 have e2:bF (fun x=>C x&&(m.testBit k&&N.inc k x)) N.p=(m.testBit k&&(C (N.a k)^^C (N.b k))):=by
  rw[<-iJ C (N.al k hk),<-iJ C (N.bl k hk),<-iI,<-nF];refine bM fun x _=>?_
  unfold Net.inc;cases C x<;>cases m.testBit k<;>cases decide (N.a k=x)<;>cases decide (N.b k=x)<;>rfl
 rw[e2];cases hb:m.testBit k with
 | false=>rfl
 | true=>rw[h k hk hb];simp
def join(L:Nat->Nat)(u v:Nat):Nat->Nat:=fun x=>if L x=max (L u) (L v) then min (L u) (L v) else L x
theorem join_eq{L:Nat->Nat}{u v x y:Nat}(h:L x=L y):join L u v x=join L u v y:=by unfold join;rw[h]
theorem uh(L:Nat->Nat)(u v:Nat):join L u v u=join L u v v:=by
 unfold join
 split<;>split<;>lia
theorem um{L:Nat->Nat}{u v:Nat}(h:L u=L v):join L u v=L:=by
 funext x
 unfold join;rw[h]
 split<;>lia
theorem qZ{L:Nat->Nat}{u v x y:Nat}(h:join L u v x=join L u v y):L x=L y\/(L x=L u/\L y=L v)\/(L x=L v/\L y=L u):=by
 unfold join at h;have mm:(max (L u) (L v)=L u/\min (L u) (L v)=L v)\/(max (L u) (L v)=L v/\min (L u) (L v)=L u):=by
  rcases Nat.le_total (L u) (L v) with q|q
  ·exact .inr ⟨Nat.max_eq_right q,Nat.min_eq_left q⟩
  ·exact .inl ⟨Nat.max_eq_left q,Nat.min_eq_right q⟩
 rcases mm with⟨e1,e2⟩|⟨e1,e2⟩
 ·rw[e1,e2]at h
  split at h
  ·rename_i hx
   split at h
   ·rename_i hy
    exact .inl (hx.trans hy.symm)
   ·exact .inr (.inl ⟨hx,h.symm⟩)
  ·split at h
   ·rename_i hy
    exact .inr (.inr ⟨h,hy⟩)
   ·exact .inl h
 ·rw[e1,e2]at h
  split at h
  ·rename_i hx
   split at h
   ·rename_i hy
    exact .inl (hx.trans hy.symm)
   ·exact .inr (.inr ⟨hx,h.symm⟩)
  ·split at h
   ·rename_i hy
    exact .inr (.inl ⟨h,hy⟩)
   ·exact .inl h
theorem join_le{L:Nat->Nat}{u v x:Nat}(h:L x<=x):join L u v x<=x:=by
 unfold join
 split<;>lia
theorem BC{L:Nat->Nat}{u v:Nat}(h:∀ x,L (L x)=L x)(x:Nat):join L u v (join L u v x)=join L u v x:=by
 have hu:=h u;have hv:=h v;have hx:=h x;have hlo:L (min (L u) (L v))=min (L u) (L v):=by
  rcases Nat.le_total (L u) (L v) with q|q
  ·rw[Nat.min_eq_left q];exact hu
  ·rw[Nat.min_eq_right q];exact hv
 unfold join
 split
 ·rw[hlo]
  split<;>lia
 ·rw[hx]
  split<;>lia
def Net.aN(N:Net)(S:Nat->Bool):Nat->Nat->Nat
 | 0=>fun x=>x
 | k+1=>if S k=true then join (Net.aN N S k) (N.a k) (N.b k) else Net.aN N S k
variable {S:Nat->Bool}
theorem nG:∀(k x:Nat),N.aN S k x<=x
 | 0,_=>Nat.le_refl _
 | k+1,x=>by
   unfold Net.aN
   split
   ·exact join_le (nG k x)
   ·exact nG k x
theorem bN:∀(k x:Nat),N.aN S k (N.aN S k x)=N.aN S k x
 | 0,_=>rfl
 | k+1,x=>by
   by_cases hs:S k=true
   ·have e:N.aN S (k+1)=join (N.aN S k) (N.a k) (N.b k):=by
     conv=>lhs;unfold Net.aN
     rw[if_pos hs]
    rw[e];exact BC (bN k) x
   ·have e:N.aN S (k+1)=N.aN S k:=by
     conv=>lhs;unfold Net.aN
     rw[if_neg hs]
    rw[e];exact bN k x
theorem uo{x y k:Nat}(h:N.aN S k x=N.aN S k y):∀ d,N.aN S (k+d) x=N.aN S (k+d) y
 | 0=>h
 | d+1=>by
   have ih:=uo h d;show N.aN S (k+d+1) x=N.aN S (k+d+1) y;unfold Net.aN
   split
   ·exact join_eq ih
   ·exact ih
theorem gQ{j k:Nat}(h:j<k)(hs:S j=true):N.aN S k (N.a j)=N.aN S k (N.b j):=by
 obtain⟨d,rfl⟩:=Nat.exists_eq_add_of_le (Nat.succ_le_of_lt h);refine uo ?_ d;show N.aN S (j+1) (N.a j)=N.aN S (j+1) (N.b j);unfold Net.aN;rw[if_pos hs];exact uh _ _ _
inductive Net.kI(N:Net)(S:Nat->Bool)(k u:Nat):Nat->Prop
 | refl:Net.kI N S k u u
 | fwd {j:Nat} (h:Net.kI N S k u (N.a j)) (hj:j<k) (hs:S j=true):Net.kI N S k u (N.b j)
 | bwd {j:Nat} (h:Net.kI N S k u (N.b j)) (hj:j<k) (hs:S j=true):Net.kI N S k u (N.a j)
theorem Net.kI.trans{k u v w:Nat}(h:N.kI S k u v)(h' : N.kI S k v w):N.kI S k u w:=by
 induction h' with
 | refl=>exact h
 | fwd _ hj hs ih=>exact .fwd ih hj hs
 | bwd _ hj hs ih=>exact .bwd ih hj hs
theorem Net.kI.mono{k l u v:Nat}(h:N.kI S k u v)(oB:k<=l):N.kI S l u v:=by
 induction h with
 | refl=>exact .refl
 | fwd _ hj hs ih=>exact .fwd ih (by lia) hs
 | bwd _ hj hs ih=>exact .bwd ih (by lia) hs
theorem bx:∀(k u v:Nat),N.aN S k u=N.aN S k v->N.kI S k u v
 | 0,u,v,h=>by
   have e:u=v:=h;subst e;exact .refl
 | k+1,u,v,h=>by
   unfold Net.aN at h
   split at h
   ·rename_i hs
    rcases qZ h with q|⟨q1,q2⟩|⟨q1,q2⟩
    ·exact(bx k u v q).mono (by lia)
    ·have c1:=(bx k u _ q1).mono (Nat.le_succ k);have c2:=(bx k _ v q2.symm).mono (Nat.le_succ k);exact Net.kI.trans (.fwd c1 (by lia) hs) c2
    ·have c1:=(bx k u _ q1).mono (Nat.le_succ k);have c2:=(bx k _ v q2.symm).mono (Nat.le_succ k);exact Net.kI.trans (.bwd c1 (by lia) hs) c2
   ·exact(bx k u v h).mono (by lia)
def Net.dX(N:Net)(k:Nat):Nat->Nat:=N.aN (fun _=>true) k
def Net.kJ(N:Net)(k:Nat):Bool:=!decide (N.dX k (N.a k)=N.dX k (N.b k))
theorem xg(k:Nat):N.dX (k+1)=if N.kJ k=true then join (N.dX k) (N.a k) (N.b k) else N.dX k:=by
 show N.aN (fun _=>true) (k+1)=_
 unfold Net.aN;rw[if_pos rfl];unfold Net.kJ
 by_cases h:N.dX k (N.a k)=N.dX k (N.b k)
 ·rw[if_neg (by simp[h])]
  exact um h
 ·rw[if_pos (by simp[h])]
  rfl
theorem jS{m:Nat}(hf:∀ k,m.testBit k=true->k<N.n/\N.kJ k=true)(he:N.eg m):m=0:=by
 by_cases h0:m=0
 ·exact h0
 exfalso
 have hK:m.testBit m.log2=true:=Nat.testBit_log2 h0;obtain⟨MR,MS⟩:=hf _ hK;generalize RS:m.log2=K at hK MR MS;have hlt:m<2^(K+1):=by rw[<-RS];exact Nat.lt_log2_self
 have hcl:=DX (N:=N) (m:=m^^^2^K) (fun x=>decide (N.dX K x=N.dX K (N.a K))) fun k hk hb=>by
  have RT:k<K:=by
   rw[Nat.testBit_xor,Nat.testBit_two_pow]at hb
   by_cases e:K=k
   ·subst e;simp[hK]at hb
   ·have hb' : m.testBit k=true:=by simpa[e]using hb
    have:k<K+1:=by
     by_cases q:k<K+1
     ·exact q
     ·have z:=Nat.testBit_lt_two_pow (Nat.lt_of_lt_of_le hlt (Nat.pow_le_pow_right (by decide) (show K+1<=k by lia)))
      rw[hb']at z;cases z
    lia
  have e:N.dX K (N.a k)=N.dX K (N.b k):=gQ (S:=fun _=>true) RT rfl
  show decide (N.dX K (N.a k)=_)=decide (N.dX K (N.b k)=_);rw[e]
 have e:bF (fun x=>decide (N.dX K x=N.dX K (N.a K))&&N.bd (m^^^2^K) x) N.p=bF (fun x=>decide (N.dX K x=N.dX K (N.a K))&&N.inc K x) N.p :=
  bM fun x hx=>by rw[gW,he x hx,mR MR];simp
 rw[e]at hcl;have e2:bF (fun x=>decide (N.dX K x=N.dX K (N.a K))&&N.inc K x) N.p=(decide (N.dX K (N.a K)=N.dX K (N.a K))^^decide (N.dX K (N.b K)=N.dX K (N.a K))):=by
  rw[<-iJ (fun x=>decide (N.dX K x=N.dX K (N.a K))) (N.al K MR),<-iJ (fun x=>decide (N.dX K x=N.dX K (N.a K))) (N.bl K MR),<-iI]
  refine bM fun x _=>?_
  unfold Net.inc;cases decide (N.dX K x=N.dX K (N.a K))<;>cases decide (N.a K=x)<;>cases decide (N.b K=x)<;>rfl
 rw[e2]at hcl;unfold Net.kJ at MS;have hne : ¬ N.dX K (N.b K)=N.dX K (N.a K):=fun q=>by rw[q]at MS;simp at MS
 simp[hne]at hcl
def Net.trail(N:Net):Nat->Nat->Nat
 | 0=>fun _=>0
 | k+1=>if N.kJ k=true then fun v=>if N.dX k v=max (N.dX k (N.a k)) (N.dX k (N.b k)) then Net.trail N k v^^^(Net.trail N k (N.a k)^^^Net.trail N k (N.b k)^^^2^k) else Net.trail N k v
   else Net.trail N k
theorem dc:∀(k v j:Nat),(N.trail k v).testBit j=true->j<k/\N.kJ j=true
 | 0,v,j,h=>by simp[Net.trail]at h
 | k+1,v,j,h=>by
   have ih:=dc k;unfold Net.trail at h
   split at h
   ·rename_i hf
    dsimp only at h
    split at h
    ·rw[Nat.testBit_xor,Nat.testBit_xor,Nat.testBit_xor,Nat.testBit_two_pow]at h
     by_cases e:k=j
     ·subst e;exact⟨by lia,hf⟩
     ·have z : ¬((N.trail k v).testBit j=false/\(N.trail k (N.a k)).testBit j=false/\(N.trail k (N.b k)).testBit j=false):=by
       rintro⟨z1,z2,z3⟩;simp[z1,z2,z3,e]at h
      cases h1:(N.trail k v).testBit j with
      | true=>obtain⟨q,r⟩:=ih v j h1;exact⟨by lia,r⟩
      | false=>cases h2:(N.trail k (N.a k)).testBit j with
        | true=>obtain⟨q,r⟩:=ih _ j h2;exact⟨by lia,r⟩
        | false=>cases h3:(N.trail k (N.b k)).testBit j with
          | true=>obtain⟨q,r⟩:=ih _ j h3;exact⟨by lia,r⟩
          | false=>exact absurd ⟨h1,h2,h3⟩ z
    ·obtain⟨q,r⟩:=ih v j h;exact⟨by lia,r⟩
   ·obtain⟨q,r⟩:=ih v j h;exact⟨by lia,r⟩
theorem DY(a b c d e f g h:Bool)(RU:(d^^f)=(g^^h)):((a^^g)^^(((c^^d)^^(e^^f))^^(c^^e)))=(a^^h):=by
 have e1:(((c^^d)^^(e^^f))^^(c^^e))=(d^^f):=by cases c<;>cases d<;>cases e<;>cases f<;>rfl
 rw[e1,RU];cases a<;>cases g<;>cases h<;>rfl
theorem kT:∀(k:Nat),k<=N.n->∀ v x,N.bd (N.trail k v) x=(decide (v=x)^^decide (N.dX k v=x))
 | 0,_,v,x=>by
   show N.bd 0 x=(decide (v=x)^^decide (v=x));rw[vg];simp
 | k+1,hk,v,x=>by
   have ih:=kT k (by lia)
   rw[xg];unfold Net.trail
   by_cases hf:N.kJ k=true
   ·rw[if_pos hf,if_pos hf]
    by_cases hm:N.dX k v=max (N.dX k (N.a k)) (N.dX k (N.b k))
    ·have e:join (N.dX k) (N.a k) (N.b k) v=min (N.dX k (N.a k)) (N.dX k (N.b k)):=by unfold join;rw[if_pos hm]
     show N.bd (if N.dX k v=_ then _ else _) x=_
     rw[if_pos hm,e,gW,gW,gW,mR (by lia),ih,ih,ih]
     unfold Net.inc;refine DY _ false _ _ _ _ _ _ ?_;rw[hm];rcases Nat.le_total (N.dX k (N.a k)) (N.dX k (N.b k)) with q|q
     ·rw[Nat.max_eq_right q,Nat.min_eq_left q,Bool.xor_comm]
     ·rw[Nat.max_eq_left q,Nat.min_eq_right q]
    ·have e:join (N.dX k) (N.a k) (N.b k) v=N.dX k v:=by unfold join;rw[if_neg hm]
     show N.bd (if N.dX k v=_ then _ else _) x=_
     rw[if_neg hm,e,ih]
   ·rw[if_neg hf,if_neg hf];exact ih v x
def Net.ring(N:Net)(c:Nat):Nat:=N.trail N.n (N.a c)^^^N.trail N.n (N.b c)^^^2^c
theorem DZ{c:Nat}(h:c<N.n):N.dX N.n (N.a c)=N.dX N.n (N.b c):=gQ (S:=fun _=>true) h rfl
theorem jB{c:Nat}(h:c<N.n):N.eg (N.ring c):=fun x _=>by
 unfold Net.ring;rw[gW,gW,mR h,kT _ (Nat.le_refl _),kT _ (Nat.le_refl _),DZ h];unfold Net.inc;cases decide (N.a c=x)<;>cases decide (N.b c=x)<;>cases decide (N.dX N.n (N.b c)=x)<;>rfl
theorem kU{c j:Nat}(h:(N.ring c).testBit j=true):j=c\/(j<N.n/\N.kJ j=true):=by
 unfold Net.ring at h;rw[Nat.testBit_xor,Nat.testBit_xor,Nat.testBit_two_pow]at h
 by_cases e:c=j
 ·exact .inl e.symm
 ·right
  cases h1:(N.trail N.n (N.a c)).testBit j with
  | true=>exact dc _ _ _ h1
  | false=>cases h2:(N.trail N.n (N.b c)).testBit j with
    | true=>exact dc _ _ _ h2
    | false=>simp[h1,h2,e]at h
theorem q9{c:Nat}(hf:N.kJ c=false):(N.ring c).testBit c=true:=by
 unfold Net.ring;rw[Nat.testBit_xor,Nat.testBit_xor,Nat.testBit_two_pow];cases h1:(N.trail N.n (N.a c)).testBit c with
 | true=>obtain⟨_,q⟩:=dc _ _ _ h1;rw[hf]at q;cases q
 | false=>cases h2:(N.trail N.n (N.b c)).testBit c with
   | true=>obtain⟨_,q⟩:=dc _ _ _ h2;rw[hf]at q;cases q
   | false=>simp
theorem BD{j:Nat}(h:j<N.n)(hf:N.kJ j=true):(N.trail N.n (N.a j)).testBit j=true\/(N.trail N.n (N.b j)).testBit j=true:=by
 have z:N.ring j=0:=jS (fun k hk=>by
  rcases kU hk with rfl|q
  ·exact⟨h,hf⟩
  ·exact q) (jB h)
 have b:(N.ring j).testBit j=false:=by rw[z];simp
 unfold Net.ring at b;rw[Nat.testBit_xor,Nat.testBit_xor,Nat.testBit_two_pow]at b;cases h1:(N.trail N.n (N.a j)).testBit j with
 | true=>exact .inl rfl
 | false=>cases h2:(N.trail N.n (N.b j)).testBit j with
   | true=>exact .inr rfl
   | false=>simp[h1,h2]at b
def cnt(f:Nat->Bool):Nat->Nat
 | 0=>0
 | n+1=>cnt f n+(if f n=true then 1 else 0)
theorem eE{f g:Nat->Bool}:∀{n:Nat},(∀ k,k<n->f k=g k)->cnt f n=cnt g n
 | 0,_=>rfl
 | n+1,h=>by
   unfold cnt;rw[eE fun k hk=>h k (by lia),h n (by lia)]
theorem xh{f g:Nat->Bool}{h:Nat}(hg:g h=true):∀{p:Nat},h<p->(∀ x,x<p->f x=(g x && !decide (x=h)))->cnt g p=cnt f p+1
 | 0,hh,_=>absurd hh (Nat.not_lt_zero _)
 | p+1,hh,e=>by
   unfold cnt
   by_cases q:h=p
   ·subst q;have z:cnt g h=cnt f h:=eE fun k hk=>by rw[e k (by lia)];simp[show k≠h by lia]
    rw[z,if_pos hg,e h (by lia)]
    simp
   ·rw[xh hg (by lia) fun x hx=>e x (by lia),e p (by lia)]
    simp[Ne.symm q]
    lia
theorem gm(f:Nat->Bool):∀ n,((List.range n).filter f).length=cnt f n
 | 0=>rfl
 | n+1=>by
   rw[List.range_succ,List.filter_append,List.length_append,gm f n];show _=cnt f n+(if f n=true then 1 else 0)
   cases h:f n with
   | true=>rw[List.filter_cons,if_pos h];rfl
   | false=>rw[List.filter_cons,if_neg (by rw[h];simp)];rfl
theorem i3(f:Nat->Bool):∀ n,cnt f n+cnt (fun k=>!f k) n=n
 | 0=>rfl
 | n+1=>by
   have ih:=i3 f n;unfold cnt;cases h:f n<;>simp<;>lia
theorem vh{f:Nat->Bool}:∀{n:Nat},(∀ k,k<n->f k=true)->cnt f n=n
 | 0,_=>rfl
 | n+1,h=>by
   unfold cnt;rw[vh fun k hk=>h k (by lia),if_pos (h n (by lia))]
variable {N:Net}{S:Nat->Bool}
def Net.root(N:Net)(S:Nat->Bool)(k x:Nat):Bool:=decide (N.aN S k x=x)
theorem fC(k:Nat):N.aN S (k+1)=if S k=true then join (N.aN S k) (N.a k) (N.b k) else N.aN S k:=by
 conv=>lhs;unfold Net.aN
theorem i4{k x:Nat}(h:x<N.p):N.aN S k x<N.p:=Nat.lt_of_le_of_lt (nG k x) h
theorem BE{L:Nat->Nat}{u v:Nat}(hr:∀ x,L (L x)=L x)(hne:L u≠L v)(x:Nat):decide (join L u v x=x)=(decide (L x=x) && !decide (x=max (L u) (L v))):=by
 have hhi:L (max (L u) (L v))=max (L u) (L v):=by
  rcases Nat.le_total (L u) (L v) with q|q
  ·rw[Nat.max_eq_right q];exact hr v
  ·rw[Nat.max_eq_left q];exact hr u
 have hlo:L (min (L u) (L v))=min (L u) (L v):=by
  rcases Nat.le_total (L u) (L v) with q|q
  ·rw[Nat.min_eq_left q];exact hr u
  ·rw[Nat.min_eq_right q];exact hr v
 unfold join
 by_cases h:L x=max (L u) (L v)
 ·rw[if_pos h];have h1 : ¬ min (L u) (L v)=x:=fun z=>by
   rw[<-z,hlo]at h
   lia
  by_cases h2:x=max (L u) (L v)
  ·simp[h1,h2]
   lia
  ·have h3 : ¬ L x=x:=fun z=>h2 (z.symm.trans h)
   simp[h1,h3]
 ·rw[if_neg h];have h2 : ¬ x=max (L u) (L v):=fun z=>h (by rw[z];exact hhi)
  simp[h2]
theorem rf{k:Nat}(hk:k<N.n):cnt (N.root S k) N.p=cnt (N.root S (k+1)) N.p+(if(S k && !decide (N.aN S k (N.a k)=N.aN S k (N.b k)))=true then 1 else 0):=by
 cases hs:S k with
 | false =>
   have e:N.root S (k+1)=N.root S k:=by unfold Net.root;rw[fC,if_neg (by rw[hs];simp)]
   rw[e];simp
 | true =>
   by_cases h:N.aN S k (N.a k)=N.aN S k (N.b k)
   ·have e:N.root S (k+1)=N.root S k:=by unfold Net.root;rw[fC,if_pos hs,um h]
    rw[e];simp[h]
   ·have hhi:N.aN S k (max (N.aN S k (N.a k)) (N.aN S k (N.b k)))=max (N.aN S k (N.a k)) (N.aN S k (N.b k)):=by
     rcases Nat.le_total (N.aN S k (N.a k)) (N.aN S k (N.b k)) with q|q
     ·rw[Nat.max_eq_right q];exact bN _ _
     ·rw[Nat.max_eq_left q];exact bN _ _
    have h1:=i4 (S:=S) (k:=k) (N.al k hk);have h2:=i4 (S:=S) (k:=k) (N.bl k hk);rw[xh (f:=N.root S (k+1)) (g:=N.root S k) (h:=max (N.aN S k (N.a k)) (N.aN S k (N.b k))) (cN hhi) (by lia) fun x _=>by
     unfold Net.root;rw[fC,if_pos hs];exact BE (bN k) h x]
    simp[h]
theorem nH:∀ k,k<=N.n->cnt (N.root (fun _=>true) k) N.p+cnt N.kJ k=N.p
 | 0,_=>by
   show cnt (N.root (fun _=>true) 0) N.p+0=N.p
   rw[vh (f:=N.root (fun _=>true) 0) fun x _=>cN rfl]
   rfl
 | k+1,hk=>by
   have ih:=nH k (by lia)
   have st:=rf (N:=N) (S:=fun _=>true) (k:=k) (by lia)
   have e:((fun _=>true:Nat->Bool) k && !decide (N.aN (fun _=>true) k (N.a k)=N.aN (fun _=>true) k (N.b k)))=N.kJ k:=by rw[Bool.true_and];rfl
   rw[e]at st;show cnt (N.root (fun _=>true) (k+1)) N.p+(cnt N.kJ k+if N.kJ k=true then 1 else 0)=N.p
   lia
theorem xj:(N.n:Int)-N.p+cnt (N.root (fun _=>true) N.n) N.p=(cnt (fun k=>!N.kJ k) N.n:Nat):=by
 have h:=nH (N:=N) N.n (Nat.le_refl _);have h2:=i3 N.kJ N.n
 lia
def Net.az(N:Net):List Nat:=(List.range N.n).filter fun k=>!N.kJ k
theorem cL{c:Nat}:c∈N.az↔c<N.n/\N.kJ c=false:=by
 unfold Net.az;rw[List.mem_filter,List.mem_range];simp
theorem yS:N.az.length=cnt (fun k=>!N.kJ k) N.n:=gm _ _
theorem gn{m n:Nat}(h:∀ k,m.testBit k=true->k<n):m<2^n:=Nat.lt_pow_two_of_testBit m fun k hk=>by
 cases q:m.testBit k with
 | false=>rfl
 | true=>exact absurd (h k q) (by lia)
theorem cP{m n k:Nat}(h:m<2^n)(hb:m.testBit k=true):k<n:=by
 by_cases q:k<n
 ·exact q
 ·have z:=Nat.testBit_lt_two_pow (Nat.lt_of_lt_of_le h (Nat.pow_le_pow_right (by decide) (show n<=k by lia)))
  rw[hb]at z;cases z
theorem iK{m q:Nat}(hm:m<2^N.n)(hq:q<2^N.n)(em:N.eg m)(eq:N.eg q)(h:∀ c,c<N.n->N.kJ c=false->m.testBit c=q.testBit c):m=q:=by
 have z:m^^^q=0:=jS (N:=N) (fun k hk=>by
  have hk':=cP (Nat.xor_lt_two_pow hm hq) hk;refine⟨hk',?_⟩;cases hf:N.kJ k with
  | true=>rfl
  | false =>
    rw[Nat.testBit_xor,h k hk' hf]at hk;simp at hk) (eg.xor em eq)
 have e:m=m^^^q^^^q:=by rw[Nat.xor_assoc,Nat.xor_self,Nat.xor_zero]
 rw[e,z,Nat.zero_xor]
theorem qx{c:Nat}(h:c<N.n):N.ring c<2^N.n:=gn fun k hk=>by
 rcases kU hk with rfl|⟨q,_⟩
 ·exact h
 ·exact q
theorem gp{c d:Nat}(hc:N.kJ c=false)(hd:N.kJ d=false):(N.ring c).testBit d=decide (c=d):=by
 by_cases e:c=d
 ·subst e;rw[q9 hc];simp
 ·cases q:(N.ring c).testBit d with
  | false=>simp[e]
  | true=>rcases kU q with rfl | ⟨_,r⟩
          ·exact absurd rfl e
          ·rw[hd]at r;cases r
def Net.dF(N:Net)(number:Nat):List Nat->Nat->Nat
 | [],_=>0
 | c::r,i=>(if number.testBit i=true then N.ring c else 0)^^^Net.dF N number r (i+1)
theorem lO{number:Nat}:∀{l:List Nat} {i:Nat},(∀ c∈l,c<N.n)->N.eg (N.dF number l i)/\N.dF number l i<2^N.n
 | [],_,_=>⟨eg.zero,Nat.two_pow_pos _⟩
 | c::r,i,h=>by
   obtain⟨h1,h2⟩:=lO (number:=number) (l:=r) (i:=i+1) fun d hd=>h d (lJ _ hd)
   have hc:=h c List.mem_cons_self;unfold Net.dF
   split
   ·exact⟨eg.xor (jB hc) h1,Nat.xor_lt_two_pow (qx hc) h2⟩
   ·rw[Nat.zero_xor];exact⟨h1,h2⟩
theorem xm{number d:Nat}(hd:N.kJ d=false):∀{l:List Nat} {i:Nat},(∀ c∈l,N.kJ c=false)->d∉l->(N.dF number l i).testBit d=false
 | [],_,_,_=>by simp[Net.dF]
 | c::r,i,h,hn=>by
   have ih:=xm (number:=number) (d:=d) hd (l:=r) (i:=i+1) (fun e he=>h e (lJ _ he)) fun q=>hn (lJ _ q)
   unfold Net.dF;rw[Nat.testBit_xor,ih]
   split
   ·rw[gp (h c List.mem_cons_self) hd];have:c≠d:=fun q=>hn (by rw[q];exact List.mem_cons_self)
    simp[this]
   ·simp
theorem xn{number:Nat}:∀{l:List Nat} {i j:Nat} {d:Nat},l.Nodup->(∀ c∈l,N.kJ c=false)->l[j]?=some d->(N.dF number l i).testBit d=number.testBit (i+j)
 | [],_,_,_,_,_,h=>by simp at h
 | c::r,i,0,d,hn,hf,h=>by
   have e:c=d:=by simpa using h
   subst e;have hc:=hf c List.mem_cons_self;unfold Net.dF;rw[Nat.testBit_xor,xm hc (fun e he=>hf e (lJ _ he)) (List.nodup_cons.mp hn).1]
   cases q:number.testBit (i+0) with
   | true=>rw[if_pos (by simpa using q),q9 hc];rfl
   | false=>rw[if_neg (by simpa using q)];simp
 | c::r,i,j+1,d,hn,hf,h=>by
   have h' : r[j]?=some d:=by simpa using h
   have hd:d∈r:=m8 h';have ih:=xn (number:=number) (l:=r) (i:=i+1) (j:=j) (d:=d) (List.nodup_cons.mp hn).2 (fun e he=>hf e (lJ _ he)) h'
   unfold Net.dF;rw[Nat.testBit_xor,ih];have hne:c≠d:=fun q=>(List.nodup_cons.mp hn).1 (q▸hd)
   have z:(if number.testBit i=true then N.ring c else 0).testBit d=false:=by
    split
    ·rw[gp (hf c List.mem_cons_self) (hf d (lJ _ hd))];simp[hne]
    ·simp
   rw[z,show i+1+j=i+(j+1) by lia]
   simp
end RM
namespace Ring
open PySem L2
def maskOf(f:Nat->Bool):Nat->Nat
 | 0=>0
 | n+1=>(if f n=true then 2^n else 0)+maskOf f n
theorem mask_lt(f:Nat->Bool):∀ n,maskOf f n<2^n
 | 0=>by show 0<1;decide
 | n+1=>by
   have ih:=mask_lt f n;have e:2^(n+1)=2^n+2^n:=by rw[Nat.pow_succ];lia
   unfold maskOf
   split<;>lia
theorem mask_bit(f:Nat->Bool)(j:Nat):∀ n,(maskOf f n).testBit j=(decide (j<n)&&f j)
 | 0=>by simp[maskOf]
 | n+1=>by
   have ih:=mask_bit f j n;have hl:=mask_lt f n;unfold maskOf
   by_cases h:f n=true
   ·rw[if_pos h];rcases Nat.lt_trichotomy j n with q|q|q
    ·rw[Nat.testBit_two_pow_add_gt q,ih];simp[q,show j<n+1 by lia]
    ·subst q;rw[Nat.testBit_two_pow_add_eq,ih];simp[h]
    ·have z:2^n+maskOf f n<2^j:=Nat.lt_of_lt_of_le (show 2^n+maskOf f n<2^(n+1) by rw[Nat.pow_succ];lia) (Nat.pow_le_pow_right (by decide) q)
     rw[Nat.testBit_lt_two_pow z];simp[show ¬ j<n+1 by lia]
   ·rw[if_neg h,Nat.zero_add,ih]
    by_cases q:j=n
    ·subst q;have h' : f j=false:=by simpa using h
     simp[h']
    ·by_cases r:j<n
     ·simp[r,show j<n+1 by lia]
     ·simp[r,show ¬ j<n+1 by lia]
theorem D3(n:Nat):maskOf (fun _=>true) n=2^n-1:=by
 induction n with
 | zero=>rfl
 | succ n ih =>
   unfold maskOf;rw[ih,if_pos rfl,Nat.pow_succ];have:=Nat.two_pow_pos n
   lia
theorem AD(n j:Nat):(2^n-1).testBit j=decide (j<n):=by
 rw[<-D3,mask_bit];simp
theorem IZ{a b x y:Nat}(q:x/2+y/2=a/2+b/2)(h:x%2+y%2=a%2+b%2):x+y=a+b:=by lia
theorem Ja{u v:Nat}(hu:u=0\/u=1)(hv:v=0\/v=1):(u ||| v)+(u&&&v)=u+v:=by
 rcases hu with rfl|rfl<;>rcases hv with rfl|rfl<;>rfl
theorem Jb:∀ a b:Nat,(a ||| b)+(a&&&b)=a+b:=by
 intro a
 induction a using Nat.strongRecOn with
 | ind a ih =>
   intro b
   by_cases h:a=0
   ·subst h;simp
   ·have q:=ih (a/2) (by lia) (b/2)
    rw[<-Nat.or_div_two,<-Nat.and_div_two]at q;refine IZ q ?_;have e1:(a ||| b)%2=a%2 ||| b%2:=Nat.or_mod_two_pow (n:=1)
    have e2:(a&&&b)%2=a%2&&&b%2:=Nat.and_mod_two_pow (n:=1);rw[e1,e2];exact Ja (Nat.mod_two_eq_zero_or_one a) (Nat.mod_two_eq_zero_or_one b)
theorem or_int(a b:Nat):Builtin.bitOr (a:Int) (b:Int)=((a ||| b:Nat):Int):=by
 have q:=Jb a b;rw[PyProof.Rows.bitOr_and,PyProof.Rows.bitAnd_pp (by lia) (by lia)]
 have h:(a:Int)+b-((a&&&b:Nat):Int)=((a ||| b:Nat):Int):=by lia
 simpa using h
theorem g8(k:Nat):(1:Int)*2^(k:Int).toNat=((2^k:Nat):Int):=by
 rw[Int.toNat_natCast,Int.one_mul];simp
theorem jC{ts:List c9}{k:Nat}(h:k<ts.length):cD ts k∈ts:=by
 unfold cD;rw[List.getD_eq_getElem?_getD];simp[h]
theorem oV{ts:List c9}{k:Nat}(h:k<ts.length):ts[k]?=some (cD ts k):=by
 unfold cD;rw[List.getD_eq_getElem?_getD];simp[h]
def aB.N{p:Nat}{ts:List c9}(g:aB p ts):RM.Net where
 p:=p
 n:=ts.length
 a:=fun k=>(cD ts k).1.toNat
 b:=fun k=>(cD ts k).2.1.toNat
 al:=fun k hk=>by
  have z:=g.BB _ (jC hk);have z0:=z.a0;have z1:=z.a1
  lia
 bl:=fun k hk=>by
  have z:=g.BB _ (jC hk);have z0:=z.b0;have z1:=z.b1
  lia
 ne:=fun k hk e=>by
  have z:=g.BB _ (jC hk);have z0:=z.a0;have z1:=z.b0;exact z.ne (by lia)
theorem AE{p:Nat}{ts:List c9}{g:aB p ts}{k:Nat}(h:k<ts.length):(cD ts k).1=((g.N.a k:Nat):Int):=by
 have z:=(g.BB _ (jC h)).a0;show _=(((cD ts k).1.toNat:Nat):Int)
 lia
theorem AF{p:Nat}{ts:List c9}{g:aB p ts}{k:Nat}(h:k<ts.length):(cD ts k).2.1=((g.N.b k:Nat):Int):=by
 have z:=(g.BB _ (jC h)).b0;show _=(((cD ts k).2.1.toNat:Nat):Int)
 lia
theorem Gv{p:Nat}{ts:List c9}{g:aB p ts}{k:Nat}(h:k<ts.length)(x:Nat):FI ts k x%2=if g.N.inc k x=true then 1 else 0:=by
 unfold FI RM.Net.inc;rw[oV h];dsimp only;rw[AE (g:=g) h,AF (g:=g) h];generalize g.N.a k=u;generalize g.N.b k=v
 by_cases h1:u=x
 ·by_cases h2:v=x
  ·simp[h1,h2]
  ·have Lv : ¬((v:Int)=(x:Int)):=by lia
   simp[h1,h2,Lv]
 ·have Hy : ¬((u:Int)=(x:Int)):=by lia
  by_cases h2:v=x
  ·simp[h1,h2,Hy]
  ·have Lv : ¬((v:Int)=(x:Int)):=by lia
   simp[h1,h2,Hy,Lv]
theorem D5{p:Nat}{ts:List c9}{g:aB p ts}(m x:Nat):∀ n,n<=ts.length->((List.range n).map fun k=>if m.testBit k=true then FI ts k x else 0).sum%2=if RM.bF (fun k=>m.testBit k&&g.N.inc k x) n=true then 1 else 0
 | 0,_=>rfl
 | n+1,h=>by
   have ih:=D5 (g:=g) m x n (by lia)
   have hd:=Gv (g:=g) (k:=n) (by lia) x
   rw[List.range_succ,List.map_append,List.sum_append];show(_+((if m.testBit n=true then FI ts n x else 0)+0))%2=if(RM.bF _ n^^(m.testBit n&&g.N.inc n x))=true then 1 else 0
   generalize ((List.range n).map fun k=>if m.testBit k=true then FI ts k x else 0).sum=u at ih ⊢
   generalize RM.bF (fun k=>m.testBit k&&g.N.inc k x) n=v at ih ⊢
   generalize g.N.inc n x=i at hd ⊢;generalize FI ts n x=d at hd ⊢;cases m.testBit n<;>cases v<;>cases i<;>simp at ih hd ⊢ <;> lia
theorem AG{p:Nat}{ts:List c9}(g:aB p ts){m:Nat}(hm:m<2^ts.length){x:Nat}:decide ((jl p ts (m:Int)).getD x 0%2=1)=g.N.bd m x:=by
 rw[DS g.CZ.Pn,fL hm,sum_filter];have h:=D5 (g:=g) m x ts.length (Nat.le_refl _);rw[h];show _=RM.bF _ ts.length;generalize RM.bF (fun k=>m.testBit k&&g.N.inc k x) ts.length=v
 cases v<;>simp
theorem xo{p:Nat}{ts:List c9}(g:aB p ts){m:Nat}(hm:m<2^ts.length):qV p ts (m:Int)=[]↔g.N.eg m:=by
 unfold qV;rw[List.filter_eq_nil_iff]
 constructor
 ·intro h x hx;have q:=h x (List.mem_range.mpr hx);rw[AG g hm]at q
  simpa using q
 ·intro h x hx;rw[AG g hm,h x (List.mem_range.mp hx)];simp
def bZ(f:Nat->Nat)(n:Nat):List V:=(List.range n).map fun x=>V.int ((f x:Nat):Int)
theorem bG(f:Nat->Nat)(n:Nat):(bZ f n).length=n:=by unfold bZ;rw[List.length_map,List.length_range]
theorem bH{f:Nat->Nat}{n x:Nat}(h:x<n):(bZ f n)[x]?=some (.int ((f x:Nat):Int)):=by
 unfold bZ;rw[List.getElem?_map,List.getElem?_range h];rfl
theorem i5{f:Nat->Nat}{n x:Nat}{v:V}(h:(bZ f n)[x]?=some v):x<n/\v = .int ((f x:Nat):Int):=by
 have hx:x<n:=by
  have:=(oA.mp h).1
  rwa [bG]at this
 rw[bH hx]at h;exact⟨hx,(Option.some.inj h).symm⟩
theorem uq(f:Nat->Nat)(n:Nat):bZ f (n+1)=bZ f n++[.int ((f n:Nat):Int)]:=by
 unfold bZ;rw[List.range_succ,List.map_append];rfl
theorem rg{f g:Nat->Nat}{n:Nat}(h:∀ x,x<n->f x=g x):bZ f n=bZ g n:=by
 unfold bZ;refine List.map_congr_left fun x hx=>?_
 rw[h x (List.mem_range.mp hx)]
theorem xq(p:Nat):(List.replicate p [V.int 0]).flatten=bZ (fun _=>0) p:=by
 induction p with
 | zero=>rfl
 | succ p ih =>
   rw[uq,<-ih,List.replicate_succ',List.flatten_append];rfl
def rh(f:Nat->Nat)(H:Hp)(D:Addr)(i:Nat)(acc:List V)(H2:Hp):Prop:=au H H2/\H2 D=some (.lst acc)/\acc=bZ f i
section
variable {f:Nat->Nat}{H H2 H3:Hp}{D:Addr}{i:Nat}{acc:List V}{v:V}
theorem rh.start(hD:H D=none):rh f H D 0 [] (upd H D (.lst [])):=⟨au.new hD,ae,rfl⟩
theorem rh.len(p:rh f H D i acc H2):H2 D=some (.lst acc)/\acc.length<=i:=⟨p.2.1,by rw[p.2.2,bG];exact Nat.le_refl _⟩
theorem rh.next(p:rh f H D i acc H2)(hD:H D=none)(s:au H2 H3)(hv:v = .int ((f i:Nat):Int)):H3 D=some (.lst acc)/\rh f H D (i+1) (acc++[v]) (upd H3 D (.lst (acc++[v]))):=by
 refine⟨s _ _ p.2.1,(p.1.trans s).put hD,ae,?_⟩;rw[uq,<-p.2.2,hv]
end
theorem ur{N:RM.Net}{m:Nat}:∀ n,((List.range n).filter fun k=>m.testBit k).foldl (fun L k=>RM.join L (N.a k) (N.b k)) (fun x=>x)=N.aN (fun k=>m.testBit k) n
 | 0=>rfl
 | n+1=>by
   rw[aW,List.foldl_append,ur n,RM.fC]
   split<;>rfl
end Ring
namespace RM
theorem rj{N:Net}{S S' : Nat->Bool}:∀{n:Nat},(∀ k,k<n->S k=S' k)->N.aN S n=N.aN S' n
 | 0,_=>rfl
 | n+1,h=>by rw[fC,fC,rj fun k hk=>h k (by lia),h n (by lia)]
end RM
namespace Ring
open PySem L2
def pieceOf(L:Nat->Nat)(p s:Nat):List Nat:=(List.range p).filter fun x=>decide (L x=s)
def eF(L:Nat->Nat)(p:Nat):List Nat:=(List.range p).filter fun x=>decide (L x=x)
def HC(D:Addr)(H0 H:Hp)(y:V)(l:List Nat):Prop:=∃ b,y = .ref b/\b≠D/\H0 b=none/\H b=some (.lst (aG l))
def rm(L:Nat->Nat)(p:Nat)(H:Hp)(D:Addr)(i:Nat)(H2:Hp):Prop:=au H H2/\∃ ys,H2 D=some (.lst ys)/\Paired (HC D H H2) ys ((eF L i).map (pieceOf L p))/\ys.length<=i
section
variable {L:Nat->Nat}{p i:Nat}{H H2 H3:Hp}{D b:Addr}
theorem rm.start(hD:H D=none):rm L p H D 0 (upd H D (.lst [])):=⟨au.new hD,[],ae,.nil,Nat.le_refl _⟩
theorem rq:eF L (i+1)=eF L i++(if L i=i then[i] else[]):=by
 unfold eF;rw[aW]
 by_cases h:L i=i<;>simp[h]
theorem rm.skip(h:rm L p H D i H2)(hn : ¬ L i=i):rm L p H D (i+1) H2:=by
 obtain⟨s,ys,hd,pr,hl⟩:=h;refine⟨s,ys,hd,?_,by lia⟩
 rw[rq,if_neg hn,List.append_nil];exact pr
theorem rm.push(h:rm L p H D i H2)(hD:H D=none)(hr:L i=i)(s:au H2 H3)(hb:H2 b=none)(RV:H3 b=some (.lst (aG (pieceOf L p i)))):
 ∃ ys,H3 D=some (.lst ys)/\ys.length<=i/\rm L p H D (i+1) (upd H3 D (.lst (ys++[.ref b]))):=by
 obtain⟨s2,ys,hd,pr,hl⟩:=h;have HB:=s _ _ hd;have Pp:b≠D:=fun e=>by rw[e,hd]at hb;cases hb
 refine⟨ys,HB,hl,(s2.trans s).put hD,ys++[.ref b],ae,?_,by rw[List.length_append,List.length_singleton];lia⟩
 rw[rq,if_pos hr,List.map_append];refine Paired.snoc (Paired.imp' (fun _ _ ⟨e,he,hn,h0,q⟩=>⟨e,he,hn,h0,by rw[ay hn];exact s _ _ q⟩) pr) ?_
 exact⟨b,rfl,Pp,s2.free hb,by rw[ay Pp];exact RV⟩
end
def pW(p:Nat)(ts:List c9)(g:aB p ts)(ks:List Nat):Nat->Nat:=ks.foldl (fun L k=>RM.join L (g.N.a k) (g.N.b k)) fun x=>x
theorem yT{p:Nat}{ts:List c9}{g:aB p ts}{ks:List Nat}{k:Nat}:pW p ts g (ks++[k])=RM.join (pW p ts g ks) (g.N.a k) (g.N.b k):=by
 unfold pW;rw[List.foldl_append];rfl
def bz(p:Nat)(ts:List c9)(g:aB p ts)(m:Nat):Nat->Nat:=g.N.aN (fun k=>m.testBit k) ts.length
theorem yU{p:Nat}{ts:List c9}{g:aB p ts}{m:Nat}(hm:m<2^ts.length):pW p ts g (bC (m:Int))=bz p ts g m:=by
 unfold pW bz;rw[fL hm];exact ur _
theorem Gw{p:Nat}{ts:List c9}{g:aB p ts}:bz p ts g (2^ts.length-1)=g.N.dX ts.length:=by
 unfold bz RM.Net.dX;exact RM.rj fun k hk=>by rw[AD];simp[hk]
theorem Gx{p:Nat}{ts:List c9}{g:aB p ts}:(ts.length:Int)-(p:Int)+(eF (bz p ts g (2^ts.length-1)) p).length=(g.N.az.length:Int):=by
 have h:=RM.xj (N:=g.N);rw[RM.yS];unfold eF;rw[RM.gm,Gw];exact h
theorem Gy(a b:Nat):(if(b:Int)<(a:Int) then(b:Int) else(a:Int))=((min a b:Nat):Int):=by
 split<;>lia
theorem AH(a b:Nat):(if(b:Int) > (a:Int) then(b:Int) else(a:Int))=((max a b:Nat):Int):=by
 split<;>lia
theorem i6(a b:Nat):decide (V.int (a:Int)=V.int (b:Int))=decide (a=b):=by
 rw[Bool.eq_iff_iff];simp
 lia
end Ring
namespace RM
variable {N:Net}{S:Nat->Bool}
variable {pt r j:Nat}{l:List Nat}
theorem D6{l:List Nat}:∀{p:Nat},l.Nodup->(∀ x∈l,x<p)->l.length<=p:=by
 intro p hn hl;have hp:l.Perm ((List.range p).filter fun x=>decide (x∈l)):=by
  refine(List.perm_ext_iff_of_nodup hn (List.Pairwise.filter _ List.nodup_range)).mpr fun a=>?_
  rw[List.mem_filter,List.mem_range];simp;exact fun h=>hl a h
 rw[hp.length_eq];have:=List.length_filter_le (fun x=>decide (x∈l)) (List.range p)
 rwa [List.length_range]at this
end RM
namespace Ring
open PySem L2
theorem cM(l:List Nat):aG l=(l.map fun x=>((x:Nat):Int)).map V.int:=by unfold aG;rw[List.map_map];rfl
theorem rz(u:Nat)(l:List Nat):FF (.int (u:Int)) (aG l)=decide (u∈l):=by
 unfold FF aG;rw[List.any_map,Bool.eq_iff_iff,List.any_eq_true];simp only[Function.comp,decide_eq_true_eq]
 constructor
 ·rintro⟨x,hx,h⟩;have e:((x:Nat):Int)=(u:Int):=eq_of_beq h;have:x=u:=by lia
  exact this▸hx
 ·intro h;exact⟨u,h,by simp[FE]⟩
theorem uv(l:List Nat):(aG l).all my=true:=by
 unfold aG;rw[List.all_map,List.all_eq_true];intro x _;rfl
theorem and_int(a b:Nat):Builtin.bitAnd (a:Int) (b:Int)=((a&&&b:Nat):Int):=by
 rw[PyProof.Rows.bitAnd_pp (by lia) (by lia)]
 simp
end Ring
namespace RM
variable {N:Net}
theorem D7{L:Nat->Nat}{u v x y:Nat}:join L u v x=join L u v y↔(L x=L y\/(L x=L u/\L y=L v)\/(L x=L v/\L y=L u)):=by
 constructor
 ·exact qZ
 ·have e:=uh L u v;rintro(h|⟨h1,h2⟩|⟨h1,h2⟩)
  ·exact join_eq h
  ·rw[join_eq h1,join_eq h2,e]
  ·rw[join_eq h1,join_eq h2,e]
def Jc(L:Nat->Nat)(u v:Nat):Nat->Nat:=fun x=>if L x=L v then L u else L x
theorem Gz{L:Nat->Nat}{u v x y:Nat}:Jc L u v x=Jc L u v y↔(L x=L y\/(L x=L u/\L y=L v)\/(L x=L v/\L y=L u)):=by
 unfold Jc
 split<;>split<;>lia
end RM
namespace Ring
open PySem L2
def JZ(T:Nat->Nat):Nat->Nat
 | 0=>0
 | n+1=>JZ T n ||| T n
theorem AI(T:Nat->Nat)(j:Nat):∀ n,(JZ T n).testBit j=true↔∃ x,x<n/\(T x).testBit j=true
 | 0=>by simp[JZ]
 | n+1=>by
   unfold JZ;rw[Nat.testBit_or,Bool.or_eq_true,AI T j n]
   constructor
   ·rintro(⟨x,hx,h⟩|h)
    ·exact⟨x,by lia,h⟩
    ·exact⟨n,by lia,h⟩
   ·rintro⟨x,hx,h⟩
    by_cases e:x=n
    ·subst e;exact .inr h
    ·exact .inl ⟨x,by lia,h⟩
section
variable {p:Nat}{ts:List c9}{g:aB p ts}
def i7(p:Nat)(ts:List c9)(g:aB p ts):Nat:=maskOf g.N.kJ ts.length
theorem yV:JZ (g.N.trail ts.length) p=i7 p ts g:=by
 refine Nat.eq_of_testBit_eq fun j=>?_
 unfold i7;rw[mask_bit,Bool.eq_iff_iff,AI];simp only[Bool.and_eq_true,decide_eq_true_eq]
 constructor
 ·rintro⟨x,_,h⟩;exact RM.dc _ _ _ h
 ·rintro⟨h1,h2⟩;rcases RM.BD (N:=g.N) h1 h2 with h|h
  ·exact⟨_,g.N.al j h1,h⟩
  ·exact⟨_,g.N.bl j h1,h⟩
theorem yW(j:Nat):((2^ts.length-1)^^^i7 p ts g).testBit j=(decide (j<ts.length) && !g.N.kJ j):=by
 unfold i7;rw[Nat.testBit_xor,AD,mask_bit];cases decide (j<ts.length)<;>cases g.N.kJ j<;>rfl
theorem uw:(2^ts.length-1)^^^i7 p ts g<2^ts.length:=Nat.xor_lt_two_pow (by have:=Nat.two_pow_pos ts.length;lia) (mask_lt _ _)
theorem xr:bC (((2^ts.length-1)^^^i7 p ts g:Nat):Int)=g.N.az:=by
 rw[fL uw];unfold RM.Net.az;refine List.filter_congr fun k hk=>?_
 have:=List.mem_range.mp hk;rw[yW];simp[this]
end
theorem GA(n:Nat):((2:Int)^n-1)=((2^n-1:Nat):Int):=by
 have h:((2:Int)^n)=((2^n:Nat):Int):=by simp
 have:=Nat.two_pow_pos n
 lia
theorem Jd{S:Int}{l:List Nat}(h:∀ c∈l,S≠((c:Nat):Int)):FF (.int S) (aG l)=false:=by
 unfold FF aG;rw[List.any_map,List.any_eq_false];intro x hx z;exact h x hx (eq_of_beq z).symm
theorem mE{c:Nat}:∀{n:Nat},c<n->(List.range n).filter (fun k=>decide (k=c))=[c]
 | 0,h=>absurd h (Nat.not_lt_zero _)
 | n+1,h=>by
   rw[aW]
   by_cases e:c=n
   ·subst e;have z:(List.range c).filter (fun k=>decide (k=c))=[]:=by
     rw[List.filter_eq_nil_iff];intro x hx;have:=List.mem_range.mp hx;simp
     lia
    rw[z];simp
   ·rw[mE (by lia)]
    simp[Ne.symm e]
theorem AJ{l:List Nat}{i:Nat}{k:Nat}(h:l[i]?=some k):(aG l)[i]?=some (.int (k:Int)):=by
 unfold aG;rw[List.getElem?_map,h];rfl
def sS(f:Nat->Int)(l:List Nat)(H:Hp)(D:Addr)(i:Nat)(acc:List V)(H2:Hp):Prop:=au H H2/\H2 D=some (.lst acc)/\acc=((l.take i).map f).map V.int
section
variable {f:Nat->Int}{l:List Nat}{H H2 H3:Hp}{D:Addr}{i k:Nat}{acc:List V}{v:V}
theorem sS.start(hD:H D=none):sS f l H D 0 [] (upd H D (.lst [])):=⟨au.new hD,ae,rfl⟩
theorem sS.len(p:sS f l H D i acc H2):H2 D=some (.lst acc)/\acc.length<=i:=by
 refine⟨p.2.1,?_⟩;rw[p.2.2,List.length_map,List.length_map,List.length_take]
 lia
theorem sS.next(p:sS f l H D i acc H2)(hD:H D=none)(s:au H2 H3)(hk:l[i]?=some k)(hv:v = .int (f k)):H3 D=some (.lst acc)/\sS f l H D (i+1) (acc++[v]) (upd H3 D (.lst (acc++[v]))):=by
 refine⟨s _ _ p.2.1,(p.1.trans s).put hD,ae,?_⟩;rw[List.take_add_one,hk,List.map_append,List.map_append,<-p.2.2,hv];rfl
theorem sS.fin(p:sS f l H D l.length acc H2):H2 D=some (.lst ((l.map f).map V.int)):=by rw[p.2.1,p.2.2,List.take_length]
end
end Ring
namespace RM
theorem rA(f:Nat->Bool):∀ n,bF f n=decide (cnt f n%2=1)
 | 0=>rfl
 | n+1=>by
   unfold bF cnt;rw[rA f n]
   by_cases h:f n=true
   ·rw[h,if_pos rfl]
    by_cases q:cnt f n%2=1
    ·have q' : ¬(cnt f n+1)%2=1:=by lia
     simp[q,q']
    ·have q' : (cnt f n+1)%2=1:=by lia
     simp[q,q']
   ·have h' : f n=false:=by simpa using h
    rw[h',if_neg (by decide)]
    simp
end RM
namespace Ring
open PySem L2
def lenOf(ts:List c9)(m:Nat):Int:=((bC (m:Int)).map fun k=>(cD ts k).2.2).sum
section
variable {p:Nat}{ts:List c9}(g:aB p ts)
include g
end
end Ring
namespace RM
def sm(f:Nat->Nat):Nat->Nat
 | 0=>0
 | n+1=>sm f n+f n
theorem fM{f g:Nat->Nat}:∀{n:Nat},(∀ k,k<n->f k=g k)->sm f n=sm g n
 | 0,_=>rfl
 | n+1,h=>by
   show sm f n+f n=sm g n+g n;rw[fM fun k hk=>h k (by lia),h n (by lia)]
theorem oW(f g:Nat->Nat):∀ n,sm (fun k=>f k+g k) n=sm f n+sm g n
 | 0=>rfl
 | n+1=>by
   show sm (fun k=>f k+g k) n+(f n+g n)=sm f n+f n+(sm g n+g n)
   rw[oW f g n]
   lia
theorem vj:∀ n,sm (fun _=>0) n=0
 | 0=>rfl
 | n+1=>by
   show sm (fun _=>0) n+0=0
   rw[vj n]
theorem AK(f:Nat->Nat->Nat)(n:Nat):∀ p,sm (fun x=>sm (fun k=>f x k) n) p=sm (fun k=>sm (fun x=>f x k) p) n
 | 0=>(vj n).symm
 | p+1=>by
   show sm (fun x=>sm (fun k=>f x k) n) p+sm (fun k=>f p k) n=sm (fun k=>sm (fun x=>f x k) p+f p k) n
   rw[AK f n p,oW]
theorem iL(f:Nat->Bool):∀ n,cnt f n=sm (fun k=>if f k=true then 1 else 0) n
 | 0=>rfl
 | n+1=>by
   show cnt f n+(if f n=true then 1 else 0)=sm (fun k=>if f k=true then 1 else 0) n+(if f n=true then 1 else 0)
   rw[iL f n]
theorem AL{f g:Nat->Nat}:∀{n:Nat},(∀ k,k<n->f k<=g k)->sm f n<=sm g n
 | 0,_=>Nat.le_refl _
 | n+1,h=>by
   have h1:=AL (f:=f) (g:=g) (n:=n) fun k hk=>h k (by lia)
   have h2:=h n (by lia)
   show sm f n+f n<=sm g n+g n
   lia
theorem D8{f g:Nat->Nat}{n:Nat}(h:∀ k,k<n->f k<=g k)(e:sm f n=sm g n):∀ k,k<n->f k=g k:=by
 induction n with
 | zero=>exact fun k hk=>absurd hk (Nat.not_lt_zero _)
 | succ n ih =>
   intro k hk;have h1:=AL (f:=f) (g:=g) (n:=n) fun k hk=>h k (by lia)
   have h2:=h n (by lia)
   have e:sm f n+f n=sm g n+g n:=e
   by_cases hkn:k=n
   ·subst hkn
    lia
   ·exact ih (fun j hj=>h j (by lia)) (by lia) k (by lia)
theorem yX{f g:Nat->Bool}{n:Nat}(h:∀ k,k<n->f k=true->g k=true):cnt f n<=cnt g n:=by
 rw[iL,iL];refine AL fun k hk=>?_
 by_cases hf:f k=true
 ·rw[if_pos hf,if_pos (h k hk hf)];exact Nat.le_refl _
 ·rw[if_neg hf];exact Nat.zero_le _
theorem D9{f g:Nat->Bool}{n:Nat}(h:∀ k,k<n->f k=true->g k=true)(e:cnt f n=cnt g n):∀ k,k<n->g k=true->f k=true:=fun k hk hg=>by
 rw[iL,iL]at e;have q:=D8 (n:=n) (fun k hk=>by
  by_cases hf:f k=true
  ·rw[if_pos hf,if_pos (h k hk hf)];exact Nat.le_refl _
  ·rw[if_neg hf];exact Nat.zero_le _) e k hk
 rw[if_pos hg]at q
 by_cases hf:f k=true
 ·exact hf
 ·rw[if_neg hf]at q
  lia
theorem kW{f:Nat->Bool}:∀{n:Nat},0<cnt f n->∃ k,k<n/\f k=true
 | 0,h=>absurd h (Nat.lt_irrefl _)
 | n+1,h=>by
   by_cases hf:f n=true
   ·exact⟨n,by lia,hf⟩
   ·have h:0<cnt f n+(if f n=true then 1 else 0):=h
    rw[if_neg hf]at h;obtain⟨k,hk,q⟩:=kW (f:=f) (n:=n) (by lia)
    exact⟨k,by lia,q⟩
theorem nI{f:Nat->Bool}{k:Nat}(hf:f k=true):∀{n:Nat},k<n->0<cnt f n
 | 0,h=>absurd h (Nat.not_lt_zero _)
 | n+1,h=>by
   show 0<cnt f n+(if f n=true then 1 else 0)
   by_cases hk:k=n
   ·subst hk;rw[if_pos hf]
    lia
   ·have:=nI hf (n:=n) (by lia)
    lia
theorem lP{f:Nat->Bool}:∀{n:Nat},2<=cnt f n->∃ c d,c<d/\d<n/\f c=true/\f d=true
 | 0,h=>absurd h (by show ¬ 2<=0;lia)
 | n+1,h=>by
   have h:2<=cnt f n+(if f n=true then 1 else 0):=h
   by_cases hf:f n=true
   ·rw[if_pos hf]at h;obtain⟨k,hk,q⟩:=kW (f:=f) (n:=n) (by lia)
    exact⟨k,n,hk,by lia,q,hf⟩
   ·rw[if_neg hf]at h;obtain⟨c,d,h1,h2,h3,h4⟩:=lP (f:=f) (n:=n) (by lia)
    exact⟨c,d,h1,by lia,h3,h4⟩
theorem qy{f:Nat->Bool}{u v:Nat}(hu:f u=true)(hv:f v=true)(ne:u≠v):∀{n:Nat},u<n->v<n->2<=cnt f n
 | 0,h,_=>absurd h (Nat.not_lt_zero _)
 | n+1,h1,h2=>by
   show 2<=cnt f n+(if f n=true then 1 else 0)
   by_cases e1:u=n
   ·subst e1;have:=nI hv (n:=u) (by lia)
    rw[if_pos hu]
    lia
   ·by_cases e2:v=n
    ·subst e2;have:=nI hu (n:=v) (by lia)
     rw[if_pos hv]
     lia
    ·have:=qy hu hv ne (n:=n) (by lia) (by lia)
     lia
theorem rB(a:Nat):∀ n,cnt (fun x=>decide (a=x)) n=if a<n then 1 else 0
 | 0=>rfl
 | n+1=>by
   show cnt (fun x=>decide (a=x)) n+(if decide (a=n)=true then 1 else 0)=_
   rw[rB a n]
   by_cases e:a=n
   ·subst e;simp
   ·have d:(if decide (a=n)=true then 1 else 0)=0:=if_neg (by simpa using e)
    rw[d]
    by_cases h:a<n
    ·rw[if_pos h,if_pos (by lia)]
    ·rw[if_neg h,if_neg (by lia)]
theorem rC{f g:Nat->Bool}:∀{n:Nat},(∀ x,x<n->¬(f x=true/\g x=true))->cnt (fun x=>f x^^g x) n=cnt f n+cnt g n
 | 0,_=>rfl
 | n+1,h=>by
   show cnt (fun x=>f x^^g x) n+(if(f n^^g n)=true then 1 else 0)=cnt f n+(if f n=true then 1 else 0)+(cnt g n+(if g n=true then 1 else 0))
   rw[rC fun x hx=>h x (by lia)]
   have q:=h n (by lia)
   cases hf:f n<;>cases hg:g n
   ·simp
   ·simp
    lia
   ·simp
    lia
   ·exact absurd ⟨hf,hg⟩ q
variable {N:Net}
def Net.dg(N:Net)(m x:Nat):Nat:=cnt (fun k=>m.testBit k&&N.inc k x) N.n
theorem AM(m x:Nat):N.bd m x=decide (N.dg m x%2=1):=rA _ _
theorem qz{m x:Nat}(e:N.eg m)(hx:x<N.p):N.dg m x%2=0:=by
 have h:=e x hx;rw[AM]at h;have:=of_decide_eq_false h
 lia
theorem qA{k x:Nat}(hk:k<N.n):N.inc k x=true↔(N.a k=x\/N.b k=x):=by
 have ne:=N.ne k hk;unfold Net.inc
 by_cases h1:N.a k=x
 ·have h2 : ¬ N.b k=x:=fun z=>ne (h1.trans z.symm)
  simp[h1,h2]
 ·by_cases h2:N.b k=x
  ·simp[h1,h2]
  ·simp[h1,h2]
theorem GB{k:Nat}(hk:k<N.n):cnt (N.inc k) N.p=2:=by
 have ne:=N.ne k hk;have e:cnt (N.inc k) N.p=cnt (fun x=>decide (N.a k=x)^^decide (N.b k=x)) N.p:=rfl
 rw[e,rC fun x _ ⟨h1,h2⟩=>ne ((jw h1).trans (jw h2).symm),rB,rB,if_pos (N.al k hk),if_pos (N.bl k hk)]
theorem vm(m:Nat):sm (fun x=>N.dg m x) N.p=2*cnt (fun k=>m.testBit k) N.n:=by
 have e:sm (fun x=>N.dg m x) N.p=sm (fun x=>sm (fun k=>if(m.testBit k&&N.inc k x)=true then 1 else 0) N.n) N.p:=fM fun x _=>iL _ _
 rw[e,AK,iL];have d:∀ n,2*sm (fun k=>if m.testBit k=true then 1 else 0) n=sm (fun k=>(if m.testBit k=true then 1 else 0)+(if m.testBit k=true then 1 else 0)) n:=fun n=>by
  rw[oW]
  lia
 rw[d];refine fM fun k hk=>?_
 by_cases h:m.testBit k=true
 ·rw[if_pos h];have q:=GB hk;rw[iL]at q;show _=2;exact(fM fun x _=>by rw[h,Bool.true_and]).trans q
 ·rw[if_neg h];have h' : m.testBit k=false:=by simpa using h
  have:sm (fun x=>if(m.testBit k&&N.inc k x)=true then 1 else 0) N.p=sm (fun _=>0) N.p:=fM fun x _=>by rw[h'];rfl
  rw[this,vj]
theorem Lz{q m:Nat}(h:∀ k,q.testBit k=true->m.testBit k=true)(x:Nat):N.dg q x<=N.dg m x:=yX fun k _ hq=>by
 rw[Bool.and_eq_true]at hq ⊢;exact⟨h k hq.1,hq.2⟩
theorem rD{m k x:Nat}(hk:k<N.n)(hb:m.testBit k=true)(hx:N.a k=x\/N.b k=x):0<N.dg m x:=nI (k:=k) (by rw[hb,Bool.true_and];exact(qA hk).mpr hx) hk
theorem qB{m x:Nat}(h:0<N.dg m x):∃ k,k<N.n/\m.testBit k=true/\(N.a k=x\/N.b k=x):=by
 obtain⟨k,hk,q⟩:=kW h;rw[Bool.and_eq_true]at q;exact⟨k,hk,q.1,(qA hk).mp q.2⟩
theorem alone{m x y:Nat}(h:N.dg m x=0)(c:N.kI (fun k=>m.testBit k) N.n x y):y=x:=by
 induction c with
 | refl=>rfl
 | fwd _ hj hs ih=>exact absurd (rD hj hs (.inl ih)) (by lia)
 | bwd _ hj hs ih=>exact absurd (rD hj hs (.inr ih)) (by lia)
theorem BF{S:Nat->Bool}{k u v:Nat}(hk:k<=N.n)(c:N.kI S k u v):∃ t,(∀ j,t.testBit j=true->j<k/\S j=true)/\∀ x,N.bd t x=(decide (u=x)^^decide (v=x)):=by
 induction c with
 | refl=>exact⟨0,fun j hj=>by simp at hj,fun x=>by rw[vg];simp⟩
 | fwd _ hj hs ih =>
   rename_i j _
   obtain⟨t,h1,h2⟩:=ih;refine⟨t^^^2^j,fun i hi=>?_,fun x=>?_⟩
   ·rw[Nat.testBit_xor,Nat.testBit_two_pow]at hi
    by_cases e:j=i
    ·subst e;exact⟨hj,hs⟩
    ·rw[fk e,Bool.xor_false]at hi;exact h1 i hi
   ·rw[gW,h2,mR (by lia)]
    unfold Net.inc;cases decide (u=x)<;>cases decide (N.a j=x)<;>cases decide (N.b j=x)<;>rfl
 | bwd _ hj hs ih =>
   rename_i j _
   obtain⟨t,h1,h2⟩:=ih;refine⟨t^^^2^j,fun i hi=>?_,fun x=>?_⟩
   ·rw[Nat.testBit_xor,Nat.testBit_two_pow]at hi
    by_cases e:j=i
    ·subst e;exact⟨hj,hs⟩
    ·rw[fk e,Bool.xor_false]at hi;exact h1 i hi
   ·rw[gW,h2,mR (by lia)]
    unfold Net.inc;cases decide (u=x)<;>cases decide (N.a j=x)<;>cases decide (N.b j=x)<;>rfl
def Net.Ring(N:Net)(m:Nat):Prop:=m≠0/\N.eg m/\∀ q,(∀ k,q.testBit k=true->m.testBit k=true)->N.eg q->q=0\/q=m
section
variable {m s:Nat}
theorem AN(hm:m<2^N.n)(ev:N.eg m)(C:Nat->Bool)(hC:∀ x,x<N.p->C x=decide (N.aN (fun k=>m.testBit k) N.n x=s))(h2:2<=cnt C N.p)
 (Og:∀ k,k<N.n->m.testBit k=true->C (N.a k)=true) (hl:cnt C N.p=cnt (fun k=>m.testBit k) N.n):N.Ring m:=by
 have HD:∀ k,k<N.n->m.testBit k=true->C (N.a k)=true/\C (N.b k)=true:=fun k hk hb=>by
  have h:=Og k hk hb;refine⟨h,?_⟩;rw[hC _ (N.al k hk)]at h;rw[hC _ (N.bl k hk)];rw[gQ (S:=fun k=>m.testBit k) hk hb]at h
  exact h
 have pos:∀ x,x<N.p->C x=true->0<N.dg m x:=fun x hx hc=>by
  cases hz:N.dg m x with
  | succ d=>lia
  | zero =>
    exfalso
    obtain⟨y,hy,HE,hne⟩:∃ y,y<N.p/\C y=true/\y≠x:=by
     obtain⟨c,d,h1,h3,h4,h5⟩:=lP h2
     by_cases e:c=x
     ·exact⟨d,h3,h5,by lia⟩
     ·exact⟨c,by lia,h4,e⟩
    rw[hC x hx]at hc;rw[hC y hy]at HE;exact hne (alone hz (bx _ _ _ ((jw hc).trans (jw HE).symm)))
 have two:∀ x,x<N.p->(if C x=true then 2 else 0)=N.dg m x:=by
  refine D8 (fun x hx=>?_) ?_
  ·by_cases hc:C x=true
   ·rw[if_pos hc];have h1:=pos x hx hc;have h3:=qz ev hx
    lia
   ·rw[if_neg hc];exact Nat.zero_le _
  ·rw[vm,<-hl,iL];have d:∀ n,2*sm (fun k=>if C k=true then 1 else 0) n=sm (fun k=>(if C k=true then 1 else 0)+(if C k=true then 1 else 0)) n:=fun n=>by
    rw[oW]
    lia
   rw[d];exact fM fun x _=>by split<;>rfl
 obtain⟨c0,hc0,hcc⟩:=kW (f:=C) (n:=N.p) (by lia)
 refine⟨fun z=>?_,ev,fun q hq eq=>?_⟩
 ·have h:=pos c0 hc0 hcc;obtain⟨k,_,hb,_⟩:=qB h;rw[z]at hb;simp at hb
 ·by_cases BG:q=0
  ·exact .inl BG
  ·right
   have full:∀ x,x<N.p->0<N.dg q x->∀ k,k<N.n->m.testBit k=true->(N.a k=x\/N.b k=x)->q.testBit k=true:=fun x hx h k hk hb FJ=>by
    have h1:=Lz (N:=N) hq x;have h3:=qz eq hx;have h4:=two x hx;have h5:N.dg q x=N.dg m x:=by
     by_cases hc:C x=true
     ·rw[if_pos hc]at h4
      lia
     ·rw[if_neg hc]at h4
      lia
    have h6:=D9 (f:=fun k=>q.testBit k&&N.inc k x) (g:=fun k=>m.testBit k&&N.inc k x) (n:=N.n) (fun k _ z=>by
     rw[Bool.and_eq_true]at z ⊢;exact⟨hq k z.1,z.2⟩) h5 k hk (by rw[hb,Bool.true_and];exact(qA hk).mpr FJ)
    rw[Bool.and_eq_true]at h6;exact h6.1
   obtain⟨k0,hb0⟩:∃ k,q.testBit k=true:=Nat.exists_testBit_of_ne_zero BG;have hk0:k0<N.n:=cP hm (hq k0 hb0);have spread:∀{y},N.kI (fun k=>m.testBit k) N.n (N.a k0) y->0<N.dg q y:=fun {y} c=>by
    induction c with
    | refl=>exact rD hk0 hb0 (.inl rfl)
    | fwd _ hj hs ih=>exact rD hj (full _ (N.al _ hj) ih _ hj hs (.inl rfl)) (.inr rfl)
    | bwd _ hj hs ih=>exact rD hj (full _ (N.bl _ hj) ih _ hj hs (.inr rfl)) (.inl rfl)
   refine Nat.eq_of_testBit_eq fun k=>?_
   cases hb:m.testBit k with
   | false =>
     cases hz:q.testBit k with
     | false=>rfl
     | true =>
       have:=hq k hz;rw[hb]at this;cases this
   | true =>
     have hk:=cP hm hb;have e1:=(HD k hk hb).1;have e2:=(HD k0 hk0 (hq k0 hb0)).1;rw[hC _ (N.al k hk)]at e1;rw[hC _ (N.al k0 hk0)]at e2;exact full _ (N.al k hk) (spread (bx _ _ _ ((jw e2).trans (jw e1).symm))) k hk hb (.inl rfl)
theorem mS(hm:m<2^N.n)(r:N.Ring m):∃ k0,k0<N.n/\m.testBit k0=true/\∀ k,k<N.n->m.testBit k=true->N.aN (fun k=>m.testBit k) N.n (N.a k)=N.aN (fun k=>m.testBit k) N.n (N.a k0):=by
 obtain⟨h0,ev,mn⟩:=r;obtain⟨k0,hb0⟩:=Nat.exists_testBit_of_ne_zero h0;have hk0:=cP hm hb0;refine⟨k0,hk0,hb0,?_⟩;generalize hs:N.aN (fun k=>m.testBit k) N.n (N.a k0)=s
 have bit:∀ k,(Ring.maskOf (fun k=>m.testBit k&&decide (N.aN (fun k=>m.testBit k) N.n (N.a k)=s)) N.n).testBit k=(decide (k<N.n)&&(m.testBit k&&decide (N.aN (fun k=>m.testBit k) N.n (N.a k)=s))):=fun k=>Ring.mask_bit _ k _
 have sub:∀ k,(Ring.maskOf (fun k=>m.testBit k&&decide (N.aN (fun k=>m.testBit k) N.n (N.a k)=s)) N.n).testBit k=true->m.testBit k=true:=fun k hk=>by
  rw[bit,Bool.and_eq_true,Bool.and_eq_true]at hk;exact hk.2.1
 have Oh:N.eg (Ring.maskOf (fun k=>m.testBit k&&decide (N.aN (fun k=>m.testBit k) N.n (N.a k)=s)) N.n):=fun x hx=>by
  have e:N.bd (Ring.maskOf (fun k=>m.testBit k&&decide (N.aN (fun k=>m.testBit k) N.n (N.a k)=s)) N.n) x=(decide (N.aN (fun k=>m.testBit k) N.n x=s)&&N.bd m x):=by
   unfold Net.bd;rw[<-nF];refine bM fun k hk=>?_
   rw[bit,cN hk,Bool.true_and];cases hb:m.testBit k with
   | false=>simp
   | true =>
     cases hi:N.inc k x with
     | false=>simp
     | true =>
       have el:N.aN (fun k=>m.testBit k) N.n (N.a k)=N.aN (fun k=>m.testBit k) N.n x:=by
        rcases(qA hk).mp hi with z|z
        ·rw[z]
        ·rw[<-z];exact gQ (S:=fun k=>m.testBit k) hk hb
       rw[el];simp
  rw[e,ev x hx,Bool.and_false]
 rcases mn _ sub Oh with q|q
 ·have:=bit k0;rw[q,hb0,hs,cN hk0]at this;simp at this
 ·intro k hk hb;have h:=bit k;rw[q,hb,cN hk]at h;exact jw (by simpa using h.symm)
theorem ux(S:Nat->Bool):∀ k,k<=N.n->cnt (N.root S k) N.p+cnt (fun j=>S j && !decide (N.aN S j (N.a j)=N.aN S j (N.b j))) k=N.p
 | 0,_=>by
   show cnt (N.root S 0) N.p+0=N.p;rw[vh (f:=N.root S 0) fun x _=>cN rfl]
   rfl
 | k+1,hk=>by
   have ih:=ux S k (by lia)
   have st:=rf (N:=N) (S:=S) (k:=k) (by lia)
   show cnt (N.root S (k+1)) N.p+(cnt (fun j=>S j && !decide (N.aN S j (N.a j)=N.aN S j (N.b j))) k+if(S k && !decide (N.aN S k (N.a k)=N.aN S k (N.b k)))=true then 1 else 0)=N.p
   lia
theorem xu(hm:m<2^N.n)(r:N.Ring m)(C:Nat->Bool)(hC:∀ x,x<N.p->C x=decide (N.aN (fun k=>m.testBit k) N.n x=s))
 (Og:∀ k,k<N.n->m.testBit k=true->C (N.a k)=true):2<=cnt C N.p/\cnt C N.p=cnt (fun k=>m.testBit k) N.n/\∀ x,x<N.p->C x=false->N.aN (fun k=>m.testBit k) N.n x=x/\∀ y,N.aN (fun k=>m.testBit k) N.n y=x->y=x:=by
 obtain⟨h0,ev,mn⟩:=r;obtain⟨k0,hb0⟩:=Nat.exists_testBit_of_ne_zero h0;have hk0:=cP hm hb0;have HD:∀ k,k<N.n->m.testBit k=true->C (N.a k)=true/\C (N.b k)=true:=fun k hk hb=>by
  have h:=Og k hk hb;refine⟨h,?_⟩;rw[hC _ (N.al k hk)]at h;rw[hC _ (N.bl k hk),<-gQ (S:=fun k=>m.testBit k) hk hb]
  exact h
 have h2:2<=cnt C N.p:=qy (HD k0 hk0 hb0).1 (HD k0 hk0 hb0).2 (N.ne k0 hk0) (N.al k0 hk0) (N.bl k0 hk0);have none:∀ x,x<N.p->C x=false->N.dg m x=0:=fun x hx hc=>by
  cases hz:N.dg m x with
  | zero=>rfl
  | succ d =>
    exfalso
    obtain⟨k,hk,hb,FJ⟩:=qB (N:=N) (m:=m) (x:=x) (by lia)
    rcases FJ with e|e
    ·have:=(HD k hk hb).1;rw[e,hc]at this;cases this
    ·have:=(HD k hk hb).2;rw[e,hc]at this;cases this
 have BH:∀ x,x<N.p->C x=false->N.aN (fun k=>m.testBit k) N.n x=x/\∀ y,N.aN (fun k=>m.testBit k) N.n y=x->y=x:=fun x hx hc=>by
  have hz:=none x hx hc;have r1:N.aN (fun k=>m.testBit k) N.n x=x:=alone hz (bx _ _ _ (bN _ _).symm)
  exact⟨r1,fun y hy=>alone hz (bx _ _ _ (r1.trans hy.symm))⟩
 refine⟨h2,?_,BH⟩;have pos:∀ x,x<N.p->C x=true->0<N.dg m x:=fun x hx hc=>by
  cases hz:N.dg m x with
  | succ d=>lia
  | zero =>
    exfalso
    obtain⟨y,hy,HE,hne⟩:∃ y,y<N.p/\C y=true/\y≠x:=by
     obtain⟨c,d,h1,h3,h4,h5⟩:=lP h2
     by_cases e:c=x
     ·exact⟨d,h3,h5,by lia⟩
     ·exact⟨c,by lia,h4,e⟩
    rw[hC x hx]at hc;rw[hC y hy]at HE;exact hne (alone hz (bx _ _ _ ((jw hc).trans (jw HE).symm)))
 have ge:cnt C N.p<=cnt (fun k=>m.testBit k) N.n:=by
  have h:sm (fun x=>if C x=true then 2 else 0) N.p<=sm (fun x=>N.dg m x) N.p:=AL fun x hx=>by
   by_cases hc:C x=true
   ·rw[if_pos hc];have h1:=pos x hx hc;have h3:=qz ev hx
    lia
   ·rw[if_neg hc];exact Nat.zero_le _
  rw[vm]at h;have d:sm (fun x=>if C x=true then 2 else 0) N.p=2*cnt C N.p:=by
   rw[iL];have d:∀ n,2*sm (fun k=>if C k=true then 1 else 0) n=sm (fun k=>(if C k=true then 1 else 0)+(if C k=true then 1 else 0)) n:=fun n=>by
    rw[oW]
    lia
   rw[d];exact fM fun x _=>by split<;>rfl
  lia
 refine Nat.le_antisymm ge (Nat.le_of_not_lt fun more=>?_)
 have Oi:=ux (N:=N) (fun k=>m.testBit k) N.n (Nat.le_refl _)
 have hr:cnt (N.root (fun k=>m.testBit k) N.n) N.p+cnt C N.p=N.p+1:=by
  have hc0:=(HD k0 hk0 hb0).1;rw[hC _ (N.al k0 hk0)]at hc0;have hs:=jw hc0;have qP:s<N.p:=by rw[<-hs];exact i4 (N.al k0 hk0)
  have hss:N.aN (fun k=>m.testBit k) N.n s=s:=by rw[<-hs];exact bN _ _
  have e:cnt (N.root (fun k=>m.testBit k) N.n) N.p=cnt (fun x=>!C x^^decide (s=x)) N.p:=eE fun x hx=>by
   unfold Net.root;cases hc:C x with
   | false =>
     have ne : ¬ s=x:=fun z=>by
      have:=hC x hx;rw[hc,<-z,hss]at this;simp at this
     rw[cN (BH x hx hc).1,fk ne];rfl
   | true =>
     have h:=hC x hx;rw[hc]at h;have h:=jw h.symm;rw[h];simp
  rw[e,rC fun x hx ⟨z1,z2⟩=>by
   have z2:=jw z2;have:=hC x hx;rw[<-z2,hss]at this;rw[<-z2,this]at z1;simp at z1,rB,if_pos qP]
  have:=i3 C N.p
  lia
 have split:cnt (fun k=>m.testBit k) N.n=cnt (fun j=>m.testBit j && !decide (N.aN (fun k=>m.testBit k) j (N.a j)=N.aN (fun k=>m.testBit k) j (N.b j))) N.n+cnt (fun j=>m.testBit j&&decide (N.aN (fun k=>m.testBit k) j (N.a j)=N.aN (fun k=>m.testBit k) j (N.b j))) N.n:=by
  rw[<-rC fun x _ ⟨z1,z2⟩=>by
   rw[Bool.and_eq_true]at z1 z2;have:=z1.2;rw[z2.2]at this;cases this]
  refine eE fun k _=>?_
  cases m.testBit k<;>cases decide (N.aN (fun k=>m.testBit k) k (N.a k)=N.aN (fun k=>m.testBit k) k (N.b k))<;>rfl
 obtain⟨c,d,hcd,hd,hc1,hd1⟩:=lP (f:=fun j=>m.testBit j&&decide (N.aN (fun k=>m.testBit k) j (N.a j)=N.aN (fun k=>m.testBit k) j (N.b j))) (n:=N.n) (by lia)
 have whole:∀ j,j<N.n->(m.testBit j&&decide (N.aN (fun k=>m.testBit k) j (N.a j)=N.aN (fun k=>m.testBit k) j (N.b j)))=true->∀ i,m.testBit i=true->i<=j:=fun j hj h i hi=>by
  rw[Bool.and_eq_true]at h;obtain⟨t,t1,t2⟩:=BF (Nat.le_of_lt hj) (bx _ _ _ (jw h.2));have own:(t^^^2^j).testBit j=true:=by
   rw[Nat.testBit_xor,Nat.testBit_two_pow,cN rfl];cases hz:t.testBit j with
   | false=>rfl
   | true=>exact absurd (t1 j hz).1 (Nat.lt_irrefl _)
  have sub:∀ k,(t^^^2^j).testBit k=true->m.testBit k=true:=fun k hk=>by
   rw[Nat.testBit_xor,Nat.testBit_two_pow]at hk
   by_cases e:j=k
   ·subst e;exact h.1
   ·rw[fk e,Bool.xor_false]at hk;exact(t1 k hk).2
  have Oh:N.eg (t^^^2^j):=fun x hx=>by
   rw[gW,t2,mR hj];unfold Net.inc;cases decide (N.a j=x)<;>cases decide (N.b j=x)<;>rfl
  rcases mn _ sub Oh with q|q
  ·rw[q]at own;simp at own
  ·rw[<-q,Nat.testBit_xor,Nat.testBit_two_pow]at hi
   by_cases e:j=i
   ·lia
   ·rw[fk e,Bool.xor_false]at hi;exact Nat.le_of_lt (t1 i hi).1
 have h1:m.testBit d=true:=by
  rw[Bool.and_eq_true]at hd1;exact hd1.1
 have:=whole c (by lia) hc1 d h1
 lia
end
end RM
namespace Ring
open PySem L2
def dj(L:Nat->Nat)(p:Nat):List Nat:=(eF L p).filter fun s=>decide (1<(pieceOf L p s).length)
def Je(L:Nat->Nat)(p k:Nat):List Nat->Bool
 | [s]=>decide ((pieceOf L p s).length=k)
 | _=>false
def jD(p:Nat)(ts:List c9)(g:aB p ts)(m:Nat):Bool:=decide (qV p ts (m:Int)=[])&&Je (bz p ts g m) p (bC (m:Int)).length (dj (bz p ts g m) p)
theorem iy(L:Nat->Nat)(p s:Nat):(pieceOf L p s).length=RM.cnt (fun x=>decide (L x=s)) p:=RM.gm _ _
theorem rE{m n:Nat}(hm:m<2^n):(bC (m:Int)).length=RM.cnt (fun k=>m.testBit k) n:=by
 rw[fL hm];exact RM.gm _ _
theorem BI{f:Nat->Bool}{n c:Nat}(hc:c<n)(h:∀ k,k<n->f k=decide (k=c)):(List.range n).filter f=[c]:=by
 rw[<-mE hc];exact List.filter_congr fun k hk=>h k (List.mem_range.mp hk)
theorem jE{p:Nat}{ts:List c9}(g:aB p ts){m:Nat}(hm:m<2^ts.length):jD p ts g m=true↔g.N.Ring m:=by
 have eL:bz p ts g m=g.N.aN (fun k=>m.testBit k) g.N.n:=rfl
 have ep:g.N.p=p:=rfl
 constructor
 ·intro h;unfold jD at h;rw[Bool.and_eq_true]at h;obtain⟨h1,h2⟩:=h;have ev:=(xo g hm).mp (jw h1);unfold Je at h2
  split at h2
  ·rename_i s hs
   have h2:=jw h2;have hmem:s∈dj (bz p ts g m) p:=by rw[hs];exact List.mem_singleton.mpr rfl
   unfold dj at hmem;have hlen:=jw (List.mem_filter.mp hmem).2;refine RM.AN (s:=s) hm ev (fun x=>decide (bz p ts g m x=s)) (fun x _=>by rw[eL]) ?_ (fun k hk hb=>?_) ?_
   ·rw[ep,<-iy];exact hlen
   ·
    have Pq:=g.N.al k hk;have RW:=g.N.bl k hk;have e:bz p ts g m (g.N.b k)=bz p ts g m (g.N.a k):=(RM.gQ (S:=fun k=>m.testBit k) hk hb).symm
    have hr:bz p ts g m (bz p ts g m (g.N.a k))=bz p ts g m (g.N.a k):=RM.bN _ _;have hlt:bz p ts g m (g.N.a k)<p:=RM.i4 Pq;have ht:bz p ts g m (g.N.a k)∈dj (bz p ts g m) p:=by
     unfold dj eF;refine List.mem_filter.mpr ⟨List.mem_filter.mpr ⟨List.mem_range.mpr hlt,cN hr⟩,cN ?_⟩;rw[iy];exact RM.qy (u:=g.N.a k) (v:=g.N.b k) (cN rfl) (cN e) (g.N.ne k hk) Pq RW
    rw[hs]at ht;exact cN (List.mem_singleton.mp ht)
   ·rw[ep,<-iy,h2];exact rE hm
  ·cases h2
 ·intro r;obtain⟨k0,hk0,hb0,hall⟩:=RM.mS hm r;generalize hs:g.N.aN (fun k=>m.testBit k) g.N.n (g.N.a k0)=s at hall
  obtain⟨h2,hl,BH⟩:=RM.xu (s:=s) hm r (fun x=>decide (bz p ts g m x=s)) (fun x _=>by rw[eL]) (fun k hk hb=>cN (hall k hk hb))
  have qP:s<p:=by rw[<-hs];exact RM.i4 (g.N.al k0 hk0)
  have hss:bz p ts g m s=s:=by rw[eL,<-hs];exact RM.bN _ _
  have ht:dj (bz p ts g m) p=[s]:=by
   unfold dj eF;rw[List.filter_filter];refine BI qP fun x hx=>?_
   by_cases e:x=s
   ·subst e;rw[cN hss,iy,cN rfl,Bool.and_true];exact cN h2
   ·rw[fk e]
    by_cases FJ:bz p ts g m x=x
    ·have hc:decide (bz p ts g m x=s)=false:=fk (by rw[FJ];exact e)
     obtain⟨_,q⟩:=BH x hx hc;have : ¬ 1<(pieceOf (bz p ts g m) p x).length:=fun z=>by
      rw[iy]at z;obtain⟨c,d,h1,_,h3,h4⟩:=RM.lP z;have h3:=q c (jw h3);have h4:=q d (jw h4)
      lia
     rw[fk this,Bool.false_and]
    ·rw[fk FJ,Bool.and_false]
  unfold jD;rw[cN ((xo g hm).mpr r.2.1),ht,Bool.true_and];refine cN ?_;rw[iy,rE hm];exact hl
theorem yY{p:Nat}{ts:List c9}{g:aB p ts}{m:Nat}(ev:qV p ts (m:Int)=[]):jD p ts g m=Je (bz p ts g m) p (bC (m:Int)).length (dj (bz p ts g m) p):=by
 unfold jD;rw[cN ev,Bool.true_and]
def Jf(H:Hp)(y:V)(l:List Nat):Prop:=∃ b,y = .ref b/\H b=some (.lst (aG l))
def rF(f:List Nat->Bool)(ls:List (List Nat))(H:Hp)(D:Addr)(i:Nat)(acc:List V)(H2:Hp):Prop:=au H H2/\H2 D=some (.lst acc)/\Paired (Jf H) acc ((ls.take i).filter f)
section
variable {f:List Nat->Bool}{ls:List (List Nat)}{H H2 H3:Hp}{D:Addr}{i:Nat}{acc:List V}{y:V}{l:List Nat}
theorem rF.start(hD:H D=none):rF f ls H D 0 [] (upd H D (.lst [])):=⟨au.new hD,ae,.nil⟩
theorem rF.len(h:rF f ls H D i acc H2):H2 D=some (.lst acc)/\acc.length<=i:=⟨h.2.1,by
 rw[h.2.2.length];exact Nat.le_trans (List.length_filter_le _ _) (by rw[List.length_take];lia)⟩
theorem rF.yes(h:rF f ls H D i acc H2)(hD:H D=none)(hl:ls[i]?=some l)(hf:f l=true)(hy:Jf H y l):H2 D=some (.lst acc)/\rF f ls H D (i+1) (acc++[y]) (upd H2 D (.lst (acc++[y]))):=by
 refine⟨h.2.1,h.1.put hD,ae,?_⟩;rw[List.take_add_one,hl,List.filter_append];show Paired _ _ (_++List.filter f [l]);rw[List.filter_cons,if_pos hf];exact Paired.snoc h.2.2 hy
theorem rF.no(h:rF f ls H D i acc H2)(hl:ls[i]?=some l)(hf:f l=false):rF f ls H D (i+1) acc H2:=by
 refine⟨h.1,h.2.1,?_⟩;rw[List.take_add_one,hl,List.filter_append];show Paired _ _ (_++List.filter f [l]);rw[List.filter_cons,if_neg (by rw[hf];exact Bool.false_ne_true)]
 simpa using h.2.2
end
end Ring
namespace RM
variable {N:Net}
def Net.par(N:Net)(q m:Nat):Bool:=bF (fun k=>q.testBit k&&m.testBit k) N.n
theorem AO(q r m:Nat):N.par (q^^^r) m=(N.par q m^^N.par r m):=by
 unfold Net.par;rw[<-iI];refine bM fun k _=>?_
 rw[Nat.testBit_xor];cases q.testBit k<;>cases r.testBit k<;>cases m.testBit k<;>rfl
theorem Ea(m:Nat):N.par 0 m=false:=iw fun k _=>by simp
end RM
namespace Ring
def orM(ks:List Nat):Nat:=ks.foldl (fun m k=>m ||| 2^k) 0
theorem Eb(ks:List Nat)(j:Nat):∀ m,(ks.foldl (fun m k=>m ||| 2^k) m).testBit j=(m.testBit j || decide (j∈ks)):=by
 induction ks with
 | nil=>intro m;simp
 | cons k r ih =>
   intro m;rw[List.foldl_cons,ih,Nat.testBit_or,Nat.testBit_two_pow]
   by_cases h:k=j
   ·subst h;simp
   ·have h' : ¬ j=k:=fun z=>h z.symm
    simp[h,h']
theorem AQ(ks:List Nat)(j:Nat):(orM ks).testBit j=decide (j∈ks):=by
 unfold orM;rw[Eb];simp
theorem Jg{ks:List Nat}{n:Nat}(h:∀ k∈ks,k<n):orM ks<2^n:=RM.gn fun k hk=>by
 rw[AQ]at hk;exact h k (jw hk)
open PySem L2
theorem AR{p:Nat}{ts:List c9}{g:aB p ts}{q m:Nat}(hm:m<2^ts.length):decide ((bC ((q&&&m:Nat):Int)).length%2=1)=g.N.par q m:=by
 rw[rE (n:=ts.length) (Nat.and_lt_two_pow q hm)];unfold RM.Net.par;rw[RM.rA];have e:RM.cnt (fun k=>(q&&&m).testBit k) ts.length=RM.cnt (fun k=>q.testBit k&&m.testBit k) g.N.n:=RM.eE fun k _=>by rw[Nat.testBit_and]
 rw[e]
def xorL(rs:List Nat):Nat:=rs.foldl (fun m r=>m^^^r) 0
theorem BJ(rs:List Nat):∀ m,rs.foldl (fun m r=>m^^^r) m=m^^^xorL rs:=by
 induction rs with
 | nil=>intro m;show m=m^^^0;simp
 | cons r rs ih =>
   intro m;show rs.foldl (fun m r=>m^^^r) (m^^^r)=m^^^rs.foldl (fun m r=>m^^^r) (0^^^r)
   rw[ih,ih,Nat.zero_xor,Nat.xor_assoc]
theorem xorL_snoc(rs:List Nat)(r:Nat):xorL (rs++[r])=xorL rs^^^r:=by
 unfold xorL;rw[List.foldl_append];rfl
theorem xorL_cons(rs:List Nat)(r:Nat):xorL (r::rs)=r^^^xorL rs:=by
 show rs.foldl (fun m r=>m^^^r) (0^^^r)=_
 rw[BJ,Nat.zero_xor]
theorem BK{a b:List Nat}(h:a.Perm b):xorL a=xorL b:=by
 induction h with
 | nil=>rfl
 | cons x _ ih=>rw[xorL_cons,xorL_cons,ih]
 | swap x y l =>
   rw[xorL_cons,xorL_cons,xorL_cons,xorL_cons,<-Nat.xor_assoc,<-Nat.xor_assoc,Nat.xor_comm x y]
 | trans _ _ ih1 ih2=>rw[ih1,ih2]
theorem cutD(xs:List V)(a:Nat):oO xs (some (a:Int)) none=xs.drop a:=by
 unfold oO;rw[HT.Dy,HT.F9]
 by_cases h:a<=xs.length
 ·rw[Nat.min_eq_left h,List.take_of_length_le (by rw[List.length_drop];exact Nat.le_refl _)]
 ·rw[Nat.min_eq_right (by lia),List.drop_of_length_le (Nat.le_refl _),List.drop_of_length_le (by lia),List.take_nil]
end Ring
namespace RM
variable {N:Net}{m t0:Nat}
def Net.D2(N:Net)(m:Nat):Prop:=∀ x,x<N.p->N.dg m x=0\/N.dg m x=2
theorem D2.Oj(h:N.D2 m):N.eg m:=fun x hx=>by
 rw[AM];refine fk ?_;rcases h x hx with e|e<;>lia
theorem Ec(C:Nat->Bool):∀ n,sm (fun x=>if C x=true then 2 else 0) n=2*cnt C n:=fun n=>by
 rw[iL];have:sm (fun k=>if C k=true then 2 else 0) n=sm (fun k=>(if C k=true then 1 else 0)+(if C k=true then 1 else 0)) n:=fM fun k _=>by
  by_cases h:C k=true
  ·rw[if_pos h,if_pos h]
  ·rw[if_neg h,if_neg h]
 rw[this,oW]
 lia
theorem GC(hm:m<2^N.n)(r:N.Ring m):N.D2 m:=by
 obtain⟨k0,hk0,hb0,hall⟩:=mS hm r;generalize hs:N.aN (fun k=>m.testBit k) N.n (N.a k0)=s at hall
 have hC:∀ x,x<N.p->(fun x=>decide (N.aN (fun k=>m.testBit k) N.n x=s)) x=decide (N.aN (fun k=>m.testBit k) N.n x=s):=fun x _=>rfl
 obtain⟨h2,hl,BH⟩:=xu (s:=s) hm r _ hC (fun k hk hb=>cN (hall k hk hb))
 generalize Vo:(fun x=>decide (N.aN (fun k=>m.testBit k) N.n x=s))=C at hC h2 hl BH
 have none:∀ x,x<N.p->C x=false->N.dg m x=0:=fun x hx hc=>by
  cases hz:N.dg m x with
  | zero=>rfl
  | succ d =>
    exfalso
    obtain⟨k,hk,hb,FJ⟩:=qB (N:=N) (m:=m) (x:=x) (by lia)
    rw[hC x hx]at hc;refine of_decide_eq_false hc ?_;rcases FJ with e|e
    ·rw[<-e];exact hall k hk hb
    ·rw[<-e,<-gQ (S:=fun k=>m.testBit k) hk hb]
     exact hall k hk hb
 have pos:∀ x,x<N.p->C x=true->0<N.dg m x:=fun x hx hc=>by
  cases hz:N.dg m x with
  | succ d=>lia
  | zero =>
    exfalso
    obtain⟨y,hy,HE,hne⟩:∃ y,y<N.p/\C y=true/\y≠x:=by
     obtain⟨c,d,h1,h3,h4,h5⟩:=lP h2
     by_cases e:c=x
     ·exact⟨d,h3,h5,by lia⟩
     ·exact⟨c,by lia,h4,e⟩
    rw[hC x hx]at hc;rw[hC y hy]at HE;exact hne (alone hz (bx _ _ _ ((jw hc).trans (jw HE).symm)))
 have hle:∀ x,x<N.p->(if C x=true then 2 else 0)<=N.dg m x:=fun x hx=>by
  by_cases hc:C x=true
  ·rw[if_pos hc];have h1:=pos x hx hc;have h3:=qz r.2.1 hx
   lia
  ·rw[if_neg hc];exact Nat.zero_le _
 have he:sm (fun x=>if C x=true then 2 else 0) N.p=sm (fun x=>N.dg m x) N.p:=by
  rw[Ec,vm,hl]
 intro x hx;have:=D8 hle he x hx
 by_cases hc:C x=true
 ·rw[if_pos hc]at this;exact .inr this.symm
 ·rw[if_neg hc]at this;exact .inl this.symm
end RM
namespace Ring
open PySem L2
theorem yZ{H:Hp}{xs:List V}{p:Nat}{ts:List c9}{g:aB p ts}{k:Nat}(h3:Paired (TupAt H) xs ts)(hk:k<ts.length):∃ c,xs[k]?=some (.ref c)/\H c=some (.tup [.int ((g.N.a k:Nat):Int),.int ((g.N.b k:Nat):Int),.int (cD ts k).2.2]):=by
 have hkx:k<xs.length:=by rw[h3.length];exact hk
 obtain⟨t,ht,c,hc,hct⟩:=Paired.qU h3 (i:=k) (x:=xs[k]) (by simp[hkx])
 have LA:t=cD ts k:=by
  have z:=oV hk;rw[ht]at z;exact Option.some.inj z
 refine⟨c,by rw[<-hc];simp[hkx],?_⟩
 rw[hct,<-AE hk,<-AF hk,LA];rfl
end Ring
namespace L2
open PySem PySem.Spec PyProof.Rows PySem.W
def sU(n:Nat){α:Type}(R:α->Prop):KasT α->Prop
 | .ret a=>R a
 | .ask i j k=>i<n/\j<n/\∀ b,sU n R (k b)
theorem sU.bind{n:Nat}{α β:Type}{R:α->Prop}{R' : β->Prop}{f:α->KasT β}:∀{t:KasT α},sU n R t->(∀ a,R a->sU n R' (f a))->sU n R' (t.bind f)
 | .ret a,h,g=>by
   rw[KasT.bind.eq_1];exact g a h
 | .ask i j k,h,g=>by
   rw[KasT.bind.eq_2];exact⟨h.1,h.2.1,fun b=>sU.bind (h.2.2 b) g⟩
def cX(n:Nat)(p:Array Nat):Prop:=p.toList.Perm (List.range n)
theorem cX.at{n:Nat}{p:Array Nat}(h:cX n p)(hn:0<n)(x:Nat):p.getD x 0<n:=by
 unfold Array.getD
 split
 ·rename_i hx
  have:p[x]∈p.toList:=by simp
  exact List.mem_range.mp (h.mem_iff.mp this)
 ·exact hn
theorem BL{n:Nat}{p:Array Nat}(h:cX n p)(i j:Nat):cX n (p.swapIfInBounds i j):=by
 unfold Array.swapIfInBounds
 split
 ·split
  ·exact(Array.perm_iff_toList_perm.mp (Array.swap_perm _ _)).trans h
  ·exact h
 ·exact h
theorem oX{n:Nat}(f g:Nat->Nat):∀(l:List Nat) {p:Array Nat},cX n p->cX n (l.foldl (fun a k=>a.swapIfInBounds (f k) (g k)) p)
 | [],_,h=>h
 | k::l,_,h=>oX f g l (BL h (f k) (g k))
theorem kX{n:Nat}{p:Array Nat}(h:cX n p)(i j:Nat):cX n (kas_rev p i j):=oX _ _ _ h
theorem Ed{n:Nat}{p:Array Nat}(h:cX n p)(i j:Nat):cX n (bubble p i j):=oX _ _ _ h
theorem y9{n:Nat}{p:Array Nat}(h:cX n p)(hn:0<n):∀ f x,sU n (fun _=>True) (kas_asc p f x)
 | 0,x=>by
   rw[kas_asc.eq_1];trivial
 | f+1,x=>by
   rw[kas_asc.eq_2];refine⟨h.at hn _,h.at hn _,fun b=>?_⟩
   cases b with
   | true=>trivial
   | false=>exact y9 h hn f (x+1)
theorem qC{n:Nat}(hn:0<n):∀ f {p:Array Nat} (x q:Nat),cX n p->sU n (fun r:Array Nat×Nat×Nat=>cX n r.1) (kas_desc f p x q)
 | 0,p,x,q,h=>by
   rw[kas_desc.eq_1];exact h
 | f+1,p,x,q,h=>by
   rw[kas_desc.eq_2];refine⟨h.at hn _,h.at hn _,fun b=>?_⟩
   cases b with
   | true =>
     show sU n _ (if q > 0 then _ else _)
     by_cases hq:q > 0
     ·rw[if_pos hq];exact qC hn f _ _ (kX h _ _)
     ·rw[if_neg hq];exact qC hn f _ _ h
   | false =>
     refine⟨h.at hn _,h.at hn _,fun b=>?_⟩
     cases b with
     | true=>exact h
     | false=>exact qC hn f _ _ h
theorem AS{n:Nat}(hn:0<n){p:Array Nat}(h:cX n p)(x r:Nat):sU n (fun r:Nat×Array Nat=>cX n r.2) (kas_tail3 x r p) :=
 sU.bind (y9 (kX h _ _) hn _ _) fun _ _=>kX h _ _
theorem AU{n:Nat}(hn:0<n){p:Array Nat}(h:cX n p)(x r:Nat):sU n (fun r:Nat×Array Nat=>cX n r.2) (kas_descPart x r p):=by
 refine sU.bind (qC hn _ _ _ h) fun y hy=>?_
 by_cases hq:y.2.2 > 0
 ·rw[if_pos hq];exact AS hn (kX hy _ _) _ _
 ·rw[if_neg hq];exact AS hn hy _ _
theorem Ef{n:Nat}(hn:0<n){p:Array Nat}(h:cX n p)(r:Nat):sU n (fun r:Nat×Array Nat=>cX n r.2) (kas_count r p):=by
 refine sU.bind (y9 h hn _ _) fun y _=>?_
 by_cases h1:(y==r)=true
 ·rw[if_pos h1];exact h
 ·rw[if_neg h1]
  by_cases h2:y > 1
  ·rw[if_pos h2];refine⟨h.at hn _,h.at hn _,fun b=>?_⟩
   cases b with
   | true=>exact h
   | false=>exact AU hn (kX h _ _) _ _
  ·rw[if_neg h2];exact AU hn h _ _
theorem rG{n:Nat}(hn:0<n){p:Array Nat}(h:cX n p)(k:Nat):∀ f x y,sU n (fun _=>True) (kas_place p k f x y)
 | 0,x,y=>by
   rw[kas_place.eq_1];trivial
 | f+1,x,y=>by
   rw[kas_place.eq_2]
   by_cases hx:x ≥ y
   ·rw[if_pos hx];trivial
   ·rw[if_neg hx];refine⟨h.at hn _,h.at hn _,fun b=>?_⟩
    cases b with
    | true=>exact rG hn h k f _ _
    | false=>exact rG hn h k f _ _
theorem Eg{n:Nat}(hn:0<n):∀ f {p:Array Nat} (x:Nat),cX n p->sU n (cX n) (kas_bin f p x)
 | 0,p,x,h=>by
   rw[kas_bin.eq_1];exact h
 | f+1,p,x,h=>by
   rw[kas_bin.eq_2];exact sU.bind (rG hn h _ _ _ _) fun l _=>Eg hn f _ (Ed h _ _)
theorem AV{n:Nat}(hn:0<n):sU n (cX n) (kas_sort n):=by
 unfold kas_sort;have h0:cX n (List.range n).toArray:=by unfold cX;simp
 refine sU.bind (Ef hn h0 n) fun r hr=>?_
 by_cases hx:r.1<n
 ·rw[if_pos hx];exact Eg hn _ _ hr
 ·rw[if_neg hx];exact hr
def HF(h:Heap)(v:Value):Prop:=∃(a:Addr) (o:Obj) (x y:Int) (t u:Tok) (k:Nat),v = .ref a/\h.get? a=some o/\o.cls = .type "tuple"/\o.data = .seq #[.int x t,.int y u] k
theorem uy{prog:Program}{w:World}{A:Around}{E:gU}{s:Shared}{vs:List Value}{Q:SortKind->Shared->Prop}(hn:0<vs.length)(hv:∀ v∈vs,HF s.heap v)(q:Q (tuples' true) s):wpAny (model prog w) A (keyKind' vs.toArray) Q E s:=by
 obtain⟨fs,hl,hf,hk⟩:∃ fs:List Value,fs.length=vs.length/\(∀ v∈fs,∃ x t,v=Value.int x t)/\KatTups s.heap vs fs:=by
  clear q hn
  induction vs with
  | nil=>exact⟨[],rfl,fun v hv=>(by cases hv),by rw[KatTups.eq_1];trivial⟩
  | cons v vs ih =>
    obtain⟨fs,h1,h2,h3⟩:=ih fun v LB=>hv v (lJ _ LB)
    obtain⟨a,o,x,y,t,u,k,e,ho,hc,hd⟩:=hv v List.mem_cons_self;refine⟨.int x t::fs,by simp[h1],fun v' LB=>?_,?_⟩
    ·rcases List.mem_cons.mp LB with rfl|LB
     ·exact⟨x,t,rfl⟩
     ·exact h2 v' LB
    ·rw[KatTups.eq_2];exact⟨⟨a,o,_,k,e,ho,hc,hd,rfl⟩,h3⟩
 refine kat_kind (T:=.type "int") hk (by lia) (fun v hv=>?_) (by decide) q
 obtain⟨x,t,rfl⟩:=hf v hv;intro A Q E s _ q;exact wpAny_pure q
section
variable {X:Cx}{pq:aX}{σ:St}{H:Hp}{s:Shared}{h' : Heap}
theorem Inv.LC{a:Addr}{o:HO}{t' : Nat}(I:Inv X pq σ H s)(k:∀ b u,b≠X.env.locals->s.heap.get? b=some u->h'.get? b=some u)(ns:∀ m,s.heap.Ns X.env.locals m->h'.Ns X.env.locals m)(hp:s.heap.objs.size<=a)(new:bR X.prog X.w (upd H a o) h' a o):
 Inv X pq σ (upd H a o) { s with heap:=h',toks:=t'}:=by
 have hn:H a=none:=I.hok.fresh hp;have nl:∀ b u,H b=some u->b≠X.env.locals:=fun b u e z=>by
  rw[z,I.free]at e;cases e
 refine I.step (g':=s.gens) (d':=s.drawn) (ch:=[]) (fun b hb=>absurd hb List.not_mem_nil) (fun b o hb _ _ e _=>k b o hb e) (fun b o hb _ _ e _=>⟨o.slots,k b o hb e⟩) (fun b u _ e n=>?_) (fun b o _ e=>?_) (fun b xs e=>?_) (fun b u xs e=>?_) (fun b ps e=>?_) ns (fun b u e=>?_) I.bare
 ·rw[ay (Nat.ne_of_lt (Nat.lt_of_lt_of_le (Heap.lt_size e) hp))];exact n
 ·by_cases hb:b=X.env.locals
  ·subst hb;obtain⟨m,hm,_⟩:=I.loc;obtain⟨o',es,ep,e',_⟩:=ns m hm;exact⟨o',e'⟩
  ·exact⟨o,k b o hb e⟩
 ·rw[ay (aS e hn)];exact e
 ·rw[ay (aS e hn)];exact e
 ·exact⟨#[],by rw[ay (aS e hn),e];simp⟩
 ·by_cases hb:b=a
  ·subst hb;rw[ae]at e;cases e;exact new
  ·rw[ay hb]at e;refine(I.hok b u e).stay (fun c v hc q=>k c v ?_ q) (fun c q=>by rw[ay (aS q hn)];exact q) fun c xs q=>by rw[ay (aS q hn)];exact q
   rcases hc with rfl|hc
   ·exact nl _ _ e
   ·exact nl _ _ hc
theorem Jh{h:Heap}{L:Addr}{m m' : kK}(a:h.Ns L m)(b:h.Ns L m'):m=m':=by
 obtain⟨o,es,ep,e,d,_,f⟩:=a;obtain⟨o',es',MH,e',d',_,f'⟩:=b;rw[e]at e';cases e';rw[d]at d';cases d'
 funext x
 rw[<-f x,f' x]
end
theorem Eh{prog:Program}{w:World}{A:Around}{E:gU}{s:Shared}{a:Addr}{its:List Value}{n0:Nat}{P:PySem.Fin->Shared->Prop}(ho:s.heap.get? a=some (seqObj "list" its.toArray n0))(hn:its.length<2)
 (q:P (PySem.Fin.done (PySem.Flow.ret PySem.Value.none)) { s with heap:=sortedHeap s.heap a its its.toArray}):wpAny (model prog w) A (PySem.Builtin.«list.sort» { pos:=[PySem.Value.ref a]}) P E s:=by
 have hs1:its.length<=1000:=by lia
 have ht:its.toArray.size<=sizeLine:=by
  rw[List.size_toArray];exact dl (Nat.ble_eq.mpr hs1)
 rw[list_sort_plain];refine dY (listItems_at ho rfl ?_);refine dY (listUpdate_at ho rfl ?_ ht (Nat.zero_le _));obtain⟨n1,FH⟩:∃ n1,(s.heap.update a (Obj.mapSeq fun _=>#[])).get? a=some (seqObj "list" #[] n1):=by
  exact⟨_,get?_update_seq ho fun _=>#[]⟩
 refine dY (seqEpoch_at FH rfl ?_);refine dY (wpAny_newTuple ?_ (by simpa using ht))
 refine dY (wpAny_newList ?_ (Nat.zero_le _));refine wpAny_holding ?_;have hsz:its.toArray.size<2:=by simpa using hn
 simp only[hsz,↓reduceIte];refine dY (wpAny_pure ?_);refine dY (m:=pure ((),SortSt.mk' general' (its.toArray.zip its.toArray) #[] 7 none)) (wpAny_pure ?_);have Pr:(((s.heap.update a (Obj.mapSeq fun x=>#[])).push { cls:=Value.type "tuple",data:=Data.seq its.toArray}).push { cls:=Value.type "list",data:=Data.seq #[]}).get? a=some (seqObj "list" #[] n1):=by
  have h1:=Heap.lt_size FH;rw[Heap.get?_push_ne _ _ _ (Nat.ne_of_lt (by rw[size_push'];exact Nat.lt_succ_of_lt h1)),Heap.get?_push_ne _ _ _ (Nat.ne_of_lt h1)]
  exact FH
 refine dY (seqEpoch_at Pr rfl ?_);refine dY (listUpdate_at Pr rfl ?_ (Nat.zero_le _) ?_)
 ·show wpAny _ _ (if(n1 != n1)=true then _ else ret Value.none) _ _ _
  rw[if_neg (by simp)]
  refine wpAny_pure ?_;have e:Array.map (fun x:Keyed=>x.snd) (its.toArray.zip its.toArray)=its.toArray:=by
   simp;exact List.map_snd_zip (Nat.le_refl _)
  have e2:Array.map (fun x:Keyed=>x.snd) (arrOf (SortSt.mk' general' (its.toArray.zip its.toArray) #[] 7 none))=its.toArray:=e
  rw[e2];exact q
 ·have e:Array.map (fun x:Keyed=>x.snd) (its.toArray.zip its.toArray)=its.toArray:=by
   simp;exact List.map_snd_zip (Nat.le_refl _)
  have e2:Array.map (fun x:Keyed=>x.snd) (arrOf (SortSt.mk' general' (its.toArray.zip its.toArray) #[] 7 none))=its.toArray:=e
  show(Array.map (fun x:Keyed=>x.snd) (arrOf (SortSt.mk' general' (its.toArray.zip its.toArray) #[] 7 none))).size<=_
  rw[e2];exact Nat.le_succ_of_le ht
end L2
namespace RM
variable {N:Net}{row:Nat->Int}
theorem lQ:∀{l L:List Nat},l.Nodup->(∀ x∈l,x∈L)->l.length<=L.length
 | [],_,_,_=>Nat.zero_le _
 | x::l,L,nd,h=>by
   have hx:=h x List.mem_cons_self;have Pu:=List.nodup_cons.mp nd;have:=lQ (L:=L.erase x) Pu.2 fun y hy=>(List.mem_erase_of_ne (fun z:y=x=>Pu.1 (by rw[<-z];exact hy))).mpr (h y (lJ _ hy))
   rw[List.length_erase_of_mem hx]at this;have:=List.length_pos_of_mem hx;rw[List.length_cons]
   lia
def code(m:Nat):List Nat->Nat
 | []=>0
 | c::cs=>(if m.testBit c=true then 1 else 0)+2*code m cs
theorem vn(m:Nat):∀ cs,code m cs<2^cs.length
 | []=>Nat.one_pos
 | c::cs=>by
   have:=vn m cs;unfold code;rw[List.length_cons,Nat.pow_succ]
   split<;>lia
theorem code_inj{m q:Nat}:∀{cs},code m cs=code q cs->∀ c∈cs,m.testBit c=q.testBit c
 | [],_,c,hc=>by cases hc
 | d::cs,h,c,hc=>by
   unfold code at h;have h1:m.testBit d=q.testBit d:=by
    cases hm:m.testBit d<;>cases hq:q.testBit d
    ·rfl
    ·rw[hm,hq,if_neg Bool.false_ne_true,if_pos rfl]at h;lia
    ·rw[hm,hq,if_neg Bool.false_ne_true,if_pos rfl]at h;lia
    ·rfl
   rcases List.mem_cons.mp hc with rfl|hc
   ·exact h1
   ·rw[h1]at h;exact code_inj (by lia) c hc
theorem BN{l:List Nat}(nd:l.Nodup)(h:∀ m∈l,m<2^N.n/\N.Ring m):l.length<2^N.az.length:=by
 have inj:∀ m q,m<2^N.n->q<2^N.n->N.eg m->N.eg q->code m N.az=code q N.az->m=q:=fun m q hm hq em eq e=>iK hm hq em eq fun c hc hf=>code_inj e c (cL.mpr ⟨hc,hf⟩)
 have Ol:((0:Nat)::l.map fun m=>code m N.az).Nodup:=by
  refine List.nodup_cons.mpr ⟨fun z=>?_,?_⟩
  ·obtain⟨m,hm,e⟩:=List.mem_map.mp z;obtain⟨h1,h2⟩:=h m hm;have e0:code 0 N.az=0:=by
    have:∀ cs,code 0 cs=0:=fun cs=>by
     induction cs with
     | nil=>rfl
     | cons c cs ih =>
       unfold code;rw[Nat.zero_testBit,ih,if_neg Bool.false_ne_true]
    exact this _
   exact h2.1 (inj m 0 h1 (Nat.two_pow_pos _) h2.2.1 eg.zero (by rw[e,e0]))
  ·refine List.Pairwise.map _ (fun a b (hab:a≠b/\a∈l/\b∈l)=>?_) ?_ (R:=fun a b=>a≠b/\a∈l/\b∈l)
   ·obtain⟨h1,h2⟩:=h a hab.2.1;obtain⟨h3,h4⟩:=h b hab.2.2;exact fun e=>hab.1 (inj a b h1 h3 h2.2.1 h4.2.1 e)
   ·exact List.Pairwise.imp_of_mem (fun {a b} ha hb hne=>⟨hne,ha,hb⟩) nd
 have:=lQ (L:=List.range (2^N.az.length)) Ol fun x hx=>by
  refine List.mem_range.mpr ?_;rcases List.mem_cons.mp hx with rfl|hx
  ·exact Nat.two_pow_pos _
  ·obtain⟨m,_,rfl⟩:=List.mem_map.mp hx;exact vn _ _
 rw[List.length_cons,List.length_map,List.length_range]at this
 lia
variable {N:Net}
variable {N:Net}
theorem Ji{m x0:Nat}(hm:m<2^N.n)(d2:N.D2 m)(FL:x0<N.p)(hd0:N.dg m x0=2):
 N.Ring m↔∀ x,x<N.p->(N.aN (fun k=>m.testBit k) N.n x=N.aN (fun k=>m.testBit k) N.n x0↔N.dg m x=2):=by
 constructor
 ·intro r x hx;obtain⟨k0,hk0,hb0,hall⟩:=mS hm r;have on:∀ y,y<N.p->N.dg m y=2->N.aN (fun k=>m.testBit k) N.n y=N.aN (fun k=>m.testBit k) N.n (N.a k0):=fun y hy hd=>by
   obtain⟨k,hk,hb,FJ⟩:=qB (N:=N) (m:=m) (x:=y) (by lia)
   rw[<-hall k hk hb];rcases FJ with e|e
   ·rw[e]
   ·rw[<-e];exact(gQ (S:=fun k=>m.testBit k) hk hb).symm
  constructor
  ·intro e;rcases d2 x hx with z|z
   ·exfalso
    have:=alone z (bx _ _ _ e);rw[this]at hd0
    lia
   ·exact z
  ·intro hd;rw[on x hx hd,on x0 FL hd0]
 ·intro h;have hpos:∀ k,k<N.n->m.testBit k=true->N.aN (fun k=>m.testBit k) N.n (N.a k)=N.aN (fun k=>m.testBit k) N.n x0:=fun k hk hb=>by
   refine(h _ (N.al k hk)).mpr ?_;have h1:=rD hk hb (.inl rfl);rcases d2 _ (N.al k hk) with z|z
   ·lia
   ·exact z
  have hs:sm (fun x=>N.dg m x) N.p=2*cnt (fun x=>decide (N.aN (fun k=>m.testBit k) N.n x=N.aN (fun k=>m.testBit k) N.n x0)) N.p:=by
   rw[<-Ec];refine fM fun x hx=>?_
   by_cases e:N.aN (fun k=>m.testBit k) N.n x=N.aN (fun k=>m.testBit k) N.n x0
   ·rw[if_pos (cN e)];exact(h x hx).mp e
   ·rw[if_neg (by rw[fk e];decide)]
    rcases d2 x hx with z|z
    ·exact z
    ·exact absurd ((h x hx).mpr z) e
  have hl:cnt (fun x=>decide (N.aN (fun k=>m.testBit k) N.n x=N.aN (fun k=>m.testBit k) N.n x0)) N.p=cnt (fun k=>m.testBit k) N.n:=by
   rw[vm]at hs
   lia
  refine AN hm (D2.Oj d2) (fun x=>decide (N.aN (fun k=>m.testBit k) N.n x=N.aN (fun k=>m.testBit k) N.n x0)) (fun x _=>rfl) ?_ (fun k hk hb=>cN (hpos k hk hb)) hl
  rw[hl];have:N.dg m x0<=cnt (fun k=>m.testBit k) N.n:=yX fun k _ hk=>(Bool.and_eq_true_iff.mp hk).1
  lia
inductive Sp(B:List Nat):Nat->Prop
 | zero:Sp B 0
 | add {x b:Nat} (h:Sp B x) (hb:b∈B):Sp B (x^^^b)
section
variable {B C:List Nat}{x y b:Nat}
theorem Sp.mem(h:b∈B):Sp B b:=by
 have:=Sp.add .zero h;rw[Nat.zero_xor]at this;exact this
theorem Sp.xor(h:Sp B x)(h' : Sp B y):Sp B (x^^^y):=by
 induction h' with
 | zero=>rw[Nat.xor_zero];exact h
 | add _ hb ih=>rw[<-Nat.xor_assoc];exact .add ih hb
theorem Sp.mono(h:Sp B x)(hc:∀ b∈B,Sp C b):Sp C x:=by
 induction h with
 | zero=>exact .zero
 | add _ hb ih=>exact ih.xor (hc _ hb)
theorem jF(x b:Nat):x^^^b^^^b=x:=by rw[Nat.xor_assoc,Nat.xor_self,Nat.xor_zero]
theorem Sp.rH:Sp (b::B) x↔Sp B x\/Sp B (x^^^b):=by
 constructor
 ·intro h
  induction h with
  | zero=>exact .inl .zero
  | add h hc ih =>
    rename_i x c
    rcases List.mem_cons.mp hc with e|e
    ·subst e;rcases ih with ih|ih
     ·exact .inr (by rw[jF];exact ih)
     ·exact .inl ih
    ·rcases ih with ih|ih
     ·exact .inl (.add ih e)
     ·exact .inr (by rw[Nat.xor_assoc,Nat.xor_comm c,<-Nat.xor_assoc];exact .add ih e)
 ·rintro(h|h)
  ·exact h.mono fun c hc=>.mem (lJ _ hc)
  ·have h2:Sp (b::B) (x^^^b):=h.mono fun c hc=>.mem (lJ _ hc)
   have:=h2.add (b:=b) List.mem_cons_self;rw[jF]at this;exact this
theorem Sp.off{t:Nat}(h:Sp B x)(hz:∀ b∈B,b.testBit t=false):x.testBit t=false:=by
 induction h with
 | zero=>exact Nat.zero_testBit t
 | add _ hb ih=>rw[Nat.testBit_xor,ih,hz _ hb];rfl
theorem Sp.lt{n:Nat}(h:Sp B x)(hz:∀ b∈B,b<2^n):x<2^n:=by
 induction h with
 | zero=>exact Nat.two_pow_pos n
 | add _ hb ih=>exact Nat.xor_lt_two_pow ih (hz _ hb)
end
inductive HG:List (Nat×Nat)->Prop
 | nil:HG []
 | cons {t r:Nat} {rest:List (Nat×Nat)} (h:HG rest) (hr:r.testBit t=true) (hz:∀ q∈rest,q.2.testBit t=false):HG ((t,r)::rest)
def xw(rows:List (Nat×Nat))(x:Nat):Nat:=rows.foldl (fun x q=>if x.testBit q.1=true then x^^^q.2 else x) x
section
variable {rows:List (Nat×Nat)}{x t:Nat}
theorem qD(rows:List (Nat×Nat)):∀ x,Sp (rows.map (·.2)) (x^^^xw rows x):=by
 induction rows with
 | nil=>intro x;show Sp [] (x^^^x);rw[Nat.xor_self];exact .zero
 | cons q rest ih =>
   intro x;show Sp (q.2::rest.map (·.2)) (x^^^xw rest (if x.testBit q.1=true then x^^^q.2 else x))
   have h:=ih (if x.testBit q.1=true then x^^^q.2 else x)
   by_cases e:x.testBit q.1=true
   ·rw[if_pos e]at h ⊢;refine Sp.rH.mpr (.inr ?_);rw[Nat.xor_assoc,Nat.xor_comm _ q.2,<-Nat.xor_assoc];exact h
   ·rw[if_neg e]at h ⊢;exact Sp.rH.mpr (.inl h)
theorem BO(hz:∀ q∈rows,q.2.testBit t=false):∀{x},x.testBit t=false->(xw rows x).testBit t=false:=by
 induction rows with
 | nil=>intro x h;exact h
 | cons q rest ih =>
   intro x h;have h2:(if x.testBit q.1=true then x^^^q.2 else x).testBit t=false:=by
    by_cases e:x.testBit q.1=true
    ·rw[if_pos e,Nat.testBit_xor,h,hz q List.mem_cons_self];rfl
    ·rw[if_neg e];exact h
   exact ih (fun q' hq=>hz q' (lJ _ hq)) h2
theorem uz(h:HG rows):∀ x,∀ q∈rows,(xw rows x).testBit q.1=false:=by
 induction h with
 | nil=>intro x q hq;cases hq
 | cons h hr hz ih =>
   rename_i t r rest
   intro x q hq;show(xw rest (if x.testBit t=true then x^^^r else x)).testBit q.1=false
   rcases List.mem_cons.mp hq with e|e
   ·subst e;refine BO hz ?_
    by_cases e:x.testBit t=true
    ·rw[if_pos e,Nat.testBit_xor,e,hr];rfl
    ·rw[if_neg e];exact Ib.mpr e
   ·exact ih _ q e
theorem Ei(h:HG rows):∀{x},Sp (rows.map (·.2)) x->(∀ q∈rows,x.testBit q.1=false)->x=0:=by
 induction h with
 | nil=>intro x hs _;cases hs with
   | zero=>rfl
   | add _ hb=>cases hb
 | cons h hr hz ih =>
   rename_i t r rest
   intro x hs hx;have off:∀ y,Sp (rest.map (·.2)) y->y.testBit t=false:=fun y hy=>hy.off fun b hb=>by
    obtain⟨q,hq,rfl⟩:=List.mem_map.mp hb;exact hz q hq
   rcases Sp.rH.mp hs with hs|hs
   ·exact ih hs fun q hq=>hx q (lJ _ hq)
   ·exfalso
    have h1:=off _ hs;have h2:=hx (t,r) List.mem_cons_self;rw[Nat.testBit_xor]at h1;have h2:x.testBit t=false:=h2;rw[h2,hr]at h1;cases h1
theorem BP(h:HG rows)(x:Nat):xw rows x=0↔Sp (rows.map (·.2)) x:=by
 have hs:=qD rows x
 constructor
 ·intro e;rw[e,Nat.xor_zero]at hs;exact hs
 ·intro hx;refine Ei h ?_ (uz h x);have:=hx.xor hs;rw[<-Nat.xor_assoc,Nat.xor_self,Nat.zero_xor]at this;exact this
end
open Classical in
open Classical in
theorem GD{x:Nat}(h:x≠0):x.testBit x.log2=true:=Nat.testBit_log2 h
open Ring (xorL xorL_cons maskOf)
variable {N:Net}
theorem gC{z:Nat}:N.eg (N.dF z N.az 0)/\N.dF z N.az 0<2^N.n:=lO fun c hc=>(cL.mp hc).1
theorem uA:N.az.Nodup:=List.Pairwise.filter _ List.nodup_range
theorem BQ:N.az.Pairwise (· < ·):=List.Pairwise.filter _ List.pairwise_lt_range
theorem jT{z j d:Nat}(h:N.az[j]?=some d):(N.dF z N.az 0).testBit d=z.testBit j:=by
 rw[xn uA (fun c hc=>(cL.mp hc).2) h,Nat.zero_add]
theorem rJ{c:Nat}(hc:c<N.n)(hf:N.kJ c=false):∃ j:Nat,N.az[j]?=some c:=List.getElem?_of_mem (cL.mpr ⟨hc,hf⟩)
theorem za(z y:Nat):N.dF (z^^^y) N.az 0=N.dF z N.az 0^^^N.dF y N.az 0:=by
 refine iK gC.2 (Nat.xor_lt_two_pow gC.2 gC.2) gC.1 (eg.xor gC.1 gC.1) fun c hc hf=>?_
 obtain⟨j,hj⟩:=rJ hc hf;rw[jT hj,Nat.testBit_xor,Nat.testBit_xor,jT hj,jT hj]
theorem Jj{m:Nat}(hm:m<2^N.n)(ev:N.eg m):∃ z,z<2^N.az.length/\N.dF z N.az 0=m:=by
 refine⟨maskOf (fun i=>m.testBit (N.az.getD i 0)) N.az.length,Ring.mask_lt _ _,iK gC.2 hm gC.1 ev fun c hc hf=>?_⟩
 obtain⟨j,hj⟩:=rJ hc hf;rw[jT hj,Ring.mask_bit];have hl:=(oA.mp hj).1;rw[cN hl,Bool.true_and,List.getD_eq_getElem?_getD,hj];rfl
theorem Ej{c j:Nat}(hc:c<N.n)(hf:N.kJ c=false)(h:(N.ring c).testBit j=true):j<=c:=by
 have Om:N.dX c (N.a c)=N.dX c (N.b c):=by
  unfold Net.kJ at hf
  simpa using hf
 have low:∀ k,(N.trail c (N.a c)^^^N.trail c (N.b c)^^^2^c).testBit k=true->k<=c/\(k=c\/N.kJ k=true):=fun k hk=>by
  rw[Nat.testBit_xor,Nat.testBit_xor,Nat.testBit_two_pow]at hk
  by_cases e:c=k
  ·exact⟨by lia,.inl e.symm⟩
  ·rw[fk e,Bool.xor_false]at hk;cases h1:(N.trail c (N.a c)).testBit k with
   | true=>exact⟨Nat.le_of_lt (dc _ _ _ h1).1,.inr (dc _ _ _ h1).2⟩
   | false =>
     rw[h1,Bool.false_xor]at hk;exact⟨Nat.le_of_lt (dc _ _ _ hk).1,.inr (dc _ _ _ hk).2⟩
 have e:N.ring c=N.trail c (N.a c)^^^N.trail c (N.b c)^^^2^c:=by
  refine iK (qx hc) (gn fun k hk=>Nat.lt_of_le_of_lt (low k hk).1 hc) (jB hc) (fun x hx=>?_) fun d hd hfd=>?_
  ·rw[gW,gW,kT c (Nat.le_of_lt hc),kT c (Nat.le_of_lt hc),mR hc,Om];unfold Net.inc;cases decide (N.a c=x)<;>cases decide (N.b c=x)<;>cases decide (N.dX c (N.b c)=x)<;>rfl
  ·rw[gp hf hfd];cases q:(N.trail c (N.a c)^^^N.trail c (N.b c)^^^2^c).testBit d with
   | true =>
     rcases(low d q).2 with z|z
     ·rw[z];simp
     ·rw[hfd]at z;cases z
   | false =>
     refine fk fun z=>?_
     subst z;rw[Nat.testBit_xor,Nat.testBit_xor,Nat.testBit_two_pow,cN rfl]at q;have t1:(N.trail c (N.a c)).testBit c=false:=by
      cases h1:(N.trail c (N.a c)).testBit c with
      | false=>rfl
      | true=>exact absurd (dc _ _ _ h1).1 (Nat.lt_irrefl _)
     have t2:(N.trail c (N.b c)).testBit c=false:=by
      cases h1:(N.trail c (N.b c)).testBit c with
      | false=>rfl
      | true=>exact absurd (dc _ _ _ h1).1 (Nat.lt_irrefl _)
     rw[t1,t2]at q;cases q
 rw[e]at h;exact(low j h).1
theorem uB{z j:Nat}:∀{l:List Nat} {i:Nat},(N.dF z l i).testBit j=true->∃ k c,l[k]?=some c/\z.testBit (i+k)=true/\(N.ring c).testBit j=true
 | [],_,h=>by simp[Net.dF]at h
 | c::r,i,h=>by
   unfold Net.dF at h;rw[Nat.testBit_xor]at h
   by_cases q:z.testBit i=true/\(N.ring c).testBit j=true
   ·exact⟨0,c,rfl,by simpa using q.1,q.2⟩
   ·have z0:(if z.testBit i=true then N.ring c else 0).testBit j=false:=by
     split
     ·next hz=>cases e:(N.ring c).testBit j with
       | false=>rfl
       | true=>exact absurd ⟨hz,e⟩ q
     ·simp
    rw[z0,Bool.false_xor]at h;obtain⟨k,d,h1,h2,h3⟩:=uB h;exact⟨k+1,d,by simpa using h1,by rw[show i+(k+1)=i+1+k by lia];exact h2,h3⟩
theorem AW{x y:Nat}(i:Nat)(h1:x.testBit i=false)(h2:y.testBit i=true)(h:∀ j,i<j->x.testBit j=y.testBit j):x<y:=by
 have hq:x/2^(i+1)=y/2^(i+1):=Nat.eq_of_testBit_eq fun j=>by
  rw[Nat.testBit_div_two_pow,Nat.testBit_div_two_pow];exact h _ (by lia)
 have hx:x%2^(i+1)<2^i:=Nat.lt_pow_two_of_testBit _ fun k hk=>by
  rw[Nat.testBit_mod_two_pow]
  by_cases e:k=i
  ·subst e;rw[h1,Bool.and_false]
  ·rw[fk (by lia),Bool.false_and]
 have hy:2^i<=y%2^(i+1):=Nat.ge_two_pow_of_testBit (by rw[Nat.testBit_mod_two_pow,h2,cN (Nat.lt_succ_self _)];rfl)
 have e1:=Nat.div_add_mod x (2^(i+1));have e2:=Nat.div_add_mod y (2^(i+1));rw[hq]at e1
 lia
theorem GF{z y:Nat}(h:z<y)(hy:y<2^N.az.length):N.dF z N.az 0<N.dF y N.az 0:=by
 have hd:z^^^y≠0:=fun e=>by
  have:z=y:=by
   have:=congrArg (· ^^^ y) e
   simpa[Nat.xor_assoc]using this
  lia
 have top:=Nat.testBit_log2 hd;have above:∀ k,(z^^^y).log2<k->(z^^^y).testBit k=false:=fun k hk=>Nat.testBit_lt_two_pow (Nat.lt_of_lt_of_le (Nat.lt_log2_self) (Nat.pow_le_pow_right (by decide) hk))
 generalize hi:(z^^^y).log2=i at top above;have same:∀ k,i<k->z.testBit k=y.testBit k:=fun k hk=>by
  have:=above k hk;rw[Nat.testBit_xor]at this;cases hz:z.testBit k<;>cases hy:y.testBit k<;>rw[hz,hy]at this<;>first | rfl | cases this
 have zi:z.testBit i=false/\y.testBit i=true:=by
  rw[Nat.testBit_xor]at top;cases hz:z.testBit i with
  | false =>
    rw[hz,Bool.false_xor]at top;exact⟨rfl,top⟩
  | true =>
    have RX:y.testBit i=false:=by
     cases q:y.testBit i with
     | false=>rfl
     | true=>rw[hz,q]at top;cases top
    exact absurd (AW i RX hz fun k hk=>(same k hk).symm) (by lia)
 have xx:i<N.az.length:=cP hy zi.2;have hc:N.az[i]?=some N.az[i]:=List.getElem?_eq_getElem xx;refine AW N.az[i] (by rw[jT hc];exact zi.1) (by rw[jT hc];exact zi.2) fun j hj=>?_
 have e0:(N.dF (z^^^y) N.az 0).testBit j=false:=by
  cases q:(N.dF (z^^^y) N.az 0).testBit j with
  | false=>rfl
  | true =>
    obtain⟨k,c,h1,h2,h3⟩:=uB q;rw[Nat.zero_add]at h2;have hk:k<=i:=by
     by_cases hk:k<=i
     ·exact hk
     ·rw[above k (by lia)]at h2
      cases h2
    obtain⟨oB,hkc⟩:=oA.mp h1;obtain⟨c1,c2⟩:=cL.mp (m8 h1);have l1:=Ej c1 c2 h3;have l2:c<=N.az[i]:=by
     by_cases e:k=i
     ·subst e;exact Nat.le_of_eq hkc.symm
     ·rw[<-hkc];exact Nat.le_of_lt (List.pairwise_iff_getElem.mp BQ k i oB xx (by lia))
    lia
 rw[za,Nat.testBit_xor]at e0;cases h1:(N.dF z N.az 0).testBit j<;>cases h2:(N.dF y N.az 0).testBit j<;>rw[h1,h2]at e0<;>first | rfl | cases e0
theorem GG:N.dF 0 N.az 0=0:=by
 have h:=za (N:=N) 0 0;rw[Nat.xor_self,Nat.xor_self]at h;exact h
theorem BR{c:Nat}(hc:c<N.n)(hf:N.kJ c=false):N.Ring (N.ring c):=by
 refine⟨fun z=>?_,jB hc,fun q hq ev=>?_⟩
 ·have h:=q9 hf;rw[z]at h;simp at h
 ·have hqn:q<2^N.n:=gn fun k hk=>cP (qx hc) (hq k hk)
  cases qc:q.testBit c with
  | true =>
    refine .inr (iK hqn (qx hc) ev (jB hc) fun d hd hfd=>?_)
    rw[gp hf hfd]
    by_cases e:c=d
    ·subst e;simp[qc]
    ·rw[fk e];cases qd:q.testBit d with
     | false=>rfl
     | true =>
       have:=hq d qd;rw[gp hf hfd,fk e]at this;cases this
  | false =>
    refine .inl (jS (fun k hk=>?_) ev)
    rcases kU (hq k hk) with e|e
    ·subst e;rw[qc]at hk;cases hk
    ·exact e
end RM
namespace L2
open PySem PySem.Spec PyProof.Rows
section
variable {X:Cx}
theorem vo:∀{bs:List Bool} {its:List Value},Vals (bs.map V.bl) its->its=bs.map Value.bool
 | [],_,.nil=>rfl
 | b::bs,_,.cons r rr=>by
   cases r;rw[vo rr];rfl
theorem zb:∀ bs:List Bool,((List.range bs.length).all fun i=>(bs[i]?).getD true)=bs.all id:=fun bs=>by
 rw[Bool.eq_iff_iff,List.all_eq_true,List.all_eq_true]
 constructor
 ·intro h b hb;obtain⟨i,hi,e⟩:=List.getElem_of_mem hb;have:=h i (List.mem_range.mpr hi);rw[List.getElem?_eq_getElem hi,e]at this;exact this
 ·intro h i hi;have hi:=List.mem_range.mp hi;rw[List.getElem?_eq_getElem hi];exact h _ (List.getElem_mem hi)
theorem LD(K:bI)(hc:X.calm=true)(hK:X.K=K:=by rfl):eO X (.builtin "all") (fun xs H Q=>∃(p:Addr) (bs:List Bool),xs=[.ref p]/\aQ K H p (bs.map V.bl)/\Q (.bl (bs.all id)) H):=by
 subst hK;intro pq s σ H xs us Q I r h;obtain⟨p,bs,rfl,hq,q⟩:=h;obtain⟨u,rfl,rx⟩:=vals1 r;cases rx;obtain⟨its,rv,pl,hz⟩:=I.list hq;obtain rfl:=vo rv;have lt:p<s.heap.objs.size:=by obtain⟨_,e,_⟩:=pl.isList;exact Heap.lt_size e
 refine call_all_walk (wpAny_pyIter_list pl.isList ⟨_,[_,p],[_],_,_,_,fun i=>(bs[i]?).getD true,rfl,Walks.list (A:=X.A.in1) (I.ok.hd hc) _ p (Nat.ne_of_lt lt) _,
  ⟨⟨_,Heap.get?_push_size _ rfl,rfl,rfl⟩,pl.isList.push _⟩,fun i v s' Q' E' hP hQ=>?_,fun h' tk hk=>?_⟩)
 ·have hP:(bs.map Value.bool)[i]?=some v:=by simpa using hP
  rw[List.getElem?_map]at hP;obtain⟨b,e,rfl⟩:=Ah.mp hP;simp only[e,Option.getD_some]at hQ;exact wpAny_truthy_bool hQ
 ·have z:(bs.map Value.bool).toArray.size=bs.length:=by simp
  rw[z,zb];refine⟨.bl _,H,I.kept fun b o e=>hk b o (fun hm=>?_) (Heap.get?_push_of_some _ e),rfl,q⟩
  rw[List.mem_singleton.mp hm]at e;exact Nat.lt_irrefl _ (Heap.lt_size e)
end
end L2
namespace RM
open Ring (maskOf mask_bit mask_lt)
theorem xy{a b:Nat}(h:a^^^b=0):a=b:=by
 have:=congrArg (fun y=>y^^^b) h
 simp only[Nat.zero_xor]at this
 rwa [Nat.xor_assoc,Nat.xor_self,Nat.xor_zero]at this
def comb:List Nat->Nat->Nat
 | [],_=>0
 | b::B,z=>(if z.testBit 0=true then b else 0)^^^comb B (z/2)
theorem Ek(a b c d:Nat):(a^^^b)^^^(c^^^d)=(a^^^c)^^^(b^^^d):=Nat.eq_of_testBit_eq fun i=>by
 simp only[Nat.testBit_xor];cases a.testBit i<;>cases b.testBit i<;>cases c.testBit i<;>cases d.testBit i<;>rfl
theorem El(z y:Nat):(z^^^y)/2=z/2^^^y/2:=Nat.eq_of_testBit_eq fun i=>by
 rw[Nat.testBit_xor,<-Nat.testBit_succ,<-Nat.testBit_succ,<-Nat.testBit_succ,Nat.testBit_xor]
theorem jG:∀(B:List Nat) (z y:Nat),comb B (z^^^y)=comb B z^^^comb B y
 | [],_,_=>by simp[comb]
 | b::B,z,y=>by
   unfold comb;rw[El,jG B,Nat.testBit_xor,Ek]
   congr 1
   cases z.testBit 0<;>cases y.testBit 0<;>simp
theorem jH:∀(B:List Nat),comb B 0=0
 | []=>rfl
 | b::B=>by
   unfold comb;rw[Nat.zero_testBit,show 0/2=0 from rfl,jH B]
   simp
theorem Em(i:Nat):2^(i+1)/2=2^i:=by
 rw[Nat.pow_succ,Nat.mul_div_cancel _ (by decide)]
theorem xA:∀{B:List Nat} {i b:Nat},B[i]?=some b->comb B (2^i)=b
 | [],i,b,h=>by simp at h
 | b'::B,0,b,h=>by
   have:b' = b:=by simpa using h
   subst this;unfold comb;rw[show(2^0:Nat).testBit 0=true from rfl,if_pos rfl,show(2^0:Nat)/2=0 from rfl,jH,Nat.xor_zero]
 | b'::B,i+1,b,h=>by
   unfold comb;have h0:(2^(i+1)).testBit 0=false:=by rw[Nat.testBit_two_pow];simp
   rw[h0,if_neg (by decide),Nat.zero_xor,Em]
   exact xA (B:=B) h
theorem gq:∀(B:List Nat) (b z:Nat),comb (B++[b]) z=comb B z^^^(if z.testBit B.length=true then b else 0)
 | [],b,z=>by
   show(if z.testBit 0=true then b else 0)^^^0=0^^^_
   rw[Nat.xor_zero,Nat.zero_xor];rfl
 | b'::B,b,z=>by
   show(if z.testBit 0=true then b' else 0)^^^comb (B++[b]) (z/2)=((if z.testBit 0=true then b' else 0)^^^comb B (z/2))^^^_
   rw[gq B b (z/2),Nat.xor_assoc,<-Nat.testBit_succ];rfl
theorem oY:∀(B:List Nat) {z:Nat},(∀ i,i<B.length->z.testBit i=false)->comb B z=0
 | [],_,_=>rfl
 | b::B,z,h=>by
   unfold comb;rw[h 0 (by simp),if_neg (by decide),Nat.zero_xor]
   exact oY B fun i hi=>by rw[<-Nat.testBit_succ];exact h (i+1) (by simp;lia)
theorem vp(B:List Nat):∀ z,Sp B (comb B z):=by
 induction B with
 | nil=>intro z;exact .zero
 | cons b B ih =>
   intro z;have h:Sp (b::B) (comb B (z/2)):=(ih (z/2)).mono fun c hc=>.mem (lJ _ hc)
   unfold comb;rw[Nat.xor_comm]
   by_cases e:z.testBit 0=true
   ·rw[if_pos e];exact h.add List.mem_cons_self
   ·rw[if_neg e,Nat.xor_zero];exact h
theorem GH{B:List Nat}{x:Nat}(h:Sp B x):∃ z,z<2^B.length/\comb B z=x:=by
 induction h with
 | zero=>exact⟨0,Nat.two_pow_pos _,jH B⟩
 | add h hb ih =>
   obtain⟨z,hz,e⟩:=ih;obtain⟨i,hi⟩:=List.getElem?_of_mem hb;have xx:=(oA.mp hi).1;exact⟨z^^^2^i,Nat.xor_lt_two_pow hz (Nat.pow_lt_pow_right (by decide) xx),by rw[jG,e,xA hi]⟩
def Oo(B:List Nat):Prop:=∀ z,z<2^B.length->comb B z=0->z=0
theorem xB{B:List Nat}{b:Nat}:Oo (B++[b])↔Oo B/\¬ Sp B b:=by
 have hl:(B++[b]).length=B.length+1:=by simp
 constructor
 ·intro h;refine⟨fun z hz e=>h z ?_ ?_,fun hs=>?_⟩
  ·rw[hl,Nat.pow_succ];lia
  ·rw[gq,e,Nat.testBit_lt_two_pow hz];simp
  ·obtain⟨y,hy,e⟩:=GH hs;have hlt:2^B.length<2^(B.length+1):=Nat.pow_lt_pow_right (by decide) (by lia)
   have:=h (y^^^2^B.length) (by rw[hl];exact Nat.xor_lt_two_pow (by lia) hlt) (by
    have h1:(y^^^2^B.length).testBit B.length=true:=by
     rw[Nat.testBit_xor,Nat.testBit_lt_two_pow hy,Nat.testBit_two_pow_self];rfl
    have h2:comb B (2^B.length)=0:=oY B fun i hi=>by
     rw[Nat.testBit_two_pow];exact fk (by lia)
    rw[gq,h1,if_pos rfl,jG,h2,e,Nat.xor_zero,Nat.xor_self])
   have h3:(y^^^2^B.length).testBit B.length=false:=by rw[this,Nat.zero_testBit]
   rw[Nat.testBit_xor,Nat.testBit_lt_two_pow hy,Nat.testBit_two_pow_self]at h3;cases h3
 ·rintro⟨h,hs⟩ z hz e;rw[gq]at e
  by_cases hb:z.testBit B.length=true
  ·rw[if_pos hb]at e;have e2:comb B z=b:=by
    have:=congrArg (fun y=>y^^^b) e
    simp only[jF,Nat.zero_xor]at this;exact this
   exact absurd (e2▸vp B z) hs
  ·rw[if_neg hb,Nat.xor_zero]at e;refine h z ?_ e;refine gn fun k hk=>?_
   have:=cP hz hk;rw[hl]at this;have:k≠B.length:=fun e=>hb (e▸hk)
   lia
section
variable {N:Net}
theorem GI{f:Nat->Nat}{a b:Nat}(hf:∀ z,z<2^a->f z<2^b)(inj:∀ z y,z<2^a->y<2^a->f z=f y->z=y):a<=b:=by
 have nd:((List.range (2^a)).map f).Nodup:=by
  refine List.pairwise_map.mpr ?_;refine List.Pairwise.imp_of_mem (fun {z y} hz hy hne e=>?_) List.nodup_range
  exact hne (inj z y (List.mem_range.mp hz) (List.mem_range.mp hy) e)
 have:=D6 nd fun x hx=>by
  obtain⟨z,hz,rfl⟩:=List.mem_map.mp hx;exact hf z (List.mem_range.mp hz)
 rw[List.length_map,List.length_range]at this;exact(Nat.pow_le_pow_iff_right (by decide)).mp this
def meets(ks:List Nat)(m:Nat):Nat:=maskOf (fun i=>m.testBit (ks.getD i 0)) ks.length
theorem En(ks:List Nat)(m:Nat):meets ks m<2^ks.length:=mask_lt _ _
theorem BS{ks:List Nat}{m i k:Nat}(h:ks[i]?=some k):(meets ks m).testBit i=m.testBit k:=by
 unfold meets;rw[mask_bit,List.getD_eq_getElem?_getD,h,cN (oA.mp h).1];rfl
theorem GJ{ks:List Nat}(h:∀ m,m<2^N.n->N.eg m->(∀ k∈ks,m.testBit k=false)->m=0):N.az.length<=ks.length:=by
 refine GI (f:=fun z=>meets ks (N.dF z N.az 0)) (fun z _=>En _ _) fun z y hz hy e=>?_
 have h1:=lO (N:=N) (number:=z) (l:=N.az) (i:=0) fun c hc=>(cL.mp hc).1
 have h2:=lO (N:=N) (number:=y) (l:=N.az) (i:=0) fun c hc=>(cL.mp hc).1
 have e0:N.dF z N.az 0=N.dF y N.az 0:=xy (h _ (Nat.xor_lt_two_pow h1.2 h2.2) (eg.xor h1.1 h2.1) fun k hk=>by
  obtain⟨j,hj⟩:=List.getElem?_of_mem hk;have e:meets ks (N.dF z N.az 0)=meets ks (N.dF y N.az 0):=e;have:=congrArg (fun x=>x.testBit j) e
  simp only[BS hj]at this;rw[Nat.testBit_xor,this,Bool.xor_self])
 refine Nat.eq_of_testBit_eq fun j=>?_
 by_cases hj:j<N.az.length
 ·have hc:N.az[j]?=some N.az[j]:=List.getElem?_eq_getElem hj;rw[<-jT hc,<-jT hc,e0]
 ·rw[Nat.testBit_lt_two_pow (Nat.lt_of_lt_of_le hz (Nat.pow_le_pow_right (by decide) (by lia))),Nat.testBit_lt_two_pow (Nat.lt_of_lt_of_le hy (Nat.pow_le_pow_right (by decide) (by lia)))]
end
abbrev Row3:=Nat×Nat×Nat
def two(q:Row3):Nat×Nat:=(q.1,q.2.1)
def bq(rows:List Row3)(x u:Nat):Nat×Nat:=rows.foldl (fun s q=>if s.1.testBit q.1=true then(s.1^^^q.2.1,s.2^^^q.2.2) else s) (x,u)
theorem uC(q:Row3)(rows:List Row3)(x u:Nat):bq (q::rows) x u=if x.testBit q.1=true then bq rows (x^^^q.2.1) (u^^^q.2.2) else bq rows x u:=by
 unfold bq;rw[List.foldl_cons]
 by_cases h:x.testBit q.1=true
 ·rw[if_pos h,if_pos h]
 ·rw[if_neg h,if_neg h]
theorem iM:∀(rows:List Row3) (x u:Nat),(bq rows x u).1=xw (rows.map two) x
 | [],_,_=>rfl
 | q::rows,x,u=>by
   rw[uC];show _=xw (rows.map two) (if x.testBit q.1=true then x^^^q.2.1 else x)
   by_cases h:x.testBit q.1=true
   ·rw[if_pos h,if_pos h];exact iM rows _ _
   ·rw[if_neg h,if_neg h];exact iM rows _ _
def sV(rows:List Row3)(a:Row3):List Row3:=a::rows.map fun q=>if q.2.1.testBit a.1=true then(q.1,q.2.1^^^a.2.1,q.2.2^^^a.2.2) else q
structure Rw(B:List Nat)(rows:List Row3):Prop where
 own:∀ q∈rows,q.2.1.testBit q.1=true
 yz:rows.Pairwise fun q q'=>q'.2.1.testBit q.1=false/\q.2.1.testBit q'.1=false
 HH:∀ q∈rows,q.2.2<2^B.length/\comb B q.2.2=q.2.1
 span:∀ b∈B,Sp (rows.map fun q=>q.2.1) b
 le:rows.length<=B.length
 len:rows.length=B.length↔Oo B
section
variable {B:List Nat}{rows:List Row3}
theorem Rw.start:Rw [] []:=⟨(fun q hq=>nomatch hq),.nil,(fun q hq=>nomatch hq),(fun b hb=>nomatch hb),Nat.le_refl _,⟨fun _ z hz _=>by simp at hz;exact hz,fun _=>rfl⟩⟩
theorem Jk(own:∀ q∈rows,q.2.1.testBit q.1=true)(yz:rows.Pairwise fun q q'=>q'.2.1.testBit q.1=false/\q.2.1.testBit q'.1=false):HG (rows.map two):=by
 induction rows with
 | nil=>exact .nil
 | cons q rows ih =>
   obtain⟨h1,h2⟩:=List.pairwise_cons.mp yz;refine .cons (ih (fun q' hq=>own q' (lJ _ hq)) h2) (own q List.mem_cons_self) fun x hx=>?_
   obtain⟨q',Jl,rfl⟩:=List.mem_map.mp hx;exact(h1 q' Jl).1
theorem Rw.Pw(h:Rw B rows):HG (rows.map two):=Jk h.own h.yz
theorem map_two(rows:List Row3):(rows.map two).map (fun q=>q.2)=rows.map fun q=>q.2.1:=by
 rw[List.map_map];rfl
theorem Rw.fD(h:Rw B rows)(x u:Nat):(bq rows x u).1=0↔Sp B x:=by
 rw[iM,BP h.Pw,map_two]
 constructor
 ·intro hs;refine hs.mono fun b hb=>?_
  obtain⟨q,hq,rfl⟩:=List.mem_map.mp hb;rw[<-(h.HH q hq).2];exact vp B _
 ·exact fun hs=>hs.mono h.span
theorem Rw.rK(h:Rw B rows)(x u:Nat):∀ q∈rows,(bq rows x u).1.testBit q.1=false:=fun q hq=>by
 rw[iM];exact uz h.Pw x (two q) (List.mem_map.mpr ⟨q,hq,rfl⟩)
theorem uD(hc:∀ q∈rows,q.2.2<2^B.length/\comb B q.2.2=q.2.1):∀(x u:Nat),u<2^B.length->(bq rows x u).2<2^B.length/\comb B (bq rows x u).2=comb B u^^^(x^^^(bq rows x u).1):=by
 induction rows with
 | nil=>intro x u hu;exact⟨hu,by show _=_^^^(x^^^x);rw[Nat.xor_self,Nat.xor_zero];rfl⟩
 | cons q rows ih =>
   intro x u hu;have hq:=hc q List.mem_cons_self;have ih:=ih fun q' Jl=>hc q' (lJ _ Jl)
   rw[uC]
   by_cases h:x.testBit q.1=true
   ·rw[if_pos h];obtain⟨i1,i2⟩:=ih (x^^^q.2.1) (u^^^q.2.2) (Nat.xor_lt_two_pow hu hq.1);refine⟨i1,?_⟩;rw[i2,jG,hq.2];refine Nat.eq_of_testBit_eq fun i=>?_
    simp only[Nat.testBit_xor];generalize (bq rows (x^^^q.2.1) (u^^^q.2.2)).1.testBit i=y;cases(comb B u).testBit i<;>cases q.2.1.testBit i<;>cases x.testBit i<;>cases y<;>rfl
   ·rw[if_neg h];exact ih x u hu
theorem zc(h:Rw B rows){x:Nat}(hx:∀ b∈B,b<2^x):∀ q∈rows,q.2.1<2^x:=fun q hq=>by
 rw[<-(h.HH q hq).2];exact(vp B _).lt hx
theorem rL{z:Nat}(b:Nat)(hz:z<2^B.length):comb (B++[b]) z=comb B z:=by
 rw[gq,Nat.testBit_lt_two_pow hz];simp
theorem Rw.skip{b:Nat}(h:Rw B rows)(hs:Sp B b):Rw (B++[b]) rows:=by
 have hl:(B++[b]).length=B.length+1:=by simp
 refine⟨h.own,h.yz,fun q hq=>⟨?_,?_⟩,fun c hc=>?_,?_,?_⟩
 ·have:=(h.HH q hq).1;rw[hl,Nat.pow_succ]
  lia
 ·rw[rL b (h.HH q hq).1];exact(h.HH q hq).2
 ·rcases List.mem_append.mp hc with hc|hc
  ·exact h.span c hc
  ·have e:c=b:=by simpa using hc
   rw[e];exact hs.mono h.span
 ·have:=h.le
  lia
 ·rw[xB];have:=h.le;exact⟨fun e=>by lia,fun z=>absurd hs z.2⟩
theorem Rw.put{b:Nat}(h:Rw B rows)(h0:(bq rows b 0).1≠0):Rw (B++[b]) (sV rows ((bq rows b 0).1.log2,(bq rows b 0).1,(bq rows b 0).2^^^2^B.length)):=by
 have hl:(B++[b]).length=B.length+1:=by simp
 have hns : ¬ Sp B b:=fun z=>h0 ((h.fD b 0).mpr z)
 have off:=h.rK b 0;obtain⟨c1,c2⟩:=uD h.HH b 0 (Nat.two_pow_pos _);rw[jH,Nat.zero_xor]at c2;have qP:Sp (rows.map fun q=>q.2.1) (b^^^(bq rows b 0).1):=by
  rw[iM];have:=qD (rows.map two) b
  rwa [map_two]at this
 generalize bq rows b 0=lu at *;obtain⟨l,u⟩:=lu;have h0:l≠0:=h0;have top:=GD h0;have c1:u<2^B.length:=c1;have c2:comb B u=b^^^l:=c2;have off:∀ q∈rows,l.testBit q.1=false:=off;have qP:Sp (rows.map fun q=>q.2.1) (b^^^l):=qP
 show Rw (B++[b]) (sV rows (l.log2,l,u^^^2^B.length));generalize l.log2=t at top;have p2:2^B.length<2^(B++[b]).length:=by rw[hl];exact Nat.pow_lt_pow_right (by decide) (by lia)
 have hc:comb (B++[b]) (u^^^2^B.length)=l:=by
  have h1:(u^^^2^B.length).testBit B.length=true:=by
   rw[Nat.testBit_xor,Nat.testBit_lt_two_pow c1,Nat.testBit_two_pow_self];rfl
  have h2:comb B (2^B.length)=0:=oY B fun i hi=>by
   rw[Nat.testBit_two_pow];exact fk (by lia)
  rw[gq,h1,if_pos rfl,jG,h2,c2,Nat.xor_zero];refine Nat.eq_of_testBit_eq fun i=>?_
  simp only[Nat.testBit_xor];cases b.testBit i<;>cases l.testBit i<;>rfl
 unfold sV;refine⟨fun q hq=>?_,List.pairwise_cons.mpr ⟨fun q hq=>?_,?_⟩,fun q hq=>?_,fun c hc=>?_,?_,?_⟩
 ·rcases List.mem_cons.mp hq with e|hq
  ·rw[e];exact top
  ·obtain⟨q0,BG,rfl⟩:=List.mem_map.mp hq
   by_cases e:q0.2.1.testBit t=true
   ·rw[if_pos e];show(q0.2.1^^^l).testBit q0.1=true;rw[Nat.testBit_xor,h.own q0 BG,off q0 BG];rfl
   ·rw[if_neg e];exact h.own q0 BG
 ·obtain⟨q0,BG,rfl⟩:=List.mem_map.mp hq
  by_cases e:q0.2.1.testBit t=true
  ·rw[if_pos e];refine⟨?_,off q0 BG⟩;show(q0.2.1^^^l).testBit t=false;rw[Nat.testBit_xor,e,top];rfl
  ·rw[if_neg e];exact⟨Ib.mpr e,off q0 BG⟩
 ·refine List.pairwise_map.mpr (List.Pairwise.imp_of_mem (fun {q q'} hq Jl hz=>?_) h.yz)
  obtain⟨z1,z2⟩:=hz;have o1:=off q hq;have o2:=off q' Jl;have fst:∀ q:Row3,(if q.2.1.testBit t=true then(q.1,q.2.1^^^l,q.2.2^^^(u^^^2^B.length)) else q).1=q.1:=fun q=>by
   split<;>rfl
  have snd:∀(q:Row3) (k:Nat),l.testBit k=false->(if q.2.1.testBit t=true then(q.1,q.2.1^^^l,q.2.2^^^(u^^^2^B.length)) else q).2.1.testBit k=q.2.1.testBit k:=fun q k hk=>by
   split
   ·show(q.2.1^^^l).testBit k=_;rw[Nat.testBit_xor,hk,Bool.xor_false]
   ·rfl
  refine⟨?_,?_⟩
  ·rw[snd q' _ (by rw[fst];exact o1),fst]
   exact z1
  ·rw[snd q _ (by rw[fst];exact o2),fst]
   exact z2
 ·rcases List.mem_cons.mp hq with e|hq
  ·rw[e];exact⟨Nat.xor_lt_two_pow (by lia) p2,hc⟩
  ·obtain⟨q0,BG,rfl⟩:=List.mem_map.mp hq;obtain⟨d1,d2⟩:=h.HH q0 BG
   by_cases e:q0.2.1.testBit t=true
   ·rw[if_pos e];refine⟨Nat.xor_lt_two_pow (by lia) (Nat.xor_lt_two_pow (by lia) p2),?_⟩
    show comb (B++[b]) (q0.2.2^^^(u^^^2^B.length))=q0.2.1^^^l;rw[jG,hc,rL b d1,d2]
   ·rw[if_neg e];exact⟨by lia,by rw[rL b d1,d2]⟩
 ·have Px:l∈(((t,l,u^^^2^B.length):Row3)::rows.map fun q=>if q.2.1.testBit t=true then(q.1,q.2.1^^^l,q.2.2^^^(u^^^2^B.length)) else q).map fun q=>q.2.1:=by
   rw[List.map_cons];exact List.mem_cons_self
  have old:∀ x∈rows.map (fun q=>q.2.1),Sp ((((t,l,u^^^2^B.length):Row3)::rows.map fun q=>if q.2.1.testBit t=true then(q.1,q.2.1^^^l,q.2.2^^^(u^^^2^B.length)) else q).map fun q=>q.2.1) x:=fun x hx=>by
   obtain⟨q0,BG,rfl⟩:=List.mem_map.mp hx;have hm:(if q0.2.1.testBit t=true then(q0.1,q0.2.1^^^l,q0.2.2^^^(u^^^2^B.length)) else q0).2.1∈(((t,l,u^^^2^B.length):Row3)::rows.map fun q=>if q.2.1.testBit t=true then(q.1,q.2.1^^^l,q.2.2^^^(u^^^2^B.length)) else q).map fun q=>q.2.1 :=
    List.mem_map.mpr ⟨_,lJ _ (List.mem_map.mpr ⟨q0,BG,rfl⟩),rfl⟩
   by_cases e:q0.2.1.testBit t=true
   ·rw[if_pos e]at hm;have:=(Sp.mem hm).xor (Sp.mem Px)
    rwa [jF]at this
   ·rw[if_neg e]at hm;exact .mem hm
  rcases List.mem_append.mp hc with hc|hc
  ·exact(h.span c hc).mono old
  ·have e:c=b:=by simpa using hc
   rw[e];have:=(qP.mono old).xor (Sp.mem Px)
   rwa [jF]at this
 ·rw[List.length_cons,List.length_map,hl];have:=h.le
  lia
 ·rw[List.length_cons,List.length_map,hl,xB];have:=h.len
  constructor
  ·exact fun e=>⟨this.mp (by lia),hns⟩
  ·exact fun e=>by have:=this.mpr e.1;lia
def rx(f:Row3->Bool):List Row3->Bool
 | []=>false
 | q::rows=>f q^^rx f rows
theorem rM{f g:Row3->Bool}:∀{rows:List Row3},(∀ q∈rows,f q=g q)->rx f rows=rx g rows
 | [],_=>rfl
 | q::rows,h=>by
   unfold rx;rw[h q List.mem_cons_self,rM fun q' hq=>h q' (lJ _ hq)]
theorem uE(f:Nat->Bool)(n:Nat):∀{l:List Nat},l.Nodup->(∀ k∈l,k<n)->bF (fun k=>f k&&decide (k∈l)) n=l.foldr (fun k acc=>f k^^acc) false
 | [],_,_=>iw fun k _=>by simp
 | a::l,nd,h=>by
   obtain⟨n1,n2⟩:=List.nodup_cons.mp nd;have ih:=uE f n n2 fun k hk=>h k (lJ _ hk)
   have:bF (fun k=>f k&&decide (k∈a::l)) n=bF (fun k=>(f k&&decide (a=k))^^(f k&&decide (k∈l))) n:=bM fun k _=>by
    by_cases e:a=k
    ·subst e;rw[cN List.mem_cons_self,cN rfl,fk n1,Bool.and_false,Bool.xor_false]
    ·have:(k∈a::l)↔k∈l:=⟨fun z=>(List.mem_cons.mp z).resolve_left fun z=>e z.symm,lJ _⟩
     rw[fk e,Bool.and_false,Bool.false_xor,decide_eq_decide.mpr this]
   rw[this,iI,iJ f (h a List.mem_cons_self),ih];rfl
end
end RM
namespace Ring
open PySem L2
def pX(q:RM.Row3):List V:=[.int (q.1:Int),.int (q.2.1:Int),.int (q.2.2:Int)]
def rN(H:Hp)(x:V)(q:RM.Row3):Prop:=∃ b,x = .ref b/\H b=some (.tup (pX q))
theorem rN.tups{H H' : Hp}(s:jz H H'){x:V}{q:RM.Row3}(h:rN H x q):rN H' x q:=let⟨b,e,z⟩:=h;⟨b,e,s _ _ z⟩
def gD(H:Hp)(l:Addr)(rows:List RM.Row3):Prop:=∃ xs,H l=some (.lst xs)/\Paired (rN H) xs rows
theorem gD.same{H H' : Hp}(s:au H H'){l:Addr}{rows:List RM.Row3}(h:gD H l rows):gD H' l rows:=let⟨xs,e,z⟩:=h;⟨xs,s _ _ e,Paired.imp' (fun _ _ z=>z.tups s.tups) z⟩
theorem BU(rows:List RM.Row3)(q:RM.Row3)(x u:Nat):RM.bq (rows++[q]) x u=if(RM.bq rows x u).1.testBit q.1=true then((RM.bq rows x u).1^^^q.2.1,(RM.bq rows x u).2^^^q.2.2) else RM.bq rows x u:=by
 unfold RM.bq;rw[List.foldl_append];rfl
theorem take3{α:Type}{l:List α}{i:Nat}{q:α}(h:l[i]?=some q):l.take (i+1)=l.take i++[q]:=by
 rw[List.take_add_one,h];rfl
theorem Eo{m:Nat}(h:m≠0):((Builtin.Int.intBits (m:Int):Nat):Int)-1=((m.log2:Nat):Int):=by
 rw[qW,if_neg h]
 lia
end Ring
namespace L2
open PySem PySem.Spec PyProof.Rows
theorem zd{K:bI}{a:Addr}{xs:List V}{g:TG}{tt:TT}{te:TE}{n:Nat}{fr:St}{D:Addr}{Q:Hp->Prop}{H1:Hp}(Pv:Nat->List V->Hp->Prop)(h0:Pv 0 [] H1)(hl:∀ i acc H,i<=xs.length->Pv i acc H->aQ K H a xs/\H D=some (.lst acc)/\acc.length<=i)(hz:xs.length<=sizeLine)
 (hs:∀ i x T acc H,xs[i]?=some x->Pv i acc H->H T=none->g (.ref T) (List.replicate n none++fr) (upd H T (.tup [.int (i:Int),x])) fun σ2 H2=>σ2.drop n=fr/\tt σ2 H2 fun b H3 =>
  if b=true then te σ2 H3 fun v H4=>H4 D=some (.lst acc)/\Pv (i+1) (acc++[v]) (upd H4 D (.lst (acc++[v]))) else Pv (i+1) acc H3)
 (hd:∀ acc H,Pv xs.length acc H->Q H):iH (JX K a) g tt te n fr D Q H1:=by
 refine⟨fun i m acc H=>m=xs.length-i/\i<=xs.length/\Pv i acc H,⟨xs.length,by simp,Nat.zero_le _,h0⟩,?_⟩
 rintro i m acc H ⟨rfl,hi,p⟩;obtain⟨q,hD,ha⟩:=hl i acc H hi p;refine⟨hD,?_⟩
 by_cases hlt:i<xs.length
 ·refine .inr ⟨⟨xs,xs[i],q,by simp[hlt]⟩,by lia,Pv (i+1),fun acc' H' p'=>⟨xs.length-(i+1),by lia,rfl,hlt,p'⟩,fun v H' y=>?_⟩
  obtain⟨T,x,rfl,hT,rfl,y⟩:=y;exact hs i x T acc _ (y xs q) p hT
 ·have e:i=xs.length:=by lia
  subst e;exact .inl ⟨⟨xs,q,Nat.le_refl _⟩,hd acc H p⟩
end L2
namespace RM
variable {N:Net}{S:Nat->Bool}
def rO(N:Net)(S:Nat->Bool)(L:Nat->Nat)(k:Nat):Prop:=∀ x y,x<N.p->y<N.p->(L x=L y↔N.aN S k x=N.aN S k y)
theorem rO.start:rO N S (fun x=>x) 0:=fun _ _ _ _=>Iff.rfl
theorem rO.skip{L:Nat->Nat}{k:Nat}(h:rO N S L k)(hs:S k=false):rO N S L (k+1):=by
 intro x y hx hy;rw[fC,if_neg (by rw[hs];decide)]
 exact h x y hx hy
theorem rO.put{L:Nat->Nat}{k:Nat}(h:rO N S L k)(hk:k<N.n)(hs:S k=true):rO N S (Jc L (N.a k) (N.b k)) (k+1):=by
 intro x y hx hy;have ha:=N.al k hk;have hb:=N.bl k hk;rw[fC,if_pos hs,Gz,D7,h x y hx hy,h x _ hx ha,h y _ hy hb,h x _ hx hb,h y _ hy ha]
open Classical in
theorem AX(val:Nat->Int):∀ n,(PyProof.Rows.firstMet val n).length=cnt (fun i=>!decide (∃ j,j<i/\val j=val i)) n/\∀ z,z∈PyProof.Rows.firstMet val n↔∃ j,j<n/\val j=z
 | 0=>by
   rw[PyProof.Rows.firstMet_zero];exact⟨rfl,fun z=>⟨fun h=>(nomatch h),fun⟨j,hj,_⟩=>absurd hj (Nat.not_lt_zero _)⟩⟩
 | n+1=>by
   obtain⟨h1,h2⟩:=AX val n;rw[PyProof.Rows.firstMet_succ];unfold PyProof.Rows.step_dedup;have hm:=h2 (val n);have ha:((PyProof.Rows.firstMet val n).any fun x=>x==val n)=true↔val n∈PyProof.Rows.firstMet val n:=by simp
   have mem:∀ z,(∃ j,j<n+1/\val j=z)↔(∃ j,j<n/\val j=z)\/val n=z:=fun z=>by
    constructor
    ·rintro⟨j,hj,e⟩
     by_cases ej:j=n
     ·subst ej;exact .inr e
     ·exact .inl ⟨j,by lia,e⟩
    ·rintro(⟨j,hj,e⟩|e)
     ·exact⟨j,by lia,e⟩
     ·exact⟨n,by lia,e⟩
   by_cases hin:val n∈PyProof.Rows.firstMet val n
   ·rw[if_pos (ha.mpr hin)];refine⟨?_,fun z=>?_⟩
    ·show _=cnt _ n+(if(!decide (∃ j,j<n/\val j=val n))=true then 1 else 0)
     rw[h1,cN (hm.mp hin)];rfl
    ·rw[mem,h2];exact⟨.inl,fun h=>h.elim id fun e=>e▸hm.mp hin⟩
   ·rw[if_neg (fun z=>hin (ha.mp z))]
    refine⟨?_,fun z=>?_⟩
    ·show _=cnt _ n+(if(!decide (∃ j,j<n/\val j=val n))=true then 1 else 0)
     rw[List.length_append,h1,fk (fun z=>hin (hm.mpr z))]
     rfl
    ·rw[mem,List.mem_append,h2];exact⟨fun h=>h.elim .inl fun e=>.inr (List.mem_singleton.mp e).symm,fun h=>h.elim .inl fun e=>.inr (by simp[e])⟩
theorem GK{L:Nat->Nat}(h:rO N S L N.n):(PyProof.Rows.firstMet (fun i=>((L i:Nat):Int)) N.p).length=cnt (N.root S N.n) N.p:=by
 rw[(AX _ N.p).1];refine eE fun x hx=>?_
 unfold Net.root;rw[Bool.eq_iff_iff,Bool.not_eq_true',decide_eq_false_iff_not,decide_eq_true_iff]
 constructor
 ·intro hn;apply Classical.byContradiction;intro hne;have hle:=nG (N:=N) (S:=S) N.n x;have hlt:N.aN S N.n x<x:=by lia
  exact hn ⟨N.aN S N.n x,hlt,by
   have:=(h (N.aN S N.n x) x (by lia) hx).mpr (bN N.n x)
   rw[this]⟩
 ·rintro hr ⟨j,hj,e⟩;have e:L j=L x:=by lia
  have e2:=(h j x (by lia) hx).mp e
  have:=nG (N:=N) (S:=S) N.n j
  lia
theorem Ep{m:Nat}(hm:m<2^N.n)(h0:m≠0)(d2:N.D2 m):N.Ring m↔cnt (N.root (fun k=>m.testBit k) N.n) N.p+cnt (fun x=>decide (N.dg m x=2)) N.p=N.p+1:=by
 have hR:∀ x,x<N.p->N.dg m x=0->N.root (fun k=>m.testBit k) N.n x=true:=fun x hx hd=>by
  unfold Net.root;rw[decide_eq_true_iff];exact alone hd (bx _ _ _ (bN N.n x).symm)
 have split:cnt (N.root (fun k=>m.testBit k) N.n) N.p=cnt (fun x=>!decide (N.dg m x=2)) N.p+cnt (fun x=>decide (N.dg m x=2)&&N.root (fun k=>m.testBit k) N.n x) N.p:=by
  rw[<-rC (fun x hx=>by cases decide (N.dg m x=2)<;>simp)]
  refine eE fun x hx=>?_
  rcases d2 x hx with h|h
  ·rw[hR x hx h,fk (by lia)]
   rfl
  ·rw[cN h];simp
 have cn:=i3 (fun x=>decide (N.dg m x=2)) N.p
 obtain⟨k0,hk0⟩:∃ k,m.testBit k=true:=by
  apply Classical.byContradiction;intro h;exact h0 (Nat.eq_of_testBit_eq fun i=>by
   rw[Nat.zero_testBit];cases e:m.testBit i with
   | false=>rfl
   | true=>exact absurd ⟨i,e⟩ h)
 have hkn:=cP hm hk0;have FL:=N.al k0 hkn;have hd0:N.dg m (N.a k0)=2:=by
  have:=rD hkn hk0 (.inl rfl:N.a k0=N.a k0\/N.b k0=N.a k0);rcases d2 _ FL with h|h<;>lia
 rw[Ji hm d2 FL hd0];generalize hx:N.a k0=x0 at FL hd0;have up:∀ x,x<N.p->N.dg m x=2->N.dg m (N.aN (fun k=>m.testBit k) N.n x)=2:=fun x hx hd=>by
  have hl:=i4 (N:=N) (S:=fun k=>m.testBit k) (k:=N.n) hx
  rcases d2 _ hl with h|h
  ·have e:x=N.aN (fun k=>m.testBit k) N.n x:=alone h (bx _ _ _ (bN N.n x))
   rw[<-e]at h
   lia
  ·exact h
 have r0:N.aN (fun k=>m.testBit k) N.n x0<N.p:=i4 FL
 constructor
 ·intro h;have one:cnt (fun x=>decide (N.dg m x=2)&&N.root (fun k=>m.testBit k) N.n x) N.p=1:=by
   have:cnt (fun x=>decide (N.dg m x=2)&&N.root (fun k=>m.testBit k) N.n x) N.p=cnt (fun x=>decide (N.aN (fun k=>m.testBit k) N.n x0=x)) N.p:=eE fun x hx=>by
    rw[Bool.eq_iff_iff,Bool.and_eq_true,decide_eq_true_iff,decide_eq_true_iff];unfold Net.root;rw[decide_eq_true_iff]
    constructor
    ·rintro⟨h1,h2⟩;rw[<-(h x hx).mpr h1];exact h2
    ·rintro rfl;exact⟨up x0 FL hd0,bN N.n x0⟩
   rw[this,rB,if_pos r0]
  lia
 ·intro h x hx;have one:cnt (fun x=>decide (N.dg m x=2)&&N.root (fun k=>m.testBit k) N.n x) N.p=1:=by lia
  have RY:(decide (N.dg m (N.aN (fun k=>m.testBit k) N.n x0)=2)&&N.root (fun k=>m.testBit k) N.n (N.aN (fun k=>m.testBit k) N.n x0))=true:=by
   rw[Bool.and_eq_true,decide_eq_true_iff];unfold Net.root;rw[decide_eq_true_iff];exact⟨up x0 FL hd0,bN N.n x0⟩
  constructor
  ·intro e;rcases d2 x hx with h|h
   ·have e2:x0=x:=alone h (bx _ _ _ e);rw[<-e2]at h
    lia
   ·exact h
  ·intro hd;have RZ:(decide (N.dg m (N.aN (fun k=>m.testBit k) N.n x)=2)&&N.root (fun k=>m.testBit k) N.n (N.aN (fun k=>m.testBit k) N.n x))=true:=by
    rw[Bool.and_eq_true,decide_eq_true_iff];unfold Net.root;rw[decide_eq_true_iff];exact⟨up x hx hd,bN N.n x⟩
   apply Classical.byContradiction;intro hne;have:=qy (f:=fun x=>decide (N.dg m x=2)&&N.root (fun k=>m.testBit k) N.n x) RZ RY hne (i4 hx) r0
   lia
theorem Er(n:Nat):∀ e,bF (fun j=>n.testBit j) (e+1)=(decide (n%2=1)^^bF (fun j=>(n/2).testBit j) e)
 | 0=>by
   show(false^^n.testBit 0)=(decide (n%2=1)^^false);rw[Nat.testBit_zero,Bool.false_xor,Bool.xor_false]
 | e+1=>by
   have ih:=Er n e;show(bF (fun j=>n.testBit j) (e+1)^^n.testBit (e+1))=(decide (n%2=1)^^(bF (fun j=>(n/2).testBit j) e^^(n/2).testBit e))
   rw[ih,Nat.testBit_succ,Bool.xor_assoc]
theorem Es(a b:Nat):(a&&&b)/2=a/2&&&b/2:=Nat.eq_of_testBit_eq fun i=>by
 rw[Nat.testBit_and,<-Nat.testBit_succ,<-Nat.testBit_succ,<-Nat.testBit_succ,Nat.testBit_and]
theorem GL:∀(e n:Nat),n≠0->n<2^e->bF (fun j=>(n&&&(n-1)).testBit j) e = !bF (fun j=>n.testBit j) e:=by
 intro e
 induction e with
 | zero=>intro n h0 hn;simp at hn;exact absurd hn h0
 | succ e ih =>
   intro n h0 hn;have hb:(n&&&(n-1))%2=1↔False:=by
    have:=Nat.testBit_zero (n&&&(n-1));rw[Nat.testBit_and,Nat.testBit_zero,Nat.testBit_zero]at this
    constructor
    ·intro z;rw[cN z,Bool.and_eq_true,decide_eq_true_iff,decide_eq_true_iff]at this
     lia
    ·exact False.elim
   rw[Er,Er,Es,fk (fun z=>hb.mp z),Bool.false_xor]
   by_cases h2:n%2=1
   ·rw[cN h2,show(n-1)/2=n/2 by lia,Nat.and_self]
    cases bF (fun j=>(n/2).testBit j) e<;>rfl
   ·rw[fk h2,Bool.false_xor,show(n-1)/2=n/2-1 by lia]
    exact ih (n/2) (by lia) (by rw[Nat.pow_succ]at hn;lia)
end RM
namespace L2
open PySem PySem.Spec PyProof.Rows
theorem ze:typeLookup (Value.type "list_reverseiterator") (Str.ofString "__len__")=pure none:=by kernel_rfl
theorem vq:typeLookup (Value.type "list_reverseiterator") (Str.ofString "__length_hint__")=pure (some (Value.builtin "list_reverseiterator.__length_hint__")):=by kernel_rfl
section
variable {prog:Program}{w:World}{A:Around}{E:gU}{s:Shared}{I l:Addr}
theorem Et{Q:Bool->Shared->Prop}(ht:s.TypeIs (.ref I) "list_reverseiterator")(q:Q false s):wpAny (model prog w) A (Builtin.List.listLengthHint (.ref I)) Q E s:=by
 unfold Builtin.List.listLengthHint;refine dY (wpAny_specialOf ht ze ?_);dsimp only;rw[if_neg (by decide),if_neg (by decide)]
 refine dY (wpAny_specialOf ht vq ?_);dsimp only;have e:splitId "list_reverseiterator.__length_hint__"=some ("list_reverseiterator","__length_hint__"):=by kernel_rfl
 rw[e];dsimp only;refine dY (wpAny_isInstance ht (b:=true) (by kernel_rfl) ?_)
 rw[if_neg (by decide),if_pos (by decide),if_neg (by decide)]
 exact wpAny_pure q
theorem sW{items:Array Value}{Q:gU}(hh:A.handled=none)(hI:s.heap.get? I=some (revObj l (items.size-1)))(hl:s.heap.IsList l items)(hne:l≠I)(hn:items.size<=sizeLine)
 (hQ:∀(h' : Heap) (tk:Nat) (acc:Array Value) (c:Nat),(∀ b o,b≠I->s.heap.get? b=some o->h'.get? b=some o)->h'.get? s.heap.objs.size=some { cls:=.type "list",data:=.seq acc c}->ItemsOf (fun i v=>items[items.size-1-i]?=some v) acc items.size->Q (.ref s.heap.objs.size) { s with heap:=h',toks:=tk}) :
 wpAny (model prog w) A (call (.type "list") [.ref I]) Q E s:=by
 refine callType_codes (Q₁:=fun obj s₁=>obj = .ref s.heap.objs.size/\s₁={ s with heap:=s.heap.push { cls:=.type "list",data:=.seq #[]}}) F.called_list (F.typeCall_list_1 (.ref I)) F.entry_list_init (code_list_new (.ref I) ⟨rfl,rfl⟩) fun obj s₁ h₁=>?_
 obtain⟨rfl,rfl⟩:=h₁;have hS:(s.heap.push { cls:=.type "list",data:=.seq #[]}).get? s.heap.objs.size=some { cls:=.type "list",data:=.seq #[]}:=Heap.get?_push_size s.heap rfl;have LF:=Heap.lt_size hI;obtain⟨ol,gl,cl,nl,R0⟩:=hl;have LG:=Heap.lt_size gl;refine⟨⟨_,hS,rfl⟩,F.args_list_init_2 _ _,?_⟩;refine dY (dY (wpAny_seqItems hS rfl (wpAny_pure ?_)));refine dY (wpAny_updateSeq hS rfl ?_ (by rw[sizeLine_eq];decide) (by rw[sizeLine_eq];decide))
 refine dY (wpAny_letGo ?_);have Py:=Heap.get?_update_self (Obj.mapSeq fun _=>#[]) hS rfl
 have yz:∀ b o,b≠s.heap.objs.size->s.heap.get? b=some o->((s.heap.push { cls:=.type "list",data:=.seq #[]}).update s.heap.objs.size (Obj.mapSeq fun _=>#[])).get? b=some o:=fun b o hb e=>(Heap.get?_update_other _ _ (Ne.symm hb)).trans (Heap.get?_push_of_some _ e)
 have MT:=yz _ _ (Nat.ne_of_lt LF) hI;have hl2:=yz _ _ (Nat.ne_of_lt LG) gl;generalize (s.heap.push { cls:=.type "list",data:=.seq #[]}).update s.heap.objs.size (Obj.mapSeq fun _=>#[])=h2 at Py yz MT hl2 ⊢
 show wpAny _ _ (Builtin.List.listExtendWith (.ref s.heap.objs.size) (.ref I) Value.none) _ _ { s with heap:=h2}
 have hT:Shared.TypeIs { s with heap:=h2} (.ref I) "list_reverseiterator":=⟨_,MT,rfl⟩
 unfold Builtin.List.listExtendWith;refine dY (wpAny_typeOf hT ?_);have LH:s.heap.objs.size≠I:=Nat.ne_of_gt LF;have R1:Builtin.List.listSameRef (.ref s.heap.objs.size) (.ref I)=false:=by
  unfold Builtin.List.listSameRef;simp[LH]
 rw[R1,if_neg (by decide)]
 refine dY (wpAny_pyIter_revIter ⟨_,MT,rfl,rfl⟩ ?_);refine dY (wpAny_holding (Et hT ?_));dsimp only;rw[if_neg (by decide)]
 refine wpAny_pure ⟨plainId_quiet F.plain_extend_loop _,?_⟩;have W:=(Walks.listRev (prog:=prog) (w:=w) (A:=A.in1.in1) (by exact hh) I l hne items).toS
 have R3:s.heap.objs.size≠l:=Nat.ne_of_gt LG;refine codeAny_extend_loopS W hn s.heap.objs.size (by simp[LH,R3]) Value.none items.size 0 _ #[] _ rfl (Nat.zero_le _) ⟨Nat.zero_le _,⟨_,MT,rfl,by simp[revObj]⟩,⟨_,hl2,cl,nl,R0⟩⟩ Py (ItemsOf.nil _) fun s' acc c mv hS' hacc=>⟨rfl,?_⟩
 rw[mv.eq_with];exact hQ s'.heap s'.toks acc c (fun b o hb e=>mv.heap b o (by simp[hb,Nat.ne_of_lt (Heap.lt_size e)]) (yz b o (Nat.ne_of_lt (Heap.lt_size e)) e)) hS' hacc
end
theorem rP{α β:Type}{F:α->β->Prop}{x:α}{y:β}(h:F x y):∀{l:List α} {r:List β},Paired F l r->Paired F (l++[x]) (r++[y])
 | _,_,.nil=>.cons h .nil
 | _,_,.cons h1 t=>.cons h1 (rP h t)
theorem rQ{α β:Type}{F:α->β->Prop}:∀{l:List α} {r:List β},Paired F l r->Paired F l.reverse r.reverse
 | _,_,.nil=>.nil
 | _,_,.cons h t=>by
   rw[List.reverse_cons,List.reverse_cons];exact rP h (rQ t)
def Eu(K:bI)(te:TE):TE:=fun σ H Q=>te σ H fun x H1=>∃ l vs,x = .ref l/\aQ K H1 l vs/\vs.length<=900/\∀ D,H1 D=none->Q (.ref D) (upd H1 D (.lst vs.reverse))
section
variable {X:Cx}
theorem zf(K:bI){e:Expr}{te:TE}{p1 p2 pos1 pos2:Pos}(Oq:X.calm=true)(R4:Gl X "list")(hm1:X.mg "list"=none)(R5:Gl X "reversed")(hm2:X.mg "reversed"=none)(he:PE X e te)
 (hs1:starEach [.Call (.Name "reversed" p2) [e] [] pos2] X.env=[(false,eval (.Call (.Name "reversed" p2) [e] [] pos2) X.env)]:=by rfl) (hs2:starEach [e] X.env=[(false,eval e X.env)]:=by rfl) (hK:X.K=K:=by rfl) :
 PE X (.Call (.Name "list" p1) [.Call (.Name "reversed" p2) [e] [] pos2] [] pos1) (Eu K te):=by
 subst hK;intro pq s σ H Q I h;refine wpAny_Call_Name_kw (ji I R4 hm1 PyProof.Rows.boot_list ?_);refine PyProof.Rows.callWith_type1 ?_ hs1 rfl;rw[hs1];show wpAny _ _ (spliced ((false,eval (.Call (.Name "reversed" p2) [e] [] pos2) X.env)::backTo pos1 [])) _ _ s;refine Calls.spliced_cons ?_;refine wpAny_Call_Name_kw (ji I R5 hm2 PyProof.Rows.boot_reversed ?_);refine PyProof.Rows.callWith_type1 ?_ hs2 rfl;rw[hs2];show wpAny _ _ (spliced ((false,eval e X.env)::backTo pos2 [])) _ _ s;refine Calls.spliced_cons (eR (he pq s σ H _ I h) fun u s1 ⟨x,H1,I1,r1,l,vs,ex,hq,hv,q1⟩=>?_)
 subst ex;cases r1;refine Calls.spliced_nil ?_;obtain⟨its,rv,⟨o,n,ho,hc,hdt,hd⟩,hz⟩:=I1.list hq;have hlen:vs.length=its.length:=rv.length;have hsl:its.length<=sizeLine:=Nat.le_of_lt (ir (by lia))
 refine call_reversed_list ⟨o,ho,hc,n,hd⟩ ?_;refine Calls.spliced_nil ?_;have hlt:=Heap.lt_size ho;have R6:(s1.heap.push (revObj l (its.toArray.size-1))).get? s1.heap.objs.size=some (revObj l (its.toArray.size-1)):=Heap.get?_push_size s1.heap rfl;refine sW (items:=its.toArray) (I1.ok.hd Oq) R6 ⟨o,Heap.get?_push_of_some _ ho,hc,n,hd⟩ (Nat.ne_of_lt hlt) (by rw[List.size_toArray];exact hsl) fun h' tk acc c hk hget hacc=>?_
 have hsz:s1.heap.objs.size<=(s1.heap.push (revObj l (its.toArray.size-1))).objs.size:=by rw[size_push'];exact Nat.le_succ _
 have LI:acc.toList=its.reverse:=by
  refine List.ext_getElem? fun j=>?_
  have a1:acc.size=its.length:=hacc.1.trans (List.size_toArray);have a2:=hacc.2
  by_cases hj:j<its.length
  ·have Pz:j<acc.size:=by lia
   have h1:=a2 j acc[j] (Array.getElem?_eq_getElem Pz);rw[List.size_toArray,List.getElem?_toArray]at h1;rw[Array.getElem?_toList,Array.getElem?_eq_getElem Pz,List.getElem?_reverse hj,h1]
  ·rw[List.getElem?_eq_none (by rw[Array.length_toList];lia),List.getElem?_eq_none (by rw[List.length_reverse];lia)]
 refine⟨.ref (s1.heap.push (revObj l (its.toArray.size-1))).objs.size,_,I1.laid (t':=tk) (o:=.lst vs.reverse) (fun b o' hb=>hk b o' (Nat.ne_of_lt (Heap.lt_size hb)) (Heap.get?_push_of_some _ hb)) hsz ⟨by rw[List.length_reverse,hlen];exact hsl,acc.toList,c,by rw[LI];exact rQ rv,by
  have:acc.toList.toArray=acc:=by simp
  rw[this];exact hget⟩,rfl,q1 _ (I1.hok.fresh hsz)⟩
end
def gb(q:Str)(pos:Pos):Array Value:=#[.str q 0,rawInt pos.line,rawInt pos.col]
def nJ(pos:Pos)(c:Addr):Array Value:=#[rawInt pos.line,rawInt pos.col,.ref c]
def g9(H:Hp)(P c:Addr)(oc:Obj)(q:Str)(pos:Pos):Hp:=upd (upd H c (.pU oc (.own P))) P (.kH (gb q pos++nJ pos c))
def given(H:Hp)(P c:Addr)(q:Str)(pos:Pos):Hp:=upd (upd H c (.own P)) P (.kH (gb q pos))
def CodeObj(oc:Obj)(q:Str):Prop:=∃ vs t,oc.data = .fields vs/\vs[1]?=some (.str q t)
theorem CodeObj.rec{h:Heap}{c:Addr}{oc:Obj}{q:Str}(x:CodeObj oc q)(e:h.get? c=some oc):h.CodeRec (.ref c) q :=
 let⟨vs,t,e1,e2⟩:=x
 ⟨c,oc,vs,t,rfl,e,e1,e2⟩
theorem Jm{P:Program}{w:World}{H:Hp}{h:Heap}{a:Addr}{q:Str}{pos:Pos}(x:bR P w H h a (.kH (gb q pos))):
 h.get? a=some (PySem.W.tabObj #[])\/∃ c oc,h.get? a=some (PySem.W.tabObj (nJ pos c))/\H c=some (.own a)/\h.get? c=some oc/\CodeObj oc q:=by
 obtain⟨ps,e,f⟩:=x;rcases f with⟨_,f|⟨c,e1,e2,c',oc,vs,tq,hc,ho,hd,hv⟩⟩|⟨q',l,k,f,z⟩
 ·subst f;exact .inl e
 ·cases hc;subst e1;exact .inr ⟨c,oc,e,e2,ho,vs,tq,hd,hv⟩
 ·have:=congrArg Array.size f;rw[Array.size_append,z]at this;exact absurd this (by simp[gb])
theorem Ew{P:Program}{w:World}{H:Hp}{h:Heap}{a c:Addr}{q:Str}{pos:Pos}(x:bR P w H h a (.kH (gb q pos++nJ pos c))):h.get? a=some (PySem.W.tabObj (nJ pos c)):=by
 obtain⟨ps,e,f⟩:=x;rcases f with⟨f,_⟩|⟨q',l,k,f,z⟩
 ·rw[Array.size_append]at f;exact absurd f (by simp[gb,nJ])
 ·have e2:=congrArg (fun a=>a.toList.drop 3) f
  simp only[Array.toList_append,gb,nJ,List.cons_append,List.nil_append,List.drop_succ_cons,List.drop_zero]at e2;have e3:ps=nJ pos c:=by
   apply Array.toList_inj.mp;exact e2.symm
  rw[<-e3];exact e
abbrev Ex(X:Cx)(params:Arguments)(body:Expr)(scope:Scope)(c:Addr)(ctv:Value):FuncData :=
 PySem.W.kla_fn "<lambda>" (X.env.qual ++ "<lambda>") params body scope (cV X.env.cells scope.names []) ((X.mg "__name__").getD .none) (.ref c) ctv
abbrev jm(X:Cx)(params:Arguments)(body:Expr)(scope:Scope)(c:Addr)(ctv:Value):Obj :=
 { cls:=.type "function",data:=.func (Ex X params body scope c ctv)}
section
variable {X:Cx}{pq:aX}{σ:St}{H H2:Hp}{s:Shared}{params:Arguments}{body:Expr}{scope:Scope}{pos:Pos}{own fq:List Str}{js:List Nat}{c P:Addr}
theorem Ey{Q:gU}{E:gU}
 (I:Inv X pq σ H s) (T:eV X scope own fq js) (hcode:X.env.code = .ref c) (hK:PySem.W.codeHdIn X.K c P=true) (hP:H P=some (.kH (gb (X.env.qual ++ "<lambda>") pos)))
 (hdef:defaultsOf params X.env=([],[]))
 (h:∀ f c' oc ctv s',(H c' = none\/H c' = some (.own P))->c'≠P->CodeObj oc (X.env.qual ++ "<lambda>")->Inv X ((f,jm X params body scope c' ctv)::pq) σ (g9 H P c' oc (X.env.qual ++ "<lambda>") pos) s'->Q (.ref f) s') :
 wpAny (model X.prog X.w) X.A (eval (.Lambda params body scope pos) X.env) Q E s:=by
 have FL:=Jm (show bR X.prog X.w H s.heap P (.kH (gb (X.env.qual ++ "<lambda>") pos)) from I.hok P _ hP)
 have C:PySem.W.CodeHd s.heap c P:=PySem.W.codeHd_of_K I.wF hK;have hg:=I.mod.glob.keeps I.bk;have PB:∀ b o,X.base.get? b=some o->b≠P:=fun b o q z=>by
  have:=(I.bs b o q).2;rw[z,hP]at this;cases this
 have hgP:mainGlobals≠P:=by
  obtain⟨o,es,ep,q,_⟩:=I.mod.glob;exact PB _ o q
 have hb:s.heap.BuiltinsAt X.mg P:=by
  obtain⟨bm,ob,b1,b2,b3,b4,b5,b6⟩:=I.mod.bmain;refine⟨bm,ob,b1,b2,fun z=>?_,PB _ _ b3,I.bk _ _ b3,b4,b5,b6⟩
  obtain⟨o,es,ep,q,hd,_⟩:=I.mod.glob;rw[z,q]at b3;cases b3;rw[hd]at b6;cases b6
 have hcl:=mP (gj I T);have fin:∀(f c' : Addr) (oc:Obj) (ctv:Value) (h2:Heap) (tk:Nat),(H c' = none\/H c' = some (.own P))->c'≠P->(H c' = none->s.heap.objs.size<=c')->CodeObj oc (X.env.qual ++ "<lambda>")->(∀ b o,b≠P->s.heap.get? b=some o->h2.get? b=some o)->
  h2.get? P=some (PySem.W.tabObj (nJ pos c'))->h2.get? c' = some oc->s.heap.objs.size<=f->f≠c'->h2.get? f=some (jm X params body scope c' ctv)->
  Inv X ((f,jm X params body scope c' ctv)::pq) σ (g9 H P c' oc (X.env.qual ++ "<lambda>") pos) { s with heap:=h2,toks:=tk}:=by
  intro f c' oc ctv h2 tk hc BV hnew hoc hx MU hct hf hfc R7;have nP:∀ b,H b=none->b≠P:=fun b n z=>by rw[z,hP]at n;cases n
  have GN:∀ b u,H b=some u->(∀ y,u≠.own y)->(∀ qs,u≠.kH qs)->g9 H P c' oc (X.env.qual ++ "<lambda>") pos b=some u:=fun b u e n1 n2=>by
   unfold g9;rw[ay (fun z=>by rw[z,hP]at e;exact n2 _ (Option.some.inj e).symm),ay (fun z=>by
    rw[z]at e;rcases hc with q|q
    ·rw[q]at e;cases e
    ·rw[q]at e;exact n1 _ (Option.some.inj e).symm)]
   exact e
  have Jo:∀ b,H b=none->(b<s.heap.objs.size\/b≠c')->g9 H P c' oc (X.env.qual ++ "<lambda>") pos b=none:=fun b n hb=>by
   unfold g9;rw[ay (nP b n),ay (fun z=>by
    rcases hb with q|q
    ·rw[z]at q n;exact absurd (hnew n) (Nat.not_le.mpr q)
    ·exact q z)]
   exact n
  have un:Un X.fs [] H (g9 H P c' oc (X.env.qual ++ "<lambda>") pos) s.heap h2:=by
   refine⟨fun b o q n _ _=>hx b o (nP b n) q,fun b o q n _ _=>⟨o.slots,hx b o (nP b n) q⟩,fun b o q n _=>Jo b n (.inl (Heap.lt_size q)),fun b o q _=>?_,fun b xs q=>GN b _ q (by intro y z;cases z) (by intro y z;cases z),fun b o u q=>GN b _ q (by intro y z;cases z) (by intro y z;cases z),fun b ps q=>?_⟩
   ·by_cases hb:b=P
    ·exact⟨_,by rw[hb];exact MU⟩
    ·exact⟨o,hx b o hb q⟩
   ·by_cases hb:b=P
    ·subst hb;rw[hP]at q;cases q;exact⟨nJ pos c',ae⟩
    ·refine⟨#[],?_⟩;unfold g9;rw[ay hb,ay (fun z=>by
      rw[z]at q;rcases hc with r|r<;>(rw[r]at q;cases q)),q]
     simp
  have hok:m9 X.prog X.w (g9 H P c' oc (X.env.qual ++ "<lambda>") pos) h2:=fun b u q=>by
   by_cases BW:b=P
   ·subst BW;unfold g9 at q;rw[ae]at q;cases q;exact⟨_,MU,.inr ⟨_,_,_,rfl,rfl⟩⟩
   ·by_cases hbc:b=c'
    ·subst hbc;unfold g9 at q;rw[ay BW,ae]at q;cases q;exact⟨hct,oc,hct⟩
    ·have q' : H b=some u:=by
      unfold g9 at q;rw[ay BW,ay hbc]at q;exact q
     have ow:∀ d,H d=some (.own b)->d≠P/\d≠c':=fun d qd=>⟨c8 qd hP (by intro z;cases z),fun z=>by
      rw[z]at qd;rcases hc with r|r
      ·rw[r]at qd;cases qd
      ·rw[r]at qd;cases qd;exact BW rfl⟩
     refine(I.hok b u q').stay (fun d v hd qd=>hx d v ?_ qd) (fun d qd=>?_) fun d xs qd=>GN d _ qd (by intro y z;cases z) (by intro y z;cases z)
     ·rcases hd with rfl|hd
      ·exact BW
      ·exact(ow d hd).1
     ·unfold g9;rw[ay (ow d qd).1,ay (ow d qd).2];exact qd
  have J:=I.un (t':=tk) un hok;have R8:H f=none:=I.hok.fresh hf;refine J.g7 fun p hp=>?_
  rcases List.mem_cons.mp hp with rfl|hp
  ·exact⟨R7,Jo _ R8 (.inr hfc),Nat.ne_of_gt (Nat.lt_of_lt_of_le I.lt hf),I.Ks hf,fun v z=>by cases z⟩
  ·exact J.pin p (oz _ hp)
 refine PySem.W.kla_eval hdef ?_;rcases FL with e|⟨c',oc,e,ho,hct,hoc⟩
 ·refine PySem.W.kla_makeFunction (mg:=X.mg) hcl I.ok.glob hg hcode C e trivial rfl hgP hb fun c' ctv h' tk hx hge hlt hrec htb=>?_
  obtain⟨c2,oc,vs,t,e2,hct,hd,hv⟩:=hrec;cases e2;have hf:s.heap.objs.size<=h'.objs.size:=Nat.le_trans hge (Nat.le_of_lt hlt);have BV:c'≠P:=Nat.ne_of_gt (Nat.lt_of_lt_of_le (Heap.lt_size e) hge);exact h _ c' oc ctv _ (.inl (I.hok.fresh hge)) BV ⟨vs,t,hd,hv⟩ (fin _ c' oc ctv _ tk (.inl (I.hok.fresh hge)) BV (fun _=>hge) ⟨vs,t,hd,hv⟩ (fun b o hb q=>Heap.get?_push_of_some _ (hx b o hb q)) (Heap.get?_push_of_some _ htb) (Heap.get?_push_of_some _ hct) hf (Nat.ne_of_gt hlt) (Heap.get?_push_size _ rfl))
 ·have hf:codeAmong pos (nJ pos c').toList=some (.ref c'):=codeAmong_snoc [] trivial rfl;have tr:TriplesOk (nJ pos c').toList:=TriplesOk_snoc pos.line pos.col (.ref c') [] trivial;refine PySem.W.kla_makeFunctionHit (mg:=X.mg) hcl I.ok.glob hg hcode C e tr hf hb fun ctv h' tk hk hsz=>?_
  have BV:c'≠P:=c8 ho hP (by intro z;cases z)
  have hk' : ∀ b o,s.heap.get? b=some o->(h'.push (jm X params body scope c' ctv)).get? b=some o:=fun b o q=>Heap.get?_push_of_some _ (hk b o q)
  exact h _ c' oc ctv _ (.inr ho) BV hoc (fin _ c' oc ctv _ tk (.inr ho) BV (fun z=>by rw[ho]at z;cases z) hoc (fun b o _ q=>hk' b o q) (hk' _ _ e) (hk' _ _ hct) hsz (Nat.ne_of_gt (Nat.lt_of_lt_of_le (Heap.lt_size hct) hsz)) (Heap.get?_push_size _ rfl))
theorem Ez{xC:aX}{σ0:St}{s0:Shared}{q:Str}{oc:Obj}(I0:Inv X xC σ0 H s0)(hP:H P=some (.kH (gb q pos)))(hc:H c=none\/H c=some (.own P))(BV:c≠P)(hoc:CodeObj oc q)
 (I:Inv X pq σ H2 s) (e1:H2 P=some (.kH (gb q pos++nJ pos c))) (e2:H2 c=some (.pU oc (.own P))):Inv X pq σ (given H2 P c q pos) s:=by
 have MU:=Ew (show bR X.prog X.w H2 s.heap P (.kH (gb q pos++nJ pos c)) from I.hok P _ e1)
 obtain⟨hct,_⟩:=(show bR X.prog X.w H2 s.heap c (.pU oc (.own P)) from I.hok c _ e2)
 have Jo:∀ b,H2 b=none->given H2 P c q pos b=none:=fun b n=>by
  unfold given;rw[ay (fun z=>by rw[z,e1]at n;cases n),ay (fun z=>by rw[z,e2]at n;cases n)]
  exact n
 have GN:∀ b u,b≠P->b≠c->H2 b=some u->given H2 P c q pos b=some u:=fun b u n1 n2 e=>by
  unfold given;rw[ay n1,ay n2];exact e
 refine⟨I.ok,I.os,I.bare,⟨I.base.keep,I.base.slot,fun b o z n hx=>Jo b (I.base.free b o z n hx),I.base.there,fun b xs z=>?_,fun b o u z=>?_,fun b ps z=>?_⟩,I.loc,I.cell,Jo _ I.free,fun x c' z=>Jo _ (I.gO x c' z),fun p hp=>?_,fun b u z=>?_,I.len⟩
 ·have r:=I.base.tups b xs z;exact GN b _ (c8 r e1 (by intro z;cases z)) (c8 r e2 (by intro z;cases z)) r
 ·have r:=I.base.l9 b o u z;refine GN b _ (c8 r e1 (by intro z;cases z)) (fun y=>?_) r
  have r0:=I0.base.l9 b o u z;rw[y]at r0;rcases hc with hc|hc<;>(rw[hc]at r0;cases r0)
 ·by_cases hb:b=P
  ·subst hb;obtain⟨more,r0⟩:=I0.base.mL b ps z;rw[hP]at r0;exact⟨more,by unfold given;rw[ae];exact r0⟩
  ·obtain⟨more,r⟩:=I.base.mL b ps z;exact⟨more,GN b _ hb (c8 r e2 (by intro z;cases z)) r⟩
 ·obtain⟨a1,a2,a3⟩:=I.pin p hp;exact⟨a1,Jo _ a2,a3⟩
 ·by_cases BW:b=P
  ·subst BW;unfold given at z;rw[ae]at z;cases z;refine⟨_,MU,.inl ⟨rfl,.inr ⟨c,rfl,?_,hoc.rec hct⟩⟩⟩;unfold given;rw[ay BV,ae]
  ·by_cases hbc:b=c
   ·subst hbc;unfold given at z;rw[ay BW,ae]at z;cases z;exact⟨oc,hct⟩
   ·have z' : H2 b=some u:=by
     unfold given at z;rw[ay BW,ay hbc]at z;exact z
    refine(I.hok b u z').stay (fun _ _ _ r=>r) (fun d r=>GN d _ (c8 r e1 (by intro z;cases z)) (c8 r e2 (by intro z;cases z)) r) fun d xs r=>GN d _ (c8 r e1 (by intro z;cases z)) (c8 r e2 (by intro z;cases z)) r
theorem EA{q:Str}{oc:Obj}(hP:H P=some (.kH (gb q pos)))(hc:H c=none\/H c=some (.own P))(BV:c≠P)(S:au (g9 H P c oc q pos) H2):au H (given H2 P c q pos):=fun b u e=>by
 unfold given
 by_cases BW:b=P
 ·subst BW;rw[ae,<-hP];exact e
 ·rw[ay BW]
  by_cases hbc:b=c
  ·subst hbc;rw[ae];rcases hc with hc|hc
   ·rw[hc]at e;cases e
   ·rw[<-hc];exact e
  ·rw[ay hbc];refine S b u ?_;unfold g9;rw[ay BW,ay hbc];exact e
theorem AY{q:Str}{oc:Obj}{b:Addr}{u:HO}(hP:H P=some (.kH (gb q pos)))(hc:H c=none\/H c=some (.own P))(e:H b=some u)(n1:∀ y,u≠.own y)(n2:∀ qs,u≠.kH qs):g9 H P c oc q pos b=some u:=by
 unfold g9;rw[ay (fun z=>by rw[z,hP]at e;exact n2 _ (Option.some.inj e).symm),ay (fun z=>by
  rw[z]at e;rcases hc with q|q
  ·rw[q]at e;cases e
  ·rw[q]at e;exact n1 _ (Option.some.inj e).symm)]
 exact e
def AZ(X:Cx)(N:List Str)(scope:Scope)(f c:Addr)(A:Around)(s:Shared)(H:Hp):Cx where
 prog:=X.prog
 w:=X.w
 K:=X.K
 mg:=X.mg
 base:=X.base
 A:=A.deeper (PySem.W.envX (X.env.qual ++ "<lambda>") scope s.heap.objs.size f (.ref c) (cV X.env.cells scope.names []))
 N:=N
 s₀:=s
 H₀:=H
 env:=PySem.W.envX (X.env.qual ++ "<lambda>") scope s.heap.objs.size f (.ref c) (cV X.env.cells scope.names [])
 outer:=X.stack
 stack:=PySem.W.envX (X.env.qual ++ "<lambda>") scope s.heap.objs.size f (.ref c) (cV X.env.cells scope.names [])::X.stack
 ex:=[]
 fn:=fun _=>false
 calm:=X.calm
 pn:=[]
 xe:=fun _ _=>False
theorem GO{f:Addr}{A:Around}{x:Str}{v:V}{u:Value}{h1:Heap}{t1:Nat}(I:Inv X pq σ H s)(T:eV X scope [x] fq js)(hx:scope.names.lookup x=some .local)
 (hfr:A.frames=some X.stack) (hh:A.handled=X.A.handled) (r:RelV v u) (old:∀ b o,s.heap.get? b=some o->h1.get? b=some o) (hn:h1.Ns s.heap.objs.size (fun y=>[(x,u)].reverse.lookup y)) :
 Inv (AZ X ([x]++fq) scope f c A s H) [] (some v::fK σ js) H { s with heap:=h1,toks:=t1}:=by
 have cells:∀ x c,(cV X.env.cells scope.names []).lookup x=some c->X.env.cells.lookup x=some c:=fun x c h=>by
  rcases iZ h with q|⟨q1,q2⟩
  ·cases q
  ·obtain⟨c',hc'⟩:=gj I T x .free q1 rfl;rw[hc']at q2;rw[hc'];exact congrArg some q2
 refine⟨⟨I.ok.mod,T.kind,rfl,rfl,Nat.le_refl _,fun x y c a b=>I.ok.inj x y c (cells x c a) (cells y c b),fun y hy=>?_,fun x c z _=>(nomatch z),fun hc=>hh.trans (I.ok.hd hc),Around.frames_deeper hfr,.inr ⟨rfl,rfl⟩,fun b hb=>absurd (show b∈([]:List Addr) from hb) (by simp),
  fun b o e=>I.bs b o e,Nat.le_trans I.ok.FT I.sz,fun b o _ hb=>absurd (show b∈([]:List Addr) from hb) (by simp),fun b hb=>absurd (show b∈([]:List Addr) from hb) (by simp),I.stack,I.uN⟩,
  rfl,I.bare,Un.kept old,⟨_,hn,fun i y v' e1 e2 e3=>?_⟩,fun y c e=>?_,I.hok.fresh (Nat.le_refl _),fun y c e=>I.gO y c (cells y c e),fun p hp=>absurd (show p∈([]:aX) from hp) (by simp),I.hok.kept old,?_⟩
 ·have hy:scope.names.lookup y=some .cell\/scope.names.lookup y=some .free:=hy;rcases hy with hy|hy
  ·exact absurd rfl (T.uZ _ (PySem.mem_of_lookup hy))
  ·exact iG (.inl (PySem.mem_of_lookup hy))
 ·replace e1:([x]++fq)[i]?=some y:=e1
  cases i with
  | zero =>
    have e1:x=y:=by simpa using e1
    have e2:v=v':=by simpa using e2
    subst e1 e2;exact⟨u,r,.inl ⟨hx,by simp⟩⟩
  | succ i =>
    have e1:fq[i]?=some y:=by simpa using e1
    have e2:(fK σ js)[i]?=some (some v'):=by simpa using e2
    obtain⟨j,hj,hσ⟩:=qS e2;have hN:X.N[j]?=some y:=by
     have q:=congrArg (fun l=>l[i]?) T.at_
     simp only[List.getElem?_map,hj,e1,Option.map_some]at q;exact Option.some.inj q
    have hfx:=T.fr y (m8 e1);have hm:=PySem.mem_of_lookup hfx;have hk:=T.free (y,.free) hm rfl;obtain⟨m0,hn0,DG⟩:=I.loc;obtain⟨u',r',l⟩:=DG j y v' hN hσ (by rcases hk with k|k;exact .inr (.inl k);exact .inr (.inr k))
    refine⟨u',r',.inr ⟨.inr hfx,?_⟩⟩;rcases l with⟨oB,_⟩|⟨_,c1,hc,hcell⟩
    ·have oB:X.env.scope.names.lookup y=some .local:=oB;rcases hk with k|k<;>(rw[oB]at k;cases k)
    ·obtain⟨c',hc'⟩:=iG (cells:=X.env.cells) (names:=scope.names) (cs:=[]) (x:=y) (.inl hm);have q:=cells y c' hc';rw[hc]at q;cases q;exact⟨c1,hc',hcell.keeps old⟩
 ·obtain⟨v',q⟩:=I.cell y c (cells y c e);exact⟨v',q.keeps old⟩
 ·show _=([x]++fq).length;have q:=congrArg List.length T.at_;rw[List.length_map,List.length_map]at q;simp only[List.length_cons,List.length_append,List.length_nil];unfold fK;rw[List.length_map]
  lia
theorem EB{f:Addr}{ctv:Value}{A:Around}{te:TE}{x:Str}{v:V}{u:Value}{Q:VK}{E:gU}(I:Inv X pq σ H s)(T:eV X scope [x] fq js)(hx:scope.names.lookup x=some .local)
 (hfr:A.frames=some X.stack) (hh:A.handled=X.A.handled) (hroom:A.depth<recursionLimit) (hp:(f,jm X params body scope c ctv)∈pq) (hcd:s.heap.CodeRec (.ref c) (X.env.qual ++ "<lambda>"))
 (hb:bindArgs (Ex X params body scope c ctv) ⟨[u],[]⟩=pure [(x,u)]) (hco:scope.isCoroutine=false) (hgen:scope.isGenerator=false)
 (he:PE (AZ X ([x]++fq) scope f c A s H) body te) (r:RelV v u) (h:te (some v::fK σ js) H Q) :
 wpAny (model X.prog X.w) A (call (.ref f) [u]) (fun u' s'=>∃ v' H',Inv X pq σ H' s'/\RelV v' u'/\Q v' H') E s:=by
 have hf:=I.pin _ (oz _ hp);refine wpAny_call (PySem.W.kla_callFunE hroom hf.1 rfl hco hgen rfl hcd ?_);rw[hb];refine wpAny_pure (wpAny_newFunctionEnv (fun y hy=>T.uZ y hy) (by intro y hy;have:=List.mem_singleton.mp hy;subst this;exact hx) (fun h₁ hns PC=>⟨I.nolimit.fresh _ PC,?_⟩) T.kind)
 show codeAny _ _ (.expr body (PySem.W.envX (X.env.qual ++ "<lambda>") scope s.heap.objs.size f (.ref c) (cV X.env.cells scope.names []))) _ _;have old:∀ b o,s.heap.get? b=some o->h₁.get? b=some o:=fun b o e=>PC.extBut b o (Nat.ne_of_lt (Heap.lt_size e)) (Heap.get?_push_of_some _ e)
 have J:=GO (f:=f) (c:=c) (A:=A) (t1:=s.toks+[(x,u)].length) I T hx hfr hh r old hns;refine PySem.W.kla_codeExpr (wpAny_mono (he [] _ _ H Q J h) (fun u' s' hq=>?_) fun _ _ z=>z.elim)
 obtain⟨v',H',J',r',q'⟩:=hq;exact⟨v',H',I.De (ch:=[]) J'.os J'.base J'.hok J'.bare (fun b z=>absurd z (by simp)),r',q'⟩
end
section
variable {X:Cx}{pq:aX}{σ:St}{H H2:Hp}{s:Shared}
def Jp(X:Cx)(b:Addr):Prop:=X.s₀.heap.objs.size<=b/\b≠X.env.locals/\b∉X.fs/\(∀ x c,X.env.cells.lookup x=some c->c≠b)/\∀ p∈X.pn,p.1≠b
theorem Inv.Ot(I:Inv X pq σ H s){b:Addr}(hb:s.heap.objs.size<=b):Jp X b :=
 let⟨_,f1,f2,_,f4,f5⟩:=I.Bf hb (I.hok.fresh hb)
 ⟨Nat.le_trans I.sz hb,f1,f2,f4,fun p hp=>f5 p (List.mem_append_left _ hp)⟩
theorem Inv.HJ{pa pb:aX}{b:Addr}{o:Obj}{h' : Heap}{t' : Nat}(I:Inv X pa σ H s)(hb:Jp X b)(hin:(b,o)∈pa)(k:∀ c u,c≠b->s.heap.get? c=some u->h'.get? c=some u)
 (hp:∀ p∈pb,(p.1=b/\h'.get? b=some p.2/\∀ v,p.2.data≠.cell v)\/(p∈pa/\p.1≠b)):Inv X pb σ H { s with heap:=h',toks:=t'}:=by
 obtain⟨b1,b2,b3,b4,b5⟩:=hb;have n:=(I.pin (b,o) (oz _ hin)).2.1;have J:=(I.g7 (MI:=pa.filter fun p=>decide (p.1≠b)) fun p hp=>I.pin p (oz _ (List.mem_filter.mp hp).1)).turned (t':=t') k n b2 (.inr b1) b4 (fun p hp=>by
  rcases List.mem_append.mp hp with hp|hp
  ·exact b5 p hp
  ·exact jw (List.mem_filter.mp hp).2)
 refine J.g7 fun p h=>?_
 rcases hp p h with⟨e,g,d⟩|⟨m,ne⟩
 ·refine⟨by rw[e];exact g,by rw[e];exact n,by rw[e];exact b2,by rw[e];exact b3,d⟩
 ·exact J.pin p (oz _ (List.mem_filter.mpr ⟨m,cN ne⟩))
end
abbrev p9:=List (Addr×Str×Pos)
structure TabsOk(K:bI)(h:Heap)(tb:p9):Prop where
 nd:(tb.map (·.1)).Nodup
 mt:∀ p∈tb,h.get? p.1=some (PySem.W.tabObj #[])
 code:∀ p∈tb,∃ c,PySem.W.CodeHd h c p.1
 out:∀ p∈tb,K.lookup p.1=none
def TabsAt(tb:p9)(H:Hp):Prop:=∀ p∈tb,H p.1=some (.kH (gb p.2.1 p.2.2))
def xD(tb:p9):Hp:=fun b=>(tb.find? fun p=>p.1==b).map fun p=>.kH (gb p.2.1 p.2.2)
theorem lR{tb:p9}{b:Addr}{u:HO}(e:xD tb b=some u):∃ p∈tb,p.1=b/\u = .kH (gb p.2.1 p.2.2):=by
 unfold xD at e;obtain⟨p,h1,h2⟩:=Ah.mp e;have h3:(p.1==b)=true:=List.find?_some (p:=fun p:Addr×Str×Pos=>p.1==b) h1
 exact⟨p,List.mem_of_find?_eq_some h1,eq_of_beq h3,h2.symm⟩
theorem vt:∀{tb:p9},(tb.map (·.1)).Nodup->TabsAt tb (xD tb)
 | [],_=>fun p hp=>nomatch hp
 | q::r,nd=>fun p hp=>by
   rw[List.map_cons,List.nodup_cons]at nd;rcases List.mem_cons.mp hp with rfl|hp
   ·unfold xD;rw[List.find?_cons_of_pos (by simp)];rfl
   ·have ne:(q.1==p.1)=false:=beq_eq_false_iff_ne.mpr fun z=>nd.1 (by rw[z];exact List.mem_map_of_mem hp)
    unfold xD;rw[List.find?_cons_of_neg (by rw[ne];exact Bool.false_ne_true)]
    exact vt nd.2 p hp
theorem BX{P:Program}{w:World}{K:bI}{mg mb:kK}{CX:CW}{k:Nat}{fa a:Addr}{fd:FuncData}{x:Str}{sp:Sp}{s₁:Shared}{vs:List Value}{ns:List Int}{tb:p9}
 (KX:K.In s₁.heap) (TB:TabsOk K s₁.heap tb) (hns:s₁.heap.Ns mainGlobals mg) (hb:s₁.heap.Ns builtinsNs mb) (R9:∀ x:Str,x≠"__name__"->mb x=bootBuiltins x) (hlim:s₁.heap.NoLimit)
 (hbm:∃ bm ob,mg "__builtins__"=some (.ref bm)/\bm≠builtinsNs/\s₁.heap.get? bm=some ob/\ob.cls = .type "module"/\ob.dict=some builtinsNs/\ob.data = .plain) (hg:s₁.gens = #[])
 (ha:s₁.heap.get? a=some { cls:=.type "list",data:=.seq vs.toArray}) (hi:IntsAre vs ns) (hl:ns.length<=sizeLine) (hr:fZ k callerA)
 (F:∀ base:Heap,K.In base->base.Ns mainGlobals mg->kO P w K mg base CX k fa fd [x] sp) (hbind:∀(s:Shared) (u:Value),BindsTo s fd ⟨[u],[]⟩ [(x,u)])
 (qP:∀ H:Hp,TabsAt tb H->aQ K H a (ns.map V.int)->sp [.ref a] H (fun v _=>v = .bl true) fun _ _ _=>False)
 (Ou:∀ H e s',CX [] H s₁ (fun _ _ _=>False) e s'->False) :
 codeAny (model P w) callerA (.call (.ref fa) ⟨[.ref a],[]⟩) (fun r s'=>r = .ok (.ret (.bool true))/\OldK s₁.heap s'.heap/\s'.os=s₁.os/\AllBare s'.gens) s₁:=by
 have rv:=ua hi;have Ov:=hi.length;have aT:∀ p∈tb,p.1≠a:=fun p hp z=>by
  have:=TB.mt p hp;rw[z,ha]at this;cases this
 let fz:HO:=.pU { cls:=.type "list",data:=.seq vs.toArray} (.lst (ns.map V.int))
 have core:∀ H:Hp,aQ K H a (ns.map V.int)->TabsAt tb H->m9 P w H s₁.heap->(∀ b u,H b=some u->(b=a/\K.lookup a=none/\u=fz)\/∃ p∈tb,p.1=b/\u = .kH (gb p.2.1 p.2.2))->
  codeAny (model P w) callerA (.call (.ref fa) ⟨[.ref a],[]⟩) (fun r s'=>r = .ok (.ret (.bool true))/\OldK s₁.heap s'.heap/\s'.os=s₁.os/\AllBare s'.gens) s₁:=by
  intro H hS hT hok hA;have free:∀{b:Addr} {o:Obj},s₁.heap.get? b=some o->(∀ xs n,o.data≠.seq xs n)->(∀ xs,o.data≠.fields xs)->H b=none:=fun {b o} e n1 n2=>by
   cases q:H b with
   | none=>rfl
   | some u =>
     rcases hA b u q with⟨z,_⟩|⟨p,hp,z,_⟩
     ·rw[z,ha]at e;cases e;exact absurd rfl (n1 _ _)
     ·rw[<-z,TB.mt p hp]at e;cases e;exact absurd rfl (n2 _)
  have MV:∀{b:Addr} {m:kK},s₁.heap.Ns b m->(wI s₁.heap H).Ns b m:=fun {b m} ⟨o,es,ep,e,d,r⟩=>⟨o,es,ep,qG e (free e (by intro _ _ z;rw[d]at z;cases z) (by intro _ z;rw[d]at z;cases z)),d,r⟩
  have PD:K.In (wI s₁.heap H):=fun b o e=>qG (KX b o e) (by
   cases q:H b with
   | none=>rfl
   | some u =>
     rcases hA b u q with⟨z,n,_⟩|⟨p,hp,z,_⟩
     ·rw[z,n]at e;cases e
     ·rw[<-z,TB.out p hp]at e;cases e)
  have hM:Mod K mg (wI s₁.heap H):=⟨PD,MV hns,⟨mb,MV hb,R9⟩,(let⟨mc,h1,h2⟩:=hlim;⟨mc,MV h1,h2⟩),
   let⟨bm,ob,b1,b2,b3,b4,b5,b6⟩:=hbm;⟨bm,ob,b1,b2,qG b3 (free b3 (by intro _ _ z;rw[b6]at z;cases z) (by intro _ z;rw[b6]at z;cases z)),b4,b5,b6⟩⟩
  have e0:F7 P w K mg (wI s₁.heap H) callerA [] s₁ H:=⟨rfl,hM,fun b o e=>FP e,Nat.le_of_eq (Bc _ _),trivial,fun b hb=>absurd (show b∈([]:List Addr) from hb) (by simp),hok,.of_eq hg⟩
  refine codeAny_mono ((F _ PD (MV hns)).run callerA [] s₁ H ⟨[.ref a],[]⟩ [.ref a] [.ref a] _ _ hr e0 (hbind s₁ (.ref a)) (.cons rfl .nil) (qP H hT hS)) fun r s' h=>?_
  cases r with
  | error e=>exact(Ou H e s' h).elim
  | ok fl =>
    cases fl with
    | next=>exact False.elim h
    | brk=>exact False.elim h
    | cont=>exact False.elim h
    | ret u =>
      obtain⟨v,H',os,bare,un,LJ,r',q⟩:=h;have q' : v = .bl true:=q;subst q';obtain rfl:u=Value.bool true:=r';have all:∀ b o,s₁.heap.get? b=some o->s'.heap.get? b=some o\/∃ p∈tb,p.1=b/\∃ ps,s'.heap.get? b=some (PySem.W.tabObj ps):=fun b o e=>by
       cases q:H b with
       | none=>exact .inl (un.keep b o e q (by intro z;exact absurd (show b∈([]:List Addr) from z) (by simp)) (by simp))
       | some u =>
         rcases hA b u q with⟨z,_,z2⟩|⟨p,hp,z,z2⟩
         ·rw[z2]at q;obtain⟨e1,_⟩:=hok b _ q;obtain⟨e2,_⟩:=LJ b _ (un.l9 b _ _ q);rw[e]at e1;cases e1;exact .inl e2
         ·rw[z2]at q;obtain⟨more,q2⟩:=un.mL b _ q;obtain⟨ps,e2,_⟩:=LJ b _ q2;exact .inr ⟨p,hp,z,ps,e2⟩
      refine⟨rfl,⟨fun b o e=>?_,fun b o e=>?_⟩,os,bare⟩
      ·rcases all b o e with z|⟨p,hp,z,ps,e2⟩
       ·exact .inl z
       ·obtain⟨c,hc⟩:=TB.code p hp;have e1:=TB.mt p hp;subst z;rw[e]at e1;cases e1;exact .inr (.inl ⟨(hc.tab e).isCodeTable,rfl,#[],ps,rfl,by rw[e2,Array.empty_append]⟩)
      ·rcases all b o e with z|⟨p,hp,z,ps,e2⟩
       ·exact⟨o,z⟩
       ·exact⟨_,e2⟩
 have tok:∀{H:Hp} {b:Addr} {p},p∈tb->p.1=b->bR P w H s₁.heap b (.kH (gb p.2.1 p.2.2)):=fun {H b p} hp z=>⟨#[],by rw[<-z];exact TB.mt p hp,.inl ⟨rfl,.inl rfl⟩⟩
 cases hk:K.lookup a with
 | some o =>
   have e:=KX a o hk;rw[ha]at e;cases e;refine core (xD tb) (.inr ⟨_,vs.toArray,_,hk,rfl,rfl,rfl,by rw[List.size_toArray,Ov];exact hl,by simpa using rv⟩) (vt TB.nd) (fun b u e=>?_) fun b u e=>.inr (lR e)
   obtain⟨p,hp,z,rfl⟩:=lR e;exact tok hp z
 | none =>
   refine core (fun b=>if b=a then some fz else xD tb b) (.inl (.inr ⟨{ cls:=.type "list",data:=.seq vs.toArray},if_pos rfl⟩)) (fun p hp=>?_) (fun b u e=>?_) fun b u e=>?_
   ·show(if p.1=a then some fz else xD tb p.1)=_
    rw[if_neg (aT p hp)];exact vt TB.nd p hp
   ·by_cases hb:b=a
    ·have z:=(if_pos hb).symm.trans e;cases z;subst hb;exact⟨ha,by rw[List.length_map];exact hl,vs,_,rv,ha⟩
    ·have z:=(if_neg hb).symm.trans e;obtain⟨p,hp,z2,rfl⟩:=lR z;exact tok hp z2
   ·by_cases hb:b=a
    ·have z:=(if_pos hb).symm.trans e;exact .inl ⟨hb,hk,(Option.some.inj z).symm⟩
    ·exact .inr (lR ((if_neg hb).symm.trans e))
theorem EC{l:PySem.W.OpenLaw}{n k:Nat}{q:Program}{loose:List Str}{XP:(Str->Option Value)->Heap->Prop}{YP:World->Heap->Prop}{d:DefRec}{K:Params->bI}{CX:World->CW}{sp:World->p9->Sp}{x:Str}{ts:List Addr}
 (hn:l.most=some n) (hn2:n<=sizeLine) (K6:d.params.defaults=[]) (hr:fZ k callerA)
 (hY:∀(w:World) (h:Heap),YP w h->(K w.params).In h/\∀ P∈ts,h.get? P=some (PySem.W.tabObj #[]))
 (F:∀(w:World) (mg:kK) (fa:Addr) (h:Heap),(K w.params).In h->h.Ns mainGlobals mg->mg d.name=some (.ref fa)->
  ∃(fd:FuncData) (tb:p9),((tb.map (·.1)).Nodup/\PySem.W.noTabs (K w.params)=true/\∀ p∈tb,p.1∈ts/\∃ c,PySem.W.codeHdIn (K w.params) c p.1=true)/\(∀(s:Shared) (u:Value),BindsTo s fd ⟨[u],[]⟩ [(x,u)])/\
   ∀ base:Heap,(K w.params).In base->base.Ns mainGlobals mg->kO l.prog w (K w.params) mg base (CX w) k fa fd [x] (sp w tb))
 (qP:∀(w:World) (H:Hp) (a:Addr) (ns:List Int) (tb:p9),ns.length<=n->TabsAt tb H->aQ (K w.params) H a (ns.map V.int)->sp w tb [.ref a] H (fun v _=>v = .bl true) fun _ _ _=>False)
 (Ou:∀(w:World) (H:Hp) (s:Shared) (e:Value) (s' : Shared),CX w [] H s (fun _ _ _=>False) e s'->False) :
 PySem.W.WalkO q loose XP YP l.row.toRowW d [] (fun f vs=>PySem.call f vs):=by
 refine Att.wQ hn K6 fun w s₀ s₁ mg mb fa o pm cd doc a vs ns G Y ho hd hcd hmg hobj hints hlen hg=>?_
 obtain⟨KX,hts⟩:=hY w _ Y;obtain⟨fd,tb,⟨nd,nt,ht⟩,hb,hF⟩:=F w mg fa _ KX G.T.g hmg;have TB:TabsOk (K w.params) s₁.heap tb:=⟨nd,fun p hp=>hts _ (ht p hp).1,fun p hp=>let⟨_,c,e⟩:=ht p hp;⟨c,PySem.W.codeHd_of_K KX e⟩,fun p hp=>by
  cases e:(K w.params).lookup p.1 with
  | none=>rfl
  | some ob =>
    have e1:=KX _ _ e;rw[hts _ (ht p hp).1]at e1;cases e1;have z:=List.all_eq_true.mp nt (p.1,PySem.W.tabObj #[]) (PySem.W.mem_of_lookupK e);exact absurd (show false=true from z) Bool.false_ne_true⟩
 exact BX KX TB G.T.g G.T.b G.T.builtins G.T.nolimit G.T.bmain hg hobj hints (Nat.le_trans hlen hn2) hr hF hb (fun H hT hS=>qP w H a ns tb hlen hT hS) fun H e s'=>Ou w H s₁ e s'
def vv(f:Str):Str:=f ++ ".<locals>." ++ "<lambda>"
structure zg(K:bI)(x qual:Str)(st:Stmt)(f:Addr)(fd:FuncData)(c0 P:Addr):Prop where
 ex:∃(oc:Value) (od:Option Addr) (kV doc pm:Value) (an:Option Addr) (ct:Value) (osl:Array (Option Value)),
  fd=PySem.W.fnOf x qual (dG st) (bY st) (ak st) .none kV doc pm an (.ref c0) ct/\K.lookup f=some ⟨oc,od,.func fd,osl⟩/\PySem.W.codeIn K (.ref c0) qual=true
 kp:PySem.W.keepIn K (.ref f)=true
 hd:PySem.W.codeHdIn K c0 P=true
section
variable {P:Program}{w:World}{K:bI}{mg:kK}{base:Heap}{x qual:Str}{st:Stmt}{f c0 p0:Addr}{fd:FuncData}
theorem zg.ok{N ps:List Str}{k:Nat}{sp:Sp}(F:zg K x qual st f fd c0 p0)(S:aH N ps (ak st))(len:∀ vs H Q E,sp vs H Q E->vs.length=ps.length)
 (hbody:∀(A:Around) (outer:List Env) (s:Shared) (H:Hp) (vs:List V) (Q:VK) (E:XK),fZ k (A.deeper (envOfC qual (ak st) s.heap.objs.size f (.ref c0)))->sp vs H Q E->
  ∃ t,uO (p5 Ax P w K mg base N qual (ak st) f (.ref c0) A outer s H E).yx (bY st) t/\t { nx:=fun _ H'=>Q .gh H',rt:=Q} (start N vs) H):kO P w K mg base Ax (k+1) f fd ps sp:=by
 obtain⟨oc,od,kV,doc,pm,an,ct,osl,rfl,lk,hcd⟩:=F.ex;refine Dw lk hcd S len fun A outer s H vs Q E hr qP=>?_
 obtain⟨t,h,q⟩:=hbody A outer s H vs Q E hr qP;exact⟨t,h.yx,q⟩
theorem zg.binds{ps:List Str}(F:zg K x qual st f fd c0 p0)
 (h:∀(kV doc pm:Value) (an:Option Addr) (cdv ct:Value) (us:List Value),us.length=ps.length->bindArgs (PySem.W.fnOf x qual (dG st) (bY st) (ak st) .none kV doc pm an cdv ct) ⟨us,[]⟩=pure (ps.zip us)):Binds K fd ps []:=by
 obtain⟨oc,od,kV,doc,pm,an,ct,osl,rfl,lk,hcd⟩:=F.ex;exact .all (h kV doc pm an (.ref c0) ct)
theorem GP{oc:Value}{od an:Option Addr}{osl:Array (Option Value)}{kV doc pm ct:Value}(l:K.lookup f=some ⟨oc,od,.func (PySem.W.fnOf x qual (dG st) (bY st) (ak st) .none kV doc pm an (.ref c0) ct),osl⟩)
 (c:PySem.W.codeIn K (.ref c0) qual=true) (k:PySem.W.keepIn K (.ref f)=true) (hd:PySem.W.codeHdIn K c0 p0=true):zg K x qual st f (PySem.W.fnOf x qual (dG st) (bY st) (ak st) .none kV doc pm an (.ref c0) ct) c0 p0 :=
 ⟨⟨oc,od,kV,doc,pm,an,ct,osl,rfl,l,c⟩,k,hd⟩
end
open PySem PySem.Spec PyProof.Rows PySem.W
def SRun(r:Nat->Int){α:Type}:KasT α->α
 | .ret a=>a
 | .ask i j k=>SRun r (k (decide (r i<r j)))
section
variable {r:Nat->Int}
theorem iz{α β:Type}{f:α->KasT β}:∀(t:KasT α),SRun r (t.bind f)=SRun r (f (SRun r t))
 | .ret a=>by rw[KasT.bind.eq_1];rfl
 | .ask i j k=>by
   rw[KasT.bind.eq_2];exact iz (k _)
theorem vy{n:Nat}{α:Type}{R:α->Prop}{cmp:Nat->Nat->(Bool->Shared->Prop)->Shared->Prop}{Q:α->Shared->Prop}{s:Shared}(hc:∀ i j C,i<n->j<n->C (decide (r i<r j)) s->cmp i j C s):∀{t:KasT α},sU n R t->(R (SRun r t)->Q (SRun r t) s)->KasT.kasWp cmp t Q s
 | .ret a,h,q=>q h
 | .ask i j k,h,q=>hc i j _ h.1 h.2.1 (vy hc (h.2.2 _) q)
def Kr(r:Nat->Int)(p:Array Nat)(i:Nat):Int:=r (p.getD i 0)
theorem rR(p:Array Nat)(i:Nat):Kr r p i=r ((p[i]?).getD 0):=by
 unfold Kr;rw[Array.getD_eq_getD_getElem?]
theorem vz{p:Array Nat}{i j:Nat}(hj:j<=p.size)(k:Nat):Kr r (kas_rev p i j) k=if i<=k/\k<j then Kr r p (i+j-1-k) else Kr r p k:=by
 have e:=getElem?_mirror_all (i:=i) hj k;unfold kas_rev;rw[rR,e]
 split
 ·rw[rR]
 ·rw[rR]
theorem ED{p:Array Nat}{src d:Nat}(hs:src<p.size)(hd:d<=src)(k:Nat):Kr r (bubble p src d) k=if k=src-d then Kr r p src else if src-d<k/\k<=src then Kr r p (k-1) else Kr r p k:=by
 have e:=getElem?_bubble hs d hd k;rw[rR,e]
 split
 ·rw[rR]
 ·split
  ·rw[rR]
  ·rw[rR]
theorem kY(p:Array Nat)(i j:Nat):(kas_rev p i j).size=p.size:=mirror_size _ _ _ _
def Up(r:Nat->Int)(p:Array Nat)(n:Nat):Prop:=∀ i,1<=i->i<n->Kr r p (i-1)<=Kr r p i
theorem Up.le{p:Array Nat}{n:Nat}(h:Up r p n):∀{i j:Nat},i<=j->j<n->Kr r p i<=Kr r p j:=by
 intro i j hij;obtain⟨d,rfl⟩:=Nat.exists_eq_add_of_le hij;clear hij
 induction d with
 | zero=>intro _;exact Int.le_refl _
 | succ d ih =>
   intro hj;have h1:=ih (by lia)
   have h2:=h (i+(d+1)) (by lia) hj
   rw[show i+(d+1)-1=i+d by lia]at h2
   lia
theorem zh{p:Array Nat}:∀(f n:Nat),1<=n->Up r p n->n<=SRun r (kas_asc p f n)/\SRun r (kas_asc p f n)<=n+f/\Up r p (SRun r (kas_asc p f n))/\(SRun r (kas_asc p f n)<n+f->Kr r p (SRun r (kas_asc p f n))<Kr r p (SRun r (kas_asc p f n)-1))
 | 0,n,_,h=>by
   rw[kas_asc.eq_1];exact⟨Nat.le_refl n,Nat.le_refl n,h,fun z=>absurd z (Nat.lt_irrefl n)⟩
 | f+1,n,h1,h=>by
   rw[kas_asc.eq_2];show n<=SRun r (if decide (Kr r p n<Kr r p (n-1))=true then _ else _)/\SRun r (if decide (Kr r p n<Kr r p (n-1))=true then _ else _)<=_/\Up r p (SRun r (if decide (Kr r p n<Kr r p (n-1))=true then _ else _))/\_
   by_cases c:Kr r p n<Kr r p (n-1)
   ·show n<=SRun r (if decide (Kr r p n<Kr r p (n-1))=true then _ else _)/\SRun r (if decide (Kr r p n<Kr r p (n-1))=true then _ else _)<=_/\Up r p (SRun r (if decide (Kr r p n<Kr r p (n-1))=true then _ else _))/\(SRun r (if decide (Kr r p n<Kr r p (n-1))=true then _ else _)<_->Kr r p (SRun r (if decide (Kr r p n<Kr r p (n-1))=true then _ else _))<Kr r p (SRun r (if decide (Kr r p n<Kr r p (n-1))=true then _ else _)-1))
    rw[if_pos (cN c)];exact⟨Nat.le_refl n,Nat.le_add_right _ _,h,fun _=>c⟩
   ·show n<=SRun r (if decide (Kr r p n<Kr r p (n-1))=true then _ else _)/\SRun r (if decide (Kr r p n<Kr r p (n-1))=true then _ else _)<=_/\Up r p (SRun r (if decide (Kr r p n<Kr r p (n-1))=true then _ else _))/\(SRun r (if decide (Kr r p n<Kr r p (n-1))=true then _ else _)<_->Kr r p (SRun r (if decide (Kr r p n<Kr r p (n-1))=true then _ else _))<Kr r p (SRun r (if decide (Kr r p n<Kr r p (n-1))=true then _ else _)-1))
    rw[if_neg (by simpa using c)]
    have ih:=zh (p:=p) f (n+1) (by lia) (fun i hi hn=>by
     by_cases e:i=n
     ·rw[e];lia
     ·exact h i hi (by lia))
    refine⟨by lia,by lia,ih.2.2.1,fun z=>ih.2.2.2 (by lia)⟩
def Down(r:Nat->Int)(p:Array Nat)(n q:Nat):Prop:=(∀ i,1<=i->i<n->Kr r p i<=Kr r p (i-1))/\q+1<=n/\∀ i,n-(q+1)<=i->i<n->Kr r p i=Kr r p (n-1)
theorem Down.rev{p:Array Nat}{n q:Nat}(h:Down r p n q)(hn:n<=p.size)(k:Nat):Kr r (kas_rev p (n-(q+1)) n) k=Kr r p k:=by
 rw[vz hn]
 split
 ·rename_i hk
  rw[h.2.2 _ (by lia) (by have:=h.2.1;lia),h.2.2 k hk.1 hk.2]
 ·rfl
theorem lS:∀(f:Nat) {p:Array Nat} {n q:Nat},n+f<=p.size->Down r p n q->
 (SRun r (kas_desc f p n q)).1.size=p.size/\n<=(SRun r (kas_desc f p n q)).2.1/\(SRun r (kas_desc f p n q)).2.1<=n+f/\Down r (SRun r (kas_desc f p n q)).1 (SRun r (kas_desc f p n q)).2.1 (SRun r (kas_desc f p n q)).2.2
 | 0,p,n,q,_,h=>by
   rw[kas_desc.eq_1];exact⟨rfl,Nat.le_refl n,Nat.le_refl n,h⟩
 | f+1,p,n,q,hs,h=>by
   rw[kas_desc.eq_2];obtain⟨h1,h2,h3⟩:=id h
   by_cases c:Kr r p n<Kr r p (n-1)
   ·have dn:∀ p' : Array Nat,(∀ k,Kr r p' k=Kr r p k)->Down r p' (n+1) 0:=fun p' e=>by
     refine⟨fun i hi hn=>?_,by lia,fun i hi hn=>by rw[show i=n+1-1 by lia]⟩
     rw[e,e]
     by_cases z:i=n
     ·rw[z];lia
     ·exact h1 i hi (by lia)
    have e0:∀(T1 T2:KasT (Array Nat×Nat×Nat)),SRun r (KasT.ask (p.getD n 0) (p.getD (n-1) 0) fun c=>if c=true then T1 else T2)=SRun r T1:=fun T1 T2=>by
     show SRun r (if decide (Kr r p n<Kr r p (n-1))=true then T1 else T2)=_
     rw[if_pos (cN c)]
    rw[e0]
    by_cases hq:q > 0
    ·rw[if_pos hq];have ih:=lS f (p:=kas_rev p (n-(q+1)) n) (n:=n+1) (q:=0) (by rw[kY];lia) (dn _ (h.rev (by lia)))
     rw[kY]at ih;exact⟨ih.1,by lia,by lia,ih.2.2.2⟩
    ·rw[if_neg hq];have ih:=lS f (p:=p) (n:=n+1) (q:=0) (by lia) (dn _ fun _=>rfl)
     exact⟨ih.1,by lia,by lia,ih.2.2.2⟩
   ·have e0:∀(T1 T2:KasT (Array Nat×Nat×Nat)),SRun r (KasT.ask (p.getD n 0) (p.getD (n-1) 0) fun c=>if c=true then T1 else T2)=SRun r T2:=fun T1 T2=>by
     show SRun r (if decide (Kr r p n<Kr r p (n-1))=true then T1 else T2)=_
     rw[if_neg (by simpa using c)]
    rw[e0]
    by_cases d:Kr r p (n-1)<Kr r p n
    ·have e1:∀(T1 T2:KasT (Array Nat×Nat×Nat)),SRun r (KasT.ask (p.getD (n-1) 0) (p.getD n 0) fun c=>if c=true then T1 else T2)=SRun r T1:=fun T1 T2=>by
      show SRun r (if decide (Kr r p (n-1)<Kr r p n)=true then T1 else T2)=_
      rw[if_pos (cN d)]
     rw[e1];exact⟨rfl,Nat.le_refl n,Nat.le_add_right _ _,h⟩
    ·have e1:∀(T1 T2:KasT (Array Nat×Nat×Nat)),SRun r (KasT.ask (p.getD (n-1) 0) (p.getD n 0) fun c=>if c=true then T1 else T2)=SRun r T2:=fun T1 T2=>by
      show SRun r (if decide (Kr r p (n-1)<Kr r p n)=true then T1 else T2)=_
      rw[if_neg (by simpa using d)]
     rw[e1];have ih:=lS f (p:=p) (n:=n+1) (q:=q+1) (by lia) ⟨fun i hi hn=>by
      by_cases z:i=n
      ·rw[z];lia
      ·exact h1 i hi (by lia),by lia,fun i hi hn=>by
      rw[show n+1-1=n by lia]
      by_cases z:i=n
      ·rw[z]
      ·have:=h3 i (by lia) (by lia)
       lia⟩
     exact⟨ih.1,by lia,by lia,ih.2.2.2⟩
def xE(r:Nat->Int)(n:Nat)(x:Nat×Array Nat):Prop:=x.2.size=n/\1<=x.1/\x.1<=n/\Up r x.2 x.1
theorem xF{n nrem:Nat}{p:Array Nat}{q:Nat}(h:Down r p n q)(hn:1<=n)(hle:n<=nrem)(hs:p.size=nrem):xE r nrem (SRun r (kas_tail3 n nrem p)):=by
 have up:Up r (kas_rev p 0 n) n:=fun i hi hi2=>by
  rw[vz (by lia),vz (by lia),if_pos (by lia),if_pos (by lia)]
  have:=h.1 (0+n-1-(i-1)) (by lia) (by lia)
  rw[show 0+n-1-(i-1)-1=0+n-1-i by lia]at this
  exact this
 have a:=zh (nrem-n) n hn up;unfold kas_tail3;rw[iz];exact⟨by show(kas_rev p 0 n).size=nrem;rw[kY,hs],by show 1<=SRun r _;lia,by show SRun r _<=nrem;lia,a.2.2.1⟩
theorem Down.congr{p p' : Array Nat}{n q:Nat}(h:Down r p n q)(e:∀ k,Kr r p' k=Kr r p k):Down r p' n q:=⟨fun i h1 h2=>by rw[e,e];exact h.1 i h1 h2,h.2.1,fun i h1 h2=>by rw[e,e];exact h.2.2 i h1 h2⟩
theorem xG{n nrem:Nat}{p:Array Nat}(hn:1<=n)(hle:n+1<=nrem)(hs:p.size=nrem)(heq:∀ i,i<n->Kr r p i=Kr r p (n-1))(hlt:Kr r p n<Kr r p (n-1)):xE r nrem (SRun r (kas_descPart n nrem p)):=by
 have d0:Down r p (n+1) 0:=⟨fun i h1 h2=>by
  by_cases z:i=n
  ·rw[z];lia
  ·rw[heq i (by lia),heq (i-1) (by lia)]
   exact Int.le_refl _,by lia,fun i h1 h2=>by rw[show i=n+1-1 by lia]⟩
 have d:=lS (nrem-(n+1)) (p:=p) (n:=n+1) (q:=0) (by lia) d0
 unfold kas_descPart;rw[iz];generalize SRun r (kas_desc (nrem-(n+1)) p (n+1) 0)=x at d;obtain⟨d1,d2,d3,d4⟩:=d
 by_cases hq:x.2.2 > 0
 ·rw[if_pos hq];exact xF (d4.congr (d4.rev (by lia))) (by lia) (by lia) (by rw[kY,d1,hs])
 ·rw[if_neg hq];exact xF d4 (by lia) (by lia) (by rw[d1,hs])
theorem BY{nrem:Nat}{p:Array Nat}(h1:1<=nrem)(hs:p.size=nrem):xE r nrem (SRun r (kas_count nrem p)):=by
 have a:=zh (r:=r) (p:=p) (nrem-1) 1 (Nat.le_refl 1) (fun i hi hn=>by lia)
 unfold kas_count;rw[iz];generalize SRun r (kas_asc p (nrem-1) 1)=n at a;obtain⟨a1,a2,a3,a4⟩:=a
 by_cases e:(n==nrem)=true
 ·rw[if_pos e];exact⟨hs,a1,by show n<=nrem;lia,a3⟩
 ·rw[if_neg e];have e:n≠nrem:=by simpa using e
  have hlt:=a4 (by lia)
  by_cases h2:n > 1
  ·rw[if_pos h2]
   by_cases c:Kr r p 0<Kr r p (n-1)
   ·show xE r nrem (SRun r (if decide (Kr r p 0<Kr r p (n-1))=true then _ else _))
    rw[if_pos (cN c)];exact⟨hs,a1,by show n<=nrem;lia,a3⟩
   ·show xE r nrem (SRun r (if decide (Kr r p 0<Kr r p (n-1))=true then _ else _))
    rw[if_neg (by simpa using c)]
    have all:∀ i,i<n->Kr r p i=Kr r p (n-1):=fun i hi=>by
     have l1:=a3.le (show 0<=i by lia) hi
     have l2:=a3.le (show i<=n-1 by lia) (by lia)
     lia
    have er:∀ k,Kr r (kas_rev p 0 n) k=Kr r p k:=fun k=>by
     rw[vz (by lia)]
     split
     ·rw[all _ (by lia),all k (by lia)]
     ·rfl
    exact xG a1 (by lia) (by rw[kY,hs]) (fun i hi=>by rw[er,er];exact all i hi) (by rw[er,er];exact hlt)
  ·rw[if_neg h2];have e1:n=1:=by lia
   subst e1;exact xG a1 (by lia) hs (fun i hi=>by rw[show i=1-1 by lia]) hlt
theorem rS{p:Array Nat}{k:Nat}(up:Up r p k):∀(f l u:Nat),u-l<=f->l<=u->u<=k->(∀ i,i<l->Kr r p i<=Kr r p k)->(∀ i,u<=i->i<k->Kr r p k<Kr r p i)->
 SRun r (kas_place p k f l u)<=k/\(∀ i,i<SRun r (kas_place p k f l u)->Kr r p i<=Kr r p k)/\∀ i,SRun r (kas_place p k f l u)<=i->i<k->Kr r p k<Kr r p i
 | 0,l,u,hf,hlu,huk,h1,h2=>by
   rw[kas_place.eq_1];have e:l=u:=by lia
   subst e;exact⟨huk,h1,h2⟩
 | f+1,l,u,hf,hlu,huk,h1,h2=>by
   rw[kas_place.eq_2]
   by_cases hx:l ≥ u
   ·rw[if_pos hx];have e:l=u:=by lia
    subst e;exact⟨huk,h1,h2⟩
   ·rw[if_neg hx]
    by_cases c:Kr r p k<Kr r p ((l+u)/2)
    ·have e0:∀(T1 T2:KasT Nat),SRun r (KasT.ask (p.getD k 0) (p.getD ((l+u)/2) 0) fun c=>if c=true then T1 else T2)=SRun r T1:=fun T1 T2=>by
      show SRun r (if decide (Kr r p k<Kr r p ((l+u)/2))=true then T1 else T2)=_
      rw[if_pos (cN c)]
     rw[e0];exact rS up f l ((l+u)/2) (by lia) (by lia) (by lia) h1 fun i hi hk=>by
      have:=up.le hi hk
      lia
    ·have e0:∀(T1 T2:KasT Nat),SRun r (KasT.ask (p.getD k 0) (p.getD ((l+u)/2) 0) fun c=>if c=true then T1 else T2)=SRun r T2:=fun T1 T2=>by
      show SRun r (if decide (Kr r p k<Kr r p ((l+u)/2))=true then T1 else T2)=_
      rw[if_neg (by simpa using c)]
     rw[e0];exact rS up f ((l+u)/2+1) u (by lia) (by lia) huk (fun i hi=>by
      have:=up.le (show i<=(l+u)/2 by lia) (by lia)
      lia) h2
theorem EF:∀(f:Nat) {p:Array Nat} {k:Nat},k+f<=p.size->Up r p k->Up r (SRun r (kas_bin f p k)) (k+f)
 | 0,p,k,_,h=>by
   rw[kas_bin.eq_1];exact h
 | f+1,p,k,hs,h=>by
   rw[kas_bin.eq_2,iz];have pl:=rS h k 0 k (by lia) (by lia) (Nat.le_refl k) (fun i hi=>by lia) (fun i h1 h2=>by lia)
   generalize SRun r (kas_place p k k 0 k)=l at pl;obtain⟨p1,p2,p3⟩:=pl;have up:Up r (bubble p k (k-l)) (k+1):=fun i hi hk=>by
    rw[ED (by lia) (by lia),ED (by lia) (by lia),show k-(k-l)=l by lia]
    by_cases c1:i=l
    ·rw[if_neg (by lia),if_neg (by lia),if_pos c1]
     exact p2 (i-1) (by lia)
    ·rw[if_neg c1]
     by_cases c2:l<i/\i<=k
     ·rw[if_pos c2]
      by_cases c3:i-1=l
      ·rw[if_pos c3];exact Int.le_of_lt (p3 (i-1) (by lia) (by lia))
      ·rw[if_neg c3,if_pos (by lia)]
       exact h (i-1) (by lia) (by lia)
     ·rw[if_neg c2,if_neg (by lia),if_neg (by lia)]
      exact h i hi (by lia)
   have:=EF f (p:=bubble p k (k-l)) (k:=k+1) (by rw[bubble_size];lia) up
   rw[show k+(f+1)=k+1+f by lia]
   exact this
theorem A1{n:Nat}(hn:1<=n):Up r (SRun r (kas_sort n)) n:=by
 unfold kas_sort;rw[iz];have c:=BY (r:=r) (p:=List.toArray (List.range n)) hn (by simp)
 generalize SRun r (kas_count n (List.toArray (List.range n)))=x at c;obtain⟨c1,c2,c3,c4⟩:=c
 by_cases hx:x.1<n
 ·rw[if_pos hx];have:=EF (n-max x.1 1) (p:=x.2) (k:=max x.1 1) (by lia) (by rw[show max x.1 1=x.1 by lia];exact c4)
  rw[show max x.1 1+(n-max x.1 1)=n by lia]at this
  exact this
 ·rw[if_neg hx];have e:x.1=n:=by lia
  rw[e]at c4;exact c4
end
theorem vA:bootBuiltins "sorted"=some (.builtin "sorted"):=by kernel_rfl
def kx(z:Int×Int):Int:=z.1*1073741824+z.2
def GQ(z:Int×Int):Prop:=0<=z.2/\z.2<1073741824
section
variable {X:Cx}{pq:aX}{σ:St}{H H2:Hp}{s:Shared}
theorem Inv.GR{a:Addr}{xs:List V}{ob:Obj}(I:Inv X pq σ H s)(e:H a=some (.lst xs))(ho:s.heap.get? a=some ob):Inv X pq σ (upd H a (.pU ob (.lst xs))) s:=by
 have ne:∀ b,H b=none->b≠a:=fun b h z=>by rw[z,e]at h;cases h
 refine⟨I.ok,I.os,I.bare,⟨I.base.keep,I.base.slot,fun b o q n hx=>?_,I.base.there,fun b xs q=>?_,fun b o u q=>?_,fun b ps q=>?_⟩,I.loc,I.cell,?_,fun x c q=>?_,fun p hp=>?_,fun b u q=>?_,I.len⟩
 ·have z:=I.base.free b o q n hx;rw[ay (ne b z)];exact z
 ·have z:=I.base.tups b xs q;rw[ay (c8 z e (by intro z;cases z))]
  exact z
 ·have z:=I.base.l9 b o u q;rw[ay (c8 z e (by intro z;cases z))]
  exact z
 ·obtain⟨more,z⟩:=I.base.mL b ps q;exact⟨more,by rw[ay (c8 z e (by intro z;cases z))];exact z⟩
 ·rw[ay (ne _ I.free)];exact I.free
 ·rw[ay (ne _ (I.gO x c q))];exact I.gO x c q
 ·obtain⟨a1,a2,a3⟩:=I.pin p hp;exact⟨a1,by rw[ay (ne _ a2)];exact a2,a3⟩
 ·by_cases hb:b=a
  ·subst hb;rw[ae]at q;cases q;exact⟨ho,(I.hok b _ e).stay (fun _ _ _ q=>q) (fun c q=>by rw[ay (c8 q e (by intro z;cases z))];exact q) fun c xs q=>by rw[ay (c8 q e (by intro z;cases z))];exact q⟩
  ·rw[ay hb]at q;exact(I.hok b u q).stay (fun _ _ _ q=>q) (fun c q=>by rw[ay (c8 q e (by intro z;cases z))];exact q) fun c xs q=>by rw[ay (c8 q e (by intro z;cases z))];exact q
theorem Inv.LK{xC:aX}{σ0:St}{s0:Shared}{a:Addr}{xs:List V}{ob:Obj}(I0:Inv X xC σ0 H s0)(e0:H a=some (.lst xs))(I:Inv X pq σ H2 s)(e:H2 a=some (.pU ob (.lst xs))):
 Inv X pq σ (upd H2 a (.lst xs)) s:=by
 have ne:∀ b,H2 b=none->b≠a:=fun b h z=>by rw[z,e]at h;cases h
 obtain⟨ho,hd⟩:=(show bR X.prog X.w H2 s.heap a (.pU ob (.lst xs)) from I.hok a _ e)
 refine⟨I.ok,I.os,I.bare,⟨I.base.keep,I.base.slot,fun b o q n hx=>?_,I.base.there,fun b xs q=>?_,fun b o u q=>?_,fun b ps q=>?_⟩,I.loc,I.cell,?_,fun x c q=>?_,fun p hp=>?_,fun b u q=>?_,I.len⟩
 ·have z:=I.base.free b o q n hx;rw[ay (ne b z)];exact z
 ·have z:=I.base.tups b xs q;rw[ay (c8 z e (by intro z;cases z))]
  exact z
 ·have z:=I.base.l9 b o u q;rw[ay (fun y=>by
   have z0:=I0.base.l9 b o u q;rw[y,e0]at z0;cases z0)]
  exact z
 ·obtain⟨more,z⟩:=I.base.mL b ps q;exact⟨more,by rw[ay (c8 z e (by intro z;cases z))];exact z⟩
 ·rw[ay (ne _ I.free)];exact I.free
 ·rw[ay (ne _ (I.gO x c q))];exact I.gO x c q
 ·obtain⟨a1,a2,a3⟩:=I.pin p hp;exact⟨a1,by rw[ay (ne _ a2)];exact a2,a3⟩
 ·by_cases hb:b=a
  ·subst hb;rw[ae]at q;cases q;exact hd.stay (fun _ _ _ q=>q) (fun c q=>by rw[ay (c8 q e (by intro z;cases z))];exact q) fun c xs q=>by rw[ay (c8 q e (by intro z;cases z))];exact q
  ·rw[ay hb]at q;exact(I.hok b u q).stay (fun _ _ _ q=>q) (fun c q=>by rw[ay (c8 q e (by intro z;cases z))];exact q) fun c xs q=>by rw[ay (c8 q e (by intro z;cases z))];exact q
end
def uF(h:Heap)(v:Value)(z:Int×Int):Prop:=∃(a:Addr) (o:Obj) (t u:Tok) (k:Nat),v = .ref a/\h.get? a=some o/\o.cls = .type "tuple"/\o.data = .seq #[.int z.1 t,.int z.2 u] k
theorem uF.pair{h:Heap}{v:Value}{z:Int×Int}(q:uF h v z):HF h v:=let⟨a,o,t,u,k,q⟩:=q;⟨a,o,z.1,z.2,t,u,k,q⟩
theorem uG{prog:Program}{w:World}{A:Around}{s:Shared}{vs:List Value}{n:Nat}{zs:Nat->Int×Int}(hz:∀ i,i<n->GQ (zs i))(hv:∀ i,i<n->uF s.heap (vs.getD i Value.none) (zs i)):
 ∀ i j C,i<n->j<n->C (decide (kx (zs i)<kx (zs j))) s->kas_ask prog w A (tuples' true) vs i j C s:=by
 intro i j C hi hj hC;unfold kas_ask;obtain⟨a,o,t,u,k,e,ho,_,hd⟩:=hv i hi;obtain⟨a',o',t',u',k',e',ho',_,hd'⟩:=hv j hj;have oi:=hz i hi;have oj:=hz j hj;generalize zs i=z at hd hC oi;generalize zs j=z' at hd' hC oj;obtain⟨x,y⟩:=z;obtain⟨x',y'⟩:=z';unfold kx at hC;unfold GQ at oi oj;dsimp only at hd hd' hC oi oj;rw[e,e'];refine kat_lt ho hd ho' hd' ?_;show KatLex prog w A true _ C [(.int x t,.int x' t'),(.int y u,.int y' u')] 0 s;rw[KatLex.eq_2];refine wpAny_eqBool_int ?_
 by_cases ex:x=x'
 ·rw[show(x==x')=true by simpa using ex]
  rw[if_pos rfl,KatLex.eq_2];refine wpAny_eqBool_int ?_
  by_cases ey:y=y'
  ·rw[show(y==y')=true by simpa using ey]
   rw[if_pos rfl,KatLex.eq_1];rw[fk (by lia)]at hC
   exact hC
  ·rw[show(y==y')=false by simpa using ey]
   rw[if_neg Bool.false_ne_true];refine kat_one _ _ (lt_int ?_);have e2:decide (y<y')=decide (x*1073741824+y<x'*1073741824+y'):=decide_eq_decide.mpr (by lia)
   rw[<-e2]at hC;exact hC
 ·rw[show(x==x')=false by simpa using ex]
  rw[if_neg Bool.false_ne_true];refine oneLt_int ?_;have e2:decide (x<x')=decide (x*1073741824+y<x'*1073741824+y'):=decide_eq_decide.mpr (by lia)
  rw[<-e2]at hC;exact hC
def Jq(P:Addr)(q:Str)(lp:Pos)(ta:TA)(te:TE)(js:List Nat):TE:=fun σ H Q=>ta σ H fun vs H1=>∃(a:Addr) (ns:List Int) (kf:Int->Int×Int),vs=[.ref a]/\H1 a=some (.lst (ns.map V.int))/\ns.length<64/\(∀ n∈ns,GQ (kf n))/\H1 P=some (.kH (gb q lp))/\
 (∀ H3,(∀ b u,H1 b=some u->(∀ y,u≠.own y)->(∀ qs,u≠.kH qs)->H3 b=some u)->∀ n∈ns,te (some (.int n)::fK σ js) H3 fun v H4=>au H3 H4/\∃ d,v = .ref d/\H4 d=some (.tup [.int (kf n).1,.int (kf n).2]))/\
 ∀(l:Addr) (ns' : List Int) H4,H1 l=none->au H1 H4->H4 l=some (.lst (ns'.map V.int))->ns'.Perm ns->ns'.Pairwise (fun x y=>kx (kf x)<=kx (kf y))->Q (.ref l) H4
section
variable {X:Cx}{pq:aX}{σ:St}{H2:Hp}
theorem BZ{A:Around}{E:gU}{P:PySem.Fin->Shared->Prop}{s:Shared}{H3:Hp}{D kS:Addr}{e e1:Nat}{its:List Value}{ns:List Int}{ds:List Addr}{kf:Int->Int×Int}
 (I:Inv X ((kS,seqObj "list" (ds.map Value.ref).toArray e)::pq) σ H3 s) (oK:Jp X kS) (pK:∀ p∈pq,p.1≠kS) (hD:H3 D=some (.pU (seqObj "list" #[] e1) (.lst []))) (rv:Vals (ns.map V.int) its) (hn:ns.length<64) (hdl:ds.length=ns.length)
 (hk:∀(j:Nat) d n,ds[j]?=some d->ns[j]?=some n->H3 d=some (.tup [.int (kf n).1,.int (kf n).2])) (hok:∀ n∈ns,GQ (kf n))
 {xC:aX} {σ0:St} {s0:Shared} {H0:Hp} (I0:Inv X xC σ0 H0 s0) (e0:H0 D=some (.lst []))
 (fin:∀(s' : Shared) (ns' : List Int),ns'.Perm ns->ns'.Pairwise (fun x y=>kx (kf x)<=kx (kf y))->Inv X pq σ (upd (upd H3 D (.lst [])) D (.lst (ns'.map V.int))) s'->P (.done (.ret .none)) s') :
 wpAny (model X.prog X.w) A (ksk_end D false its.toArray e1 (.ref kS) ((ds.map Value.ref).toArray)) P E s:=by
 have hl:its.length=ns.length:=by have:=rv.length;rw[List.length_map]at this;lia
 obtain⟨Sa,_⟩:=(show bR X.prog X.w H3 s.heap D (.pU (seqObj "list" #[] e1) (.lst [])) from I.hok D _ hD)
 have zj:=I.pin (kS,seqObj "list" (ds.map Value.ref).toArray e) (oz _ (.head _));have Sb:D≠kS:=fun z=>by
  have:=zj.2.1;rw[<-z,hD]at this;cases this
 have tail:∀(st:SortSt) (ns' : List Int) (out:List Value),(arrOf st).map (·.2)=out.toArray->out.length<64->failedOf st=none->ns'.Perm ns->ns'.Pairwise (fun x y=>kx (kf x)<=kx (kf y))->Vals (ns'.map V.int) out->wpAny (model X.prog X.w) A (ksk_tail D false e1 (.ref kS) st) P E s:=by
  intro st ns' out hout hz hf hp hs hv;have s1:=Heap.SameBut.update s.heap kS (Obj.mapSeq fun _=>(#[]:Array Value))
  have pY:(s.heap.update kS (Obj.mapSeq fun _=>(#[]:Array Value))).get? D=some (seqObj "list" #[] e1):=(s1.2 D Sb).trans Sa
  have s2:=Heap.SameBut.update (s.heap.update kS (Obj.mapSeq fun _=>(#[]:Array Value))) D (Obj.mapSeq fun _=>out.toArray)
  obtain⟨c2,hc2⟩:∃ c2,((s.heap.update kS (Obj.mapSeq fun _=>(#[]:Array Value))).update D (Obj.mapSeq fun _=>out.toArray)).get? D=some (seqObj "list" out.toArray c2):=⟨_,get?_update_seq pY fun _=>out.toArray⟩
  unfold ksk_tail
  try dsimp only
  rw[hout];refine dY (listUpdate_at zj.1 rfl ?_ (by rw[List.size_toArray,List.length_map,sizeLine_eq];lia) (Nat.zero_le _))
  refine dY (wpAny_letGo ?_);refine dY (seqEpoch_at pY rfl ?_);refine dY (listUpdate_at pY rfl ?_ (Nat.zero_le _) (by show out.toArray.size<=_;rw[List.size_toArray,sizeLine_eq];lia))
  rw[hf];simp only[bne_self_eq_false,Bool.false_eq_true,if_false];have J1:=I.HJ (t':=s.toks) (h':=s.heap.update kS (Obj.mapSeq fun _=>(#[]:Array Value))) (pb:=pq) oK (.head _) (fun c u ne e=>(s1.2 c ne).trans e) (fun p hp=>.inr ⟨.tail _ hp,pK p hp⟩)
  have J2:=Inv.LK I0 e0 J1 hD;have J3:=J2.write (x:=D) (e:=D) (o:=.lst (ns'.map V.int)) (t':=s.toks) (h':=(s.heap.update kS (Obj.mapSeq fun _=>(#[]:Array Value))).update D (Obj.mapSeq fun _=>out.toArray)) (by rw[ae];trivial) (.inl rfl) (fun b u nb eb=>(s2.2 b nb).trans eb) ⟨_,hc2⟩
   ⟨by rw[List.length_map,hp.length_eq,sizeLine_eq];lia,out,c2,hv,hc2⟩
  exact wpAny_pure (fin _ ns' hp hs J3)
 by_cases h2:2<=ns.length
 ·have kv:∀ i,i<its.length->uF s.heap ((ds.map Value.ref).getD i Value.none) (kf (ns.getD i 0)):=fun i hi=>by
   have e1:ds[i]?=some (ds[i]'(by lia)):=List.getElem?_eq_getElem _
   have e2:ns[i]?=some (ns[i]'(by lia)):=List.getElem?_eq_getElem _
   have hd:=hk i _ _ e1 e2;obtain⟨ts,rt,⟨o,eo,hc,n,hdt⟩,_⟩:=I.tuple (aY.of hd);have g1:(ds.map Value.ref).getD i Value.none = .ref (ds[i]'(by lia)):=by rw[List.getD_eq_getElem?_getD,List.getElem?_map,e1];rfl
   have g2:ns.getD i 0=ns[i]'(by lia):=by rw[List.getD_eq_getElem?_getD,e2];rfl
   rw[g1,g2]
   match ts,rt with
   | [_,_],.cons ⟨t,rfl⟩ (.cons ⟨u,rfl⟩ .nil)=>exact⟨_,o,t,u,n,rfl,eo,hc,hdt⟩
  have kz:∀ i,i<its.length->GQ (kf (ns.getD i 0)):=fun i hi=>by
   have e2:ns[i]?=some (ns[i]'(by lia)):=List.getElem?_eq_getElem _
   rw[List.getD_eq_getElem?_getD,e2];exact hok _ (List.getElem_mem _)
  have hlk:(ds.map Value.ref).length=its.length:=by rw[List.length_map];lia
  have hn2 : ¬ its.toArray.size<2:=by rw[List.size_toArray];lia
  unfold ksk_end
  try dsimp only
  rw[if_neg Bool.false_ne_true,if_neg hn2,if_neg hn2,if_neg Bool.false_ne_true];refine dY (uy (by rw[List.length_map];lia) (fun v hv=>?_) ?_)
  ·obtain⟨i,hi,rfl⟩:=List.mem_iff_getElem.mp hv;have:=(kv i (by lia)).pair
   rw[List.getD_eq_getElem?_getD,List.getElem?_eq_getElem hi]at this;exact this
  refine dY (wpAny_mono (kat_run (Q:=fun st' s'=>s' = s/\∃ p:Array Nat,cX its.length p/\Up (fun i=>kx (kf (ns.getD i 0))) p its.length/\(arrOf st').map (·.2)=(p.toList.map fun i=>its.getD i Value.none).toArray/\failedOf st' = none) (G:=fun p s'=>s' = s/\cX its.length p/\Up (fun i=>kx (kf (ns.getD i 0))) p its.length)
   hlk (by lia) (by lia) (fun p st' s' a1 a2 a3 a4=>⟨a4.1,p,a4.2.1,a4.2.2,kat_snds hlk a2,a3⟩) ?_) ?_ fun _ _ x=>x)
  ·exact vy (r:=fun i=>kx (kf (ns.getD i 0))) (n:=its.length) (uG kz kv) (AV (by lia)) fun hg=>⟨rfl,hg,A1 (by lia)⟩
  ·rintro⟨⟨⟩,st'⟩ s' ⟨rfl,p,hg,hu,har,hf⟩
   try dsimp only
   have hpl:p.toList.length=its.length:=by have:=hg.length_eq;rw[List.length_range]at this;exact this
   refine tail st' (p.toList.map fun i=>ns.getD i 0) _ har (by rw[List.length_map];lia) hf ?_ ?_ ?_
   ·have h1:=List.Perm.map (fun i=>ns.getD i 0) hg
    have h3:(List.range its.length).map (fun i=>ns.getD i 0)=ns:=by
     rw[hl];refine List.ext_getElem (by simp) fun i h1 h2=>?_
     simp[List.getD_eq_getElem?_getD,List.getElem?_eq_getElem h2]
    rw[h3]at h1;exact h1
   ·rw[List.pairwise_map,List.pairwise_iff_getElem];intro i j hi hj hij;have:=hu.le (Nat.le_of_lt hij) (by lia)
    have ga:∀ i (hi:i<p.toList.length),p.getD i 0=p.toList[i]:=fun i hi=>by
     rw[Array.getD_eq_getD_getElem?,<-Array.getElem?_toList,List.getElem?_eq_getElem hi];rfl
    unfold Kr at this;rw[ga i hi,ga j hj]at this;exact this
   ·have:∀ l:List Nat,(∀ i∈l,i<ns.length)->Vals ((l.map fun i=>ns.getD i 0).map V.int) (l.map fun i=>its.getD i Value.none):=fun l=>by
     induction l with
     | nil=>exact fun _=>.nil
     | cons i l ih =>
       intro h;refine .cons ?_ (ih fun j hj=>h j (lJ _ hj))
       have hi:=h i List.mem_cons_self;have h1:(ns.map V.int)[i]?=some (.int (ns.getD i 0)):=by
        rw[List.getElem?_map,List.getD_eq_getElem?_getD,List.getElem?_eq_getElem hi];rfl
       obtain⟨u,hu,ru⟩:=rv.get h1;have gu:its.getD i Value.none=u:=by rw[List.getD_eq_getElem?_getD,hu];rfl
       show RelV (V.int (ns.getD i 0)) (its.getD i Value.none);rw[gu];exact ru
    refine this _ fun i hi=>?_
    have:=List.mem_range.mp (hg.mem_iff.mp hi)
    lia
 ·have hn2:its.toArray.size<2:=by rw[List.size_toArray];lia
  unfold ksk_end
  try dsimp only
  rw[if_neg Bool.false_ne_true,if_pos hn2,if_pos hn2,if_neg Bool.false_ne_true];refine dY (wpAny_pure ?_);refine dY (m:=pure ((),SortSt.mk' general' (((ds.map Value.ref).toArray).zip its.toArray) #[] 7 none)) (wpAny_pure ?_);refine tail _ ns its ?_ (by lia) rfl (List.Perm.refl _) ?_ rv
  ·show Array.map (fun x:Keyed=>x.snd) (((ds.map Value.ref).toArray).zip its.toArray)=its.toArray
   apply Array.toList_inj.mp;simp;exact List.map_snd_zip (by rw[List.length_map];lia)
  ·match ns,h2 with
   | [],_=>exact .nil
   | [x],_=>exact List.pairwise_singleton _ _
   | _::_::_,h2=>exact absurd (by simp:2<=_) h2
end
section
variable {X:Cx}{params:Arguments}{body e:Expr}{scope:Scope}{lp p pos kp:Pos}{fq:List Str}{js:List Nat}{x:Str}{ta:TA}{te:TE}{c0 P:Addr}{k:Nat}
theorem EG(hr:fZ (k+3) X.A)(T:eV X scope [x] fq js)(hx:scope.names.lookup x=some .local)(hg:Gl X "sorted")(hm:X.mg "sorted"=none)(hcode:X.env.code = .ref c0)(hK:PySem.W.codeHdIn X.K c0 P=true)(ha:PA X [e] ta)
 (he:∀ f c s H,fZ k (AZ X ([x]++fq) scope f c X.A.in1.in1 s H).A->PE (AZ X ([x]++fq) scope f c X.A.in1.in1 s H) body te)
 (hb:∀ c ctv u,bindArgs (Ex X params body scope c ctv) ⟨[u],[]⟩=pure [(x,u)]:=by intro _ _ _;rfl) (hco:scope.isCoroutine=false:=by rfl) (hgen:scope.isGenerator=false:=by rfl)
 (hdef:defaultsOf params X.env=([],[]):=by rfl)
 (hs:backTo pos (starEach [e] X.env)=(false,eval e X.env)::backTo pos (starEach [] X.env):=by rfl) (hs2:(backTo pos (starEach [e] X.env)).any (·.1)=false:=by rfl) :
 PE X (.Call (.Name "sorted" p) [e] [⟨some (Str.ofString "key"),.Lambda params body scope lp,kp⟩] pos) (Jq P (X.env.qual ++ "<lambda>") lp ta te js):=by
 intro pq s σ H Q I h;refine wpAny_Call_Name_kw (ji I hg hm vA (callWith_kw (eR (ha pos pq s σ H _ I h) fun us s1 hq=>?_) hs hs2 rfl rfl))
 obtain⟨vs,H1,I1,r1,a,ns,kf,rfl,hda,h64,hok,hP,hturn,Ow⟩:=hq;obtain⟨u,rfl,rx⟩:=vals1 r1;cases rx;refine kws_cons (Ey I1 T hcode hK hP hdef fun f c oc ctv s2 hc BV hoc J=>kws_nil ?_)
 show wpAny _ X.A (call (.builtin "sorted") [.ref a] [(Str.ofString "key",.ref f)]) _ _ s2;have hla:=AY (oc:=oc) hP hc hda (by intro y z;cases z) (by intro y z;cases z)
 have MW:g9 H1 P c oc (X.env.qual ++ "<lambda>") lp P=some (.kH (gb (X.env.qual ++ "<lambda>") lp++nJ lp c)):=ae;have LL:g9 H1 P c oc (X.env.qual ++ "<lambda>") lp c=some (.pU oc (.own P)):=by unfold g9;rw[ay BV,ae]
 have HK:∀ b,g9 H1 P c oc (X.env.qual ++ "<lambda>") lp b=none->H1 b=none:=fun b hb=>by
  have bP:b≠P:=fun z=>by rw[z,MW]at hb;cases hb
  have bc:b≠c:=fun z=>by rw[z,LL]at hb;cases hb
  unfold g9 at hb
  rwa [ay bP,ay bc]at hb
 have PF:∀ b u,H1 b=some u->(∀ y,u≠.own y)->(∀ qs,u≠.kH qs)->g9 H1 P c oc (X.env.qual ++ "<lambda>") lp b=some u:=fun b u eb n1 n2=>AY hP hc eb n1 n2
 generalize Sd:g9 H1 P c oc (X.env.qual ++ "<lambda>") lp=HL at J hla MW LL HK PF;obtain⟨its,rv,⟨o,n,ho,hcl,hdt,hd⟩,hz⟩:=J.list (aQ.of hla);have hl:=rv.length;rw[List.length_map]at hl;have hsl:its.length<=sizeLine:=dl (Nat.ble_eq.mpr (by lia))
 refine call_function_entry_kw kind_sorted plain_sorted entry_sorted (ksk_s1 _ _) ?_;unfold Builtin.«sorted»;refine dY (m:=checkCount "sorted" 1 1 _) (wpAny_pure ?_);refine dY (wpAny_collect_seq a (T:="list") (.inl rfl) ho hcl hd (fun h1 hk=>?_) (by rw[List.size_toArray];exact hsl))
 have J1:=J.kept (t':=s2.toks) hk;have hfr:HL h1.objs.size=none:=J1.hok.fresh (Nat.le_refl _);refine dY (wpAny_newList ?_ (by simpa using hsl))
 have e0:its.toArray.toList=its:=by simp
 rw[e0];have yw:(h1.push (seqObj "list" its.toArray 0)).get? h1.objs.size=some (seqObj "list" its.toArray 0):=Heap.get?_push_size _ rfl;have J2:Inv X ((f,jm X params body scope c ctv)::pq) σ (upd HL h1.objs.size (.lst (ns.map V.int))) { s2 with heap:=h1.push (seqObj "list" its.toArray 0)}:=by
  refine J1.laid (t':=s2.toks) (fun b o hb=>?_) (Nat.le_refl _) ⟨?_,its,0,rv,yw⟩
  ·rw[Heap.get?_push_ne _ _ _ (Nat.ne_of_lt (Heap.lt_size hb))];exact hb
  ·rw[List.length_map,hl];exact hsl
 generalize Vp:h1.objs.size=D at hfr yw J2;refine dY (wpAny_holding (wpAny_call_entry_kw slot_list_sort ⟨_,yw,rfl⟩ entry_list_sort ?body (ksk_l1 _ _)));show wpAny (model X.prog X.w) X.A.in1.in1 (Builtin.«list.sort» ⟨[.ref D],[(Str.ofString "key",.ref f)]⟩) _ _ _;rw[ksk_t1];generalize h1.push (seqObj "list" its.toArray 0)=h2 at yw J2;have s1':=Heap.SameBut.update h2 D (Obj.mapSeq fun _=>(#[]:Array Value))
 obtain⟨e1,FH⟩:∃ e1,(h2.update D (Obj.mapSeq fun _=>(#[]:Array Value))).get? D=some (seqObj "list" #[] e1):=⟨_,get?_update_seq yw fun _=>#[]⟩
 unfold ksk_tree;refine dY (listItems_at yw rfl ?_);refine dY (listUpdate_at yw rfl ?_ (by rw[List.size_toArray];exact hsl) (Nat.zero_le _))
 refine dY (seqEpoch_at FH rfl ?_);refine dY (wpAny_newTuple ?_ (by show its.toArray.toList.length<=_;rw[e0];exact hsl))
 refine dY (wpAny_newList ?_ (Nat.zero_le _));refine wpAny_holding ?_;have J3:=J2.write (x:=D) (e:=D) (o:=.lst []) (t':=s2.toks) (h':=h2.update D (Obj.mapSeq fun _=>(#[]:Array Value))) (by rw[ae];trivial) (.inl rfl) (fun b u nb eb=>(s1'.2 b nb).trans eb) ⟨_,FH⟩ ⟨Nat.zero_le _,[],e1,.nil,FH⟩
 have J4:=J3.GR (a:=D) ae FH;generalize JW:upd (upd (upd HL D (.lst (ns.map V.int))) D (.lst [])) D (.pU (seqObj "list" #[] e1) (.lst []))=H2 at J4;have at2:∀ b u,HL b=some u->H2 b=some u:=fun b u eb=>by
  have nb:b≠D:=fun z=>by rw[z,hfr]at eb;cases eb
  rw[<-JW,ay nb,ay nb,ay nb];exact eb
 have jN:H2 D=some (.pU (seqObj "list" #[] e1) (.lst [])):=by rw[<-JW,ae]
 generalize h2.update D (Obj.mapSeq fun _=>(#[]:Array Value))=h3 at J3 J4
 rw[e0];have hkk:∀ b u,h3.get? b=some u->((h3.push (seqObj "tuple" its.toArray 0)).push (seqObj "list" #[] 0)).get? b=some u:=fun b u eb=>Heap.get?_push_of_some _ (Heap.get?_push_of_some _ eb)
 have hS:(h3.push (seqObj "tuple" its.toArray 0)).objs.size=h3.objs.size+1:=size_push' ..;have oK:=J4.Ot (b:=(h3.push (seqObj "tuple" its.toArray 0)).objs.size) (by show h3.objs.size<=_;rw[hS];exact Nat.le_succ _)
 have gK:((h3.push (seqObj "tuple" its.toArray 0)).push (seqObj "list" #[] 0)).get? (h3.push (seqObj "tuple" its.toArray 0)).objs.size=some (seqObj "list" #[] 0):=Heap.get?_push_size _ rfl;have Se:H2 (h3.push (seqObj "tuple" its.toArray 0)).objs.size=none:=J4.hok.fresh (by show h3.objs.size<=_;rw[hS];exact Nat.le_succ _)
 have Sf:∀ q∈(f,jm X params body scope c ctv)::pq,q.1<h3.objs.size:=fun q hq=>Heap.lt_size (J4.pin q (oz _ hq)).1
 have J5:Inv X (((h3.push (seqObj "tuple" its.toArray 0)).objs.size,seqObj "list" #[] 0)::(f,jm X params body scope c ctv)::pq) σ H2 { s2 with heap:=(h3.push (seqObj "tuple" its.toArray 0)).push (seqObj "list" #[] 0)}:=by
  have K:=J4.kept (t':=s2.toks) hkk;refine K.g7 fun q hq=>?_
  rcases List.mem_cons.mp hq with rfl|hq
  ·exact⟨gK,Se,oK.2.1,oK.2.2.1,fun v z=>by cases z⟩
  ·exact K.pin q (oz _ hq)
 have pK:∀ q∈(f,jm X params body scope c ctv)::pq,q.1≠(h3.push (seqObj "tuple" its.toArray 0)).objs.size:=fun q hq=>by
  have:=Sf q hq;rw[hS];exact Nat.ne_of_lt (Nat.lt_succ_of_lt this)
 have PJ:its.toArray.size=its.length:=List.size_toArray ..;show wpAny (model X.prog X.w) X.A.in1.in1 (ksk_rest D (.ref f) false its.toArray e1 (.ref (h3.push (seqObj "tuple" its.toArray 0)).objs.size)) _ _ { s2 with heap:=(h3.push (seqObj "tuple" its.toArray 0)).push (seqObj "list" #[] 0)}
 generalize (h3.push (seqObj "tuple" its.toArray 0)).objs.size=kS at oK J5 pK;generalize (h3.push (seqObj "tuple" its.toArray 0)).push (seqObj "list" #[] 0)=h4 at J5;unfold ksk_rest;refine dY (wpAny_rule ?_);rw[List.forIn_toArray];refine dY (ksk_fold (fun i s'=>∃ H3 ds en,au H2 H3/\Inv X ((kS,seqObj "list" ((ds.map Value.ref).toArray) en)::(f,jm X params body scope c ctv)::pq) σ H3 s'/\ds.length=i/\∀(j:Nat) d n,ds[j]?=some d->ns[j]?=some n->H3 d=some (.tup [.int (kf n).1,.int (kf n).2]))
  its 0 _ ⟨H2,[],0,au.refl _,J5,rfl,fun j d n z=>by cases z⟩ ?_ ?_)
 ·rintro j y s' hy ⟨H3,ds,en,J0,I3,hdl,hkeys⟩;rw[Nat.zero_add]at hdl ⊢;have hj:j<its.length:=(oA.mp hy).1;have PK:ns[j]?=some (ns[j]'(by lia)):=List.getElem?_eq_getElem _
  obtain⟨uu,hu,ru⟩:=rv.get (show(ns.map V.int)[j]?=some (.int (ns[j]'(by lia))) by rw[List.getElem?_map,PK];rfl)
  rw[hy]at hu;cases hu;obtain⟨hct,_⟩:=(show bR X.prog X.w H3 s'.heap c (.pU oc (.own P)) from I3.hok c _ (J0 _ _ (at2 _ _ LL)))
  have hroom:X.A.in1.in1.depth<recursionLimit:=((hr.in1).in1).depth;refine dY (wpAny_attempt (wpAny_mono (EB (v:=.int (ns[j]'(by lia))) I3 T hx I3.ok.frames rfl hroom (List.Mem.tail _ (.head _)) (hoc.rec hct) (hb c ctv _) hco hgen (he f c s' H3 (((hr.in1).in1).deeper _)) ru
   (hturn H3 (fun b u eb n1 n2=>J0 _ _ (at2 _ _ (PF b u eb n1 n2))) _ (List.getElem_mem _))) (fun v s3 hv=>?_) fun _ _ z=>z))
  obtain⟨w',H4,I4,rw',PM,d,rfl,Sg⟩:=hv;cases rw';have zj:=I4.pin (kS,_) (oz _ (.head _));have sb:=Heap.SameBut.update s3.heap kS (Obj.mapSeq (·.push (.ref d)));have ea:((ds.map Value.ref).toArray).push (.ref d)=((ds++[d]).map Value.ref).toArray:=by simp
  obtain⟨c2,hc2⟩:∃ c2,(s3.heap.update kS (Obj.mapSeq (·.push (.ref d)))).get? kS=some (seqObj "list" (((ds++[d]).map Value.ref).toArray) c2):=⟨_,by rw[<-ea];exact get?_update_seq zj.1 (·.push (.ref d))⟩
  try dsimp only
  refine dY (listUpdate_at zj.1 rfl ?_ (by rw[List.size_toArray,List.length_map,sizeLine_eq];lia) (Nat.le_trans (Nat.le_of_eq (Array.size_push ..)) (by rw[List.size_toArray,List.length_map,sizeLine_eq];lia)))
  refine wpAny_pure ⟨rfl,H4,ds++[d],c2,fun b u z=>PM _ _ (J0 _ _ z),?_,by rw[List.length_append,List.length_singleton,hdl],fun i d' n' e1 e2=>?_⟩
  ·exact I4.HJ (t':=s3.toks) oK (.head _) (fun b u nb eb=>(sb.2 b nb).trans eb) fun q hq=>by
    rcases List.mem_cons.mp hq with rfl|hq
    ·exact .inl ⟨rfl,hc2,fun v z=>by cases z⟩
    ·exact .inr ⟨.tail _ hq,pK q hq⟩
  ·by_cases hi:i<ds.length
   ·rw[List.getElem?_append_left hi]at e1;exact PM _ _ (hkeys i d' n' e1 e2)
   ·rw[List.getElem?_append_right (by lia)]at e1
    have hi2:i=j:=by
     have:=(oA.mp e1).1;rw[List.length_singleton]at this
     lia
    subst hi2;rw[hdl,Nat.sub_self]at e1;have e1:d=d':=by simpa using e1
    rw[PK]at e2;cases e2;rw[<-e1];exact Sg
 ·rintro s' ⟨H3,ds,en,J0,I3,hdl,hkeys⟩;rw[Nat.zero_add]at hdl;have zj:=I3.pin (kS,_) (oz _ (.head _))
  try dsimp only
  refine dY (listItems_at zj.1 rfl ?_);refine BZ I3 oK pK (J0 _ _ jN) rv h64 (by lia) hkeys hok J3 ae fun s5 ns' hp Ox I5=>⟨_,rfl,wpAny_pure ⟨_,rfl,?_⟩⟩
  have I6:Inv X pq σ (upd (upd H3 D (.lst [])) D (.lst (ns'.map V.int))) s5:=I5.g7 fun q hq=>I5.pin q (oz _ (.tail _ hq))
  have nD:∀ b u,HL b=some u->b≠D:=fun b u eb z=>by rw[z,hfr]at eb;cases eb
  have Oz:∀ b u,HL b=some u->upd (upd H3 D (.lst [])) D (.lst (ns'.map V.int)) b=some u:=fun b u eb=>by
   rw[ay (nD b u eb),ay (nD b u eb)];exact J0 _ _ (at2 _ _ eb)
  have I7:=Ez I1 hP hc BV hoc I6 (Oz _ _ MW) (Oz _ _ LL);refine⟨.ref D,_,I7,rfl,Ow D ns' _ (HK D hfr) (EA hP hc BV (oc:=oc) fun b u eb=>Oz b u (by rw[<-Sd];exact eb)) ?_ hp Ox⟩
  unfold given;rw[ay (fun z=>nD _ _ MW z.symm),ay (fun z=>nD _ _ LL z.symm),ae]
end
section
variable {X:Cx}{pq:aX}{σ:St}{H:Hp}{s:Shared}
theorem xH{a:Addr}{ps:List (Addr×Int×Int)}{its:List Value}{E:gU}{P:PySem.Fin->Shared->Prop}{A:Around}(I:Inv X pq σ (upd H a (.lst (ps.map fun q=>V.ref q.1))) s)(ha:H a=none)(ho:s.heap.get? a=some (seqObj "list" its.toArray 0))(rv:Vals (ps.map fun q=>V.ref q.1) its)
 (hp:∀ q∈ps,H q.1=some (.tup [.int q.2.1,.int q.2.2])) (hok:∀ q∈ps,GQ q.2) (h2:2<=ps.length) (hn:ps.length<64)
 (k:∀(h' : Heap) (c:Nat) (ps' : List (Addr×Int×Int)) (out:List Value),ps'.Perm ps->ps'.Pairwise (fun x y=>kx x.2<=kx y.2)->Vals (ps'.map fun q=>V.ref q.1) out->h'.get? a=some (listOf out.toArray c)->(∀ m,s.heap.Ns X.env.locals m->h'.Ns X.env.locals m)->(∀ b o,b≠X.env.locals->b≠a->s.heap.get? b=some o->h'.get? b=some o)->P (PySem.Fin.done (PySem.Flow.ret PySem.Value.none)) { s with heap:=h'}) :
 wpAny (model X.prog X.w) A (PySem.Builtin.«list.sort» { pos:=[PySem.Value.ref a]}) P E s:=by
 have hl:=rv.length;rw[List.length_map]at hl;obtain⟨m,F⟩:=I.fr;have hne:a≠X.env.locals:=fun z=>by
  have:=I.free;rw[<-z,ae]at this;cases this
 have hb:X.base.get? a=none:=by
  cases e:X.base.get? a with
  | none=>rfl
  | some o =>
    have:=(I.bs a o e).2;rw[ae]at this;cases this
 have N:News X.base X.env.locals s.heap (rest X.base s.heap X.env.locals a):=fun p hp=>C9 p (List.mem_filter.mp hp).1
 have at_:∀ i,i<ps.length->its.getD i Value.none = .ref (ps.getD i (0,0,0)).1/\ps.getD i (0,0,0)∈ps:=fun i hi=>by
  have h1:(ps.map fun q=>V.ref q.1)[i]?=some (.ref (ps.getD i (0,0,0)).1):=by
   rw[List.getElem?_map,List.getD_eq_getElem?_getD,List.getElem?_eq_getElem hi];rfl
  obtain⟨u,hu,ru⟩:=rv.get h1;refine⟨?_,?_⟩
  ·rw[List.getD_eq_getElem?_getD,hu];exact ru
  ·rw[List.getD_eq_getElem?_getD,List.getElem?_eq_getElem hi];exact List.getElem_mem hi
 refine kat_list_sort F N ho hne hb Aj (by lia) (by lia) fun e1 h' F' N'=>?_
 have kept:=nc (d:=a) I.bk F' fun p hp=>N' p (lJ _ hp)
 have pv:∀ q∈ps,uF h' (.ref q.1) q.2:=fun q hq=>by
  have hH:=hp q hq;have ne1:q.1≠a:=fun z=>by
   rw[z,ha]at hH;cases hH
  have PN:upd H a (.lst (ps.map fun q=>V.ref q.1)) q.1=some (.tup [.int q.2.1,.int q.2.2]):=by rw[ay ne1];exact hH
  have ne2:q.1≠X.env.locals:=fun z=>by
   have:=I.free;rw[<-z,PN]at this;cases this
  obtain⟨ts,rt,⟨o,e,hc,n,hd⟩,_⟩:=I.tuple (aY.of PN)
  match ts,rt with
  | [_,_],.cons ⟨t,rfl⟩ (.cons ⟨u,rfl⟩ .nil)=>exact⟨q.1,o,t,u,n,rfl,kept _ _ ne2 ne1 e,hc,hd⟩
 have PR:∀ i,i<its.length->uF h' (its.getD i Value.none) (ps.getD i (0,0,0)).2:=fun i hi=>by
  obtain⟨e,hm⟩:=at_ i (by lia)
  rw[e];exact pv _ hm
 refine uy (by lia) (fun v hv=>?_) (vy (r:=fun i=>kx (ps.getD i (0,0,0)).2) (n:=its.length) (uG (fun i hi=>hok _ (at_ i (by lia)).2) PR) (AV (by lia)) (fun J7=>?_))
 ·obtain⟨i,hi,rfl⟩:=List.mem_iff_getElem.mp hv;have:=(PR i hi).pair;rw[List.getD_eq_getElem?_getD,List.getElem?_eq_getElem hi]at this;exact this
 have hup:=A1 (r:=fun i=>kx (ps.getD i (0,0,0)).2) (n:=its.length) (by lia)
 generalize SRun (fun i=>kx (ps.getD i (0,0,0)).2) (kas_sort its.length)=p' at J7 hup ⊢
 refine KasFin.intro F' N' (UpdF.head Aj) fun h'' c PU PV=>?_
 have LM:∀ b o,b≠X.env.locals->b≠a->s.heap.get? b=some o->h''.get? b=some o:=nc (d:=a) I.bk PU fun p hp=>PV p (lJ _ hp)
 have A2:(p'.toList.map fun i=>ps.getD i (0,0,0)).Perm ps:=by
  have h1:=List.Perm.map (fun i=>ps.getD i (0,0,0)) J7
  have h2:(List.range its.length).map (fun i=>ps.getD i (0,0,0))=ps:=by
   rw[<-hl];refine List.ext_getElem (by simp) fun i h1 h2=>?_
   simp[List.getD_eq_getElem?_getD,List.getElem?_eq_getElem h2]
  rw[h2]at h1;exact h1
 have hpl:p'.toList.length=its.length:=by have:=J7.length_eq;rw[List.length_range]at this;exact this
 have zk:(p'.toList.map fun i=>ps.getD i (0,0,0)).Pairwise (fun x y=>kx x.2<=kx y.2):=by
  rw[List.pairwise_map,List.pairwise_iff_getElem];intro i j hi hj hij;have:=hup.le (Nat.le_of_lt hij) (by lia)
  have ga:∀ i (hi:i<p'.toList.length),p'.getD i 0=p'.toList[i]:=fun i hi=>by
   rw[Array.getD_eq_getD_getElem?,<-Array.getElem?_toList,List.getElem?_eq_getElem hi];rfl
  unfold Kr at this;rw[ga i hi,ga j hj]at this;exact this
 refine k h'' c _ _ A2 zk ?_ (PV _ List.mem_cons_self).1 (fun m' hm'=>?_) LM
 ·have:∀ l:List Nat,(∀ i∈l,i<ps.length)->Vals ((l.map fun i=>ps.getD i (0,0,0)).map fun q=>V.ref q.1) (l.map fun i=>its.getD i Value.none):=fun l=>by
   induction l with
   | nil=>exact fun _=>.nil
   | cons i l ih =>
     intro h;refine .cons ?_ (ih fun j hj=>h j (lJ _ hj))
     exact(at_ i (h i List.mem_cons_self)).1
  refine this _ fun i hi=>?_
  have:=List.mem_range.mp (J7.mem_iff.mp hi)
  lia
 ·rw[Jh hm' F.ns];exact PU.ns
end
section
variable {X:Cx}
theorem EH(K:bI)(hK:X.K=K:=by rfl):eO X (.builtin "sorted") (fun xs H Q=>∃(p:Addr) (ps:List (Addr×Int×Int)),xs=[.ref p]/\aQ K H p (ps.map fun q=>V.ref q.1)/\(∀ q∈ps,H q.1=some (.tup [.int q.2.1,.int q.2.2]))/\(∀ q∈ps,GQ q.2)/\ps.length<64/\
 ∀(l:Addr) (ps' : List (Addr×Int×Int)),H l=none->ps'.Perm ps->ps'.Pairwise (fun x y=>kx x.2<=kx y.2)->Q (.ref l) (upd H l (.lst (ps'.map fun q=>V.ref q.1)))):=by
 subst hK;intro pq s σ H xs us Q I r h;obtain⟨p,ps,rfl,hq,hp,hok,hn,q⟩:=h;obtain⟨u,rfl,rx⟩:=vals1 r;cases rx;obtain⟨its,rv,⟨o,n,ho,hc,hdt,hd⟩,hz⟩:=I.list hq;have hl:=rv.length;rw[List.length_map]at hl;have hsl:its.length<=sizeLine:=dl (Nat.ble_eq.mpr (by lia))
 refine Calls.call_function_entry kind_sorted plain_sorted entry_sorted (args_sorted1 _) ?_;unfold Builtin.«sorted»;refine dY (m:=checkCount "sorted" 1 1 _) (wpAny_pure ?_);refine dY (wpAny_collect_seq p (T:="list") (.inl rfl) ho hc hd (fun h1 hk=>?_) (by rw[List.size_toArray];exact hsl))
 have I1:=I.kept (t':=s.toks) hk;have hfr:H h1.objs.size=none:=I1.hok.fresh (Nat.le_refl _);refine dY (wpAny_newList ?_ (by simpa using hsl))
 have yw:(h1.push (seqObj "list" its.toArray.toList.toArray 0)).get? h1.objs.size=some (seqObj "list" its.toArray.toList.toArray 0):=Heap.get?_push_size _ rfl;have e0:its.toArray.toList=its:=by simp
 rw[e0]at yw;have I2:Inv X pq σ (upd H h1.objs.size (.lst (ps.map fun q=>V.ref q.1))) { s with heap:=h1.push (seqObj "list" its.toArray 0)}:=by
  refine I1.laid (t':=s.toks) (fun b o hb=>?_) (Nat.le_refl _) ⟨?_,its,0,rv,yw⟩
  ·rw[Heap.get?_push_ne _ _ _ (Nat.ne_of_lt (Heap.lt_size hb))];exact hb
  ·rw[List.length_map,hl];exact hsl
 rw[e0];refine dY (wpAny_holding (wpAny_call_entry slot_list_sort ⟨_,yw,rfl⟩ entry_list_sort (?_) (args_list_sort _)));have LN:∀ ps' : List (Addr×Int×Int),ps'.Perm ps->(ps'.map fun q=>V.ref q.1).length<=sizeLine:=fun ps' J7=>by
  rw[List.length_map,J7.length_eq,hl];exact hsl
 have kp:∀ b u,h1.get? b=some u->(h1.push (seqObj "list" its.toArray 0)).get? b=some u:=fun b u e=>by
  rw[Heap.get?_push_ne _ _ _ (Nat.ne_of_lt (Heap.lt_size e))];exact e
 by_cases h2:2<=ps.length
 ·refine xH I2 hfr yw rv hp hok h2 hn fun h' c ps' out A2 zk Sh hget hns LO=>⟨_,rfl,wpAny_pure ⟨_,rfl,?_⟩⟩
  refine⟨.ref h1.objs.size,_,I1.LC (t':=s.toks) (o:=.lst (ps'.map fun q=>V.ref q.1)) (fun b u hb e=>LO b u hb (Nat.ne_of_lt (Heap.lt_size e)) (kp b u e)) (fun m hm=>hns m ?_) (Nat.le_refl _) ⟨LN _ A2,out,c,Sh,hget⟩,rfl,q _ ps' hfr A2 zk⟩
  obtain⟨o',es,ep,e,z⟩:=hm;exact⟨o',es,ep,kp _ _ e,z⟩
 ·have few:ps.Pairwise (fun x y=>kx x.2<=kx y.2):=by
   match ps,h2 with
   | [],_=>exact .nil
   | [x],_=>exact List.pairwise_singleton _ _
   | _::_::_,h2=>exact absurd (by simp:2<=_) h2
  refine Eh yw (by lia) ⟨_,rfl,wpAny_pure ⟨_,rfl,?_⟩⟩
  obtain⟨e,he⟩:=sortedHeap_at (out:=its.toArray) yw;refine⟨.ref h1.objs.size,_,I1.laid (t':=s.toks) (o:=.lst (ps.map fun q=>V.ref q.1)) (fun b o hb=>?_) (Nat.le_refl _) ⟨LN ps (List.Perm.refl _),its,e,rv,he⟩,rfl,q _ ps hfr (List.Perm.refl _) few⟩
  have hlt:=Heap.lt_size hb;show(sortedHeap (h1.push (seqObj "list" its.toArray 0)) h1.objs.size its its.toArray).get? b=some o;rw[sortedHeap_old (Nat.ne_of_lt hlt) (by rw[size_push'];exact Nat.lt_succ_of_lt hlt)]
  exact kp b o hb
end
end L2
namespace RM
def gX(B:List Nat):Nat->List Row3
 | 0=>[]
 | i+1=>if(bq (gX B i) (B.getD i 0) 0).1=0 then gX B i else sV (gX B i) ((bq (gX B i) (B.getD i 0) 0).1.log2,(bq (gX B i) (B.getD i 0) 0).1,(bq (gX B i) (B.getD i 0) 0).2^^^2^i)
theorem zm{B:List Nat}{i b:Nat}{rows:List Row3}(e:rows=gX B i)(hb:B[i]?=some b)(h:(bq rows b 0).1≠0):sV rows ((bq rows b 0).1.log2,(bq rows b 0).1,(bq rows b 0).2^^^2^i)=gX B (i+1):=by
 subst e;have eb:B.getD i 0=b:=by rw[List.getD_eq_getElem?_getD,hb];rfl
 show _=if _ then _ else _
 rw[eb,if_neg h]
theorem xJ{B:List Nat}{i b:Nat}{rows:List Row3}(e:rows=gX B i)(hb:B[i]?=some b)(h:(bq rows b 0).1=0):rows=gX B (i+1):=by
 subst e;have eb:B.getD i 0=b:=by rw[List.getD_eq_getElem?_getD,hb];rfl
 show _=if _ then _ else _
 rw[eb,if_pos h]
section
variable {N:Net}
theorem GS(m t:Nat):∀{n:Nat},t<n->m.testBit t=true->cnt (fun k=>m.testBit k && !decide (k=t)) n+1=cnt (fun k=>m.testBit k) n:=by
 intro n
 induction n with
 | zero=>exact fun h=>absurd h (Nat.not_lt_zero _)
 | succ n ih =>
   intro h hb;show cnt _ n+(if(m.testBit n && !decide (n=t))=true then 1 else 0)+1=cnt _ n+(if m.testBit n=true then 1 else 0)
   by_cases e:n=t
   ·subst e;rw[hb,cN rfl];have:cnt (fun k=>m.testBit k && !decide (k=n)) n=cnt (fun k=>m.testBit k) n:=eE fun k hk=>by rw[fk (by lia),Bool.not_false,Bool.and_true]
    rw[this];rfl
   ·have:=ih (by lia) hb
    rw[fk e,Bool.not_false,Bool.and_true]
    lia
theorem zo{m:Nat}(hm:m<2^N.n)(r:N.Ring m):cnt (fun k=>m.testBit k) N.n+N.az.length<=N.n+1:=by
 obtain⟨t,ht⟩:∃ t,m.testBit t=true:=by
  apply Classical.byContradiction;intro hn;exact r.1 (Nat.eq_of_testBit_eq fun k=>by
   rw[Nat.zero_testBit];cases h:m.testBit k with
   | false=>rfl
   | true=>exact absurd ⟨k,h⟩ hn)
 have LP:=cP hm ht;have h:=GJ (N:=N) (ks:=(List.range N.n).filter fun k=>!(m.testBit k && !decide (k=t))) fun q hq ev hz=>by
  have sub:∀ k,q.testBit k=true->m.testBit k=true/\k≠t:=fun k hk=>by
   have hkn:=cP hq hk;apply Classical.byContradiction;intro hn;have:=hz k (List.mem_filter.mpr ⟨List.mem_range.mpr hkn,by
    cases h1:m.testBit k with
    | false=>rfl
    | true =>
      by_cases e:k=t
      ·rw[cN e];rfl
      ·exact absurd ⟨h1,e⟩ hn⟩)
   rw[this]at hk;cases hk
  rcases r.2.2 q (fun k hk=>(sub k hk).1) ev with e|e
  ·exact e
  ·exact absurd rfl (sub t (by rw[e];exact ht)).2
 rw[gm]at h;have h1:=i3 (fun k=>m.testBit k && !decide (k=t)) N.n
 have h2:=GS m t LP ht
 lia
def xK:Nat->Nat->Nat
 | 0,_=>0
 | n+1,z=>z%2+xK n (z/2)
theorem rT{m:Nat}:∀ cs:List Nat,xK cs.length (code m cs)=(cs.filter fun c=>m.testBit c).length
 | []=>rfl
 | c::cs=>by
   have ih:=rT (m:=m) cs;unfold code;show((if m.testBit c=true then 1 else 0)+2*code m cs)%2+xK cs.length (((if m.testBit c=true then 1 else 0)+2*code m cs)/2)=_
   cases h:m.testBit c with
   | true =>
     rw[if_pos rfl,List.filter_cons,if_pos h,List.length_cons,<-ih];have e1:(1+2*code m cs)%2=1:=by lia
     have e2:(1+2*code m cs)/2=code m cs:=by lia
     rw[e1,e2,Nat.add_comm]
   | false =>
     rw[if_neg Bool.false_ne_true,List.filter_cons,if_neg (by rw[h];decide),<-ih]
     have e1:(0+2*code m cs)%2=0:=by lia
     have e2:(0+2*code m cs)/2=code m cs:=by lia
     rw[e1,e2,Nat.zero_add]
theorem B3{r f:Nat}(h:r+f<=9)(hr:7<=r):((List.range (2^r)).filter fun z=>decide (xK r z<=f+1)&&decide (z≠0)).length<64:=by
 have h1:r=7\/r=8\/r=9:=by lia
 rcases h1 with rfl|rfl|rfl
 ·have hf:f=0\/f=1\/f=2:=by lia
  rcases hf with rfl|rfl|rfl<;>decide +kernel
 ·have hf:f=0\/f=1:=by lia
  rcases hf with rfl|rfl<;>decide +kernel
 ·have hf:f=0:=by lia
  rcases hf with rfl
  decide +kernel
theorem rV(hn:N.n<=9){l:List Nat}(nd:l.Nodup)(h:∀ m∈l,m<2^N.n/\N.Ring m):l.length<64:=by
 by_cases h6:N.az.length<=6
 ·exact Nat.lt_of_lt_of_le (BN nd h) (Nat.pow_le_pow_right (n:=2) (by decide) h6)
 have cl:N.az.length<=N.n:=by
  have h1:N.az.length<=(List.range N.n).length:=List.length_filter_le ..
  rwa [List.length_range]at h1
 have inj:∀ m q,m<2^N.n->q<2^N.n->N.eg m->N.eg q->code m N.az=code q N.az->m=q:=fun m q hm hq em eq e=>iK hm hq em eq fun c hc hf=>code_inj e c (cL.mpr ⟨hc,hf⟩)
 have Ol:(l.map fun m=>code m N.az).Nodup:=by
  refine List.Pairwise.map _ (fun a b (hab:a≠b/\a∈l/\b∈l)=>?_) ?_ (R:=fun a b=>a≠b/\a∈l/\b∈l)
  ·obtain⟨h1,h2⟩:=h a hab.2.1;obtain⟨h3,h4⟩:=h b hab.2.2;exact fun e=>hab.1 (inj a b h1 h3 h2.2.1 h4.2.1 e)
  ·exact List.Pairwise.imp_of_mem (fun {a b} ha hb hne=>⟨hne,ha,hb⟩) nd
 have z0:∀ cs,code 0 cs=0:=fun cs=>by
  induction cs with
  | nil=>rfl
  | cons c cs ih =>
    unfold code;rw[Nat.zero_testBit,ih,if_neg Bool.false_ne_true]
 have:=lQ (L:=(List.range (2^N.az.length)).filter fun z=>decide (xK N.az.length z<=(N.n-N.az.length)+1)&&decide (z≠0)) Ol fun x hx=>by
  obtain⟨m,hm,rfl⟩:=List.mem_map.mp hx;obtain⟨h1,h2⟩:=h m hm;refine List.mem_filter.mpr ⟨List.mem_range.mpr (vn _ _),Bool.and_eq_true_iff.mpr ⟨cN ?_,cN fun e=>h2.1 (inj m 0 h1 (Nat.two_pow_pos _) h2.2.1 eg.zero (by rw[e,z0]))⟩⟩
  rw[rT];have h3:=zo h1 h2;have h4:(N.az.filter fun c=>m.testBit c).length<=cnt (fun k=>m.testBit k) N.n:=by
   unfold Net.az;rw[List.filter_filter,gm];exact yX fun k _ h=>(Bool.and_eq_true_iff.mp h).1
  lia
 rw[List.length_map]at this;exact Nat.lt_of_le_of_lt this (B3 (by lia) (by lia))
def rW(N:Net)(j:Nat):List Nat:=(List.range (2^j)).map fun z=>N.dF z N.az 0
theorem EI:rW N 0=[0]:=by
 unfold rW;show[N.dF 0 N.az 0]=[0];rw[GG]
theorem Jr{j c:Nat}(h:N.az[j]?=some c):N.dF (2^j) N.az 0=N.ring c:=by
 have hc:=cL.mp (m8 h);have e1:=gC (N:=N) (z:=2^j);have hr:=BR hc.1 hc.2;have hl:N.ring c<2^N.n:=gn fun k hk=>by
  rcases kU hk with z|z
  ·rw[z];exact hc.1
  ·exact z.1
 refine iK e1.2 hl e1.1 hr.2.1 fun d hd hf=>?_
 obtain⟨i,hi⟩:=rJ hd hf;rw[jT hi,gp hc.2 hf,Nat.testBit_two_pow];refine decide_eq_decide.mpr ⟨fun e=>?_,fun e=>?_⟩
 ·subst e;rw[h]at hi;exact Option.some.inj hi
 ·subst e;obtain⟨a1,a2⟩:=oA.mp h;obtain⟨b1,b2⟩:=oA.mp hi;exact(List.getElem_inj uA).mp (a2.trans b2.symm)
theorem EJ{j c:Nat}(h:N.az[j]?=some c):rW N (j+1)=rW N j++(rW N j).map fun e=>e^^^N.ring c:=by
 unfold rW;have e:(2:Nat)^(j+1)=2^j+2^j:=by rw[Nat.pow_succ];lia
 rw[e,List.range_add,List.map_append,List.map_map,List.map_map]
 congr 1
 refine List.map_congr_left fun z hz=>?_
 have hz:=List.mem_range.mp hz;show N.dF (2^j+z) N.az 0=N.dF z N.az 0^^^N.ring c;rw[<-Jr h,<-za]
 congr 1
 have e0:=Nat.two_pow_add_eq_or_of_lt hz 1;rw[Nat.mul_one]at e0;rw[Nat.xor_comm,e0];refine Nat.eq_of_testBit_eq fun i=>?_
 rw[Nat.testBit_or,Nat.testBit_xor,Nat.testBit_two_pow]
 by_cases hi:j=i
 ·subst hi;rw[Nat.testBit_lt_two_pow hz,cN rfl];rfl
 ·rw[fk hi,Bool.false_or,Bool.false_xor]
theorem A3{m:Nat}:m∈rW N N.az.length↔N.eg m/\m<2^N.n:=by
 unfold rW;rw[List.mem_map]
 constructor
 ·rintro⟨z,_,rfl⟩;exact gC
 ·rintro⟨h1,h2⟩;obtain⟨z,hz,e⟩:=Jj h2 h1;exact⟨z,List.mem_range.mpr hz,e⟩
theorem B4:(rW N N.az.length).Nodup:=by
 unfold rW;refine List.pairwise_map.mpr (List.Pairwise.imp_of_mem (fun {z y} hz hy h e=>?_) List.pairwise_lt_range)
 have:=GF h (List.mem_range.mp hy)
 lia
theorem B5(h:0<N.n):N.az.length<N.n:=by
 have h0:N.kJ 0=true:=by
  have e:decide (N.dX 0 (N.a 0)=N.dX 0 (N.b 0))=false:=fk (N.ne 0 h);show(!decide (N.dX 0 (N.a 0)=N.dX 0 (N.b 0)))=true;rw[e];rfl
 have h1:N.az.length<(List.range N.n).length:=List.length_filter_lt_length_iff_exists.mpr ⟨0,List.mem_range.mpr h,by rw[h0];decide⟩
 rwa [List.length_range]at h1
end
open Ring (xorL xorL_snoc)
section
variable {N:Net}{B:List Nat}{rows:List Row3}
theorem EK{P:Row3->Bool}:∀{rows:List Row3},(∀ q∈rows,q.2.1.testBit q.1=true)->(rows.Pairwise fun q q'=>q'.2.1.testBit q.1=false/\q.2.1.testBit q'.1=false)->∀ q0∈rows,rx (fun q=>q0.2.1.testBit q.1&&P q) rows=P q0
 | [],_,_,q0,h=>nomatch h
 | q::rows,own,yz,q0,h=>by
   obtain⟨h1,h2⟩:=List.pairwise_cons.mp yz;unfold rx;rcases List.mem_cons.mp h with rfl|h
   ·rw[own q0 List.mem_cons_self,Bool.true_and];have:rx (fun q=>q0.2.1.testBit q.1&&P q) rows=rx (fun _=>false) rows:=rM fun q' hq=>by rw[(h1 q' hq).2,Bool.false_and]
    rw[this];have z:∀ l:List Row3,rx (fun _=>false) l=false:=fun l=>by
     induction l with
     | nil=>rfl
     | cons _ _ ih=>unfold rx;rw[ih];rfl
    rw[z,Bool.xor_false]
   ·rw[(h1 q0 h).1,Bool.false_and,Bool.false_xor];exact EK (fun q' hq=>own q' (lJ _ hq)) h2 q0 h
def gr(rows:List Row3)(t:Nat):List Nat:=(rows.filter fun q=>q.2.1.testBit t).map fun q=>q.1
theorem uH(f:Nat->Bool)(t:Nat):∀ rows:List Row3,(gr rows t).foldr (fun k acc=>f k^^acc) false=rx (fun q=>f q.1&&q.2.1.testBit t) rows
 | []=>rfl
 | q::rows=>by
   have ih:=uH f t rows;unfold gr at ih ⊢;unfold rx;cases h:q.2.1.testBit t with
   | true=>rw[List.filter_cons,if_pos h,List.map_cons,List.foldr_cons,ih,Bool.and_true]
   | false=>rw[List.filter_cons,if_neg (by rw[h];decide),ih,Bool.and_false,Bool.false_xor]
theorem vB(own:∀ q∈rows,q.2.1.testBit q.1=true)(yz:rows.Pairwise fun q q'=>q'.2.1.testBit q.1=false/\q.2.1.testBit q'.1=false)(t:Nat):(gr rows t).Nodup:=by
 unfold gr;refine List.pairwise_map.mpr ?_;refine List.Pairwise.imp_of_mem (fun {q q'} hq Jl h e=>?_) (yz.filter _)
 have:=own q' (List.mem_filter.mp Jl).1;rw[<-e,h.1]at this;cases this
def uI(rows:List Row3)(t:Nat):Nat:=Ring.orM (t::gr rows t)
theorem B6(h:Rw B rows)(hb:∀ b∈B,b<2^N.n){x t:Nat}(hx:x<2^N.n)(ht:(bq rows x 0).1.testBit t=true):uI rows t<2^N.n/\N.par x (uI rows t)=true/\∀ b∈B,N.par b (uI rows t)=false:=by
 have MX:Sp (rows.map fun q=>q.2.1) (x^^^(bq rows x 0).1):=by
  have:=qD (rows.map two) x
  rwa [map_two,<-iM rows x 0]at this
 have PX:∀ q∈rows,q.2.1<2^N.n:=zc h hb;have Si:∀ y∈(rows.map fun q=>q.2.1),y<2^N.n:=fun y hy=>by
  obtain⟨q,hq,rfl⟩:=List.mem_map.mp hy;exact PX q hq
 have Js:(bq rows x 0).1<2^N.n:=by
  have:=Nat.xor_lt_two_pow hx (MX.lt Si)
  rwa [<-Nat.xor_assoc,Nat.xor_self,Nat.zero_xor]at this
 have tn:t<N.n:=cP Js ht;have lt:∀ k∈t::gr rows t,k<N.n:=fun k hk=>by
  rcases List.mem_cons.mp hk with rfl|hk
  ·exact tn
  ·obtain⟨q,hq,rfl⟩:=List.mem_map.mp hk;have hq:=(List.mem_filter.mp hq).1;exact cP (PX q hq) (h.own q hq)
 have nt:t∉gr rows t:=fun hk=>by
  obtain⟨q,hq,e⟩:=List.mem_map.mp hk;have:=h.rK x 0 q (List.mem_filter.mp hq).1;rw[e,ht]at this;cases this
 have nd:(t::gr rows t).Nodup:=List.nodup_cons.mpr ⟨nt,vB h.own h.yz t⟩;have par:∀ y,N.par y (uI rows t)=(y.testBit t^^rx (fun q=>y.testBit q.1&&q.2.1.testBit t) rows):=fun y=>by
  rw[<-uH (fun k=>y.testBit k) t rows]
  show _=(t::gr rows t).foldr (fun k acc=>y.testBit k^^acc) false
  rw[<-uE (fun k=>y.testBit k) N.n nd lt]
  exact bM fun k _=>by unfold uI;rw[Ring.AQ]
 have rows0:∀ y,Sp (rows.map fun q=>q.2.1) y->N.par y (uI rows t)=false:=fun y hy=>by
  induction hy with
  | zero=>exact Ea _
  | add _ hb ih =>
    obtain⟨q0,hq,rfl⟩:=List.mem_map.mp hb;rw[AO,ih,par,EK h.own h.yz q0 hq,Bool.false_xor,Bool.xor_self]
 refine⟨Ring.Jg lt,?_,fun b hb=>rows0 b (h.span b hb)⟩
 have e:x=(x^^^(bq rows x 0).1)^^^(bq rows x 0).1:=by rw[Nat.xor_assoc,Nat.xor_self,Nat.xor_zero]
 rw[e,AO,rows0 _ MX,Bool.false_xor,par,ht];have z:rx (fun q=>(bq rows x 0).1.testBit q.1&&q.2.1.testBit t) rows=false:=by
  have:rx (fun q=>(bq rows x 0).1.testBit q.1&&q.2.1.testBit t) rows=rx (fun _=>false) rows:=rM fun q' hq=>by rw[h.rK x 0 q' hq,Bool.false_and]
  rw[this];have z:∀ l:List Row3,rx (fun _=>false) l=false:=fun l=>by
   induction l with
   | nil=>rfl
   | cons _ _ ih=>unfold rx;rw[ih];rfl
  exact z _
 rw[z];rfl
theorem mT(t:Nat):∀(rows:List Row3) (ks:List Nat),rows.foldl (fun M q=>if q.2.1.testBit t=true then M ||| 2^q.1 else M) (Ring.orM ks)=Ring.orM (ks++gr rows t)
 | [],ks=>by show Ring.orM ks=Ring.orM (ks++[]);rw[List.append_nil]
 | q::rows,ks=>by
   rw[List.foldl_cons];have e:gr (q::rows) t=(if q.2.1.testBit t=true then[q.1] else[])++gr rows t:=by
    unfold gr;rw[List.filter_cons]
    split<;>rfl
   rw[e]
   split
   ·have:Ring.orM ks ||| 2^q.1=Ring.orM (ks++[q.1]):=by
     unfold Ring.orM;rw[List.foldl_append];rfl
    rw[this,mT t rows,List.append_assoc]
   ·rw[mT t rows,List.nil_append]
def pick(B:List Nat)(u:Nat):List Nat:=((List.range B.length).filter fun k=>u.testBit k).map fun k=>B.getD k 0
theorem EL(B:List Nat)(u:Nat):xorL (pick B u)=comb B u:=by
 have h:∀ i,i<=B.length->xorL (((List.range i).filter fun k=>u.testBit k).map fun k=>B.getD k 0)=comb (B.take i) u:=fun i=>by
  induction i with
  | zero=>exact fun _=>rfl
  | succ i ih =>
    intro hi;have hb:B[i]?=some B[i]:=List.getElem?_eq_getElem hi;have hl:(B.take i).length=i:=List.length_take_of_le (Nat.le_of_lt hi);rw[List.range_succ,List.filter_append,List.map_append,List.take_add_one,hb,Option.toList_some,gq,hl,<-ih (Nat.le_of_lt hi)];cases hu:u.testBit i with
    | true =>
      rw[List.filter_cons,if_pos hu,if_pos rfl];show xorL (_++[B.getD i 0])=_;rw[xorL_snoc,List.getD_eq_getElem?_getD,hb];rfl
    | false =>
      rw[List.filter_cons,if_neg (by rw[hu];decide),List.filter_nil,List.map_nil,List.append_nil,if_neg Bool.false_ne_true,Nat.xor_zero]
 have:=h B.length (Nat.le_refl _)
 rwa [List.take_length]at this
theorem EM{B:List Nat}{u c:Nat}(h:c∈pick B u):c∈B:=by
 obtain⟨k,hk,rfl⟩:=List.mem_map.mp h;have hk:=List.mem_range.mp (List.mem_filter.mp hk).1;rw[List.getD_eq_getElem?_getD,List.getElem?_eq_getElem hk];exact List.getElem_mem hk
theorem zp{B:List Nat}(nd:B.Nodup)(u:Nat):(pick B u).Nodup:=by
 unfold pick;refine List.pairwise_map.mpr (List.Pairwise.imp_of_mem (fun {j k} hj hk h e=>?_) (List.Pairwise.filter _ List.nodup_range))
 have hj:=List.mem_range.mp (List.mem_filter.mp hj).1;have hk:=List.mem_range.mp (List.mem_filter.mp hk).1;rw[List.getD_eq_getElem?_getD,List.getElem?_eq_getElem hj,List.getD_eq_getElem?_getD,List.getElem?_eq_getElem hk]at e;exact h ((List.getElem_inj nd).mp e)
theorem Rw.parts(h:Rw B rows){x:Nat}(hs:Sp B x):(bq rows x 0).2<2^B.length/\xorL (pick B (bq rows x 0).2)=x:=by
 obtain⟨c1,c2⟩:=uD h.HH x 0 (Nat.two_pow_pos _);refine⟨c1,?_⟩;rw[EL,c2,jH,Nat.zero_xor,(h.fD x 0).mpr hs,Nat.xor_zero]
end
end RM
namespace L2
open PySem
theorem iN{lo:Int}{n:Nat}{g:TG}{tb:TS}{D:Ends}{σ:St}{H:Hp}(Pv:Nat->St->Hp->Prop)(h0:Pv 0 σ H)
 (hs:∀ i,let D' : Ends:={ D with nx:=Pv (i+1),ct:=Pv (i+1),bk:=D.nx};∀ σ H,i<n->Pv i σ H->g (.int (lo+i)) σ H fun σ2 H2=>tb D' σ2 H2) (hd:∀ σ H,Pv n σ H->D.nx σ H) :
 ∃ W:Nat->Nat->St->Hp->Prop,(∃ m,W 0 m σ H)/\∀ i m σ H,W i m σ H->
   ((Dp lo n).stop i H/\D.nx σ H)\/((Dp lo n).go i H/\∃ N:St->Hp->Prop,(∀ σ' H',N σ' H'->∃ m',m'<m/\W (i+1) m' σ' H')/\∀ x H',(Dp lo n).F1 i H x H'->g x σ H' fun σ2 H2=>tb { D with nx:=N,ct:=N,bk:=D.nx} σ2 H2) :=
 Bk Pv h0 (fun i σ H hi p=>hs i σ H hi p) hd
theorem dm{K:bI}{a:Addr}{xs:List V}{g:TG}{tb:TS}{D:Ends}{σ:St}{H:Hp}(Pv:Nat->St->Hp->Prop)(h0:Pv 0 σ H)(hl:∀ i σ H,i<=xs.length->Pv i σ H->aQ K H a xs)
 (hs:∀ i x,let D' : Ends:={ D with nx:=Pv (i+1),ct:=Pv (i+1),bk:=D.nx};∀ σ H,xs[i]?=some x->Pv i σ H->g x σ H fun σ2 H2=>tb D' σ2 H2) (hd:∀ σ H,Pv xs.length σ H->D.nx σ H) :
 ∃ W:Nat->Nat->St->Hp->Prop,(∃ m,W 0 m σ H)/\∀ i m σ H,W i m σ H->
   ((F3 K a).stop i H/\D.nx σ H)\/((F3 K a).go i H/\∃ N:St->Hp->Prop,(∀ σ' H',N σ' H'->∃ m',m'<m/\W (i+1) m' σ' H')/\∀ x H',(F3 K a).F1 i H x H'->g x σ H' fun σ2 H2=>tb { D with nx:=N,ct:=N,bk:=D.nx} σ2 H2) :=
 Dr Pv h0 hl (fun i x σ H hi p=>hs i x σ H hi p) hd
theorem J8{X:Cx}{e:Expr}{T:String}{r:V->List V->Hp->VK->Prop}{to:TE}{t:TA}(K:bI)(p:PE X e (NS X.K T r to t))(h:X.K=K:=by rfl):PE X e (NS K T r to t):=by subst h;exact p
theorem bX{K:bI}{H:Hp}{a:Addr}{xs:List V}{k:Int}{v:V}{R:V->Prop}(hs:aY K H a xs)(ha:yy xs k=some v)(q:R v):∃ p ys k' w,V.ref a = .ref p/\V.int k = .int k'/\aY K H p ys/\yy ys k' = some w/\R w:=⟨a,xs,k,v,rfl,rfl,hs,ha,q⟩
theorem lT{K:bI}{H:Hp}{a:Addr}{xs:List V}{k:Int}{v:V}{R:V->Prop}(hs:aQ K H a xs)(ha:yy xs k=some v)(q:R v):∃ p ys k' w,V.ref a = .ref p/\V.int k = .int k'/\aQ K H p ys/\yy ys k' = some w/\R w:=⟨a,xs,k,v,rfl,rfl,hs,ha,q⟩
theorem bj{i j:Int}{R:Int->Int->Prop}(h:R i j):∃ i' j',V.int i = .int i'/\V.int j = .int j'/\R i' j':=⟨i,j,rfl,rfl,h⟩
theorem oZ{K:bI}{H:Hp}{a:Addr}{xs:List V}{E:Addr->Prop}{R:List V->Prop}(e:E a)(h:aQ K H a xs\/aY K H a xs)(q:R xs):∃ p ys,E p/\(aQ K H p ys\/aY K H p ys)/\R ys:=⟨a,xs,e,h,q⟩
theorem aj{α:Type}{A R:α->Prop}{x:α}(h:A x)(r:R x):∃ x,A x/\R x:=⟨x,h,r⟩
open PySem PySem.Spec PyProof.Rows
section
variable {K:bI}{mg:kK}{x:Str}{st:Stmt}{f c0 p0:Addr}{fd:FuncData}{ps:List Str}{h:Heap}
structure Dc(K:bI)(mg:kK)(x:Str)(f:Addr)(fd:FuncData)(ps:List Str):Prop where
 m:mg x=some (.ref f)
 k:PySem.W.keepIn K (.ref f)=true
 b:Binds K fd ps []
structure Dk(K:bI)(x:Str)(st:Stmt)(f:Addr)(fd:FuncData):Prop where
 F:Gi K x x st f fd
 n:PySem.W.nsIn K mainGlobals x=some (some (.ref f))
structure LQ(K:bI)(x:Str)(st:Stmt)(f:Addr)(fd:FuncData)(c0 p0:Addr):Prop where
 F:zg K x x st f fd c0 p0
 n:PySem.W.nsIn K mainGlobals x=some (some (.ref f))
structure Dn(K:bI)(mg:kK)(x:Str)(st:Stmt)(f:Addr)(fd:FuncData)(ps:List Str):Prop where
 F:Gi K x x st f fd
 c:Dc K mg x f fd ps
structure J9(K:bI)(mg:kK)(x:Str)(st:Stmt)(f:Addr)(fd:FuncData)(ps:List Str)(c0 p0:Addr):Prop where
 F:zg K x x st f fd c0 p0
 c:Dc K mg x f fd ps
theorem dk{oc:Value}{od an:Option Addr}{osl:Array (Option Value)}{kV doc pm cdv ct:Value}(a:PySem.W.nsIn K mainGlobals x=some (some (.ref f)))
 (l:K.lookup f=some ⟨oc,od,.func (PySem.W.fnOf x x (dG st) (bY st) (ak st) .none kV doc pm an cdv ct),osl⟩) (c:PySem.W.codeIn K cdv x=true) (k:PySem.W.keepIn K (.ref f)=true) :
 Dk K x st f (PySem.W.fnOf x x (dG st) (bY st) (ak st) .none kV doc pm an cdv ct):=⟨IF l c k,a⟩
theorem Sj{oc:Value}{od an:Option Addr}{osl:Array (Option Value)}{kV doc pm ct:Value}(a:PySem.W.nsIn K mainGlobals x=some (some (.ref f)))
 (l:K.lookup f=some ⟨oc,od,.func (PySem.W.fnOf x x (dG st) (bY st) (ak st) .none kV doc pm an (.ref c0) ct),osl⟩) (c:PySem.W.codeIn K (.ref c0) x=true) (k:PySem.W.keepIn K (.ref f)=true) (d:PySem.W.codeHdIn K c0 p0=true) :
 LQ K x st f (PySem.W.fnOf x x (dG st) (bY st) (ak st) .none kV doc pm an (.ref c0) ct) c0 p0:=⟨GP l c k d,a⟩
structure Ng(K:bI)(x:Str):Prop where
 n:PySem.W.nsIn K mainGlobals x=some none
def Bn(x:Str)(st:Stmt)(ps:List Str)(us:List Value):Prop:=∀(kV doc pm:Value) (an:Option Addr) (cdv ct:Value),bindArgs (PySem.W.fnOf x x (dG st) (bY st) (ak st) .none kV doc pm an cdv ct) ⟨us,[]⟩=pure (ps.zip us)
theorem HM(h:∀ us:List Value,us.length=ps.length->Bn x st ps us)(kV doc pm:Value)(an:Option Addr)(cdv ct:Value)(us:List Value)(hl:us.length=ps.length):
 bindArgs (PySem.W.fnOf x x (dG st) (bY st) (ak st) .none kV doc pm an cdv ct) ⟨us,[]⟩=pure (ps.zip us):=h us hl kV doc pm an cdv ct
theorem Dk.dn(X:K.In h)(G:h.Ns mainGlobals mg)(D:Dk K x st f fd)(hb:∀ us:List Value,us.length=ps.length->Bn x st ps us):Dn K mg x st f fd ps:=⟨D.F,PySem.W.mg_of X G D.n,D.F.kp,D.F.binds (HM hb)⟩
theorem LQ.dn(X:K.In h)(G:h.Ns mainGlobals mg)(D:LQ K x st f fd c0 p0)(hb:∀ us:List Value,us.length=ps.length->Bn x st ps us):J9 K mg x st f fd ps c0 p0:=⟨D.F,PySem.W.mg_of X G D.n,D.F.kp,D.F.binds (HM hb)⟩
theorem Sk{y:Str}(h:∀ a,Bn x st [y] [a])(us:List Value)(hl:us.length=[y].length):Bn x st [y] us:=by obtain⟨_,rfl⟩:=N6 us hl;exact h _
theorem PY{y z:Str}(h:∀ a b,Bn x st [y,z] [a,b])(us:List Value)(hl:us.length=[y,z].length):Bn x st [y,z] us:=by obtain⟨_,_,rfl⟩:=N7 us hl;exact h _ _
theorem Sl{y z u:Str}(h:∀ a b c,Bn x st [y,z,u] [a,b,c])(us:List Value)(hl:us.length=[y,z,u].length):Bn x st [y,z,u] us:=by obtain⟨_,_,_,rfl⟩:=N8 us hl;exact h _ _ _
theorem Sm{y z u v:Str}(h:∀ a b c d,Bn x st [y,z,u,v] [a,b,c,d])(us:List Value)(hl:us.length=[y,z,u,v].length):Bn x st [y,z,u,v] us:=by obtain⟨_,_,_,_,rfl⟩:=N9 us hl;exact h _ _ _ _
theorem C1{y:Str}(X:K.In h)(G:h.Ns mainGlobals mg)(D:Dk K x st f fd)(e:∀ a,Bn x st [y] [a]:=by intros;exact fun _ _ _ _ _ _=>rfl):Dn K mg x st f fd [y]:=D.dn X G (Sk e)
theorem m7{y z:Str}(X:K.In h)(G:h.Ns mainGlobals mg)(D:Dk K x st f fd)(e:∀ a b,Bn x st [y,z] [a,b]:=by intros;exact fun _ _ _ _ _ _=>rfl):Dn K mg x st f fd [y,z]:=D.dn X G (PY e)
theorem HN{y z u:Str}(X:K.In h)(G:h.Ns mainGlobals mg)(D:Dk K x st f fd)(e:∀ a b c,Bn x st [y,z,u] [a,b,c]:=by intros;exact fun _ _ _ _ _ _=>rfl):Dn K mg x st f fd [y,z,u]:=D.dn X G (Sl e)
theorem Ka{y z u v:Str}(X:K.In h)(G:h.Ns mainGlobals mg)(D:Dk K x st f fd)(e:∀ a b c d,Bn x st [y,z,u,v] [a,b,c,d]:=by intros;exact fun _ _ _ _ _ _=>rfl):Dn K mg x st f fd [y,z,u,v]:=D.dn X G (Sm e)
theorem Sn{y z:Str}(X:K.In h)(G:h.Ns mainGlobals mg)(D:LQ K x st f fd c0 p0)(e:∀ a b,Bn x st [y,z] [a,b]:=by intros;exact fun _ _ _ _ _ _=>rfl):J9 K mg x st f fd [y,z] c0 p0:=D.dn X G (PY e)
theorem Dn.ok{P:Program}{w:World}{base:Heap}{N:List Str}{k:Nat}{sp:Sp}(D:Dn K mg x st f fd ps)(S:aH N ps (ak st))
 (hbody:∀(cdv:Value) (A:Around) (outer:List Env) (s:Shared) (H:Hp) (vs:List V) (Q:VK) (E:XK),fZ k (A.deeper (envOfC x (ak st) s.heap.objs.size f cdv))->sp vs H Q E->
  ∃ t,uO (p5 Ax P w K mg base N x (ak st) f cdv A outer s H E).yx (bY st) t/\t { nx:=fun _ H'=>Q .gh H',rt:=Q} (start N vs) H)
 (len:∀ vs H Q E,sp vs H Q E->vs.length=ps.length:=by
  intro vs H Q E h
  first
  | (obtain⟨_,rfl,_⟩:=h;rfl)
  | (obtain⟨_,_,rfl,_⟩:=h;rfl)
  | (obtain⟨_,_,_,rfl,_⟩:=h;rfl)
  | (obtain⟨_,_,_,_,rfl,_⟩:=h;rfl)
  | (obtain⟨_,_,_,_,_,rfl,_⟩:=h;rfl)
  | (obtain⟨_,_,_,_,_,_,rfl,_⟩:=h;rfl)
  | (obtain⟨_,_,_,_,_,_,_,rfl,_⟩:=h;rfl)
  | (obtain⟨_,_,_,_,_,_,_,_,rfl,_⟩:=h;rfl)
  | (obtain⟨_,_,_,_,_,_,_,_,_,rfl,_⟩:=h;rfl)):kO P w K mg base Ax (k+1) f fd ps sp:=D.F.ok S len hbody
theorem J9.ok{P:Program}{w:World}{base:Heap}{N:List Str}{k:Nat}{sp:Sp}(D:J9 K mg x st f fd ps c0 p0)(S:aH N ps (ak st))
 (hbody:∀(A:Around) (outer:List Env) (s:Shared) (H:Hp) (vs:List V) (Q:VK) (E:XK),fZ k (A.deeper (envOfC x (ak st) s.heap.objs.size f (.ref c0)))->sp vs H Q E->
  ∃ t,uO (p5 Ax P w K mg base N x (ak st) f (.ref c0) A outer s H E).yx (bY st) t/\t { nx:=fun _ H'=>Q .gh H',rt:=Q} (start N vs) H)
 (len:∀ vs H Q E,sp vs H Q E->vs.length=ps.length:=by
  intro vs H Q E h
  first
  | (obtain⟨_,rfl,_⟩:=h;rfl)
  | (obtain⟨_,_,rfl,_⟩:=h;rfl)
  | (obtain⟨_,_,_,rfl,_⟩:=h;rfl)
  | (obtain⟨_,_,_,_,rfl,_⟩:=h;rfl)
  | (obtain⟨_,_,_,_,_,rfl,_⟩:=h;rfl)
  | (obtain⟨_,_,_,_,_,_,rfl,_⟩:=h;rfl)
  | (obtain⟨_,_,_,_,_,_,_,rfl,_⟩:=h;rfl)
  | (obtain⟨_,_,_,_,_,_,_,_,rfl,_⟩:=h;rfl)
  | (obtain⟨_,_,_,_,_,_,_,_,_,rfl,_⟩:=h;rfl)):kO P w K mg base Ax (k+1) f fd ps sp:=D.F.ok S len hbody
theorem Dn.yQ{P:Program}{w:World}{base:Heap}{N:List Str}{k:Nat}{sp:Sp}(D:Dn K mg x st f fd ps)(S:aH N ps (ak st))
 (hbody:∀(cdv:Value) (A:Around) (outer:List Env) (s:Shared) (H:Hp) (vs:List V) (Q:VK) (E:XK),fZ k (A.deeper (envOfC x (ak st) s.heap.objs.size f cdv))->sp vs H Q E->
  ∃ t,uO (p5 (DO P w) P w K mg base N x (ak st) f cdv A outer s H E) (bY st) t/\t { nx:=fun _ H'=>Q .gh H',rt:=Q} (start N vs) H)
 (len:∀ vs H Q E,sp vs H Q E->vs.length=ps.length:=by
  intro vs H Q E h
  first
  | (obtain⟨_,rfl,_⟩:=h;rfl)
  | (obtain⟨_,_,rfl,_⟩:=h;rfl)
  | (obtain⟨_,_,_,rfl,_⟩:=h;rfl)
  | (obtain⟨_,_,_,_,rfl,_⟩:=h;rfl)
  | (obtain⟨_,_,_,_,_,rfl,_⟩:=h;rfl)
  | (obtain⟨_,_,_,_,_,_,rfl,_⟩:=h;rfl)
  | (obtain⟨_,_,_,_,_,_,_,rfl,_⟩:=h;rfl)
  | (obtain⟨_,_,_,_,_,_,_,_,rfl,_⟩:=h;rfl)
  | (obtain⟨_,_,_,_,_,_,_,_,_,rfl,_⟩:=h;rfl)):kO P w K mg base (DO P w) (k+1) f fd ps sp:=D.F.yQ S len hbody
theorem Jt{y:Str}(D:Dk K x st f fd)(e:∀ a,Bn x st [y] [a]:=by intros;exact fun _ _ _ _ _ _=>rfl)(s:Shared)(v:Value):BindsTo s fd ⟨[v],[]⟩ [(y,v)]:=by
 obtain⟨oc,od,kV,doc,pm,an,cdv,ct,osl,rfl,lk,hcd⟩:=D.F.ex;exact .of_eq (e v kV doc pm an cdv ct)
end
section
variable {X:Cx}
theorem aC{CX:CW}{k r:Nat}{f:Addr}{fd:FuncData}{ps:List Str}{sp:Sp}{x:Str}{E:XK}{e:Expr}{es:List Expr}{t:TA}{p pos:Pos}
 (F:kO X.prog X.w X.K X.mg X.base CX k f fd ps sp) (hr:fZ r X.A) (D:Dc X.K X.mg x f fd ps) (hx:Passes CX X E) (ha:PA X (e::es) t) (hk:k<=r:=by decide) (hg:Gl X x:=by rfl)
 (hdb:(x==("__debug__":Str))=false:=by decide) (he:starEach (e::es) X.env=(false,eval e X.env)::starEach es X.env:=by rfl) (hpl:(backTo pos (starEach es X.env)).any (·.1)=false:=by rfl) :
 PE X (.Call (.Name x p) (e::es) [] pos) (Hr sp [] E t):=F8 F (hr.mono hk) hg D.m D.k D.b .nil hx ha hdb he hpl
theorem kZ(l:List Str)(h:l.Nodup:=by decide +kernel):l.Nodup:=h
theorem cz{p pos:Pos}{e:Expr}{es:List Expr}{t:TA}(K:bI)(hm:X.mg "len"=none)(ha:PA X (e::es) t)(hK:X.K=K:=by rfl)(hg:Gl X "len":=by rfl)
 (he:starEach (e::es) X.env=(false,eval e X.env)::starEach es X.env:=by rfl) (hpl:(backTo pos (starEach es X.env)).any (·.1)=false:=by rfl):PE X (.Call (.Name "len" p) (e::es) [] pos) (NL (Lh K) t) :=
 bS (NX K hK) hg hm PySem.boot_len ha (by decide) (by decide) he hpl
theorem aM{a b:Expr}{ta tb:TE}{pos:Pos}{r:R2}(hr:JV X r)(ha:PE X a ta)(hb:PE X b tb)(hs:Aw b:=by exact fun _ _=>rfl):PE X (.Subscript a b pos) (KQ r ta tb):=KZ hr ha hb hs
theorem bD{x:Str}{pos:Pos}(i:Nat)(hN:X.N.Nodup)(hi:X.N[i]?=some x:=by exact rfl)(hx:Loc X.env.scope x:=by exact Or.inl rfl)(hf:X.fn x=true\/X.env.scope.names.lookup x=some .local:=by first | exact .inl rfl | exact .inr rfl | assumption):PG X (.Name x pos) (Dh i):=uQ hN hi hx hf
theorem zq:∀ bs:List Bool,((List.range bs.length).any fun i=>(bs[i]?).getD false)=bs.any id:=fun bs=>by
 rw[Bool.eq_iff_iff,List.any_eq_true,List.any_eq_true]
 constructor
 ·rintro⟨i,hi,h⟩;have hi:=List.mem_range.mp hi;rw[List.getElem?_eq_getElem hi]at h;exact⟨_,List.getElem_mem hi,h⟩
 ·rintro⟨b,hb,h⟩;obtain⟨i,hi,e⟩:=List.getElem_of_mem hb;refine⟨i,List.mem_range.mpr hi,?_⟩;rw[List.getElem?_eq_getElem hi,e];exact h
theorem OA(K:bI)(hc:X.calm=true)(hK:X.K=K:=by rfl):eO X (.builtin "any") (fun xs H Q=>∃(p:Addr) (bs:List Bool),xs=[.ref p]/\aQ K H p (bs.map V.bl)/\Q (.bl (bs.any id)) H):=by
 subst hK;intro pq s σ H xs us Q I r h;obtain⟨p,bs,rfl,hq,q⟩:=h;obtain⟨u,rfl,rx⟩:=vals1 r;cases rx;obtain⟨its,rv,pl,hz⟩:=I.list hq;obtain rfl:=vo rv;have lt:p<s.heap.objs.size:=by obtain⟨_,e,_⟩:=pl.isList;exact Heap.lt_size e
 refine call_any_walk (wpAny_pyIter_list pl.isList ⟨_,[_,p],[_],_,_,_,fun i=>(bs[i]?).getD false,rfl,Walks.list (A:=X.A.in1) (I.ok.hd hc) _ p (Nat.ne_of_lt lt) _,
  ⟨⟨_,Heap.get?_push_size _ rfl,rfl,rfl⟩,pl.isList.push _⟩,fun i v s' Q' E' hP hQ=>?_,fun h' tk hk=>?_⟩)
 ·have hP:(bs.map Value.bool)[i]?=some v:=by simpa using hP
  rw[List.getElem?_map]at hP;obtain⟨b,e,rfl⟩:=Ah.mp hP;simp only[e,Option.getD_some]at hQ;exact wpAny_truthy_bool hQ
 ·have z:(bs.map Value.bool).toArray.size=bs.length:=by simp
  rw[z,zq];refine⟨.bl _,H,I.kept fun b o e=>hk b o (fun hm=>?_) (Heap.get?_push_of_some _ e),rfl,q⟩
  rw[List.mem_singleton.mp hm]at e;exact Nat.lt_irrefl _ (Heap.lt_size e)
end
end L2
set_option maxHeartbeats 4000000
namespace K36
open PySem L2 Ring
local macro_rules | `(tactic| trivial)=>`(tactic| exact⟨rfl,rfl,rfl,by decide +kernel,rfl,by decide +kernel,by decide +kernel⟩)
def top(i:Nat):Stmt:=PySem.Challenge.pw_ringbase_k36_papers_judged.main.body.getD i (.Pass ⟨0,0,0,0⟩)
section
variable {gf gE g6 kG qF wG A4 C3 C4 HP B7 B8 GU LR LS LU:TS}{iW wH FG MY MZ M0:TT}{oE PZ:TI}{oF P0:TG}{D:Ends}{σ:St}{H:Hp}
abbrev o4:Stmt:=top 7
theorem zu:aH ["tie_set","tie"] ["tie_set","tie"] (ak o4):=by trivial
abbrev lU:Stmt:=top 8
theorem zw:aH ["tie_set"] ["tie_set"] (ak lU):=by trivial
abbrev mU:Stmt:=top 9
theorem xM:aH ["web"] ["web"] (ak mU):=by trivial
abbrev rX:Stmt:=top 10
theorem B9:aH ["web","number"] ["web","number"] (ak rX):=by trivial
abbrev k6:Stmt:=top 11
theorem vC:aH ["web","tie_set"] ["web","tie_set"] (ak k6):=by trivial
theorem jU(h:let cj:=gf;(aU iW cj aO) D σ H):(aU iW gf aO) D σ H:=h
abbrev hU:Stmt:=top 12
theorem sX:aH ["web","tie_set"] ["web","tie_set"] (ak hU):=by trivial
theorem dw(h:let cj:=gf;(av gE cj) D σ H):(av gE gf) D σ H:=h
abbrev i8:Stmt:=top 13
theorem vD:aH ["web","tie_set"] ["web","tie_set"] (ak i8):=by trivial
abbrev h7:Stmt:=top 14
theorem eW:aH ["web","tie_set","ends","one","other","length"] ["web","tie_set"] (ak h7):=by trivial
theorem mF(h:let cj:=gf;let cQ:=gE;let dH:=(av g6 cQ);let fH:=(av (eU oE oF dH) cj);(av kG fH) D σ H):(av kG (av (eU oE oF (av g6 gE)) gf)) D σ H:=h
abbrev eG:Stmt:=top 15
theorem fN:aH ["leasts","one","other","low","high"] ["leasts","one","other"] (ak eG):=by trivial
theorem i9(h:let cj:=gf;let cQ:=(av gE cj);(av g6 cQ) D σ H):(av g6 (av gE gf)) D σ H:=h
abbrev nK:Stmt:=top 16
theorem fE:aH ["web","tie_set","leasts","one","other","length","found","start"] ["web","tie_set"] (ak nK):=by trivial
theorem Ca(h:let cj:=gf;let cQ:=gE;let dH:=(aU iW cQ aO);let fH:=(av (eU oE oF dH) cj);let gS:=(av g6 fH);let mG:=kG;let nL:=(av (eU PZ P0 mG) gS);(av qF nL) D σ H):(av qF (av (eU PZ P0 kG) (av g6 (av (eU oE oF (aU iW gE aO)) gf)))) D σ H:=h
abbrev zx:Stmt:=top 17
theorem GV:aH ["web"] ["web"] (ak zx):=by trivial
abbrev o5:Stmt:=top 19
theorem zy:aH ["web","tie_set"] ["web","tie_set"] (ak o5):=by trivial
abbrev e8:Stmt:=top 20
theorem aZ:aH ["web","leasts","trails","tie","one","other","bridge","moved"] ["web"] (ak e8):=by trivial
theorem o6(h:let cj:=gf;let cQ:=gE;let dH:=(av g6 cQ);let fH:=(av kG dH);let gS:=(av qF fH);let mG:=(aU iW gS aO);let nL:=(av wG mG);let rY:=(av A4 nL);let sY:=(av (eU oE oF rY) cj);let xN:=(av C3 sY);(av C4 xN) D σ H):(av C4 (av C3 (av (eU oE oF (av A4 (av wG (aU iW (av qF (av kG (av g6 gE))) aO)))) gf))) D σ H:=h
abbrev rZ:Stmt:=top 21
theorem lV:aH ["web","found","trail"] ["web"] (ak rZ):=by trivial
theorem Cb(h:let cj:=gf;let cQ:=gE;let dH:=(av (eU oE oF cQ) cj);(av g6 dH) D σ H):(av g6 (av (eU oE oF gE) gf)) D σ H:=h
abbrev r6:Stmt:=top 22
theorem Cc:aH ["web"] ["web"] (ak r6):=by trivial
abbrev jn:Stmt:=top 23
theorem k7:aH ["web","trails","chord","tie"] ["web","trails","chord"] (ak jn):=by trivial
abbrev jV:Stmt:=top 24
theorem sZ:aH ["web","tie"] ["web","tie"] (ak jV):=by trivial
theorem gF(h:let cj:=gf;let cQ:=gE;(av (aU iW cQ aO) cj) D σ H):(av (aU iW gE aO) gf) D σ H:=h
abbrev lW:Stmt:=top 26
theorem r9:aH ["web","tie_set","touched"] ["web","tie_set"] (ak lW):=by trivial
theorem zz(h:let cj:=gf;let cQ:=(av gE cj);let dH:=g6;(av (aU iW dH aO) cQ) D σ H):(av (aU iW g6 aO) (av gE gf)) D σ H:=h
abbrev gv:Stmt:=top 27
theorem nM:aH ["web","number"] ["web","number"] (ak gv):=by trivial
abbrev jW:Stmt:=top 28
theorem tu:aH ["web","ring"] ["web","ring"] (ak jW):=by trivial
abbrev ja:Stmt:=top 29
theorem vE:aH ["web","rings"] ["web","rings"] (ak ja):=by trivial
def b8:Pos:=⟨91,29,91,70⟩
abbrev sd:Stmt:=top 31
theorem Cd:aH ["one","other"] ["one","other"] (ak sd):=by trivial
abbrev jo:Stmt:=top 32
theorem se:aH ["tie_set","marks"] ["tie_set","marks"] (ak jo):=by trivial
abbrev o7:Stmt:=top 34
theorem ek:aH ["rows","tie_set","left","used","lead","row","places"] ["rows","tie_set"] (ak o7):=by trivial
theorem zA(h:let cj:=gf;let cQ:=gE;let dH:=(av g6 cQ);let fH:=(aU iW dH aO);let gS:=(av (eU oE oF fH) cj);let mG:=(av kG gS);(av qF mG) D σ H):(av qF (av kG (av (eU oE oF (aU iW (av g6 gE) aO)) gf))) D σ H:=h
abbrev mV:Stmt:=top 35
theorem k8:aH ["rows","added","found","old"] ["rows","added"] (ak mV):=by trivial
theorem xO(h:let cj:=gf;let cQ:=gE;let dH:=g6;let fH:=(aU iW cQ dH);let gS:=(av (eU oE oF fH) cj);(av kG gS) D σ H):(av kG (av (eU oE oF (aU iW gE g6)) gf)) D σ H:=h
abbrev o8:Stmt:=top 36
theorem gw:aH ["sets","rows","place","tie_set","rest"] ["sets"] (ak o8):=by trivial
theorem zB(h:let cj:=gf;let cQ:=gE;let dH:=(aU iW cQ aO);let fH:=(av g6 dH);let gS:=(av (eU oE oF fH) cj);(av kG gS) D σ H):(av kG (av (eU oE oF (av g6 (aU iW gE aO))) gf)) D σ H:=h
abbrev jX:Stmt:=top 39
theorem tw:aH ["web"] ["web"] (ak jX):=by trivial
abbrev jc:Stmt:=top 40
theorem fO:aH ["web","found","chord","ring"] ["web"] (ak jc):=by trivial
abbrev jd:Stmt:=top 41
theorem vF:aH ["web"] ["web"] (ak jd):=by trivial
abbrev fb:Stmt:=top 43
theorem jI:aH ["web","ring","length"] ["web","ring"] (ak fb):=by trivial
abbrev gG:Stmt:=top 44
theorem k9:aH ["web","ring","length"] ["web","ring"] (ak gG):=by trivial
abbrev jY:Stmt:=top 45
theorem xP:aH ["rings","rows","ring"] ["rings","rows","ring"] (ak jY):=by trivial
abbrev gY:Stmt:=top 46
theorem bO:aH ["rows","ring","tie","marks","lead","row","places"] ["rows","ring"] (ak gY):=by trivial
theorem o9(h:let cj:=gf;let cQ:=gE;let dH:=(aU iW cQ aO);let fH:=(av (eU oE oF dH) cj);let gS:=(av g6 fH);(av kG gS) D σ H):(av kG (av g6 (av (eU oE oF (aU iW gE aO)) gf))) D σ H:=h
abbrev jZ:Stmt:=top 47
theorem eX:aH ["web","ring","shorter","rows","others","more_rows"] ["web","ring"] (ak jZ):=by trivial
theorem tD(h:let cj:=gf;let cQ:=gE;let dH:=(av (aU iW cQ aO) cj);let fH:=(av g6 dH);let gS:=(av kG fH);let mG:=qF;let nL:=(av (aU wH mG aO) gS);let rY:=(av wG nL);let sY:=(av A4 rY);let xN:=(av C3 sY);(av C4 xN) D σ H):(av C4 (av C3 (av A4 (av wG (av (aU wH qF aO) (av kG (av g6 (av (aU iW gE aO) gf)))))))) D σ H:=h
abbrev lg:Stmt:=top 48
theorem fP:aH ["ring","rings","total","place","other"] ["ring","rings"] (ak lg):=by trivial
theorem vG(h:let cj:=gf;let cQ:=gE;let dH:=g6;let fH:=(av (aU iW dH aO) cQ);let gS:=(av (eU oE oF fH) cj);(av kG gS) D σ H):(av kG (av (eU oE oF (av (aU iW g6 aO) gE)) gf)) D σ H:=h
abbrev cR:Stmt:=top 49
theorem gR:aH ["web","ring","rings","length"] ["web","ring","rings"] (ak cR):=by trivial
abbrev dI:Stmt:=top 50
theorem iO:aH ["web","ring","rings","length"] ["web","ring","rings"] (ak dI):=by trivial
theorem iP(h:let cj:=gf;let cQ:=gE;let dH:=(av (aU iW cQ aO) cj);(av g6 dH) D σ H):(av g6 (av (aU iW gE aO) gf)) D σ H:=h
abbrev ia:Stmt:=top 51
theorem tE:aH ["web","marks","ring","rings"] ["web","marks","ring","rings"] (ak ia):=by trivial
abbrev iQ:Stmt:=top 52
theorem qa:aH ["web","ring","paper"] ["web","ring","paper"] (ak iQ):=by trivial
theorem qb(h:let cj:=gf;let cQ:=gE;let dH:=(av (aU iW cQ aO) cj);let fH:=g6;let gS:=(av (aU wH fH aO) dH);let mG:=kG;let nL:=(av (aU FG mG aO) gS);let rY:=(av qF nL);(av wG rY) D σ H):(av wG (av qF (av (aU FG kG aO) (av (aU wH g6 aO) (av (aU iW gE aO) gf))))) D σ H:=h
abbrev jq:Stmt:=top 54
theorem sj:aH ["script","k"] ["script","k"] (ak jq):=by trivial
abbrev lj:Stmt:=top 55
theorem j4:aH ["cell","k","near","stir"] ["cell","k"] (ak lj):=by trivial
abbrev j6:Stmt:=top 56
theorem tF:aH ["cell","way"] ["cell","way"] (ak j6):=by trivial
theorem tG(h:let cj:=gf;let cQ:=gE;let dH:=(av (aU iW cQ aO) cj);let fH:=g6;(av (aU wH fH aO) dH) D σ H):(av (aU wH g6 aO) (av (aU iW gE aO) gf)) D σ H:=h
abbrev pe:Stmt:=top 57
theorem j7:aH ["cell","points","way","one","other"] ["cell","points","way"] (ak pe):=by trivial
theorem zC(h:let cj:=gf;let cQ:=(av gE cj);let dH:=(av g6 cQ);(av kG dH) D σ H):(av kG (av g6 (av gE gf))) D σ H:=h
abbrev gx:Stmt:=top 58
theorem bu:aH ["script","most","ranked","head","points","way","cells","ties","marks","free","cell","tie","joined","old"] ["script","most","ranked"] (ak gx):=by trivial
theorem zD(h:let cj:=gf;let cQ:=gE;let dH:=(av g6 cQ);let fH:=(av kG dH);let gS:=(av qF fH);let mG:=(aU iW gS aO);let nL:=(av wG mG);let rY:=(av A4 nL);let sY:=(av (eU oE oF rY) cj);let xN:=(av C3 sY);let sq:=(av C4 xN);let qe:=(av HP sq);let sr:=B7;let su:=(av B8 sr);let sy:=(av (aU wH su aO) qe);let EN:=(av GU sy);let EO:=(av LR EN);let ER:=(av LS EO);(av LU ER) D σ H):(av LU (av LS (av LR (av GU (av (aU wH (av B8 B7) aO) (av HP (av C4 (av C3 (av (eU oE oF (av A4 (av wG (aU iW (av qF (av kG (av g6 gE))) aO)))) gf))))))))) D σ H:=h
abbrev j8:Stmt:=top 60
theorem jr:aH ["web","some","counts","k"] ["web","some"] (ak j8):=by trivial
theorem mH(h:let cj:=gf;let cQ:=gE;let dH:=(av g6 cQ);let fH:=(aU iW dH aO);let gS:=(av (eU oE oF fH) cj);(av kG gS) D σ H):(av kG (av (eU oE oF (aU iW (av g6 gE) aO)) gf)) D σ H:=h
abbrev fQ:Stmt:=top 61
theorem eY:aH ["web","some","marks","k","old"] ["web","some"] (ak fQ):=by trivial
abbrev j9:Stmt:=top 63
theorem xQ:aH ["web","some"] ["web","some"] (ak j9):=by trivial
abbrev iR:Stmt:=top 64
theorem pZ:aH ["web","some","counts"] ["web","some"] (ak iR):=by trivial
abbrev kc:Stmt:=top 65
theorem xR:aH ["web","some"] ["web","some"] (ak kc):=by trivial
abbrev pA:Stmt:=top 66
theorem iS:aH ["one","other","both","odd"] ["one","other"] (ak pA):=by trivial
theorem zE(h:let cj:=gf;let cQ:=gE;let dH:=(av g6 cQ);let fH:=(av (yC iW dH) cj);let gS:=(av kG fH);(av qF gS) D σ H):(av qF (av kG (av (yC iW (av g6 gE)) gf))) D σ H:=h
abbrev fc:Stmt:=top 67
theorem gy:aH ["web","found","some"] ["web"] (ak fc):=by trivial
theorem pB(h:let cj:=gf;let cQ:=gE;let dH:=(aU iW cQ aO);let fH:=(av (eU oE oF dH) cj);(av g6 fH) D σ H):(av g6 (av (eU oE oF (aU iW gE aO)) gf)) D σ H:=h
abbrev fR:Stmt:=top 68
theorem bQ:aH ["web","ring","told","far","total","last","one"] ["web","ring","told","far"] (ak fR):=by trivial
theorem mW(h:let cj:=gf;let cQ:=gE;let dH:=(av g6 cQ);let fH:=kG;let gS:=(av (aU iW fH aO) dH);let mG:=qF;let nL:=(av (aU wH mG aO) gS);let rY:=(av (eU oE oF nL) cj);let sY:=(av wG rY);(av A4 sY) D σ H):(av A4 (av wG (av (eU oE oF (av (aU wH qF aO) (av (aU iW kG aO) (av g6 gE)))) gf))) D σ H:=h
abbrev dJ:Stmt:=top 69
theorem mX:aH ["web","ring","marks","others"] ["web","ring","marks","others"] (ak dJ):=by trivial
abbrev cJ:Stmt:=top 70
theorem cZ:aH ["web","rings","ring","paper","far","shorter","others"] ["web","rings","ring","paper"] (ak cJ):=by trivial
theorem mY(h:let cj:=gf;let cQ:=(av gE cj);let dH:=g6;let fH:=(av (aU iW dH aO) cQ);let gS:=(av kG fH);let mG:=qF;let nL:=(av (aU wH mG aO) gS);(av wG nL) D σ H):(av wG (av (aU wH qF aO) (av kG (av (aU iW g6 aO) (av gE gf))))) D σ H:=h
abbrev dM:Stmt:=top 71
theorem c6:aH ["told","rings","far","cell","way","rest","at"] ["told","rings","far","cell"] (ak dM):=by trivial
theorem mZ(h:let cj:=gf;let cQ:=gE;let dH:=(av (aU iW cQ aO) cj);let fH:=g6;let gS:=(av (aU wH fH aO) dH);let mG:=kG;let nL:=(av (aU FG mG aO) gS);let rY:=qF;let sY:=(av (aU MY rY aO) nL);let xN:=wG;let sq:=(av (aU MZ xN aO) sY);let qe:=A4;let sr:=(av (aU M0 qe aO) sq);let su:=(av C3 sr);let sy:=(av C4 su);(av HP sy) D σ H):(av HP (av C4 (av C3 (av (aU M0 A4 aO) (av (aU MZ wG aO) (av (aU MY qF aO) (av (aU FG kG aO) (av (aU wH g6 aO) (av (aU iW gE aO) gf))))))))) D σ H:=h
abbrev lq:Stmt:=top 72
theorem b9:aH ["web","rings","ring","cell","paper","far","way","rest","marks","told"] ["web","rings","ring","cell"] (ak lq):=by trivial
theorem vH(h:let cj:=gf;let cQ:=gE;let dH:=(av (aU iW cQ aO) cj);let fH:=g6;let gS:=(av (aU wH fH aO) dH);let mG:=kG;let nL:=(av (aU FG mG aO) gS);let rY:=qF;let sY:=(av (aU MY rY aO) nL);let xN:=wG;let sq:=(av (aU MZ xN aO) sY);let qe:=A4;let sr:=(av (aU M0 qe aO) sq);let su:=(av C3 sr);let sy:=(av C4 su);let EN:=(av HP sy);let EO:=(av B7 EN);let ER:=(av B8 EO);(av GU ER) D σ H):(av GU (av B8 (av B7 (av HP (av C4 (av C3 (av (aU M0 A4 aO) (av (aU MZ wG aO) (av (aU MY qF aO) (av (aU FG kG aO) (av (aU wH g6 aO) (av (aU iW gE aO) gf)))))))))))) D σ H:=h
abbrev xS:Stmt:=top 73
theorem jt:aH ["script","web","rings","head","cell","ring","paper","kept","found"] ["script"] (ak xS):=by trivial
theorem Ju(h:let cj:=gf;let cQ:=gE;let dH:=(aU iW cQ aO);let fH:=g6;let gS:=(av (aU wH fH aO) dH);let mG:=(av kG gS);let nL:=(av qF mG);let rY:=(av wG nL);let sY:=(av A4 rY);let xN:=(av C3 sY);let sq:=(av (eU oE oF xN) cj);let qe:=(av C4 sq);let sr:=HP;let su:=(av (aU FG sr aO) qe);let sy:=(av B7 su);(av B8 sy) D σ H):(av B8 (av B7 (av (aU FG HP aO) (av C4 (av (eU oE oF (av C3 (av A4 (av wG (av qF (av kG (av (aU wH g6 aO) (aU iW gE aO)))))))) gf))))) D σ H:=h
end
set_option genInjectivity false
set_option genSizeOf false
structure OB where
 Ce:Addr
 Cf:FuncData
 Cg:Addr
 Cj:FuncData
 zF:Addr
 zG:FuncData
 ES:Addr
 ET:FuncData
 xT:Addr
 xU:FuncData
 vI:Addr
 vJ:FuncData
 xV:Addr
 xW:FuncData
 vK:Addr
 vL:FuncData
 pC:Addr
 pD:FuncData
 EU:Addr
 EV:FuncData
 Jv:Addr
 Jw:FuncData
 Ck:Addr
 Cm:FuncData
 qf:Addr
 qg:FuncData
 EW:Addr
 EX:FuncData
 EY:Addr
 EZ:FuncData
 tH:Addr
 tI:FuncData
 vM:Addr
 vN:FuncData
 Cn:Addr
 Co:FuncData
 pF:Addr
 pG:FuncData
 vO:Addr
 vP:FuncData
 xX:Addr
 xY:FuncData
 E1:Addr
 E2:FuncData
 tJ:Addr
 tK:FuncData
 Cp:Addr
 Cq:FuncData
 zH:Addr
 zI:FuncData
 Cr:Addr
 Cs:FuncData
 vQ:Addr
 vR:FuncData
 xZ:Addr
 x6:FuncData
 x8:Addr
 x9:FuncData
 qh:Addr
 qi:FuncData
 tL:Addr
 tM:FuncData
 zJ:Addr
 zK:FuncData
 qj:Addr
 qk:FuncData
 vS:Addr
 vU:FuncData
 ya:Addr
 yb:FuncData
 mq:Addr
 mw:FuncData
 nN:Addr
 nO:FuncData
 vV:Addr
 vW:FuncData
 sA:Addr
 sC:FuncData
 tN:Addr
 tO:FuncData
 yc:Addr
 yd:FuncData
 vX:Addr
 vY:FuncData
 Ct:Addr
 Cu:FuncData
 Cv:Addr
 Cw:FuncData
 vZ:Addr
 v9:FuncData
 wc:Addr
 wd:FuncData
 zL:Addr
 zM:FuncData
 zN:Addr
 zO:FuncData
 zP:Addr
 zQ:FuncData
 Cy:Addr
 Cz:FuncData
 qm:Addr
 qo:FuncData
 nQ:Addr
 nR:FuncData
 nS:Addr
 nU:FuncData
 nV:Addr
 nW:FuncData
 nX:Addr
 nY:FuncData
 ye:Addr
 yf:FuncData
 LV:Addr
 LW:FuncData
 dh:Addr
 jJ:Addr
 pH:Addr
 iA:Addr
 yg:Addr
 cK:Addr
structure Txt(P:Program)(w:World)(base:Heap)(K:bI)(mg:kK)(a:OB):Prop where
 iB:Dn K mg "has_tie" o4 a.Ce a.Cf ["tie_set","tie"]
 fF:Dn K mg "ties_in" lU a.Cg a.Cj ["tie_set"]
 iT:Dn K mg "all_ties" mU a.zF a.zG ["web"]
 ly:Dn K mg "is_set" rX a.ES a.ET ["web","number"]
 lA:Dn K mg "check_set" k6 a.xT a.xU ["web","tie_set"]
 fS:Dn K mg "triples_in" hU a.vI a.vJ ["web","tie_set"]
 bU:Dn K mg "length_of" i8 a.xV a.xW ["web","tie_set"]
 kg:Dn K mg "odd_points" h7 a.vK a.vL ["web","tie_set"]
 eH:Dn K mg "drawn_together" eG a.pC a.pD ["leasts","one","other"]
 nZ:Dn K mg "pieces" nK a.EU a.EV ["web","tie_set"]
 zR:Dn K mg "rank" zx a.Jv a.Jw ["web"]
 pI:Dn K mg "is_even" o5 a.Ck a.Cm ["web","tie_set"]
 ff:Dn K mg "forest_trails" e8 a.qf a.qg ["web"]
 sD:Dn K mg "forest" rZ a.EW a.EX ["web"]
 n5:Dn K mg "chords" r6 a.EY a.EZ ["web"]
 ju:Dn K mg "ring_closed" jn a.tH a.tI ["web","trails","chord"]
 kh:Dn K mg "chord_ring" jV a.vM a.vN ["web","tie"]
 jK:Dn K mg "is_ring" lW a.Cn a.Co ["web","tie_set"]
 eI:Dn K mg "is_ring_number" gv a.pF a.pG ["web","number"]
 ic:Dn K mg "check_ring" jW a.vO a.vP ["web","ring"]
 je:J9 K mg "by_length" ja a.xX a.xY ["web","rings"] a.yg a.cK
 sE:Dn K mg "common" sd a.E1 a.E2 ["one","other"]
 gH:Dn K mg "bears_oddly" jo a.tJ a.tK ["tie_set","marks"]
 gz:Dn K mg "reduced" o7 a.Cp a.Cq ["rows","tie_set"]
 m3:Dn K mg "with_row" mV a.zH a.zI ["rows","added"]
 lX:Dn K mg "rows_of" o8 a.Cr a.Cs ["sets"]
 fT:Dn K mg "check_rank" jX a.vQ a.vR ["web"]
 lB:Dn K mg "even_sets" jc a.xZ a.x6 ["web"]
 jf:Dn K mg "all_rings" jd a.x8 a.x9 ["web"]
 fg:Dn K mg "shorter_rings" fb a.qh a.qi ["web","ring"]
 gI:Dn K mg "other_rings" gG a.tL a.tM ["web","ring"]
 ki:Dn K mg "parts_of" jY a.zJ a.zK ["rings","rows","ring"]
 fh:Dn K mg "marks_against" gY a.qj a.qk ["rows","ring"]
 kj:Dn K mg "ring_paper" jZ a.vS a.vU ["web","ring"]
 jg:Dn K mg "is_sum_of" lg a.ya a.yb ["ring","rings"]
 eS:Dn K mg "all_rings_shorter" cR a.mq a.mw ["web","ring","rings"]
 fU:Dn K mg "all_rings_other" dI a.nN a.nO ["web","ring","rings"]
 ie:Dn K mg "marks_part" ia a.vV a.vW ["web","marks","ring","rings"]
 iU:Dn K mg "paper_judged" iQ a.sA a.sC ["web","ring","paper"]
 gJ:Dn K mg "_law_cell_at" jq a.tN a.tO ["script","k"]
 eA:Dn K mg "_law_mixed" lj a.yc a.yd ["cell","k"]
 ko:Dn K mg "_law_length" j6 a.vX a.vY ["cell","way"]
 pJ:Dn K mg "_law_tie" pe a.Ct a.Cu ["cell","points","way"]
 pL:Dn K mg "_law_web" gx a.Cv a.Cw ["script","most","ranked"]
 ig:Dn K mg "_law_counts" j8 a.vZ a.v9 ["web","some"]
 kq:Dn K mg "_law_pieces" fQ a.wc a.wd ["web","some"]
 m4:Dn K mg "_law_even" j9 a.zL a.zM ["web","some"]
 kr:Dn K mg "_law_ring" iR a.zN a.zO ["web","some"]
 fB:Dn K mg "_law_long" kc a.zP a.zQ ["web","some"]
 lY:Dn K mg "_law_odd" pA a.Cy a.Cz ["one","other"]
 gZ:Dn K mg "_law_all_rings" fc a.qm a.qo ["web"]
 dN:Dn K mg "_law_rings_right" fR a.nQ a.nR ["web","ring","told","far"]
 dO:Dn K mg "_law_marks_right" dJ a.nS a.nU ["web","ring","marks","others"]
 fV:Dn K mg "_law_paper_right" cJ a.nV a.nW ["web","rings","ring","paper"]
 dP:Dn K mg "_law_list_spoilt" dM a.nX a.nY ["told","rings","far","cell"]
 lC:Dn K mg "_law_drawn" lq a.ye a.yf ["web","rings","ring","cell"]
 HQ:Dn K mg "law" xS a.LV a.LW ["script"]
 GW:mg "ValueError"=none
 HR:mg "all"=none
 LX:mg "any"=none
 Jx:mg "bool"=none
 lD:mg "enumerate"=none
 E3:mg "int"=none
 ku:mg "isinstance"=none
 dQ:mg "len"=none
 pM:mg "list"=none
 HS:mg "max"=none
 LY:mg "min"=none
 dR:mg "range"=none
 zS:mg "reversed"=none
 LZ:mg "set"=none
 lE:mg "sorted"=none
 HU:mg "sum"=none
 GX:mg "tuple"=none
 L0:mg "zip"=none
 yh:∃ t,mg "MOST_RANK"=some (.int 8 t)
 L1:mg "BadSet"=some (.ref a.dh)
 Kc:mg "NotRing"=some (.ref a.jJ)
 Kd:mg "NoChord"=some (.ref a.pH)
 Ke:mg "TooMany"=some (.ref a.iA)
 E4:∀ h:Heap,K.In h->h.Ns mainGlobals mg->PyProof.Rows.OwnCls "BadSet" a.dh [.type "ValueError",.type "Exception",.type "BaseException",.type "object"] "ValueError.__new__" mg h
 CA:∀ h:Heap,K.In h->h.Ns mainGlobals mg->PyProof.Rows.OwnCls "NotRing" a.jJ [.type "ValueError",.type "Exception",.type "BaseException",.type "object"] "ValueError.__new__" mg h
 CC:∀ h:Heap,K.In h->h.Ns mainGlobals mg->PyProof.Rows.OwnCls "NoChord" a.pH [.type "ValueError",.type "Exception",.type "BaseException",.type "object"] "ValueError.__new__" mg h
 CD:∀ h:Heap,K.In h->h.Ns mainGlobals mg->PyProof.Rows.OwnCls "TooMany" a.iA [.type "ValueError",.type "Exception",.type "BaseException",.type "object"] "ValueError.__new__" mg h
section
variable {P:Program}{w:World}{K:bI}{mg:kK}{base:Heap}{a:OB}{x:Str}{st:Stmt}{f c0 p0:Addr}{fd:FuncData}{ps:List Str}
abbrev Ok(_:Txt P w base K mg a)(_:Dn K mg x st f fd ps)(k:Nat)(sp:Sp):=kO P w K mg base Ax k f fd ps sp
abbrev CF(_:Txt P w base K mg a)(_:Dn K mg x st f fd ps)(k:Nat)(sp:Sp):=kO P w K mg base (DO P w) k f fd ps sp
abbrev So(_:Txt P w base K mg a)(_:J9 K mg x st f fd ps c0 p0)(k:Nat)(sp:Sp):=kO P w K mg base Ax k f fd ps sp
end
def zT:Sp:=fun vs H Q _=>∃(S:Int) (k:Nat),vs=[.int S,.int (k:Int)]/\Q (.bl (bit S k)) H
def zU:Sp:=fun vs H Q _=>∃ m:Nat,vs=[.int (m:Int)]/\Builtin.Int.intBits (m:Int)<=1000/\∀ D H',H D=none->au H H'->H' D=some (.lst (aG (bC (m:Int))))->Q (.ref D) H'
def yi:Sp:=fun vs H Q _=>∃ w p ts,vs=[.ref w]/\bg H w p ts/\HA p ts/\Q (.int (2^ts.length-1)) H
def CG:Sp:=fun vs H Q _=>∃ w p ts S,vs=[.ref w,.int S]/\bg H w p ts/\HA p ts/\Q (.bl (decide (0<=S/\S<2^ts.length))) H
def mJ(ts:List c9)(S:Int)(bad:Prop)(R:Nat->Prop):Prop:=(∃ m:Nat,S=(m:Int)/\m<2^ts.length/\R m)\/((S<0\/2^ts.length<=S)/\bad)
def we(C:Addr):Sp:=fun vs H Q E=>∃ w p ts S,vs=[.ref w,.int S]/\bg H w p ts/\HA p ts/\mJ ts S (E (.ref C) none H) fun _=>Q .gh H
def tP(C:Addr):Sp:=fun vs H Q E=>∃ w p ts S,vs=[.ref w,.int S]/\bg H w p ts/\HA p ts/\mJ ts S (E (.ref C) none H) fun m =>
 ∀ D ys H',H D=none->au H H'->H' D=some (.lst ys)->Paired (TupAt H') ys ((bC (m:Int)).map (cD ts))->Q (.ref D) H'
def tQ(C:Addr):Sp:=fun vs H Q E=>∃ w p ts S,vs=[.ref w,.int S]/\bg H w p ts/\HA p ts/\mJ ts S (∀ H',au H H'->E (.ref C) none H') fun m =>
 ∀ D H',au H H'->H' D=some (.lst (aG (qV p ts (m:Int))))->Q (.ref D) H'
def zV(C:Addr):Sp:=fun vs H Q E=>∃ w p ts S,vs=[.ref w,.int S]/\bg H w p ts/\HA p ts/\mJ ts S (∀ H',au H H'->E (.ref C) none H') fun m=>∀ H',au H H'->Q (.bl (decide (qV p ts (m:Int)=[]))) H'
section
variable {P:Program}{w:World}{K:bI}{mg:kK}{base:Heap}{a:OB}(T:Txt P w base K mg a)
theorem cE:Ok T T.iB 1 zT:=by
 refine T.iB.ok zu fun _ A _ s H vs Q E hr h=>?_
 ·obtain⟨S,k,rfl,q⟩:=h;refine⟨_,(aq (aE (cB bE (aD uS (aD uR (pv 0) (pv 1)) ah) ah (aK _)))),?_⟩;refine(aj rfl (aj rfl (bj ⟨(by lia),bj ⟨rfl,?_⟩⟩)))
  rw[Int.toNat_natCast,IY];exact q
theorem br:Ok T T.fF 2 zU:=by
 have cE:=cE T;refine T.fF.ok zw fun _ A _ s H vs Q E hr h=>?_
 ·obtain⟨m,rfl,hm,k⟩:=h;refine⟨_,(aq (aE (bh (own:=["tie"]) (fq:=["tie_set"]) (js:=[0]) (aJ (ak lU) ["tie_set"]) rfl (cT (by rfl) T.dR (aa (DC PySem.F.plainAttrs_int PyProof.Rows.slot_int_bit_length PyProof.Rows.type_int_bit_length Az (pv 0)) af)) (fun _ _ _ _=>(bD 0 (kZ ["tie","tie_set"]))) (fun _ _ _ _=>(cO (cS (aC cE hr T.iB.c aL (aa (pv 1) (aa (pv 0) af)))))) (fun _ _ _ _=>(pv 0))))),?_⟩
  refine(aj rfl ⟨rfl,aj rfl ⟨rfl,aj rfl ⟨(by lia),(by lia),fun D hD=>fu (lo:=0) (m:=Builtin.Int.intBits (m:Int)) (nB (bit (m:Int)) H D) (.start hD) (fun i acc H2 _ p=>p.len) (dl (Nat.ble_eq.mpr hm)) ?_ ?_⟩⟩⟩)
  ·intro i acc H2 hi p;rw[Int.zero_add];refine⟨rfl,aj rfl (aj rfl ⟨(m:Int),i,rfl,aj rfl (?_)⟩)⟩;cases hb:bit (m:Int) i with
   | true=>exact(aj rfl (p.yes hD (au.refl _) hb))
   | false=>exact p.no (au.refl _) hb
  ·intro acc H2 p;exact k D H2 hD p.1 (by rw[p.2.1,p.2.2];rfl)
theorem c7:Ok T T.iT 1 yi:=by
 refine T.iT.ok xM fun _ A _ s H vs Q E hr h=>?_
 ·obtain⟨wb,p,ts,rfl,hw,W,q⟩:=h;refine⟨_,(aq (aE (aD gV (aD jj ah (cz K T.dQ (aa (aM (cC K) (pv 0) ah) af))) ah))),?_⟩;obtain⟨b,xs,h1,h2,h3⟩:=hw.ex;have hl:=h3.length;have wl:=W.len;refine(aj rfl (bX (aY.of h1) (ao (j:=1) rfl) (oZ rfl (.inr (aY.of h2)) (bj ⟨⟨by lia,by lia,by decide⟩,bj (?_)⟩))))
  rw[Int.toNat_natCast,hl,Int.one_mul];exact q
theorem fW:Ok T T.ly 2 CG:=by
 have c7:=c7 T;refine T.ly.ok B9 fun _ A _ s H vs Q E hr h=>?_
 ·obtain⟨wb,p,ts,S,rfl,hw,W,q⟩:=h;refine⟨_,(aq (aE (kM (cB Dv (pv 1) ah (aK _)) (kL (cB qN (pv 1) (aC c7 hr T.iT.c aL (aa (pv 0) af)) (aK _)))))),?_⟩;refine(aj rfl (bj (aj rfl (dD (fun hlt=>?_) (fun hlt=>?_)))))
  ·have hlt:0<=S:=jw hlt;refine(aj rfl (aj rfl ⟨wb,p,ts,rfl,hw,W,_,_,rfl,rfl,?_⟩));have e:decide (S<=2^ts.length-1)=decide (0<=S/\S<2^ts.length):=decide_eq_decide.mpr ⟨fun z=>⟨hlt,by lia⟩,fun z=>by lia⟩
   rw[<-e]at q;exact q
  ·have hlt : ¬ 0<=S:=fun z=>hlt (cN z)
   rw[fk (fun z=>hlt z.1)]at q
   exact q
theorem lF:CF T T.lA 3 (we a.dh):=by
 have fW:=fW T;refine T.lA.yQ vC fun _ A _ s H vs Q E hr h=>?_
 ·obtain⟨wb,p,ts,S,rfl,hw,W,q⟩:=h;refine⟨_,(aq (bf (jP (cS (aC fW hr T.ly.c aL (aa (pv 0) (aa (pv 1) af))))) (aq (ny ef.MO rfl (by rfl) T.E4 PySem.F.excBase_ValueError (aa dZ af))) aP)),?_⟩
  refine jU ?_;intro cj;refine(aj rfl (aj rfl ⟨wb,p,ts,S,rfl,hw,W,?_⟩));have h2:((2:Int)^ts.length)=((2^ts.length:Nat):Int):=by simp
  rcases q with⟨m,rfl,hm,q⟩|⟨hS,q⟩
  ·rw[cN ⟨by lia,by lia⟩]
   exact(aj rfl (bK q))
  ·rw[fk (by lia)]
   exact(aj rfl (bW ⟨dl rfl,q⟩))
theorem cf:CF T T.fS 4 (tP a.dh):=by
 have lF:=lF T;have br:=br T;refine T.fS.yQ sX fun _ A _ s H vs Q E hr h=>?_
 ·obtain⟨wb,p,ts,S,rfl,hw,W,q⟩:=h;refine⟨_,(ai (eZ (aC lF hr T.lA.c ef.passes (aa (pv 0) (aa (pv 1) af))))
   (aq (aE (bh (own:=["tie"]) (fq:=["web"]) (js:=[0]) (aJ (ak hU) ["web","tie_set"]) rfl (mC K (aC br hr T.fF.c aL (aa (pv 1) af))) (fun _ _ _ _=>(bD 0 (kZ ["tie","web"]))) (fun _ _ _ _=>cI) (fun _ _ _ _=>(aM (cC K) (aM (cC K) (pv 1) ah) (pv 0))))))),?_⟩
  refine dw ?_;intro cj;refine(aj rfl (aj rfl ⟨wb,p,ts,S,rfl,hw,W,?_⟩));rcases q with⟨m,rfl,hm,q⟩|⟨hS,q⟩
  ·refine .inl ⟨m,rfl,hm,?_⟩;have wl:=W.len;have hb:Builtin.Int.intBits (m:Int)<=ts.length:=bits_le hm;refine(aj rfl ⟨m,rfl,by lia,fun L H1 _ s1 hL=>⟨L,rfl,⟨_,aQ.of hL⟩,fun D hD=>?_⟩⟩)
   obtain⟨b,xs,h1,h2,h3⟩:=(hw.same s1).ex;have wg:=h3.length;refine aV (xs:=aG (bC (m:Int))) (fun i acc H2=>au H1 H2/\H2 D=some (.lst acc)/\Paired (TupAt H2) acc (((bC (m:Int)).take i).map (cD ts))/\acc.length=i) ⟨au.new hD,ae,.nil,rfl⟩ ?_ ?_ ?_ ?_
   ·rintro i acc H2 _ ⟨s2,hd,pr,hac⟩;exact⟨aQ.of (s2 _ _ hL),hd,Nat.le_of_eq hac⟩
   ·rw[aA];refine dl (Nat.ble_eq.mpr (Nat.le_trans (List.length_filter_le _ _) ?_));rw[List.length_range]
    lia
   ·rintro i x acc H2 hx ⟨s2,hd,pr,hac⟩;obtain⟨k,hk,rfl⟩:=bJ hx;have oB:k<ts.length:=qv hm (m8 hk);have hkx:k<xs.length:=by lia
    obtain⟨t,ht,c,hc,hct⟩:=Paired.qU h3 (i:=k) (x:=xs[k]) (by simp[hkx])
    have LA:cD ts k=t:=by
     unfold cD;rw[List.getD_eq_getElem?_getD,ht];rfl
    refine⟨rfl,aj rfl (bX (aY.of (s2 _ _ h1)) (ao (j:=1) rfl) (aj rfl (bX (v:=xs[k]) (aY.of (s2 _ _ h2)) (ao (j:=k) (by simp[hkx])) (?_))))⟩
    rw[hc];refine⟨hd,s2.put hD,ae,?_,by rw[List.length_append,List.length_singleton,hac]⟩
    rw[List.take_add_one,hk,List.map_append];refine Paired.snoc (Paired.imp' (fun _ _ z=>z.tups (jz.put hd)) pr) ?_
    rw[LA];exact⟨c,rfl,jz.put hd _ _ (s2 _ _ hct)⟩
   ·rintro acc H2 ⟨s2,hd,pr,hac⟩;rw[aA,List.take_length]at pr;exact q D acc H2 (s1.free hD) (s1.trans s2) hd pr
  ·exact .inr ⟨hS,q⟩
theorem kA:CF T T.kg 5 (tQ a.dh):=by
 have cf:=cf T;refine T.kg.yQ eW fun _ A _ s H vs Q E hr h=>?_
 ·obtain⟨wb,p,ts,S,rfl,hw,W,q⟩:=h;refine⟨_,(ai (aF (i:=2) eW.nd rfl (Or.inr rfl) (aD yN (cU (aa ah af)) (aM (cC K) (pv 0) ah)))
   (ai (u9 rfl (mC K (aC cf hr T.fS.c ef.passes (aa (pv 0) (aa (pv 1) af)))) (Hv K (n:=3) rfl (bw (bD 3 eW.nd) (bw (bD 4 eW.nd) (bw (bD 5 eW.nd) iX))))
   (ai (Ak (pv 2) (pv 3) (getL K) ah Am set_list)
   (aq (Ak (pv 2) (pv 4) (getL K) ah Am set_list))))
   (aq (aE (bh (own:=["point"]) (fq:=["ends"]) (js:=[2]) (aJ (ak h7) ["web","tie_set","ends","one","other","length"]) rfl (cT (by rfl) T.dR (aa (aM (cC K) (pv 0) ah) af)) (fun _ _ _ _=>(bD 0 (kZ ["point","ends"]))) (fun _ _ _ _=>(cO (aI bE (aD bA (aM (mh K) (pv 1) (pv 0)) ah) ah (aK _)))) (fun _ _ _ _=>(pv 0))))))),?_⟩
  refine mF ?_;intro cj cQ dH fH;obtain⟨b,xs,h1,h2,h3⟩:=id hw.ex;have wp:=W.Po;refine⟨dl rfl,fun l0 DG=>?_⟩
  have s0:au H (upd H l0 (.lst [.int 0])):=au.new DG;refine(aj rfl (bX (aY.of (s0 _ _ h1)) (ao (j:=0) rfl) ⟨l0,(p:Int),aj rfl ⟨rfl,ae,by lia,by lia,(by rw[Int.toNat_natCast];show 1*p<=sizeLine;exact dl (Nat.ble_eq.mpr (by lia))),fun e he=>?_⟩⟩))
  have s1:=s0.trans (au.new (o:=.lst (List.replicate (p:Int).toNat [V.int 0]).flatten) he);have M4:upd (upd H l0 (.lst [.int 0])) e (.lst (List.replicate (p:Int).toNat [V.int 0]).flatten) e=some (.lst (kQ (List.replicate p 0))):=by
   rw[ae,Int.toNat_natCast,DV]
  generalize upd (upd H l0 (.lst [.int 0])) e (.lst (List.replicate (p:Int).toNat [V.int 0]).flatten)=H1 at s1 M4;have L3:H e=none:=s0.free he;refine(aj rfl (aj rfl ⟨wb,p,ts,S,rfl,hw.same s1,W,?_⟩));rcases q with⟨m,rfl,hm,q⟩|⟨hS,q⟩
  ·refine .inl ⟨m,rfl,hm,fun L ys H2 OD s2 hL pr=>⟨L,rfl,⟨_,aQ.of hL⟩,?_⟩⟩
   have s12:=s1.trans s2;have heL:e≠L:=aS M4 OD;have L4:ys.length<=24:=by
    rw[pr.length,List.length_map];have hb:Builtin.Int.intBits (m:Int)<=ts.length:=bits_le hm;have wl:=W.len;have:=List.length_filter_le (bit (m:Int)) (List.range (Builtin.Int.intBits (m:Int)));rw[List.length_range]at this;exact Nat.le_trans this (by lia)
   refine dm (K:=K) (a:=L) (xs:=ys) (fun i σ H3=>∃ v1 v2 v3,σ=[some (.ref wb),some (.int (m:Int)),some (.ref e),v1,v2,v3]/\(∀ x o,H2 x=some o->x≠e->H3 x=some o)/\H3 e=some (.lst (kQ ((((bC (m:Int)).map (cD ts)).take i).foldl stepT (List.replicate p 0)))))
    ⟨none,none,none,rfl,fun _ _ z _=>z,s2 _ _ M4⟩ (fun i σ H3 _ ⟨_,_,_,_,z,_⟩=>aQ.of (z _ _ hL (Ne.symm heL))) ?_ ?_
   ·rintro i y D' σ H3 hi ⟨v1,v2,v3,rfl,z3,CH⟩;obtain⟨t,ht,c,rfl,hc⟩:=Paired.qU pr hi;have hce:c≠e:=c8 hc (s2 _ _ M4) (by intro z;cases z)
    have hc3:=z3 _ _ hc hce;have Sq:t∈ts:=by
     obtain⟨k,hk,rfl⟩:=List.mem_map.mp (m8 ht);unfold cD;have oB:=qv hm hk;rw[List.getD_eq_getElem?_getD];simp[oB]
    obtain⟨a0,a1,b0,b1⟩:=W.Pn.ends t Sq;obtain⟨t1,t2,t3⟩:=t;dsimp only at a0 a1 b0 b1;obtain⟨j1,rfl⟩:=Int.eq_ofNat_of_zero_le a0;obtain⟨j2,rfl⟩:=Int.eq_ofNat_of_zero_le b0;generalize hE:(((bC (m:Int)).map (cD ts)).take i).foldl stepT (List.replicate p 0)=EE at CH;have P1:EE.length=p:=by rw[<-hE,oS,List.length_replicate]
    have P4:j1<EE.length:=by lia
    have M5:j2<(bump EE (j1:Int)).length:=by rw[jA];lia
    refine⟨c,_,rfl,aY.of hc3,rfl,_,_,rfl,_,_,rfl,_,_,rfl,rfl,?_⟩;refine(aj rfl (aj rfl ⟨e,_,j1,_,rfl,rfl,aQ.of CH,oU P4,_,_,rfl,rfl,e,_,_,j1,rfl,rfl,CH,qw (by rw[kQ,List.length_map];exact P4),?_⟩))
    rw[qX];refine(aj rfl (aj rfl ⟨e,_,j2,_,rfl,rfl,aQ.of ae,oU M5,_,_,rfl,rfl,e,_,_,j2,rfl,rfl,ae,qw (by rw[kQ,List.length_map];exact M5),?_⟩))
    rw[qX];refine⟨_,_,_,rfl,fun x o z hx=>by rw[ay hx,ay hx];exact z3 x o z hx,?_⟩
    rw[ae,List.take_add_one,ht,List.foldl_append,hE];rfl
   ·rintro σ H3 ⟨v1,v2,v3,rfl,z3,CH⟩;have Vq:wb≠e:=aS h1 L3;have g4:au H H3:=fun x o z=>z3 x o (s12 x o z) (aS z L3)
    have hE:H3 e=some (.lst (kQ (jl p ts (m:Int)))):=by
     rw[CH,List.take_of_length_le (by rw[<-pr.length];exact Nat.le_refl _),ue hm]
    have P1:(jl p ts (m:Int)).length=p:=by rw[ue hm,oS,List.length_replicate]
    refine(aj rfl (bX (aY.of (g4 _ _ h1)) (ao (j:=0) rfl) (aj rfl ⟨(by lia),(by lia),fun D hD=>fu (lo:=0) (m:=p) (nB (fun i=>decide ((jl p ts (m:Int)).getD i 0%2=1)) H3 D) (.start hD) (fun i acc H4 _ p=>p.len) (dl (Nat.ble_eq.mpr (by lia))) ?_ ?_⟩)))
    ·intro i acc H4 hi pk;rw[Int.zero_add];refine⟨rfl,aj rfl (aj rfl (lT (aQ.of (pk.1 _ _ hE)) (ao (j:=i) (oU (by rw[P1];exact hi))) (bj ⟨(jk rfl),rfl,aj rfl (?_)⟩)))⟩
     rw[Gs];cases hb:decide ((jl p ts (m:Int)).getD i 0%2=1) with
     | true=>exact(aj rfl (pk.yes hD (au.refl _) hb))
     | false=>exact pk.no (au.refl _) hb
    ·intro acc H4 pk;exact q D H4 (g4.trans pk.1) (by rw[pk.2.1,pk.2.2];rfl)
  ·exact .inr ⟨hS,q _ s1⟩
theorem pN:CF T T.pI 6 (zV a.dh):=by
 have kA:=kA T;refine T.pI.yQ zy fun _ A _ s H vs Q E hr h=>?_
 ·obtain⟨wb,p,ts,S,rfl,hw,W,q⟩:=h;refine⟨_,(aq (aE (cB (yO K hr.units) (aC kA hr T.kg.c ef.passes (aa (pv 0) (aa (pv 1) af))) (cU af) (aK _)))),?_⟩;refine(aj rfl (aj rfl ⟨wb,p,ts,S,rfl,hw,W,?_⟩));rcases q with⟨m,rfl,hm,q⟩|⟨hS,q⟩
  ·refine .inl ⟨m,rfl,hm,fun D H1 s1 hD=>⟨dl rfl,fun l hl=>?_⟩⟩
   have s2:au H1 (upd H1 l (.lst [])):=au.new hl;refine⟨_,_,.lst (aQ.of (s2 _ _ hD)) (nC _),.lst (aQ.of ae) .nil,kR _,rfl,?_⟩;rw[vf];exact q _ (s1.trans s2)
  ·exact .inr ⟨hS,q⟩
def E5:Sp:=fun vs H Q _=>∃(l:Addr) (L:Nat->Nat) (p u v:Nat),vs=[.ref l,.int (u:Int),.int (v:Int)]/\H l=some (.lst (bZ L p))/\p<=10/\u<p/\v<p/\
 ∀ D H',H D=none->au H H'->H' D=some (.lst (bZ (RM.join L u v) p))->Q (.ref D) H'
def CI(C:Addr):Sp:=fun vs H Q E=>∃ w p ts,∃ g:aB p ts,∃ S,vs=[.ref w,.int S]/\bg H w p ts/\mJ ts S (∀ H',au H H'->E (.ref C) none H') fun m =>
 ∀ D ys H',H D=none->au H H'->H' D=some (.lst ys)->Paired (HC D H H') ys ((eF (bz p ts g m) p).map (pieceOf (bz p ts g m) p))->Q (.ref D) H'
def GY:Sp:=fun vs H Q _=>∃ w p ts,∃ g:aB p ts,vs=[.ref w]/\bg H w p ts/\∀ H',au H H'->Q (.int (g.N.az.length:Int)) H'
theorem ck:Ok T T.eH 1 E5:=by
 refine T.eH.ok fN fun _ A _ s H vs Q E hr h=>?_
 ·obtain⟨l,L,p,u,v,rfl,hl,hp,hu,hv,q⟩:=h;refine⟨_,(ai (aF (i:=3) fN.nd rfl (Or.inr rfl) (bS (Bo rfl) (by rfl) T.LY PyProof.Rows.boot_min (aa (aM (mh K) (pv 0) (pv 1)) (aa (aM (mh K) (pv 0) (pv 2)) af))))
   (ai (aF (i:=4) fN.nd rfl (Or.inr rfl) (bS (tV rfl) (by rfl) T.HS PyProof.Rows.boot_max (aa (aM (mh K) (pv 0) (pv 1)) (aa (aM (mh K) (pv 0) (pv 2)) af))))
   (aq (aE (bh (own:=["least"]) (fq:=["low","high"]) (js:=[3,4]) (aJ (ak eG) ["leasts","one","other","low","high"]) rfl (mC K (pv 0)) (fun _ _ _ _=>(bD 0 (kZ ["least","low","high"]))) (fun _ _ _ _=>cI) (fun _ _ _ _=>(wL (aI bE (pv 0) (pv 2) (aK _)) (pv 1) (pv 0)))))))),?_⟩
  refine i9 ?_;intro cj cQ;refine(aj rfl (aj rfl (lT (aQ.of hl) (ao (j:=u) (bH hu)) (aj rfl (aj rfl (lT (aQ.of hl) (ao (j:=v) (bH hv)) ⟨_,_,rfl,?_⟩))))));refine(aj rfl (aj rfl (lT (aQ.of hl) (ao (j:=u) (bH hu)) (aj rfl (aj rfl (lT (aQ.of hl) (ao (j:=v) (bH hv)) ⟨_,_,rfl,?_⟩))))));refine(aj rfl ⟨l,rfl,⟨_,aQ.of hl⟩,fun D hD=>aV (xs:=bZ L p) (rh (RM.join L u v) H D) (.start hD) (fun i acc H2 _ pd=>⟨aQ.of (pd.1 _ _ hl),pd.len⟩) (by rw[bG];exact dl (Nat.ble_eq.mpr (by lia))) ?_ ?_⟩)
  ·intro i x acc H2 hx pd;obtain⟨hi,rfl⟩:=i5 hx;refine⟨rfl,aj rfl (aj rfl ⟨rfl,aj rfl (?_)⟩)⟩;rw[AH,i6]
   by_cases hm:L i=max (L u) (L v)
   ·rw[cN hm];refine bW (aj rfl (pd.next hD (au.refl _) ?_));rw[Gy];unfold RM.join;rw[if_pos hm]
   ·rw[fk hm];refine bK (aj rfl (pd.next hD (au.refl _) ?_));unfold RM.join;rw[if_neg hm]
  ·intro acc H2 pd;rw[bG]at pd;exact q D H2 hD pd.1 (by rw[pd.2.1,pd.2.2])
theorem jL:CF T T.nZ 5 (CI a.dh):=by
 have cf:=cf T;have ck:=ck T;refine T.nZ.yQ fE fun _ A _ s H vs Q E hr h=>?_
 ·obtain⟨wb,p,ts,g,S,rfl,hw,q⟩:=h;refine⟨_,(ai (aF (i:=2) fE.nd rfl (Or.inr rfl) (di (Hz rfl) (by rfl) T.pM PyProof.Rows.boot_list (aa (di wX (by rfl) T.dR PyProof.Rows.boot_range (aa (aM (cC K) (pv 0) ah) af)) af)))
   (ai (u9 rfl (mC K (aC cf hr T.fS.c ef.passes (aa (pv 0) (aa (pv 1) af)))) (Hv K (n:=3) rfl (bw (bD 3 fE.nd) (bw (bD 4 fE.nd) (bw (bD 5 fE.nd) iX))))
   (aq (aF (i:=2) fE.nd rfl (Or.inr rfl) (aC ck hr T.eH.c aL (aa (pv 2) (aa (pv 3) (aa (pv 4) af)))))))
   (ai (aF (i:=6) fE.nd rfl (Or.inl rfl) (cU af))
   (ai (u9 rfl (cT (by rfl) T.dR (aa (aM (cC K) (pv 0) ah) af)) (uQ (i:=7) fE.nd rfl (Or.inr rfl))
   (aq (bf (aI bE (aM (mh K) (pv 2) (pv 7)) (pv 7) (aK _)) (aq (eZ (J8 K (t8 PySem.F.plainAttrs_list PySem.F.slot_list_append PySem.F.type_list_append iq (pv 6) (aa (bh (own:=["point"]) (fq:=["leasts","start"]) (js:=[2,7]) (aJ (ak nK) ["web","tie_set","leasts","one","other","length","found","start"]) rfl (cT (by rfl) T.dR (aa (aM (cC K) (pv 0) ah) af)) (fun _ _ _ _=>(bD 0 (kZ ["point","leasts","start"]))) (fun _ _ _ _=>(cO (aI bE (aM (mh K) (pv 1) (pv 0)) (pv 2) (aK _)))) (fun _ _ _ _=>(pv 0))) af))))) aP)))
   (aq (aE (pv 6))))))),?_⟩
  refine Ca ?_;intro cj cQ dH fH gS mG nL;obtain⟨b,xs,h1,h2,h3⟩:=id hw.ex;have W:=g.CZ;have wp:=W.Po;have wl:=W.len;refine(aj rfl (bX (aY.of h1) (ao (j:=0) rfl) (aj rfl (fun r hr=>⟨r,p,rfl,ae,by lia,fun l hl=>?_⟩))))
  have s1:au H (upd (upd H r (.Bb 0 (p:Int))) l (.lst (sR p))):=(au.new hr).trans (au.new hl);have hl1:upd (upd H r (.Bb 0 (p:Int))) l (.lst (sR p)) l=some (.lst (bZ (fun x=>x) p)):=ae
  generalize upd (upd H r (.Bb 0 (p:Int))) l (.lst (sR p))=H1 at s1 hl1;refine(aj rfl (aj rfl ⟨wb,p,ts,S,rfl,hw.same s1,W,?_⟩));rcases q with⟨m,rfl,hm,q⟩|⟨hS,q⟩
  ·refine .inl ⟨m,rfl,hm,fun T0 ys H2 Pg s2 hT pr=>⟨T0,rfl,⟨_,aQ.of hT⟩,?_⟩⟩
   have L4:ys.length<=24:=by
    rw[pr.length,List.length_map];have hb:Builtin.Int.intBits (m:Int)<=ts.length:=bits_le hm;have:=List.length_filter_le (bit (m:Int)) (List.range (Builtin.Int.intBits (m:Int)));rw[List.length_range]at this;exact Nat.le_trans this (by lia)
   refine dm (K:=K) (a:=T0) (xs:=ys) (fun i σ H3=>∃ la v3 v4 v5,σ=[some (.ref wb),some (.int (m:Int)),some (.ref la),v3,v4,v5,none,none]/\au H2 H3/\H3 la=some (.lst (bZ (pW p ts g ((bC (m:Int)).take i)) p)))
    ⟨l,none,none,none,rfl,au.refl _,s2 _ _ hl1⟩ (fun i σ H3 _ ⟨_,_,_,_,_,z,_⟩=>aQ.of (z _ _ hT)) ?_ ?_
   ·rintro i y D' σ H3 hi ⟨la,v3,v4,v5,rfl,s3,hla⟩;obtain⟨t,ht,c,rfl,hc⟩:=Paired.qU pr hi;have hc3:=s3 _ _ hc;rw[List.getElem?_map]at ht;obtain⟨k,hk,hkt⟩:=Ah.mp ht;have oB:=qv hm (m8 hk);have ea:=AE (g:=g) oB;have eb:=AF (g:=g) oB;rw[hkt]at ea eb;have la':=g.N.al k oB;have lb':=g.N.bl k oB;refine⟨c,_,rfl,aY.of hc3,rfl,_,_,rfl,_,_,rfl,_,_,rfl,rfl,?_⟩;refine(aj rfl (aj rfl (aj rfl ⟨la,pW p ts g ((bC (m:Int)).take i),p,g.N.a k,g.N.b k,?_,hla,wp,la',lb',fun D H4 Kf s4 hD=>?_⟩)))
    ·rw[<-ea,<-eb];rfl
    ·refine⟨D,_,_,_,rfl,s3.trans s4,?_⟩;rw[hD,List.take_add_one,hk];show _=some (HO.lst (bZ (pW p ts g ((bC (m:Int)).take i++[k])) p));rw[yT]
   ·rintro σ H3 ⟨la,v3,v4,v5,rfl,s3,hla⟩;have hys:ys.length=(bC (m:Int)).length:=by rw[pr.length,List.length_map]
    rw[hys,List.take_length,yU hm]at hla;have g4:au H H3:=(s1.trans s2).trans s3;refine⟨dl rfl,fun D hD=>?_⟩
    have t0:rm (bz p ts g m) p H3 D 0 (upd H3 D (.lst [])):=rm.start hD;generalize upd H3 D (.lst [])=H4 at t0;refine(aj rfl (bX (aY.of (t0.1 _ _ (g4 _ _ h1))) (ao (j:=0) rfl) (aj rfl ⟨(by lia),(by lia),?_⟩)))
    refine iN (lo:=0) (n:=(p:Int).toNat) (fun i σ H5=>∃ v7,σ=[some (.ref wb),some (.int (m:Int)),some (.ref la),v3,v4,v5,some (.ref D),v7]/\rm (bz p ts g m) p H3 D i H5) ⟨none,rfl,t0⟩ ?_ ?_
    ·rintro i D' σ H5 hi ⟨v7,rfl,t5⟩;rw[Int.toNat_natCast]at hi;rw[Int.zero_add];have L5:=t5.1 _ _ hla;refine(aj rfl (aj rfl (lT (aQ.of L5) (ao (j:=i) (bH hi)) (aj rfl ⟨rfl,aj rfl (?_)⟩))));rw[i6]
     by_cases hr:bz p ts g m i=i
     ·rw[cN hr];obtain⟨Vr,HV⟩:∃ ys,H5 D=some (.lst ys):=let⟨_,ys,z,_⟩:=t5;⟨ys,z⟩;refine bW (aj rfl ⟨.inl ⟨rfl,_,aQ.of HV⟩,aj rfl (bX (aY.of (t5.1 _ _ (g4 _ _ h1))) (ao (j:=0) rfl) (aj rfl ⟨(by lia),(by lia),fun B hB=>fu (lo:=0) (m:=(p:Int).toNat) (nB (fun x=>decide (bz p ts g m x=i)) H5 B) (.start hB) (fun i acc H6 _ pk=>pk.len) (dl (Nat.ble_eq.mpr (by lia))) ?_ ?_⟩))⟩)
      ·intro x acc H6 hx pk;rw[Int.toNat_natCast]at hx;rw[Int.zero_add];refine⟨rfl,aj rfl (aj rfl (lT (aQ.of (pk.1 _ _ L5)) (ao (j:=x) (bH hx)) (aj rfl ⟨rfl,aj rfl (?_)⟩)))⟩;rw[i6];cases hb:decide (bz p ts g m x=i) with
       | true=>exact(aj rfl (pk.yes hB (au.refl _) hb))
       | false=>exact pk.no (au.refl _) hb
      ·intro acc H6 pk;have Ss:H6 B=some (.lst (aG (pieceOf (bz p ts g m) p i))):=by rw[pk.2.1,pk.2.2,Int.toNat_natCast];rfl
       obtain⟨Su,Sv,hl1,t7⟩:=t5.push hD hr pk.1 hB Ss;exact⟨D,Su,_,rfl,rfl,Sv,bT (by lia),aj rfl (t7)⟩
     ·rw[fk hr];exact bK (aj rfl (t5.skip hr))
    ·rintro σ H5 ⟨v7,rfl,t5⟩;rw[Int.toNat_natCast]at t5;obtain⟨s5,Sw,HV,Sx,Vs⟩:=t5;exact(aj rfl (q D Sw H5 (g4.free hD) (g4.trans s5) HV (Paired.imp' (fun _ _ ⟨e,he,hn,h0,z⟩=>⟨e,he,hn,g4.free h0,z⟩) Sx)))
  ·exact .inr ⟨hS,q _ s1⟩
theorem zW:Ok T T.zR 6 GY:=by
 have jL:=jL T;have c7:=c7 T;refine T.zR.ok GV fun _ A _ s H vs Q E hr h=>?_
 ·obtain⟨wb,p,ts,g,rfl,hw,q⟩:=h;refine⟨_,(aq (aE (aD cY (aD gV (cz K T.dQ (aa (aM (cC K) (pv 0) ah) af)) (aM (cC K) (pv 0) ah)) (cz K T.dQ (aa (aC jL hr T.nZ.c gP (aa (pv 0) (aa (aC c7 hr T.iT.c aL (aa (pv 0) af)) af))) af))))),?_⟩;obtain⟨b,xs,h1,h2,h3⟩:=id hw.ex;have wg:=h3.length;have e2:((2:Int)^ts.length-1)=((2^ts.length-1:Nat):Int):=by
   have h:((2:Int)^ts.length)=((2^ts.length:Nat):Int):=by simp
   have:=Nat.two_pow_pos ts.length
   lia
  have hlt:2^ts.length-1<2^ts.length:=by have:=Nat.two_pow_pos ts.length;lia
  refine(aj rfl (bX (aY.of h1) (ao (j:=1) rfl) (oZ rfl (.inr (aY.of h2)) (aj rfl (bX (aY.of h1) (ao (j:=0) rfl) (bj (?_)))))));refine(aj rfl (aj rfl ⟨wb,p,ts,rfl,hw,g.CZ,wb,p,ts,g,_,rfl,hw,.inl ⟨2^ts.length-1,e2,hlt,fun D ys H' Kf s' hD pr=>(oZ rfl (.inl (aQ.of hD)) (bj (?_)))⟩⟩))
  have hv:=Gx (g:=g);have hy:ys.length=(eF (bz p ts g (2^ts.length-1)) p).length:=by rw[pr.length,List.length_map]
  show Q (.int ((xs.length:Int)-(p:Int)+(ys.length:Int))) H';rw[wg,hy,hv];exact q H' s'
def zX(C:Addr):Sp:=fun vs H Q E=>∃ w p ts,∃ g:aB p ts,∃ S,vs=[.ref w,.int S]/\bg H w p ts/\mJ ts S (∀ H',au H H'->E (.ref C) none H') fun m=>∀ H',au H H'->Q (.bl (jD p ts g m)) H'
theorem eJ:CF T T.jK 7 (zX a.dh):=by
 have pN:=pN T;have jL:=jL T;have br:=br T;refine T.jK.yQ r9 fun _ A _ s H vs Q E hr h=>?_
 ·obtain⟨wb,p,ts,g,S,rfl,hw,q⟩:=h;refine⟨_,(ai (bf (jP (cS (aC pN hr T.pI.c ef.passes (aa (pv 0) (aa (pv 1) af))))) (aq (aE jx)) aP)
   (ai (lN (i:=2) r9.nd rfl rfl (own:=["piece"]) (fq:=[]) (js:=[]) (aJ (ak lW) ["web","tie_set","touched"]) rfl (mC K (aC jL hr T.nZ.c ef.passes (aa (pv 0) (aa (pv 1) af)))) (fun _ _ _ _=>(bD 0 (kZ ["piece"]))) (fun _ _ _ _=>(cO (aI nj (cz K T.dQ (aa (pv 0) af)) ah (aK _)))) (fun _ _ _ _=>(pv 0)))
   (aq (aE (kM (cB bE (cz K T.dQ (aa (pv 2) af)) ah (aK _)) (kL (cB bE (cz K T.dQ (aa (aM (mh K) (pv 2) ah) af)) (cz K T.dQ (aa (aC br hr T.fF.c aL (aa (pv 1) af)) af)) (aK _)))))))),?_⟩
  refine zz ?_;intro cj cQ dH;have W:=g.CZ;have wp:=g.p2;have wl:=g.len;refine(aj rfl (aj rfl ⟨wb,p,ts,S,rfl,hw,W,?_⟩));rcases q with⟨m,rfl,hm,q⟩|⟨hS,q⟩
  ·refine .inl ⟨m,rfl,hm,fun H1 s1=>(aj rfl (?_))⟩
   by_cases ev:qV p ts (m:Int)=[]
   ·rw[cN ev];rw[yY ev]at q;refine bK (aj rfl (aj rfl ⟨wb,p,ts,g,_,rfl,hw.same s1,.inl ⟨m,rfl,hm,fun D ys H2 Kf s2 hD pr=>⟨D,rfl,⟨_,aQ.of hD⟩,fun C hC=>?_⟩⟩⟩))
    have L4:ys.length<=10:=by
     rw[pr.length,List.length_map];unfold eF;have:=List.length_filter_le (fun x=>decide (bz p ts g m x=x)) (List.range p)
     rw[List.length_range]at this;exact Nat.le_trans this wp
    refine aV (xs:=ys) (rF (fun l=>decide (1<l.length)) ((eF (bz p ts g m) p).map (pieceOf (bz p ts g m) p)) H2 C) (.start hC) (fun i acc H3 _ sf=>⟨aQ.of (sf.1 _ _ hD),sf.len⟩) (e7 (by lia)) ?_ ?_
    ·intro i x acc H3 hx sf;obtain⟨l,hl,b,rfl,hbn,hb0,hb⟩:=Paired.qU pr hx;refine⟨rfl,aj rfl (oZ rfl (.inl (aQ.of (sf.1 _ _ hb))) (bj (aj rfl (?_))))⟩;cases C5:decide (1<l.length) with
     | true =>
       have e:decide ((1:Int)<((aG l).length:Int))=true:=cN (by have:=jw C5;rw[aA];lia)
       show if decide ((1:Int)<((aG l).length:Int))=true then _ else _
       rw[e];exact bW (aj rfl (sf.yes hC hl C5 ⟨b,rfl,hb⟩))
     | false =>
       have e:decide ((1:Int)<((aG l).length:Int))=false:=fk (by have:=of_decide_eq_false C5;rw[aA];lia)
       show if decide ((1:Int)<((aG l).length:Int))=true then _ else _
       rw[e];exact bK (sf.no hl C5)
    ·intro acc H3 sf;have pa:Paired (Jf H2) acc ((dj (bz p ts g m) p).map (pieceOf (bz p ts g m) p)):=by
      have h:=sf.2.2;rw[pr.length,List.take_length,List.filter_map]at h;exact h
     have hal:=pa.length;rw[List.length_map]at hal;refine(aj rfl (oZ rfl (.inl (aQ.of sf.2.1)) ⟨rfl,aj rfl (?_)⟩));have g4:=(s1.trans s2).trans sf.1;have Sy:Builtin.Int.intBits (m:Int)<=ts.length:=bits_le hm;generalize dj (bz p ts g m) p=tl at q pa hal;cases tl with
     | nil =>
       have hal:acc.length=0:=hal;rw[hal];exact bK (q H3 g4)
     | cons s r =>
       cases r with
       | nil =>
         cases pa with
         | cons hy pn =>
           cases pn;obtain⟨b,rfl,hb⟩:=hy;refine bW (aj rfl (lT (aQ.of sf.2.1) (ao (j:=0) rfl) (oZ rfl (.inl (aQ.of (sf.1 _ _ hb))) (aj rfl ⟨m,rfl,by lia,fun D4 H4 Vt s4 uJ=>(oZ rfl (.inl (aQ.of uJ)) ⟨rfl,?_⟩)⟩))))
           rw[aA,aA,i6];exact q H4 (g4.trans s4)
       | cons t r =>
         have hal:acc.length=r.length+2:=hal;have e:decide (V.int ((acc.length:Nat):Int)=V.int 1)=false:=fk fun z=>by
          have:=V.int.inj z
          lia
         rw[e];exact bK (q H3 g4)
   ·rw[fk ev];have er:jD p ts g m=false:=by
     unfold jD;rw[fk ev,Bool.false_and]
    rw[er]at q;exact bW (q H1 s1)
  ·exact .inr ⟨hS,q⟩
def n6:Sp:=fun vs H Q _=>∃ w p ts,∃ g:aB p ts,∃ S:Int,vs=[.ref w,.int S]/\bg H w p ts/\∀ H' (d:Bool),au H H'->(d=true↔∃ m:Nat,S=(m:Int)/\m<2^ts.length/\g.N.Ring m)->Q (.bl d) H'
theorem cu:Ok T T.eI 8 n6:=by
 have fW:=fW T;have eJ:=eJ T;refine T.eI.ok nM fun _ A _ s H vs Q E hr h=>?_
 ·obtain⟨wb,p,ts,g,S,rfl,hw,q⟩:=h;refine⟨_,(aq (aE (kM (aC fW hr T.ly.c aL (aa (pv 0) (aa (pv 1) af))) (kL (aC eJ hr T.jK.c gP (aa (pv 0) (aa (pv 1) af))))))),?_⟩;have Vu:((2:Int)^ts.length)=((2^ts.length:Nat):Int):=by simp
  refine(aj rfl (aj rfl ⟨wb,p,ts,S,rfl,hw,g.CZ,_,rfl,?_⟩))
  by_cases hs:0<=S/\S<2^ts.length
  ·rw[cN hs];obtain⟨m,rfl⟩:=Int.eq_ofNat_of_zero_le hs.1;have hm:m<2^ts.length:=by lia
   refine bW (aj rfl (aj rfl ⟨wb,p,ts,g,_,rfl,hw,.inl ⟨m,rfl,hm,fun H1 s1=>q H1 _ s1 ?_⟩⟩))
   rw[jE g hm];exact⟨fun r=>⟨m,rfl,hm,r⟩,fun⟨m',e,_,r⟩=>by
    have:m=m':=by lia
    rw[this];exact r⟩
  ·rw[fk hs];refine bK (q H false (au.refl _) ⟨fun z=>(Bool.false_ne_true z).elim,fun⟨m',e,hm,_⟩=>absurd ⟨by lia,by lia⟩ hs⟩)
def CJ:Sp:=fun vs H Q _=>∃ w p ts,∃ g:aB p ts,vs=[.ref w]/\bg H w p ts/\∀ D H',H D=none->au H H'->H' D=some (.lst (bZ (g.N.trail ts.length) p))->Q (.ref D) H'
def CK:Sp:=fun vs H Q _=>∃ w p ts,∃ g:aB p ts,vs=[.ref w]/\bg H w p ts/\∀ H',au H H'->Q (.int ((i7 p ts g:Nat):Int)) H'
def CL:Sp:=fun vs H Q _=>∃ w p ts,∃ g:aB p ts,vs=[.ref w]/\bg H w p ts/\∀ D H',H D=none->au H H'->H' D=some (.lst (aG g.N.az))->Q (.ref D) H'
def sF:Sp:=fun vs H Q _=>∃ w p ts,∃ g:aB p ts,∃(D:Addr) (c:Nat),vs=[.ref w,.ref D,.int (c:Int)]/\bg H w p ts/\H D=some (.lst (bZ (g.N.trail ts.length) p))/\c<ts.length/\Q (.int ((g.N.ring c:Nat):Int)) H
theorem E6{H:Hp}{xs:List V}{p:Nat}{ts:List c9}{g:aB p ts}{k:Nat}(h3:Paired (TupAt H) xs ts)(hk:k<ts.length):∃ c,xs[k]?=some (.ref c)/\H c=some (.tup [.int ((g.N.a k:Nat):Int),.int ((g.N.b k:Nat):Int),.int (cD ts k).2.2]):=by
 have hkx:k<xs.length:=by rw[h3.length];exact hk
 obtain⟨t,ht,c,hc,hct⟩:=Paired.qU h3 (i:=k) (x:=xs[k]) (by simp[hkx])
 have LA:t=cD ts k:=by
  have z:=oV hk;rw[ht]at z;exact Option.some.inj z
 refine⟨c,by rw[<-hc];simp[hkx],?_⟩
 rw[hct,<-AE hk,<-AF hk,LA];rfl
theorem cF:Ok T T.ff 2 CJ:=by
 have ck:=ck T;refine T.ff.ok aZ fun _ A _ s H vs Q E hr h=>?_
 ·obtain⟨wb,p,ts,g,rfl,hw,q⟩:=h;refine⟨_,(ai (aF (i:=1) aZ.nd rfl (Or.inl rfl) (di (Hz rfl) (by rfl) T.pM PyProof.Rows.boot_list (aa (di wX (by rfl) T.dR PyProof.Rows.boot_range (aa (aM (cC K) (pv 0) ah) af)) af)))
   (ai (aF (i:=2) aZ.nd rfl (Or.inl rfl) (aD yN (cU (aa ah af)) (aM (cC K) (pv 0) ah)))
   (ai (fJ PassesOwn.never rfl (cT (by rfl) T.dR (aa (cz K T.dQ (aa (aM (cC K) (pv 0) ah) af)) af)) (bD 3 aZ.nd)
   (ai (aF (i:=4) aZ.nd rfl (Or.inl rfl) (aM (cC K) (aM (cC K) (aM (cC K) (pv 0) ah) (pv 3)) ah))
   (ai (aF (i:=5) aZ.nd rfl (Or.inl rfl) (aM (cC K) (aM (cC K) (aM (cC K) (pv 0) ah) (pv 3)) ah))
   (aq (bf (aI qL (aM (mh K) (pv 1) (pv 4)) (aM (mh K) (pv 1) (pv 5)) (aK _)) (ai (aF (i:=6) aZ.nd rfl (Or.inr rfl) (aD iE (aD iE (aM (mh K) (pv 2) (pv 4)) (aM (mh K) (pv 2) (pv 5))) (aD jj ah (pv 3))))
   (ai (aF (i:=7) aZ.nd rfl (Or.inr rfl) (bS (tV rfl) (by rfl) T.HS PyProof.Rows.boot_max (aa (aM (mh K) (pv 1) (pv 4)) (aa (aM (mh K) (pv 1) (pv 5)) af))))
   (ai (lN (i:=2) aZ.nd rfl rfl (own:=["trail","least"]) (fq:=["bridge","moved"]) (js:=[6,7]) (aJ (ak e8) ["web","leasts","trails","tie","one","other","bridge","moved"]) rfl (IW K (by rfl) T.L0 (aa (pv 2) (aa (pv 1) af))) (fun _ _ _ _=>(Hv K (n:=2) rfl (bw (bD 0 (kZ ["trail","least","bridge","moved"])) (bw (bD 1 (kZ ["trail","least","bridge","moved"])) iX)))) (fun _ _ _ _=>cI) (fun _ _ _ _=>(wL (aI bE (pv 1) (pv 3) (aK _)) (aD iE (pv 0) (pv 2)) (pv 0))))
   (aq (aF (i:=1) aZ.nd rfl (Or.inl rfl) (aC ck hr T.eH.c aL (aa (pv 1) (aa (pv 4) (aa (pv 5) af))))))))) aP)))))
   (aq (aE (pv 2)))))),?_⟩
  refine o6 ?_;intro cj cQ dH fH gS mG nL rY sY xN;obtain⟨bt,xs,h1,h2,h3⟩:=id hw.ex;have wp:=g.p2;have wl:=g.len;have wg:=h3.length;refine(aj rfl (bX (aY.of h1) (ao (j:=0) rfl) (aj rfl (fun r hr=>⟨r,p,rfl,ae,by lia,fun l hl=>?_⟩))))
  have s1:au H (upd (upd H r (.Bb 0 (p:Int))) l (.lst (sR p))):=(au.new hr).trans (au.new hl);have hl1:upd (upd H r (.Bb 0 (p:Int))) l (.lst (sR p)) l=some (.lst (bZ (g.N.dX 0) p)):=ae;generalize upd (upd H r (.Bb 0 (p:Int))) l (.lst (sR p))=H1 at s1 hl1;refine⟨dl rfl,fun l0 DG=>?_⟩
  have s0:au H1 (upd H1 l0 (.lst [.int 0])):=au.new DG;refine(aj rfl (bX (aY.of (s0 _ _ (s1 _ _ h1))) (ao (j:=0) rfl) ⟨l0,(p:Int),aj rfl ⟨rfl,ae,by lia,by lia,(by rw[Int.toNat_natCast];show 1*p<=sizeLine;exact dl (Nat.ble_eq.mpr (by lia))),fun e he=>?_⟩⟩))
  have s2:=s0.trans (au.new (o:=.lst (List.replicate (p:Int).toNat [V.int 0]).flatten) he);have IV:upd (upd H1 l0 (.lst [.int 0])) e (.lst (List.replicate (p:Int).toNat [V.int 0]).flatten) e=some (.lst (bZ (g.N.trail 0) p)):=by
   rw[ae,Int.toNat_natCast,xq];rfl
  generalize upd (upd H1 l0 (.lst [.int 0])) e (.lst (List.replicate (p:Int).toNat [V.int 0]).flatten)=H2 at s2 IV;refine(aj rfl (bX (aY.of ((s1.trans s2) _ _ h1)) (ao (j:=1) rfl) (oZ rfl (.inr (aY.of ((s1.trans s2) _ _ h2))) (aj rfl ⟨(by lia),(by lia),?_⟩))))
  refine iN (lo:=0) (n:=(xs.length:Int).toNat) (fun k σ H3=>∃ la ta v3 v4 v5 v6 v7,σ=[some (.ref wb),some (.ref la),some (.ref ta),v3,v4,v5,v6,v7]/\au H H3/\H3 la=some (.lst (bZ (g.N.dX k) p))/\H3 ta=some (.lst (bZ (g.N.trail k) p))/\H ta=none)
   ⟨l,e,none,none,none,none,none,rfl,s1.trans s2,s2 _ _ hl1,IV,s1.free (s0.free he)⟩ ?_ ?_
  ·rintro k D' σ H3 hk ⟨la,ta,v3,v4,v5,v6,v7,rfl,s3,hla,HW,LP⟩;rw[Int.toNat_natCast,wg]at hk;rw[Int.zero_add];obtain⟨c,hxc,hct⟩:=E6 (g:=g) h3 hk;have hA:=g.N.al k hk;have hB:=g.N.bl k hk;have hls:=RM.xg (N:=g.N) k;have GZ:g.N.kJ k = !decide (g.N.dX k (g.N.a k)=g.N.dX k (g.N.b k)):=rfl;have htr:g.N.trail (k+1)=if g.N.kJ k=true then fun v=>if g.N.dX k v=max (g.N.dX k (g.N.a k)) (g.N.dX k (g.N.b k)) then g.N.trail k v^^^(g.N.trail k (g.N.a k)^^^g.N.trail k (g.N.b k)^^^2^k) else g.N.trail k v else g.N.trail k:=rfl
   generalize g.N.a k=A0 at *;generalize g.N.b k=B0 at *;refine(aj rfl (bX (aY.of (s3 _ _ h1)) (ao (j:=1) rfl) (aj rfl (bX (aY.of (s3 _ _ h2)) (ao (j:=k) hxc) (bX (aY.of (s3 _ _ hct)) (ao (j:=0) rfl) (?_))))));refine(aj rfl (bX (aY.of (s3 _ _ h1)) (ao (j:=1) rfl) (aj rfl (bX (aY.of (s3 _ _ h2)) (ao (j:=k) hxc) (bX (aY.of (s3 _ _ hct)) (ao (j:=1) rfl) (?_))))));refine(aj rfl (aj rfl (lT (aQ.of hla) (ao (j:=A0) (bH hA)) (aj rfl (aj rfl (lT (aQ.of hla) (ao (j:=B0) (bH hB)) ⟨rfl,aj rfl (?_)⟩))))));rw[i6]
   by_cases he:g.N.dX k A0=g.N.dX k B0
   ·rw[cN he]at GZ;rw[GZ,if_neg (by decide)]at hls htr
    rw[cN he];exact bK ⟨la,ta,_,_,_,_,_,rfl,s3,by rw[hls];exact hla,by rw[htr];exact HW,LP⟩
   ·rw[fk he]at GZ;rw[GZ,if_pos (by rfl)]at hls htr
    rw[fk he];have Sz:Builtin.bitXor (Builtin.bitXor ((g.N.trail k A0:Nat):Int) ((g.N.trail k B0:Nat):Int)) (1*2^(k:Int).toNat)=((g.N.trail k A0^^^g.N.trail k B0^^^2^k:Nat):Int):=by
     rw[g8,xor_int,xor_int]
    refine bW (aj rfl (aj rfl (lT (aQ.of HW) (ao (j:=A0) (bH hA)) (aj rfl (aj rfl (lT (aQ.of HW) (ao (j:=B0) (bH hB)) (bj (aj rfl (bj ⟨⟨by lia,by lia,by decide⟩,bj (?_)⟩)))))))))
    refine(aj rfl (aj rfl (lT (aQ.of hla) (ao (j:=A0) (bH hA)) (aj rfl (aj rfl (lT (aQ.of hla) (ao (j:=B0) (bH hB)) ⟨_,_,rfl,?_⟩))))));refine(aj rfl (aj rfl ⟨ta,la,rfl,⟨_,aQ.of HW⟩,⟨_,aQ.of hla⟩,fun D hD=>DQ (xs:=bZ (g.N.trail k) p) (ys:=bZ (g.N.dX k) p) (by rw[bG,bG]) (rh (g.N.trail (k+1)) H3 D) (.start hD) (fun i acc H4 _ pd=>⟨aQ.of (pd.1 _ _ HW),aQ.of (pd.1 _ _ hla),pd.len⟩) (by rw[bG];exact dl (Nat.ble_eq.mpr (by lia))) ?_ ?_⟩))
    ·intro i x y T0 acc H4 hx hy pd hT;obtain⟨hi,rfl⟩:=i5 hx;obtain⟨_,rfl⟩:=i5 hy;refine⟨T0,_,rfl,aY.of ae,rfl,_,_,rfl,_,_,rfl,rfl,rfl,aj rfl (aj rfl ⟨rfl,aj rfl (?_)⟩)⟩;rw[AH,i6]
     by_cases hm:g.N.dX k i=max (g.N.dX k A0) (g.N.dX k B0)
     ·rw[cN hm];refine bW (aj rfl (aj rfl (bj (pd.next hD (au.new hT) ?_))));show V.int (Builtin.bitXor _ (Builtin.bitXor (Builtin.bitXor _ _) _))=_;rw[Sz,xor_int,htr];show _=V.int (((if _ then _ else _:Nat)):Int)
      rw[if_pos hm]
     ·rw[fk hm];refine bK (aj rfl (pd.next hD (au.new hT) ?_));rw[htr];show _=V.int (((if _ then _ else _:Nat)):Int)
      rw[if_neg hm]
    ·intro acc H4 pd;rw[bG]at pd;have uJ:H4 D=some (.lst (bZ (g.N.trail (k+1)) p)):=by rw[pd.2.1,pd.2.2]
     refine(aj rfl (aj rfl (aj rfl ⟨la,g.N.dX k,p,A0,B0,rfl,pd.1 _ _ hla,wp,hA,hB,fun D2 H5 Vv s5 jN=>?_⟩)))
     exact⟨D2,D,_,_,_,_,_,rfl,(s3.trans pd.1).trans s5,by rw[hls];exact jN,s5 _ _ uJ,s3.free hD⟩
  ·rintro σ H3 ⟨la,ta,v3,v4,v5,v6,v7,rfl,s3,hla,HW,LP⟩;rw[Int.toNat_natCast,wg]at HW;exact(aj rfl (q ta H3 LP s3 HW))
theorem sG:Ok T T.sD 3 CK:=by
 have cF:=cF T;refine T.sD.ok lV fun _ A _ s H vs Q E hr h=>?_
 ·obtain⟨wb,p,ts,g,rfl,hw,q⟩:=h;refine⟨_,(ai (aF (i:=1) lV.nd rfl (Or.inl rfl) ah)
   (ai (fJ PassesOwn.never rfl (mC K (aC cF hr T.ff.c aL (aa (pv 0) af))) (bD 2 lV.nd)
   (aq (qK (i:=1) lV.nd rfl (Or.inl rfl) (pv 2) Dt)))
   (aq (aE (pv 1))))),?_⟩
  refine Cb ?_;intro cj cQ dH;refine(aj rfl ⟨wb,p,ts,g,rfl,hw,fun D H1 Kf s1 hD=>⟨D,rfl,⟨_,aQ.of hD⟩,?_⟩⟩)
  refine dm (K:=K) (a:=D) (xs:=bZ (g.N.trail ts.length) p) (fun i σ H2=>∃ v2,σ=[some (.ref wb),some (.int ((JZ (g.N.trail ts.length) i:Nat):Int)),v2]/\H2=H1) ⟨none,rfl,rfl⟩ (fun i σ H2 _ ⟨_,_,z⟩=>by rw[z];exact aQ.of hD) ?_ ?_
  ·rintro i x D' σ H2 hx ⟨v2,rfl,rfl⟩;obtain⟨hi,rfl⟩:=i5 hx;refine(aj rfl (aj rfl (bj ⟨some (.int ((g.N.trail ts.length i:Nat):Int)),?_,rfl⟩)));show[_,some (V.int (Builtin.bitOr _ _)),_]=_;rw[or_int];rfl
  ·rintro σ H2 ⟨v2,rfl,rfl⟩;rw[bG,yV];exact(aj rfl (q _ s1))
theorem jM:Ok T T.n5 4 CL:=by
 have sG:=sG T;have c7:=c7 T;have br:=br T;refine T.n5.ok Cc fun _ A _ s H vs Q E hr h=>?_
 ·obtain⟨wb,p,ts,g,rfl,hw,q⟩:=h;refine⟨_,(aq (aE (aC br hr T.fF.c aL (aa (aD iE (aC c7 hr T.iT.c aL (aa (pv 0) af)) (aC sG hr T.sD.c aL (aa (pv 0) af))) af)))),?_⟩;have wl:=g.len;refine(aj rfl ⟨wb,p,ts,rfl,hw,g.CZ,_,rfl,wb,p,ts,g,rfl,hw,fun H1 s1=>(bj ⟨(2^ts.length-1)^^^i7 p ts g,?_,?_,fun D H2 Kf s2 hD=>?_⟩)⟩)
  ·show[V.int (Builtin.bitXor _ _)]=_;rw[GA,xor_int]
  ·exact Nat.le_trans (bits_le uw) (by lia)
  ·rw[xr]at hD;exact q D H2 (s1.free Kf) (s1.trans s2) hD
theorem jv:Ok T T.ju 1 sF:=by
 refine T.ju.ok k7 fun _ A _ s H vs Q E hr h=>?_
 ·obtain⟨wb,p,ts,g,D,c,rfl,hw,hD,hc,q⟩:=h;refine⟨_,(ai (aF (i:=3) k7.nd rfl (Or.inl rfl) (aM (cC K) (aM (cC K) (pv 0) ah) (pv 2)))
   (aq (aE (aD iE (aD iE (aM (mh K) (pv 1) (aM (cC K) (pv 3) ah)) (aM (mh K) (pv 1) (aM (cC K) (pv 3) ah))) (aD jj ah (pv 2)))))),?_⟩
  refine dw ?_;intro cj;obtain⟨bt,xs,h1,h2,h3⟩:=id hw.ex;have wl:=g.len;obtain⟨b,hxc,hct⟩:=E6 (g:=g) h3 hc;have hA:=g.N.al c hc;have hB:=g.N.bl c hc;refine(aj rfl (bX (aY.of h1) (ao (j:=1) rfl) (aj rfl (bX (aY.of h2) (ao (j:=c) hxc) (?_)))));refine(aj rfl (aj rfl (bX (aY.of hct) (ao (j:=0) rfl) (lT (aQ.of hD) (ao (j:=g.N.a c) (bH hA)) (aj rfl (aj rfl (bX (aY.of hct) (ao (j:=1) rfl) (lT (aQ.of hD) (ao (j:=g.N.b c) (bH hB)) (bj (aj rfl (bj ⟨⟨by lia,by lia,by decide⟩,bj (?_)⟩)))))))))))
  show Q (V.int (Builtin.bitXor (Builtin.bitXor _ _) _)) H;rw[g8,xor_int,xor_int];exact q
def tR(C:Addr):Sp:=fun vs H Q E=>∃ w p ts,∃ g:aB p ts,∃ S,vs=[.ref w,.int S]/\bg H w p ts/\
 ((∃ c:Nat,S=(c:Int)/\c∈g.N.az/\∀ H',au H H'->Q (.int ((g.N.ring c:Nat):Int)) H')\/((∀ c∈g.N.az,S≠((c:Nat):Int))/\∀ H',au H H'->E (.ref C) none H'))
theorem kB:CF T T.kh 5 (tR a.pH):=by
 have jM:=jM T;have cF:=cF T;have jv:=jv T;refine T.kh.yQ sZ fun _ A _ s H vs Q E hr h=>?_
 ·obtain⟨wb,p,ts,g,S,rfl,hw,q⟩:=h;refine⟨_,(ai (bf (aI (yP K) (pv 1) (aC jM hr T.n5.c aL (aa (pv 0) af)) (by with_unfolding_all rfl)) (aq (ny ef.MO rfl (by rfl) T.CC PySem.F.excBase_ValueError (aa dZ af))) aP)
   (aq (aE (aC jv hr T.ju.c aL (aa (pv 0) (aa (aC cF hr T.ff.c aL (aa (pv 0) af)) (aa (pv 1) af))))))),?_⟩
  refine gF ?_;intro cj cQ;refine(aj rfl (aj rfl ⟨wb,p,ts,g,rfl,hw,fun D H1 Kf s1 hD=>(oZ rfl (.inl (aQ.of hD)) ⟨rfl,uv _,_,rfl,?_⟩)⟩))
  rcases q with⟨c,rfl,hc,q⟩|⟨hS,q⟩
  ·rw[rz,cN hc];refine bK (aj rfl (aj rfl ⟨wb,p,ts,g,rfl,hw.same s1,fun D2 H2 hn2 s2 jN=>(aj rfl ⟨wb,p,ts,g,D2,c,rfl,hw.same (s1.trans s2),jN,(RM.cL.mp hc).1,q _ (s1.trans s2)⟩)⟩))
  ·rw[Jd hS];exact bW ⟨dl rfl,q _ s1⟩
def CM:Sp:=fun vs H Q _=>∃ S1 S2,∃ a b:Nat,vs=[.int S1,.int S2]/\S1=(a:Int)/\S2=(b:Int)/\Builtin.Int.intBits ((a&&&b:Nat):Int)<=1000/\∀ H',au H H'->Q (.int (((bC ((a&&&b:Nat):Int)).length:Nat):Int)) H'
def E7:Sp:=fun vs H Q _=>∃ S1 S2,∃ a b:Nat,vs=[.int S1,.int S2]/\S1=(a:Int)/\S2=(b:Int)/\Builtin.Int.intBits ((a&&&b:Nat):Int)<=1000/\∀ H',au H H'->Q (.bl (decide ((bC ((a&&&b:Nat):Int)).length%2=1))) H'
theorem G0(n:Nat):decide (V.int (((n:Nat):Int)%2)=V.int 1)=decide (n%2=1):=decide_eq_decide.mpr ⟨fun z=>by have:=V.int.inj z;lia,fun z=>congrArg V.int (by lia)⟩
theorem sH:Ok T T.sE 3 CM:=by
 have br:=br T;refine T.sE.ok Cd fun _ A _ s H vs Q E hr h=>?_
 ·obtain⟨S1,S2,u,v,rfl,rfl,rfl,hb,q⟩:=h;refine⟨_,(aq (aE (cz K T.dQ (aa (aC br hr T.fF.c aL (aa (aD uS (pv 0) (pv 1)) af)) af)))),?_⟩;refine(aj rfl (aj rfl (bj ⟨u&&&v,?_,hb,fun D H1 hn s1 hD=>(oZ rfl (.inl (aQ.of hD)) (?_))⟩)))
  ·show[V.int (Builtin.bitAnd _ _)]=_;rw[and_int]
  ·rw[aA];exact q H1 s1
theorem gM:Ok T T.gH 4 E7:=by
 have sH:=sH T;refine T.gH.ok se fun _ A _ s H vs Q E hr h=>?_
 ·obtain⟨S1,S2,u,v,rfl,rfl,rfl,hb,q⟩:=h;refine⟨_,(aq (aE (cB bE (aD bA (aC sH hr T.sE.c aL (aa (pv 0) (aa (pv 1) af))) ah) ah (aK _)))),?_⟩;refine(aj rfl (aj rfl ⟨_,_,u,v,rfl,rfl,rfl,hb,fun H1 s1=>(bj ⟨(jk rfl),rfl,?_⟩)⟩))
  rw[G0];exact q H1 s1
def wj(C:Addr):Sp:=fun vs H Q E=>∃ w p ts S,vs=[.ref w,.int S]/\bg H w p ts/\HA p ts/\mJ ts S (∀ H',au H H'->E (.ref C) none H') fun m=>∀ H',au H H'->Q (.int (lenOf ts m)) H'
theorem aR:CF T T.bU 5 (wj a.dh):=by
 have cf:=cf T;refine T.bU.yQ vD fun _ A _ s H vs Q E hr h=>?_
 ·obtain⟨wb,p,ts,S,rfl,hw,W,q⟩:=h;refine⟨_,(aq (aE (bS (sumK K rfl) (by rfl) T.HU PyProof.Rows.boot_sum (aa (bh (own:=["tie"]) (fq:=[]) (js:=[]) (aJ (ak i8) ["web","tie_set"]) rfl (mC K (aC cf hr T.fS.c ef.passes (aa (pv 0) (aa (pv 1) af)))) (fun _ _ _ _=>(bD 0 (kZ ["tie"]))) (fun _ _ _ _=>cI) (fun _ _ _ _=>(aM (cC K) (pv 0) ah))) af)))),?_⟩
  refine(aj rfl (aj rfl ⟨wb,p,ts,S,rfl,hw,W,?_⟩));rcases q with⟨m,rfl,hm,q⟩|⟨hS,q⟩
  ·refine .inl ⟨m,rfl,hm,fun L ys H1 OD s1 hL pr=>⟨L,rfl,⟨_,aQ.of hL⟩,fun D hD=>?_⟩⟩
   have wl:=W.len;have L4:ys.length=(bC (m:Int)).length:=by rw[pr.length,List.length_map]
   have OE:ys.length<=24:=by
    rw[L4];have hb:Builtin.Int.intBits (m:Int)<=ts.length:=bits_le hm;have:=List.length_filter_le (bit (m:Int)) (List.range (Builtin.Int.intBits (m:Int)));rw[List.length_range]at this;exact Nat.le_trans this (by lia)
   refine aV (xs:=ys) (sS (fun k=>(cD ts k).2.2) (bC (m:Int)) H1 D) (.start hD) (fun i acc H2 _ pm=>⟨aQ.of (pm.1 _ _ hL),pm.len⟩) (e7 OE) ?_ ?_
   ·intro i x acc H2 hx pm;obtain⟨t,ht,c,rfl,hc⟩:=Paired.qU pr hx;rw[List.getElem?_map]at ht;obtain⟨k,hk,rfl⟩:=Ah.mp ht;exact⟨rfl,aj rfl (bX (aY.of (pm.1 _ _ hc)) (ao (j:=2) rfl) (pm.next hD (au.refl _) hk rfl))⟩
   ·intro acc H2 pm;rw[L4]at pm;exact⟨D,_,rfl,aQ.of pm.fin,q H2 (s1.trans pm.1)⟩
  ·exact .inr ⟨hS,q _ (au.refl _)⟩
def n8(ts:List c9)(x y:Nat):Prop:=lenOf ts x<lenOf ts y\/(lenOf ts x=lenOf ts y/\x<=y)
def E8(t:Addr)(lp:Pos):Sp:=fun vs H Q _=>∃ w p ts,∃ g:aB p ts,∃(l:Addr) (ms:List Nat),vs=[.ref w,.ref l]/\bg H w p ts/\H l=some (.lst (aG ms))/\ms.length<64/\(∀ m∈ms,m<2^ts.length)/\H t=some (.kH (gb (vv "by_length") lp))/\
 ∀ D ms' H',H D=none->au H H'->H' D=some (.lst (aG ms'))->ms'.Perm ms->ms'.Pairwise (n8 ts)->Q (.ref D) H'
theorem E9:∀{l:List Int},(∀ x∈l,0<=x)->∃ ms:List Nat,l=ms.map (fun x=>((x:Nat):Int))
 | [],_=>⟨[],rfl⟩
 | x::r,h=>by
   obtain⟨ms,e⟩:=E9 (l:=r) fun y hy=>h y (lJ _ hy)
   have hx:=h x List.mem_cons_self;refine⟨x.toNat::ms,?_⟩;rw[List.map_cons,<-e]
   congr 1
   lia
theorem lG:So T T.je 9 (E8 a.cK b8):=by
 have aR:=aR T;refine T.je.ok vE fun A _ s H vs Q E hr h=>?_
 ·obtain⟨wb,p,ts,g,l,ms,rfl,hw,hl,h64,hms,htb,q⟩:=h;refine⟨_,(aq (aE (EG (x:="ring") (fq:=["web"]) (js:=[0]) hr (aJ (ak ja) ["web","rings"]) rfl (by rfl) T.lE rfl T.je.F.hd (aa (pv 1) af) (fun _ _ _ _ hr=>(fm (aa (aC aR hr T.bU.c gP (aa (pv 1) (aa (pv 0) af))) (aa (pv 0) af))))))),?_⟩
  have W:=g.CZ;have wl:=g.len;have big:(2:Nat)^ts.length<=2^24:=Nat.pow_le_pow_right (by decide) wl
  have Jy:∀ n,n∈ms.map (fun x=>((x:Nat):Int))->∃ m:Nat,n=(m:Int)/\m∈ms:=fun n hn=>by
   obtain⟨m,hm,rfl⟩:=List.mem_map.mp hn;exact⟨m,rfl,hm⟩
  refine(aj rfl ⟨l,ms.map (fun x=>((x:Nat):Int)),fun z=>(lenOf ts z.toNat,z),rfl,by rw[<-cM];exact hl,by rw[List.length_map];exact h64,fun n hn=>?_,htb,fun H3 hk n hn=>?_,fun D ns' H4 hD s4 uJ hp hs=>?_⟩)
  ·obtain⟨m,rfl,hm⟩:=Jy n hn;have:=hms m hm;exact⟨by show(0:Int)<=(m:Int);lia,by show(m:Int)<1073741824;lia⟩
  ·obtain⟨m,rfl,hm⟩:=Jy n hn;have tp:jz H H3:=fun b xs e=>hk b _ e (fun y z=>nomatch z) (fun y z=>nomatch z)
   refine(aj rfl (aj rfl ⟨wb,p,ts,_,rfl,hw.tups tp,W,.inl ⟨m,rfl,hms m hm,fun H4 s4=>(aj rfl ⟨dl rfl,fun d hd=>?_⟩)⟩⟩))
   exact⟨s4.trans (au.new hd),d,rfl,ae⟩
  ·obtain⟨ms',rfl⟩:∃ ms' : List Nat,ns' = ms'.map (fun x=>((x:Nat):Int)):=by
    refine E9 fun x hx=>?_
    obtain⟨m,rfl,_⟩:=Jy x (hp.mem_iff.mp hx)
    lia
   have OF:ms'.Perm ms:=by
    have:=hp.map Int.toNat;rw[List.map_map,List.map_map]at this;have e:∀ l:List Nat,l.map (Int.toNat∘fun x=>((x:Nat):Int))=l:=fun l=>by
     induction l with
     | nil=>rfl
     | cons x r ih=>rw[List.map_cons,ih];rfl
    rw[e,e]at this;exact this
   refine q D ms' H4 hD s4 (by rw[cM];exact uJ) OF ?_
   rw[List.pairwise_map]at hs;refine List.Pairwise.imp_of_mem (fun {x y} hx hy h=>?_) hs
   have hx:=hms x (OF.mem_iff.mp hx);have hy:=hms y (OF.mem_iff.mp hy);have h:lenOf ts x*1073741824+(x:Int)<=lenOf ts y*1073741824+(y:Int):=h;unfold n8
   lia
structure oh(p:Nat)(ts:List c9)(g:aB p ts)(l:List Nat):Prop where
 pw:l.Pairwise (n8 ts)
 nd:l.Nodup
 all:∀ r,r∈l↔r<2^ts.length/\g.N.Ring r
theorem oh.few{p:Nat}{ts:List c9}{g:aB p ts}{l:List Nat}(h:oh p ts g l)(h9:ts.length<=9):l.length<64:=RM.rV (N:=g.N) h9 h.nd fun m hm=>(h.all m).mp hm
theorem zY{ts:List c9}{l l' : List Nat}(h9:ts.length<=24)(hp:l.Perm l')(lt:∀ r∈l,r<2^ts.length)(pw:l.Pairwise (n8 ts))(SA:l'.Pairwise (n8 ts)):l=l':=by
 have big:(2:Nat)^ts.length<=2^24:=Nat.pow_le_pow_right (by decide) h9
 have lt' : ∀ r∈l',r<2^ts.length:=fun r hr=>lt r (hp.mem_iff.mpr hr)
 have P5:∀{rs:List Nat},(∀ r∈rs,r<2^ts.length)->rs.Pairwise (n8 ts)->(rs.map fun r=>lenOf ts r*1073741824+(r:Int)).Pairwise (·<=·):=fun {rs} hlt zk=>by
  rw[List.pairwise_map];refine List.Pairwise.imp_of_mem (fun {x y} hx hy h=>?_) zk
  have hx:=hlt x hx;have hy:=hlt y hy;unfold n8 at h
  lia
 have e:=PySem.W.lks_uniq (hp.map fun r=>lenOf ts r*1073741824+(r:Int)) (P5 lt pw) (P5 lt' SA)
 refine List.ext_getElem hp.length_eq fun i a b=>?_
 have e1:=congrArg (fun l=>l[i]?) e
 rw[List.getElem?_map,List.getElem?_map,List.getElem?_eq_getElem a,List.getElem?_eq_getElem b]at e1;have e1:lenOf ts l[i]*1073741824+(l[i]:Int)=lenOf ts l'[i]*1073741824+(l'[i]:Int):=Option.some.inj e1;have b1:=lt _ (List.getElem_mem a);have b2:=lt' _ (List.getElem_mem b)
 lia
theorem oh.uniq{p:Nat}{ts:List c9}{g:aB p ts}{l l' : List Nat}(h:oh p ts g l)(h' : oh p ts g l'):l=l' :=
 zY g.len ((List.perm_ext_iff_of_nodup h.nd h'.nd).mpr fun r=>(h.all r).trans (h'.all r).symm) (fun r hr=>((h.all r).mp hr).1) h.pw h'.pw
def tS(C:Addr):Sp:=fun vs H Q E=>∃ w p ts,∃ g:aB p ts,vs=[.ref w]/\bg H w p ts/\((g.N.az.length<=8/\∀ H',au H H'->Q .gh H')\/(8<g.N.az.length/\∀ H',au H H'->E (.ref C) none H'))
def wk:Sp:=fun vs H Q _=>∃ w p ts,∃ g:aB p ts,vs=[.ref w]/\bg H w p ts/\g.N.az.length<=8/\∀ D H',H D=none->au H H'->H' D=some (.lst (aG (RM.rW g.N g.N.az.length)))->Q (.ref D) H'
def wm(C t:Addr)(lp:Pos):Sp:=fun vs H Q E=>∃ w p ts,∃ g:aB p ts,vs=[.ref w]/\bg H w p ts/\H t=some (.kH (gb (vv "by_length") lp))/\
 ((g.N.az.length<=8/\ts.length<=9/\∀ D l H',H D=none->au H H'->H' D=some (.lst (aG l))->oh p ts g l->Q (.ref D) H')\/(8<g.N.az.length/\∀ H',au H H'->E (.ref C) none H'))
theorem cg:CF T T.fT 7 (tS a.iA):=by
 have zW:=zW T;refine T.fT.yQ tw fun _ A _ s H vs Q E hr h=>?_
 ·obtain⟨wb,p,ts,g,rfl,hw,q⟩:=h;refine⟨_,(aq (bf (aI nj (aC zW hr T.zR.c aL (aa (pv 0) af)) (Gm (by rfl) T.yh) (aK _)) (aq (ny ef.MO rfl (by rfl) T.CD PySem.F.excBase_ValueError (aa dZ af))) aP)),?_⟩
  refine jU ?_;intro cj;refine(aj rfl ⟨wb,p,ts,g,rfl,hw,fun H1 s1=>(bj (aj rfl (?_)))⟩)
  rcases q with⟨h8,q⟩|⟨h8,q⟩
  ·rw[fk (by lia)]
   exact bK (q H1 s1)
  ·rw[cN (by lia)]
   exact bW ⟨dl rfl,q H1 s1⟩
theorem lH:Ok T T.lB 6 wk:=by
 have jM:=jM T;have kB:=kB T;refine T.lB.ok fO fun _ A _ s H vs Q E hr h=>?_
 ·obtain⟨wb,p,ts,g,rfl,hw,h8,q⟩:=h;refine⟨_,(ai (aF (i:=1) fO.nd rfl (Or.inl rfl) (cU (aa ah af)))
   (ai (fJ PassesOwn.never rfl (mC K (aC jM hr T.n5.c aL (aa (pv 0) af))) (bD 2 fO.nd)
   (ai (aF (i:=3) fO.nd rfl (Or.inr rfl) (aC kB hr T.kh.c gP (aa (pv 0) (aa (pv 2) af))))
   (aq (aF (i:=1) fO.nd rfl (Or.inl rfl) (aD (Bw K) (pv 1) (bh (own:=["even"]) (fq:=["ring"]) (js:=[3]) (aJ (ak jc) ["web","found","chord","ring"]) rfl (mC K (pv 1)) (fun _ _ _ _=>(bD 0 (kZ ["even","ring"]))) (fun _ _ _ _=>cI) (fun _ _ _ _=>(aD iE (pv 0) (pv 1)))))))))
   (aq (aE (pv 1))))),?_⟩
  refine mF ?_;intro cj cQ dH fH;have wl:=g.len;refine⟨dl rfl,fun F hF=>?_⟩
  have s1:au H (upd H F (.lst [.int 0])):=au.new hF;have P6:upd H F (.lst [.int 0]) F=some (.lst (aG (RM.rW g.N 0))):=by rw[RM.EI];exact ae
  generalize upd H F (.lst [.int 0])=H1 at s1 P6;refine(aj rfl ⟨wb,p,ts,g,rfl,hw.same s1,fun C H2 hC s2 zZ=>?_⟩)
  refine⟨C,rfl,⟨_,aQ.of zZ⟩,dm (K:=K) (a:=C) (xs:=aG g.N.az) (fun i σ H3=>∃ D v2 v3,σ=[some (.ref wb),some (.ref D),v2,v3]/\H D=none/\au H H3/\H3 C=some (.lst (aG g.N.az))/\H3 D=some (.lst (aG (RM.rW g.N i)))) ⟨F,none,none,rfl,hF,s1.trans s2,zZ,s2 _ _ P6⟩ (fun i σ H3 _ ⟨_,_,_,_,_,_,z,_⟩=>aQ.of z) ?_ ?_⟩
  ·rintro i y D' σ H3 hi ⟨D,v2,v3,rfl,hD,s3,P7,uc⟩;obtain⟨c,mK,rfl⟩:=bJ hi;have Oq:=m8 mK;have xx:=(oA.mp mK).1;have el:(RM.rW g.N i).length=2^i:=by unfold RM.rW;rw[List.length_map,List.length_range]
   have pw:(2:Nat)^i<=2^7:=Nat.pow_le_pow_right (by decide) (by lia)
   refine(aj rfl (aj rfl ⟨wb,p,ts,g,_,rfl,hw.same s3,.inl ⟨c,rfl,Oq,fun H4 s4=>?_⟩⟩))
   have uJ:=s4 _ _ uc;refine(aj rfl (aj rfl ⟨D,rfl,⟨_,aQ.of uJ⟩,fun X hX=>aV (K:=K) (a:=D) (xs:=aG (RM.rW g.N i)) (fun k acc H5=>au H4 H5/\H5 X=some (.lst acc)/\acc=aG (((RM.rW g.N i).take k).map fun e=>e^^^g.N.ring c)) ⟨au.new hX,ae,rfl⟩ (fun k acc H5 _ z=>⟨aQ.of (z.1 _ _ uJ),z.2.1,by rw[z.2.2,aA,List.length_map,List.length_take];lia⟩) (Nat.le_of_lt (bT (by rw[aA];lia))) ?_ ?_⟩))
   ·rintro k x acc H5 hx ⟨s5,M6,rfl⟩;obtain⟨e,SD,rfl⟩:=bJ hx;refine⟨rfl,aj rfl (aj rfl (bj ⟨M6,s5.put hX,ae,?_⟩))⟩;rw[take3 SD,List.map_append,List.map_singleton,bL];show _++[V.int (Builtin.bitXor _ _)]=_;rw[xor_int]
   ·rintro acc H5 ⟨s5,M6,rfl⟩;rw[aA,List.take_length]at M6;have FN:=s3.trans (s4.trans s5);refine⟨D,X,_,_,rfl,rfl,aQ.of (s5 _ _ uJ),aQ.of M6,?_,fun l hl=>?_⟩
    ·rw[aA,aA,List.length_map];exact Nat.le_of_lt (bT (by lia))
    ·refine⟨l,_,_,rfl,FN.free hl,FN.trans (au.new hl),?_,?_⟩
     ·exact au.new hl _ _ ((s4.trans s5) _ _ P7)
     ·rw[ae,RM.EJ mK];unfold aG;rw[List.map_append]
  ·rintro σ H3 ⟨D,v2,v3,rfl,hD,s3,P7,uc⟩;rw[aA]at uc;exact(aj rfl (q D H3 hD s3 uc))
theorem fG:CF T T.jf 10 (wm a.iA a.cK b8):=by
 have cg:=cg T;have lH:=lH T;have eJ:=eJ T;have lG:=lG T;refine T.jf.yQ vF fun _ A _ s H vs Q E hr h=>?_
 ·obtain⟨wb,p,ts,g,rfl,hw,htb,q⟩:=h;refine⟨_,(ai (eZ (aC cg hr T.fT.c ef.passes (aa (pv 0) af)))
   (aq (aE (aC lG hr T.je.c aL (aa (pv 0) (aa (bh (own:=["even"]) (fq:=["web"]) (js:=[0]) (aJ (ak jd) ["web"]) rfl (mC K (aC lH hr T.lB.c aL (aa (pv 0) af))) (fun _ _ _ _=>(bD 0 (kZ ["even","web"]))) (fun _ _ _ _=>(cO (cS (aC eJ hr T.jK.c gP (aa (pv 1) (aa (pv 0) af)))))) (fun _ _ _ _=>(pv 0))) af)))))),?_⟩
  refine dw ?_;intro cj;rcases q with⟨h8,h9,q⟩|⟨h8,q⟩
  ·refine(aj rfl ⟨wb,p,ts,g,rfl,hw,.inl ⟨h8,fun H1 s1=>?_⟩⟩)
   refine(aj rfl (aj rfl ⟨wb,p,ts,g,rfl,hw.same s1,h8,fun D H2 hD s2 jN=>?_⟩))
   have el:(RM.rW g.N g.N.az.length).length=2^g.N.az.length:=by unfold RM.rW;rw[List.length_map,List.length_range]
   have pw:(2:Nat)^g.N.az.length<=2^8:=Nat.pow_le_pow_right (by decide) h8
   refine⟨D,rfl,⟨_,aQ.of jN⟩,fun X hX=>aV (K:=K) (a:=D) (xs:=aG (RM.rW g.N g.N.az.length)) (fun i acc H3=>au H2 H3/\H3 X=some (.lst acc)/\acc=aG (((RM.rW g.N g.N.az.length).take i).filter fun e=>jD p ts g e)) ⟨au.new hX,ae,rfl⟩ (fun i acc H3 _ z=>⟨aQ.of (z.1 _ _ jN),z.2.1,?_⟩) (Nat.le_of_lt (bT (by rw[aA];lia))) ?_ ?_⟩
   ·rw[z.2.2,aA];exact Nat.le_trans (List.length_filter_le _ _) (by rw[List.length_take];lia)
   ·rintro i x acc H3 hx ⟨s3,jO,rfl⟩;obtain⟨e,hei,rfl⟩:=bJ hx;have he:=RM.A3.mp (m8 hei);refine⟨rfl,aj rfl (aj rfl ⟨wb,p,ts,g,_,rfl,hw.same ((s1.trans s2).trans s3),.inl ⟨e,rfl,he.2,fun H4 s4=>(aj rfl (?_))⟩⟩)⟩
    cases hb:jD p ts g e with
    | true =>
      refine bW (aj rfl ⟨s4 _ _ jO,(s3.trans s4).put hX,ae,?_⟩);rw[take3 hei,List.filter_append,List.filter_cons,if_pos hb];exact(bL _ _).symm
    | false =>
      refine bK ⟨s3.trans s4,s4 _ _ jO,?_⟩;rw[take3 hei,List.filter_append,List.filter_cons,if_neg (by rw[hb];decide),List.filter_nil,List.append_nil]
   ·rintro acc H3 ⟨s3,jO,rfl⟩;rw[aA,List.take_length]at jO;have g4:=(s1.trans s2).trans s3;have mem:∀ m,m∈((RM.rW g.N g.N.az.length).filter fun e=>jD p ts g e)↔m<2^ts.length/\g.N.Ring m:=fun m=>by
     rw[List.mem_filter,RM.A3];exact⟨fun z=>⟨z.1.2,(jE g z.1.2).mp z.2⟩,fun z=>⟨⟨z.2.2.1,z.1⟩,(jE g z.1).mpr z.2⟩⟩
    have nd:((RM.rW g.N g.N.az.length).filter fun e=>jD p ts g e).Nodup:=List.Pairwise.filter _ RM.B4
    refine⟨wb,p,ts,g,X,_,rfl,hw.same g4,jO,RM.rV (N:=g.N) h9 nd fun m hm=>(mem m).mp hm,fun m hm=>((mem m).mp hm).1,g4 _ _ htb,fun D2 l H4 OG s4 uJ pm SE=>?_⟩
    exact q D2 l H4 (g4.free OG) (g4.trans s4) uJ ⟨SE,pm.nodup_iff.mpr nd,fun r=>by rw[pm.mem_iff];exact mem r⟩
  ·exact(aj rfl ⟨wb,p,ts,g,rfl,hw,.inr ⟨h8,q⟩⟩)
def z7:Sp:=fun vs H Q _=>∃(l:Addr) (rows:List RM.Row3) (x:Nat),vs=[.ref l,.int (x:Int)]/\gD H l rows/\∀ c H',au H H'->H' c=some (.tup [.int (((RM.bq rows x 0).1:Nat):Int),.int (((RM.bq rows x 0).2:Nat):Int)])->Q (.ref c) H'
def yj:Sp:=fun vs H Q _=>∃(l b:Addr) (rows:List RM.Row3) (a:RM.Row3),vs=[.ref l,.ref b]/\gD H l rows/\H b=some (.tup (pX a))/\rows.length<=200/\∀ l' H',au H H'->gD H' l' (RM.sV rows a)->Q (.ref l') H'
def z8:Sp:=fun vs H Q _=>∃(l:Addr) (B:List Nat),vs=[.ref l]/\H l=some (.lst (aG B))/\B.length<=200/\∀ l' rows H',au H H'->gD H' l' rows->RM.Rw B rows->rows=RM.gX B B.length->Q (.ref l') H'
theorem cy:Ok T T.gz 2 z7:=by
 have cE:=cE T;refine T.gz.ok ek fun _ A _ s H vs Q E hr h=>?_
 ·obtain⟨l,rows,x,rfl,hR,q⟩:=h;refine⟨_,(ai (aF (i:=2) ek.nd rfl (Or.inl rfl) (pv 1))
   (ai (aF (i:=3) ek.nd rfl (Or.inl rfl) ah)
   (ai (fJ PassesOwn.never rfl (mC K (pv 0)) (Hv K (n:=3) rfl (bw (bD 4 ek.nd) (bw (bD 5 ek.nd) (bw (bD 6 ek.nd) iX))))
   (aq (bf (cS (aC cE hr T.iB.c aL (aa (pv 2) (aa (pv 4) af)))) (ai (qK (i:=2) ek.nd rfl (Or.inl rfl) (pv 5) uT)
   (aq (qK (i:=3) ek.nd rfl (Or.inl rfl) (pv 6) uT))) aP)))
   (aq (aE (fm (aa (pv 2) (aa (pv 3) af)))))))),?_⟩
  refine zA ?_;intro cj cQ dH fH gS mG;obtain⟨xs,hl,pr⟩:=id hR;refine(aj rfl (aj rfl ⟨l,rfl,⟨_,aQ.of hl⟩,dm (K:=K) (a:=l) (xs:=xs) (fun i σ H2=>∃ v4 v5 v6,σ=[some (.ref l),some (.int (x:Int)),some (.int (((RM.bq (rows.take i) x 0).1:Nat):Int)),some (.int (((RM.bq (rows.take i) x 0).2:Nat):Int)),v4,v5,v6]/\H2=H) ⟨none,none,none,rfl,rfl⟩ (fun i σ H2 _ ⟨_,_,_,_,z⟩=>by rw[z];exact aQ.of hl) ?_ ?_⟩))
  ·rintro i y D' σ H2 hi ⟨v4,v5,v6,rfl,rfl⟩;obtain⟨qq,hq,b,rfl,hb⟩:=Paired.qU pr hi;refine⟨b,_,rfl,aY.of hb,rfl,_,_,rfl,_,_,rfl,_,_,rfl,rfl,?_⟩;refine(aj rfl (aj rfl ⟨_,qq.1,rfl,aj rfl (?_)⟩));rw[i0];have e3:=BU (rows.take i) qq x 0;rw[<-take3 hq]at e3;cases om:(RM.bq (rows.take i) x 0).1.testBit qq.1 with
   | true =>
     rw[om,if_pos rfl]at e3;refine bW (aj rfl (aj rfl (bj (aj rfl (aj rfl (bj ⟨some (.int (qq.1:Int)),some (.int (qq.2.1:Int)),some (.int (qq.2.2:Int)),?_,rfl⟩))))));rw[e3];show[_,_,some (V.int (Builtin.bitXor _ _)),some (V.int (Builtin.bitXor _ _)),_,_,_]=_;rw[xor_int,xor_int]
   | false =>
     rw[om,if_neg (by decide)]at e3
     refine bK ⟨some (.int (qq.1:Int)),some (.int (qq.2.1:Int)),some (.int (qq.2.2:Int)),?_,rfl⟩;rw[e3];rfl
  ·rintro σ H2 ⟨v4,v5,v6,rfl,rfl⟩;rw[pr.length,List.take_length];exact(aj rfl (aj rfl ⟨dl rfl,fun c hc=>q c _ (au.new hc) ae⟩))
theorem m5:Ok T T.m3 2 yj:=by
 have cE:=cE T;refine T.m3.ok k8 fun _ A _ s H vs Q E hr h=>?_
 ·obtain⟨l,b,rows,ad,rfl,hR,hb,hlen,q⟩:=h;refine⟨_,(ai (aF (i:=2) k8.nd rfl (Or.inl rfl) (cU (aa (pv 1) af)))
   (ai (fJ PassesOwn.never rfl (mC K (pv 0)) (bD 3 k8.nd)
   (aq (bf (cS (aC cE hr T.iB.c aL (aa (aM (cC K) (pv 3) ah) (aa (aM (cC K) (pv 1) ah) af)))) (aq (eZ (J8 K (t8 PySem.F.plainAttrs_list PySem.F.slot_list_append PySem.F.type_list_append iq (pv 2) (aa (fm (aa (aM (cC K) (pv 3) ah) (aa (aD iE (aM (cC K) (pv 3) ah) (aM (cC K) (pv 1) ah)) (aa (aD iE (aM (cC K) (pv 3) ah) (aM (cC K) (pv 1) ah)) af)))) af))))) (aq (eZ (J8 K (t8 PySem.F.plainAttrs_list PySem.F.slot_list_append PySem.F.type_list_append iq (pv 2) (aa (pv 3) af))))))))
   (aq (aE (pv 2))))),?_⟩
  refine xO ?_;intro cj cQ dH fH gS;obtain⟨xs,hl,pr⟩:=id hR;have SG:=pr.length;refine(aj rfl ⟨dl rfl,fun D hD=>?_⟩)
  have s1:au H (upd H D (.lst [.ref b])):=au.new hD;have pY:upd H D (.lst [.ref b]) D=some (.lst [.ref b]):=ae;generalize upd H D (.lst [.ref b])=H1 at s1 pY;refine(aj rfl ⟨l,rfl,⟨_,aQ.of (s1 _ _ hl)⟩,dm (K:=K) (a:=l) (xs:=xs) (fun i σ H2=>∃ v3 acc,σ=[some (.ref l),some (.ref b),some (.ref D),v3]/\au H H2/\H2 D=some (.lst acc)/\acc.length=i+1/\Paired (rN H2) acc (RM.sV (rows.take i) ad)) ⟨none,_,rfl,s1,pY,rfl,.cons ⟨b,rfl,s1 _ _ hb⟩ .nil⟩ (fun i σ H2 _ ⟨_,_,_,z,_⟩=>aQ.of (z _ _ hl)) ?_ ?_⟩)
  ·rintro i y D' σ H2 hi ⟨v3,acc,rfl,s2,jN,al,L6⟩;obtain⟨qq,hq,c,rfl,hc⟩:=Paired.qU pr hi;have xx:=(oA.mp hi).1;have hc2:=s2 _ _ hc;have C5:=s2 _ _ hb;have put:RM.sV (rows.take (i+1)) ad=RM.sV (rows.take i) ad++[if qq.2.1.testBit ad.1=true then(qq.1,qq.2.1^^^ad.2.1,qq.2.2^^^ad.2.2) else qq]:=by
    unfold RM.sV;rw[take3 hq,List.map_append];rfl
   refine(aj rfl (bX (aY.of hc2) (ao (j:=1) rfl) (aj rfl (bX (aY.of C5) (ao (j:=0) rfl) ⟨_,ad.1,rfl,aj rfl (?_)⟩))));rw[i0];cases om:qq.2.1.testBit ad.1 with
   | true =>
     rw[om,if_pos rfl]at put;refine bW (aj rfl ⟨.inl ⟨rfl,_,aQ.of jN⟩,aj rfl (bX (aY.of hc2) (ao (j:=0) rfl) (aj rfl (bX (aY.of hc2) (ao (j:=1) rfl) (aj rfl (bX (aY.of C5) (ao (j:=1) rfl) (bj (aj rfl (bX (aY.of hc2) (ao (j:=2) rfl) (aj rfl (bX (aY.of C5) (ao (j:=2) rfl) (bj ⟨dl rfl,fun d hd=>?_⟩)))))))))))⟩)
     have s3:au H2 (upd H2 d (.tup (pX (qq.1,qq.2.1^^^ad.2.1,qq.2.2^^^ad.2.2)))):=au.new hd;have HB:upd H2 d (.tup (pX (qq.1,qq.2.1^^^ad.2.1,qq.2.2^^^ad.2.2))) d=some (.tup (pX (qq.1,qq.2.1^^^ad.2.1,qq.2.2^^^ad.2.2))):=ae;have ev:[V.int (qq.1:Int),V.int (Builtin.bitXor (qq.2.1:Int) (ad.2.1:Int)),V.int (Builtin.bitXor (qq.2.2:Int) (ad.2.2:Int))]=pX (qq.1,qq.2.1^^^ad.2.1,qq.2.2^^^ad.2.2):=by
      rw[xor_int,xor_int];rfl
     dsimp only;rw[ev];generalize upd H2 d (.tup (pX (qq.1,qq.2.1^^^ad.2.1,qq.2.2^^^ad.2.2)))=H3 at s3 HB;have uc:=s3 _ _ jN;refine⟨D,_,_,rfl,rfl,uc,bT (by lia),_,acc++[.ref d],rfl,(s2.trans s3).put hD,ae,by rw[List.length_append,al];rfl,?_⟩
     rw[put];exact Paired.snoc (Paired.imp' (fun _ _ z=>z.tups (s3.tups.trans (jz.put uc))) L6) ⟨d,rfl,jz.put uc _ _ HB⟩
   | false =>
     rw[om,if_neg (by decide)]at put
     refine bK (aj rfl ⟨.inl ⟨rfl,_,aQ.of jN⟩,aj rfl ⟨D,_,_,rfl,rfl,jN,bT (by lia),_,acc++[.ref c],rfl,s2.put hD,ae,by rw[List.length_append,al];rfl,?_⟩⟩)
     rw[put];exact Paired.snoc (Paired.imp' (fun _ _ z=>z.tups (jz.put jN)) L6) ⟨c,rfl,jz.put jN _ _ hc2⟩
  ·rintro σ H2 ⟨v3,acc,rfl,s2,jN,al,L6⟩;rw[SG,List.take_length]at L6;exact(aj rfl (q D H2 s2 ⟨acc,jN,L6⟩))
theorem lZ:Ok T T.lX 3 z8:=by
 have cy:=cy T;have m5:=m5 T;refine T.lX.ok gw fun _ A _ s H vs Q E hr h=>?_
 ·obtain⟨l,B,rfl,hl,hB,q⟩:=h;refine⟨_,(ai (aF (i:=1) gw.nd rfl (Or.inl rfl) (cU af))
   (ai (fJ PassesOwn.never rfl (vd K (by rfl) T.lD (aa (pv 0) af)) (Hv K (n:=2) rfl (bw (bD 2 gw.nd) (bw (bD 3 gw.nd) iX)))
   (ai (aF (i:=4) gw.nd rfl (Or.inl rfl) (aC cy hr T.gz.c aL (aa (pv 1) (aa (pv 3) af))))
   (aq (bf (aI nj (aM (cC K) (pv 4) ah) ah (aK _)) (aq (aF (i:=1) gw.nd rfl (Or.inl rfl) (aC m5 hr T.m3.c aL (aa (pv 1) (aa (fm (aa (aD gV (DC PySem.F.plainAttrs_int PyProof.Rows.slot_int_bit_length PyProof.Rows.type_int_bit_length Az (aM (cC K) (pv 4) ah)) ah) (aa (aM (cC K) (pv 4) ah) (aa (aD iE (aM (cC K) (pv 4) ah) (aD jj ah (pv 2))) af)))) af))))) aP))))
   (aq (aE (pv 1))))),?_⟩
  refine zB ?_;intro cj cQ dH fH gS;refine⟨dl rfl,fun D hD=>?_⟩
  have s1:au H (upd H D (.lst [])):=au.new hD;have pY:upd H D (.lst []) D=some (.lst []):=ae;generalize upd H D (.lst [])=H1 at s1 pY;refine(aj rfl ⟨l,rfl,⟨_,aQ.of (s1 _ _ hl)⟩,wW (K:=K) (a:=l) (xs:=aG B) (fun i σ H2=>∃ l2 rows v2 v3 v4,σ=[some (.ref l),some (.ref l2),v2,v3,v4]/\au H H2/\gD H2 l2 rows/\RM.Rw (B.take i) rows/\rows=RM.gX B i) ⟨D,[],none,none,none,rfl,s1,⟨[],pY,.nil⟩,RM.Rw.start,rfl⟩ (fun i σ H2 _ ⟨_,_,_,_,_,_,z,_⟩=>aQ.of (z _ _ hl)) ?_ ?_⟩)
  ·rintro i x T0 σ H2 hx ⟨l2,rows,v2,v3,v4,rfl,s2,Jz,JA,L7⟩ hT;obtain⟨b,hb,rfl⟩:=bJ hx;have xx:=(oA.mp hb).1;have s3:au H2 (upd H2 T0 (.tup [.int (i:Int),.int (b:Int)])):=au.new hT;have L8:upd H2 T0 (.tup [.int (i:Int),.int (b:Int)]) T0=some (.tup [.int (i:Int),.int (b:Int)]):=ae;generalize upd H2 T0 (.tup [.int (i:Int),.int (b:Int)])=H3 at s3 L8;refine⟨T0,_,rfl,aY.of L8,rfl,_,_,rfl,_,_,rfl,rfl,?_⟩;refine(aj rfl (aj rfl ⟨l2,rows,b,rfl,Jz.same s3,fun c H4 s4 hc=>?_⟩))
   have hlt:(B.take i).length=i:=by rw[List.length_take];lia
   refine(aj rfl (bX (aY.of hc) (ao (j:=0) rfl) (bj (aj rfl (dD (fun h0=>?_) (fun h0=>?_))))))
   ·have h0:(0:Int)<_:=jw h0;have Kg:(RM.bq rows b 0).1≠0:=by lia
    have Ma:=JA.put Kg;rw[hlt,<-take3 hb]at Ma;have M7:=(Jz.same s3).same s4;have SH:rows.length<=200:=by have:=JA.le;lia
    refine(aj rfl (aj rfl (bX (aY.of hc) (ao (j:=0) rfl) ⟨rfl,aj rfl ⟨rfl,bj (aj rfl (bX (aY.of hc) (ao (j:=0) rfl) (aj rfl (bX (aY.of hc) (ao (j:=1) rfl) (aj rfl (bj ⟨⟨by lia,by lia,by decide⟩,bj ⟨dl rfl,fun d hd=>?_⟩⟩))))))⟩⟩)))
    have ev:[V.int (((Builtin.Int.intBits (((RM.bq rows b 0).1:Nat):Int):Nat):Int)-1),V.int (((RM.bq rows b 0).1:Nat):Int),V.int (Builtin.bitXor (((RM.bq rows b 0).2:Nat):Int) (1*2^((i:Nat):Int).toNat))]=pX ((RM.bq rows b 0).1.log2,(RM.bq rows b 0).1,(RM.bq rows b 0).2^^^2^i):=by
     rw[Eo Kg,g8,xor_int];rfl
    dsimp only;rw[ev];refine⟨l2,d,rows,_,rfl,M7.same (au.new hd),ae,SH,fun l5 H5 s5 M8=>?_⟩
    exact⟨l5,_,_,_,_,rfl,((s2.trans (s3.trans s4)).trans (au.new hd)).trans s5,M8,Ma,RM.zm L7 hb Kg⟩
   ·have Kg:(RM.bq rows b 0).1=0:=by
     have : ¬(0:Int)<_:=fun z=>h0 (cN z)
     lia
    have P8:=JA.skip ((JA.fD b 0).mp Kg);rw[<-take3 hb]at P8;exact⟨l2,rows,_,_,_,rfl,s2.trans (s3.trans s4),(Jz.same s3).same s4,P8,RM.xJ L7 hb Kg⟩
  ·rintro σ H2 ⟨l2,rows,v2,v3,v4,rfl,s2,Jz,JA,L7⟩;rw[aA]at L7;rw[aA,List.take_length]at JA;exact(aj rfl (q l2 rows H2 s2 Jz JA L7))
def tT(C R:Addr):Sp:=fun vs H Q E=>∃ w p ts,∃ g:aB p ts,∃ S,vs=[.ref w,.int S]/\bg H w p ts/\mJ ts S (∀ H',au H H'->E (.ref C) none H') fun m=>(g.N.Ring m->∀ H',au H H'->Q .gh H')/\(¬ g.N.Ring m->∀ H',au H H'->E (.ref R) none H')
theorem eK:CF T T.ic 8 (tT a.dh a.jJ):=by
 have eJ:=eJ T;refine T.ic.yQ tu fun _ A _ s H vs Q E hr h=>?_
 ·obtain⟨wb,p,ts,g,S,rfl,hw,q⟩:=h;refine⟨_,(aq (bf (jP (cS (aC eJ hr T.jK.c ef.passes (aa (pv 0) (aa (pv 1) af))))) (aq (ny ef.MO rfl (by rfl) T.CA PySem.F.excBase_ValueError (aa dZ af))) aP)),?_⟩
  refine jU ?_;intro cj;refine(aj rfl (aj rfl ⟨wb,p,ts,g,S,rfl,hw,?_⟩));rcases q with⟨m,rfl,hm,q1,q2⟩|⟨hS,q⟩
  ·refine .inl ⟨m,rfl,hm,fun H1 s1=>?_⟩
   by_cases r:g.N.Ring m
   ·rw[(jE g hm).mpr r];exact(aj rfl (bK (q1 r H1 s1)))
   ·rw[show jD p ts g m=false from Ib.mpr fun z=>r ((jE g hm).mp z)]
    exact(aj rfl (bW ⟨dl rfl,q2 r H1 s1⟩))
  ·exact .inr ⟨hS,q⟩
def qp(ts:List c9)(l:List Nat)(m:Nat):List Nat:=l.filter fun c=>decide (lenOf ts c<lenOf ts m)
def qt(ts:List c9)(l:List Nat)(m:Nat):List Nat:=l.filter fun c=>!decide (c=m)&&decide (lenOf ts c<=lenOf ts m)
def z9(t:Addr)(lp:Pos):Sp:=fun vs H Q _=>∃ w p ts,∃ g:aB p ts,∃ m:Nat,vs=[.ref w,.int (m:Int)]/\bg H w p ts/\m<2^ts.length/\H t=some (.kH (gb (vv "by_length") lp))/\g.N.az.length<=8/\ts.length<=9/\
 ∀ D l H',H D=none->au H H'->H' D=some (.lst (aG (qp ts l m)))->oh p ts g l->Q (.ref D) H'
def Fb(t:Addr)(lp:Pos):Sp:=fun vs H Q _=>∃ w p ts,∃ g:aB p ts,∃ m:Nat,vs=[.ref w,.int (m:Int)]/\bg H w p ts/\m<2^ts.length/\H t=some (.kH (gb (vv "by_length") lp))/\g.N.az.length<=8/\ts.length<=9/\
 ∀ D l H',H D=none->au H H'->H' D=some (.lst (aG (qt ts l m)))->oh p ts g l->Q (.ref D) H'
structure uK(B:List Nat)(m:Nat)(C:List Nat):Prop where
 up:C.Pairwise (· < ·)
 mem:∀ c∈C,c∈B
 sum:xorL C=m
def yk:Sp:=fun vs H Q _=>∃(l r:Addr) (B:List Nat) (rows:List RM.Row3) (m:Nat),vs=[.ref l,.ref r,.int (m:Int)]/\H l=some (.lst (aG B))/\gD H r rows/\RM.Rw B rows/\B.length<64/\B.Nodup/\RM.Sp B m/\
 ∀ D C H',H D=none->au H H'->H' D=some (.lst (aG C))->uK B m C->Q (.ref D) H'
def Aa:Sp:=fun vs H Q _=>∃(r:Addr) (B:List Nat) (rows:List RM.Row3) (N:RM.Net) (m:Nat),vs=[.ref r,.int (m:Int)]/\gD H r rows/\RM.Rw B rows/\B.length<64/\N.n<=24/\(∀ b∈B,b<2^N.n)/\m<2^N.n/\¬ RM.Sp B m/\
 ∀(M:Nat) H',au H H'->M<2^N.n->N.par m M=true->(∀ b∈B,N.par b M=false)->Q (.int (M:Int)) H'
def A5(p:Nat)(ts:List c9)(g:aB p ts)(l:List Nat)(m:Nat)(H0 H:Hp)(c:Addr):Prop :=
 (∃ D C,H c=some (.tup [.str "none",.ref D])/\H0 D=none/\H D=some (.lst (aG C))/\RM.Sp (qp ts l m) m/\uK (qp ts l m) m C)\/
 (∃ M:Nat,H c=some (.tup [.str "every",.int (M:Int)])/\¬ RM.Sp (qt ts l m) m/\M<2^ts.length/\g.N.par m M=true/\∀ b∈qt ts l m,g.N.par b M=false)\/
 (∃ D C,∃ M:Nat,H c=some (.tup [.str "some",.int (M:Int),.ref D])/\H0 D=none/\H D=some (.lst (aG C))/\¬ RM.Sp (qp ts l m) m/\RM.Sp (qt ts l m) m/\M<2^ts.length/\g.N.par m M=true/\(∀ b∈qp ts l m,g.N.par b M=false)/\uK (qt ts l m) m C)
def Fc(CT CB CN t:Addr)(lp:Pos):Sp:=fun vs H Q E=>∃ w p ts,∃ g:aB p ts,∃ S:Int,vs=[.ref w,.int S]/\bg H w p ts/\H t=some (.kH (gb (vv "by_length") lp))/\
 ((8<g.N.az.length/\∀ H',au H H'->E (.ref CT) none H')\/(g.N.az.length<=8/\ts.length<=9/\mJ ts S (∀ H',au H H'->E (.ref CB) none H') fun m=>(g.N.Ring m->∀ c l H',au H H'->oh p ts g l->A5 p ts g l m H H' c->Q (.ref c) H')/\(¬ g.N.Ring m->∀ H',au H H'->E (.ref CN) none H')))
theorem cG:Ok T T.fg 11 (z9 a.cK b8):=by
 have aR:=aR T;have fG:=fG T;refine T.fg.ok jI fun _ A _ s H vs Q E hr h=>?_
 ·obtain⟨wb,p,ts,g,m,rfl,hw,hm,htb,h8,h9,q⟩:=h;refine⟨_,(ai (aF (i:=2) jI.nd rfl (Or.inr rfl) (aC aR hr T.bU.c gP (aa (pv 0) (aa (pv 1) af))))
   (aq (aE (bh (own:=["other"]) (fq:=["web","length"]) (js:=[0,2]) (aJ (ak fb) ["web","ring","length"]) rfl (mC K (aC fG hr T.jf.c gP (aa (pv 0) af))) (fun _ _ _ _=>(bD 0 (kZ ["other","web","length"]))) (fun _ _ _ _=>(cO (aI qM (aC aR hr T.bU.c gP (aa (pv 1) (aa (pv 0) af))) (pv 2) (aK _)))) (fun _ _ _ _=>(pv 0)))))),?_⟩
  refine dw ?_;intro cj;have W:=g.CZ;refine(aj rfl (aj rfl ⟨wb,p,ts,_,rfl,hw,W,.inl ⟨m,rfl,hm,fun H1 s1=>?_⟩⟩))
  refine(aj rfl ⟨wb,p,ts,g,rfl,hw.same s1,s1 _ _ htb,.inl ⟨h8,h9,fun D l H2 hD s2 jN R=>?_⟩⟩)
  have CO:=R.few h9;refine⟨D,rfl,⟨_,aQ.of jN⟩,fun X hX=>aV (K:=K) (a:=D) (xs:=aG l) (fun i acc H3=>au H2 H3/\H3 X=some (.lst acc)/\acc=aG (qp ts (l.take i) m)) ⟨au.new hX,ae,rfl⟩ (fun i acc H3 _ z=>⟨aQ.of (z.1 _ _ jN),z.2.1,?_⟩) (Nat.le_of_lt (bT (by rw[aA];lia))) ?_ ?_⟩
  ·rw[z.2.2,aA];exact Nat.le_trans (List.length_filter_le _ _) (by rw[List.length_take];lia)
  ·rintro i x acc H3 hx ⟨s3,jO,rfl⟩;obtain⟨c,mK,rfl⟩:=bJ hx;have hc:=((R.all c).mp (m8 mK)).1;refine⟨rfl,aj rfl (aj rfl ⟨wb,p,ts,_,rfl,hw.same ((s1.trans s2).trans s3),W,.inl ⟨c,rfl,hc,fun H4 s4=>(aj rfl (bj (aj rfl (dD (fun h=>?_) (fun h=>?_)))))⟩⟩)⟩
   ·refine(aj rfl ⟨s4 _ _ jO,(s3.trans s4).put hX,ae,?_⟩);unfold qp;rw[take3 mK,List.filter_append,List.filter_cons,if_pos h];exact(bL _ _).symm
   ·refine⟨s3.trans s4,s4 _ _ jO,?_⟩;unfold qp;rw[take3 mK,List.filter_append,List.filter_cons,if_neg h,List.filter_nil,List.append_nil]
  ·rintro acc H3 ⟨s3,jO,rfl⟩;rw[aA,List.take_length]at jO;exact q X l H3 ((s1.trans s2).free hX) ((s1.trans s2).trans s3) jO R
theorem dz:Ok T T.gI 11 (Fb a.cK b8):=by
 have aR:=aR T;have fG:=fG T;refine T.gI.ok k9 fun _ A _ s H vs Q E hr h=>?_
 ·obtain⟨wb,p,ts,g,m,rfl,hw,hm,htb,h8,h9,q⟩:=h;refine⟨_,(ai (aF (i:=2) k9.nd rfl (Or.inr rfl) (aC aR hr T.bU.c gP (aa (pv 0) (aa (pv 1) af))))
   (aq (aE (bh (own:=["other"]) (fq:=["web","ring","length"]) (js:=[0,1,2]) (aJ (ak gG) ["web","ring","length"]) rfl (mC K (aC fG hr T.jf.c gP (aa (pv 0) af))) (fun _ _ _ _=>(bD 0 (kZ ["other","web","ring","length"]))) (fun _ _ _ _=>(cO (PW.pt (oH (aI qL (pv 0) (pv 2) (aK _)) (lK (aI qN (aC aR hr T.bU.c gP (aa (pv 1) (aa (pv 0) af))) (pv 3) (aK _))))))) (fun _ _ _ _=>(pv 0)))))),?_⟩
  refine dw ?_;intro cj;have W:=g.CZ;refine(aj rfl (aj rfl ⟨wb,p,ts,_,rfl,hw,W,.inl ⟨m,rfl,hm,fun H1 s1=>?_⟩⟩))
  refine(aj rfl ⟨wb,p,ts,g,rfl,hw.same s1,s1 _ _ htb,.inl ⟨h8,h9,fun D l H2 hD s2 jN R=>?_⟩⟩)
  have CO:=R.few h9;refine⟨D,rfl,⟨_,aQ.of jN⟩,fun X hX=>aV (K:=K) (a:=D) (xs:=aG l) (fun i acc H3=>au H2 H3/\H3 X=some (.lst acc)/\acc=aG (qt ts (l.take i) m)) ⟨au.new hX,ae,rfl⟩ (fun i acc H3 _ z=>⟨aQ.of (z.1 _ _ jN),z.2.1,?_⟩) (Nat.le_of_lt (bT (by rw[aA];lia))) ?_ ?_⟩
  ·rw[z.2.2,aA];exact Nat.le_trans (List.length_filter_le _ _) (by rw[List.length_take];lia)
  ·rintro i x acc H3 hx ⟨s3,jO,rfl⟩;obtain⟨c,mK,rfl⟩:=bJ hx;have hc:=((R.all c).mp (m8 mK)).1;refine⟨rfl,aj rfl (aj rfl ⟨rfl,aj rfl (?_)⟩)⟩;have tk:qt ts (l.take (i+1)) m=qt ts (l.take i) m++(if(!decide (c=m)&&decide (lenOf ts c<=lenOf ts m))=true then[c] else[]):=by
    unfold qt;rw[take3 mK,List.filter_append,List.filter_cons,List.filter_nil]
   by_cases e:c=m
   ·rw[cN (show V.int (c:Int)=V.int (m:Int) by rw[e])]
    refine bK (bK ⟨s3,jO,?_⟩);rw[tk,cN e,Bool.not_true,Bool.false_and,if_neg Bool.false_ne_true,List.append_nil]
   ·rw[fk (show ¬ V.int (c:Int)=V.int (m:Int) from fun z=>e (by have:=V.int.inj z;lia))]
    refine bW (aj rfl (aj rfl ⟨wb,p,ts,_,rfl,hw.same ((s1.trans s2).trans s3),W,.inl ⟨c,rfl,hc,fun H4 s4=>(aj rfl (bj (aj rfl (dD (fun h=>?_) (fun h=>?_)))))⟩⟩))
    ·refine(aj rfl ⟨s4 _ _ jO,(s3.trans s4).put hX,ae,?_⟩);rw[tk,fk e,h];exact(bL _ _).symm
    ·refine⟨s3.trans s4,s4 _ _ jO,?_⟩;rw[tk,Ib.mpr h,Bool.and_false,if_neg Bool.false_ne_true,List.append_nil]
  ·rintro acc H3 ⟨s3,jO,rfl⟩;rw[aA,List.take_length]at jO;exact q X l H3 ((s1.trans s2).free hX) ((s1.trans s2).trans s3) jO R
theorem kC:Ok T T.ki 3 yk:=by
 have cy:=cy T;have br:=br T;refine T.ki.ok xP fun _ A _ s H vs Q E hr h=>?_
 ·obtain⟨l,r,B,rows,m,rfl,hl,hR,JB,SI,nd,hs,q⟩:=h;refine⟨_,(aq (aE (bS (sortedK K) (by rfl) T.lE PyProof.Rows.boot_sorted (aa (bh (own:=["place"]) (fq:=["rings"]) (js:=[0]) (aJ (ak jY) ["rings","rows","ring"]) rfl (mC K (aC br hr T.fF.c aL (aa (aM (cC K) (aC cy hr T.gz.c aL (aa (pv 1) (aa (pv 2) af))) ah) af))) (fun _ _ _ _=>(bD 0 (kZ ["place","rings"]))) (fun _ _ _ _=>cI) (fun _ _ _ _=>(aM (mh K) (pv 1) (pv 0)))) af)))),?_⟩
  obtain⟨u1,u2⟩:=JB.parts hs;refine(aj rfl (aj rfl ⟨r,rows,m,rfl,hR,fun c H1 s1 hc=>(bX (aY.of hc) (ao (j:=1) rfl) (aj rfl ⟨Nat.le_trans (bits_le u1) (by lia),fun D H2 hD s2 jN=>?_⟩))⟩))
  rw[fL u1]at jN;generalize (RM.bq rows m 0).2=u at u1 u2 jN;have hl2:=(s1.trans s2) _ _ hl;have fl:((List.range B.length).filter fun k=>u.testBit k).length<=B.length:=by
   have:=List.length_filter_le (fun k=>u.testBit k) (List.range B.length)
   rwa [List.length_range]at this
  refine⟨D,rfl,⟨_,aQ.of jN⟩,fun X hX=>aV (K:=K) (a:=D) (xs:=aG ((List.range B.length).filter fun k=>u.testBit k)) (fun i acc H3=>au H2 H3/\H3 X=some (.lst acc)/\acc=aG ((((List.range B.length).filter fun k=>u.testBit k).take i).map fun k=>B.getD k 0)) ⟨au.new hX,ae,rfl⟩ (fun i acc H3 _ z=>⟨aQ.of (z.1 _ _ jN),z.2.1,by rw[z.2.2,aA,List.length_map,List.length_take];lia⟩) (Nat.le_of_lt (bT (by rw[aA];lia))) ?_ ?_⟩
  ·rintro i x acc H3 hx ⟨s3,jO,rfl⟩;obtain⟨k,hki,rfl⟩:=bJ hx;have hk:=List.mem_range.mp (List.mem_filter.mp (m8 hki)).1;have SJ:(aG B)[k]?=some (.int ((B.getD k 0:Nat):Int)):=by
    unfold aG;rw[List.getElem?_map,List.getD_eq_getElem?_getD,List.getElem?_eq_getElem hk];rfl
   refine⟨rfl,aj rfl (aj rfl (lT (aQ.of (s3 _ _ hl2)) (ao (j:=k) SJ) ⟨jO,s3.put hX,ae,?_⟩))⟩;rw[take3 hki,List.map_append,List.map_singleton];exact(bL _ _).symm
  ·rintro acc H3 ⟨s3,jO,rfl⟩;rw[aA,List.take_length]at jO;have jO:H3 X=some (.lst (aG (RM.pick B u))):=jO;have pl:(RM.pick B u).length<=B.length:=by unfold RM.pick;rw[List.length_map];exact fl
   rw[cM]at jO;refine⟨X,_,rfl,aQ.of jO,by rw[List.length_map];lia,fun Y ns' hY pm pw=>?_⟩
   obtain⟨C,rfl⟩:=E9 (l:=ns') fun x hx=>by
    obtain⟨c,_,rfl⟩:=List.mem_map.mp (pm.mem_iff.mp hx)
    lia
   have OH:C.Perm (RM.pick B u):=by
    have:=pm.map Int.toNat;have e:∀ l:List Nat,(l.map fun x=>((x:Nat):Int)).map Int.toNat=l:=fun l=>by
     rw[List.map_map];exact(List.map_congr_left fun x _=>Int.toNat_natCast x).trans (List.map_id _)
    rwa [e,e]at this
   have SK:C.Nodup:=OH.nodup_iff.mpr (RM.zp nd u);have s4:au H3 (upd H3 Y (.lst ((C.map fun x=>((x:Nat):Int)).map V.int))):=au.new hY
   have g4:=(s1.trans s2).trans s3;refine q Y C _ (g4.free hY) (g4.trans s4) (by rw[cM];exact ae) ⟨?_,fun c hc=>RM.EM (OH.mem_iff.mp hc),by rw[BK OH];exact u2⟩
   rw[List.pairwise_map]at pw;exact(pw.and SK).imp fun {x y} h=>by lia
theorem fj:Ok T T.fh 3 Aa:=by
 have cy:=cy T;have br:=br T;have cE:=cE T;refine T.fh.ok bO fun _ A _ s H vs Q E hr h=>?_
 ·obtain⟨r,B,rows,N,m,rfl,hR,JB,SI,Vw,hb',hm,hs,q⟩:=h;refine⟨_,(ai (aF (i:=2) bO.nd rfl (Or.inl rfl) (aM (mh K) (aC br hr T.fF.c aL (aa (aM (cC K) (aC cy hr T.gz.c aL (aa (pv 0) (aa (pv 1) af))) ah) af)) ah))
   (ai (aF (i:=3) bO.nd rfl (Or.inl rfl) (aD jj ah (pv 2)))
   (ai (fJ PassesOwn.never rfl (mC K (pv 0)) (Hv K (n:=3) rfl (bw (bD 4 bO.nd) (bw (bD 5 bO.nd) (bw (bD 6 bO.nd) iX))))
   (aq (bf (cS (aC cE hr T.iB.c aL (aa (pv 5) (aa (pv 2) af)))) (aq (qK (i:=3) bO.nd rfl (Or.inl rfl) (aD jj ah (pv 4)) Dt)) aP)))
   (aq (aE (pv 3)))))),?_⟩
  refine o9 ?_;intro cj cQ dH fH gS;refine(aj rfl (aj rfl ⟨r,rows,m,rfl,hR,fun c H1 s1 hc=>(bX (aY.of hc) (ao (j:=0) rfl) (?_))⟩))
  have lz:(RM.bq rows m 0).1≠0:=fun z=>hs ((JB.fD m 0).mp z)
  have Js:(RM.bq rows m 0).1<2^N.n:=by
   have MX:RM.Sp (rows.map fun q=>q.2.1) (m^^^(RM.bq rows m 0).1):=by
    have:=RM.qD (rows.map RM.two) m
    rwa [RM.map_two,<-RM.iM rows m 0]at this
   have:=Nat.xor_lt_two_pow hm (MX.lt fun y hy=>by
    obtain⟨q,hq,rfl⟩:=List.mem_map.mp hy;exact RM.zc JB hb' q hq)
   rwa [<-Nat.xor_assoc,Nat.xor_self,Nat.zero_xor]at this
  refine(aj rfl ⟨Nat.le_trans (bits_le Js) (by lia),fun D H2 hD s2 jN=>?_⟩)
  obtain⟨t,r0,et⟩:∃ t r0,bC (((RM.bq rows m 0).1:Nat):Int)=t::r0:=by
   cases h:bC (((RM.bq rows m 0).1:Nat):Int) with
   | cons t r0=>exact⟨t,r0,rfl⟩
   | nil =>
     exfalso
     rw[fL Js]at h;refine lz (Nat.eq_of_testBit_eq fun k=>?_)
     rw[Nat.zero_testBit];cases hk:(RM.bq rows m 0).1.testBit k with
     | false=>rfl
     | true =>
       have:=List.mem_filter.mpr ⟨List.mem_range.mpr (RM.cP Js hk),hk⟩;rw[h]at this;cases this
  have ht:(RM.bq rows m 0).1.testBit t=true:=by
   have:t∈bC (((RM.bq rows m 0).1:Nat):Int):=by rw[et];exact List.mem_cons_self
   rw[fL Js]at this;exact(List.mem_filter.mp this).2
  rw[et]at jN;refine(lT (aQ.of jN) (ao (j:=0) rfl) (?_));obtain⟨M1,M2,M3⟩:=RM.B6 JB hb' hm ht;have tn:=RM.cP Js ht;have Jz:=(hR.same s1).same s2;obtain⟨xs,hl,pr⟩:=id Jz;have s12:=s1.trans s2;refine(aj rfl (bj ⟨⟨by lia,by lia,by decide⟩,?_⟩))
  refine(aj rfl ⟨r,rfl,⟨_,aQ.of hl⟩,dm (K:=K) (a:=r) (xs:=xs) (fun i σ H3=>∃(z:Int) (v4 v5 v6:Option V),σ=[some (.ref r),some (.int (m:Int)),some (.int (t:Int)),some (.int z),v4,v5,v6]/\z=(((rows.take i).foldl (fun M q=>if q.2.1.testBit t=true then M ||| 2^q.1 else M) (Ring.orM [t]):Nat):Int)/\H3=H2) ⟨_,none,none,none,rfl,?_,rfl⟩ (fun i σ H3 _ ⟨_,_,_,_,_,_,z⟩=>by rw[z];exact aQ.of hl) ?_ ?_⟩)
  ·rw[g8];show _=((Ring.orM [t]:Nat):Int)
   congr 1
   unfold Ring.orM;rw[List.foldl_cons,List.foldl_nil,Nat.zero_or]
  ·rintro i y D' σ H3 hi ⟨z,v4,v5,v6,rfl,ez,rfl⟩;obtain⟨qq,hq,b,rfl,hb⟩:=Paired.qU pr hi;refine⟨b,_,rfl,aY.of hb,rfl,_,_,rfl,_,_,rfl,_,_,rfl,rfl,?_⟩;refine(aj rfl (aj rfl ⟨_,t,rfl,aj rfl (?_)⟩));rw[i0];have e3:(rows.take (i+1)).foldl (fun M q=>if q.2.1.testBit t=true then M ||| 2^q.1 else M) (Ring.orM [t])=(fun M=>if qq.2.1.testBit t=true then M ||| 2^qq.1 else M) ((rows.take i).foldl (fun M q=>if q.2.1.testBit t=true then M ||| 2^q.1 else M) (Ring.orM [t])):=by
    rw[take3 hq,List.foldl_append];rfl
   have ql:qq.1<N.n:=RM.cP (RM.zc JB hb' qq (m8 hq)) (JB.own qq (m8 hq));cases om:qq.2.1.testBit t with
   | true =>
     refine bW (aj rfl (aj rfl (bj ⟨⟨by lia,by lia,by decide⟩,bj ⟨_,some (.int (qq.1:Int)),some (.int (qq.2.1:Int)),some (.int (qq.2.2:Int)),rfl,?_,rfl⟩⟩)))
     rw[e3,ez];dsimp only;rw[if_pos om,g8,or_int]
   | false =>
     refine bK ⟨z,some (.int (qq.1:Int)),some (.int (qq.2.1:Int)),some (.int (qq.2.2:Int)),rfl,?_,rfl⟩;rw[e3,ez];dsimp only;rw[if_neg (by rw[om];decide)]
  ·rintro σ H3 ⟨z,v4,v5,v6,rfl,ez,rfl⟩;rw[pr.length,List.take_length,RM.mT]at ez;subst ez;exact(aj rfl (q _ _ s12 M1 M2 M3))
theorem kD:CF T T.kj 12 (Fc a.iA a.dh a.jJ a.cK b8):=by
 have cg:=cg T;have eK:=eK T;have cG:=cG T;have lZ:=lZ T;have cy:=cy T;have kC:=kC T;have dz:=dz T;have fj:=fj T;refine T.kj.yQ eX fun _ A _ s H vs Q E hr h=>?_
 ·obtain⟨wb,p,ts,g,S,rfl,hw,htb,q⟩:=h;refine⟨_,(ai (eZ (aC cg hr T.fT.c ef.passes (aa (pv 0) af)))
   (ai (eZ (aC eK hr T.ic.c ef.passes (aa (pv 0) (aa (pv 1) af))))
   (ai (aF (i:=2) eX.nd rfl (Or.inl rfl) (aC cG hr T.fg.c aL (aa (pv 0) (aa (pv 1) af))))
   (ai (aF (i:=3) eX.nd rfl (Or.inl rfl) (aC lZ hr T.lX.c aL (aa (pv 2) af)))
   (ai (bf (aI bE (aM (cC K) (aC cy hr T.gz.c aL (aa (pv 3) (aa (pv 1) af))) ah) ah (aK _)) (aq (aE (fm (aa dZ (aa (aC kC hr T.ki.c aL (aa (pv 2) (aa (pv 3) (aa (pv 1) af)))) af))))) aP)
   (ai (aF (i:=4) eX.nd rfl (Or.inl rfl) (aC dz hr T.gI.c aL (aa (pv 0) (aa (pv 1) af))))
   (ai (aF (i:=5) eX.nd rfl (Or.inl rfl) (aC lZ hr T.lX.c aL (aa (pv 4) af)))
   (ai (bf (aI nj (aM (cC K) (aC cy hr T.gz.c aL (aa (pv 5) (aa (pv 1) af))) ah) ah (aK _)) (aq (aE (fm (aa dZ (aa (aC fj hr T.fh.c aL (aa (pv 5) (aa (pv 1) af))) af))))) aP)
   (aq (aE (fm (aa dZ (aa (aC fj hr T.fh.c aL (aa (pv 3) (aa (pv 1) af))) (aa (aC kC hr T.ki.c aL (aa (pv 4) (aa (pv 5) (aa (pv 1) af)))) af)))))))))))))),?_⟩
  refine tD ?_;intro cj cQ dH fH gS mG nL rY sY xN;rcases q with⟨h8,q⟩|⟨h8,h9,q⟩
  ·exact(aj rfl ⟨wb,p,ts,g,rfl,hw,.inr ⟨h8,q⟩⟩)
  refine(aj rfl ⟨wb,p,ts,g,rfl,hw,.inl ⟨h8,fun H1 s1=>?_⟩⟩)
  refine(aj rfl (aj rfl ⟨wb,p,ts,g,S,rfl,hw.same s1,?_⟩));rcases q with⟨m,rfl,hm,q1,q2⟩|⟨hS,q⟩
  case inr=>exact .inr ⟨hS,fun H' s'=>q H' (s1.trans s')⟩
  refine .inl ⟨m,rfl,hm,fun r H2 s2=>?_,fun r H2 s2=>q2 r H2 (s1.trans s2)⟩
  have q:=q1 r;clear q1 q2;have s12:=s1.trans s2;refine(aj rfl (aj rfl ⟨wb,p,ts,g,m,rfl,hw.same s12,hm,s12 _ _ htb,h8,h9,fun D l H3 hD s3 uc R=>?_⟩))
  have CO:=R.few h9;have shl:(qp ts l m).length<=l.length:=List.length_filter_le _ _;have OI:(qt ts l m).length<=l.length:=List.length_filter_le _ _;have SM:(qp ts l m).Nodup:=List.Pairwise.filter _ R.nd;have SN:(qt ts l m).Nodup:=List.Pairwise.filter _ R.nd;have slt:∀ b∈qp ts l m,b<2^ts.length:=fun b hb=>((R.all b).mp (List.mem_filter.mp hb).1).1
  have OJ:∀ b∈qt ts l m,b<2^ts.length:=fun b hb=>((R.all b).mp (List.mem_filter.mp hb).1).1
  refine(aj rfl ⟨D,_,rfl,uc,by lia,fun l4 rows H4 s4 M7 M9 _=>?_⟩)
  refine(aj rfl (aj rfl ⟨l4,rows,m,rfl,M7,fun c H5 s5 hc=>?_⟩))
  have A6:=((s12.trans s3).trans s4).trans s5;have HV:=(s4.trans s5) _ _ uc;have M8:=M7.same s5;refine(bX (aY.of hc) (ao (j:=0) rfl) ⟨rfl,aj rfl (?_)⟩)
  by_cases h0:(RM.bq rows m 0).1=0
  ·have qP:=(M9.fD m 0).mp h0;rw[h0];refine bW (aj rfl (aj rfl (aj rfl ⟨D,l4,_,rows,m,rfl,HV,M8,M9,by lia,SM,qP,fun X C H6 hX s6 SO PL=>?_⟩)))
   refine⟨dl rfl,fun e he=>q e l _ ((A6.trans s6).trans (au.new he)) R (.inl ⟨X,C,ae,A6.free hX,au.new he _ _ SO,qP,PL⟩)⟩
  have hns : ¬ RM.Sp (qp ts l m) m:=fun z=>h0 ((M9.fD m 0).mpr z)
  rw[fk (show ¬ V.int (((RM.bq rows m 0).1:Nat):Int)=V.int 0 from fun z=>h0 (by have:=V.int.inj z;lia))]
  refine bK ?_;refine(aj rfl (aj rfl ⟨wb,p,ts,g,m,rfl,hw.same A6,hm,A6 _ _ htb,h8,h9,fun D2 l2 H6 jN s6 Mb R2=>?_⟩))
  obtain rfl:l2=l:=R2.uniq R;refine(aj rfl ⟨D2,_,rfl,Mb,by lia,fun l7 yl H7 s7 P9 Na _=>?_⟩)
  refine(aj rfl (aj rfl ⟨l7,yl,m,rfl,P9,fun c2 H8 s8 hc2=>?_⟩))
  have Qa:=(s6.trans s7).trans s8;have Mc:=A6.trans Qa;have OL:=(s7.trans s8) _ _ Mb;have Qc:=P9.same s8;have wl:g.N.n<=24:=g.len;refine(bX (aY.of hc2) (ao (j:=0) rfl) (bj (aj rfl (dD (fun h1=>?_) (fun h1=>?_)))))
  ·have h1:(0:Int)<(((RM.bq yl m 0).1:Nat):Int):=jw h1;have hno : ¬ RM.Sp (qt ts l2 m) m:=fun z=>by have:=(Na.fD m 0).mpr z;lia
   refine(aj rfl (aj rfl ⟨l7,_,yl,g.N,m,rfl,Qc,Na,by lia,wl,OJ,hm,hno,fun M H9 s9 M1 M2 M3=>⟨dl rfl,fun e he=>?_⟩⟩))
   exact q e l2 _ ((Mc.trans s9).trans (au.new he)) R (.inr (.inl ⟨M,ae,hno,M1,M2,M3⟩))
  ·have h1 : ¬(0:Int)<(((RM.bq yl m 0).1:Nat):Int):=fun z=>h1 (cN z)
   have hso:RM.Sp (qt ts l2 m) m:=(Na.fD m 0).mp (by lia)
   refine(aj rfl (aj rfl ⟨l4,_,rows,g.N,m,rfl,M8.same Qa,M9,by lia,wl,slt,hm,hns,fun M H9 s9 M1 M2 M3=>?_⟩))
   refine(aj rfl (aj rfl (aj rfl ⟨D2,l7,_,yl,m,rfl,s9 _ _ OL,Qc.same s9,Na,by lia,SN,hso,fun X C Kh hX SQ OM PL=>⟨dl rfl,fun e he=>?_⟩⟩)))
   have Qd:=Mc.trans s9;exact q e l2 _ ((Qd.trans SQ).trans (au.new he)) R (.inr (.inr ⟨X,C,M,ae,Qd.free hX,au.new he _ _ OM,hns,hso,M1,M2,M3,PL⟩))
inductive PP
 | nn (zs:List Int)
 | ss (z:Int) (zs:List Int)
 | ee (z:Int)
def ym(H:Hp)(v:V):PP->Prop
 | .nn zs=>∃ c D,v = .ref c/\H c=some (.tup [.str "none",.ref D])/\H D=some (.lst (zs.map V.int))/\zs.length<=200
 | .ss z zs=>∃ c D,v = .ref c/\H c=some (.tup [.str "some",.int z,.ref D])/\H D=some (.lst (zs.map V.int))/\zs.length<=200
 | .ee z=>∃ c,v = .ref c/\H c=some (.tup [.str "every",.int z])
def sI(p:Nat)(ts:List c9)(g:aB p ts)(ok:Nat->Prop)(zs:List Int):Prop:=∀ z∈zs,∃ c:Nat,z=(c:Int)/\c<2^ts.length/\g.N.Ring c/\ok c
theorem sI.cast{p:Nat}{ts:List c9}{g:aB p ts}{ok:Nat->Prop}:∀{zs:List Int},sI p ts g ok zs->∃ C:List Nat,zs=C.map (fun x=>((x:Nat):Int))/\∀ c∈C,c<2^ts.length/\g.N.Ring c/\ok c
 | [],_=>⟨[],rfl,(fun c hc=>nomatch hc)⟩
 | z::zs,h=>by
   obtain⟨C,e,hC⟩:=sI.cast (zs:=zs) fun x hx=>h x (lJ _ hx)
   obtain⟨c,rfl,hc⟩:=h z List.mem_cons_self;refine⟨c::C,by rw[e];rfl,fun x hx=>?_⟩
   rcases List.mem_cons.mp hx with rfl|hx
   ·exact hc
   ·exact hC x hx
def tU(p:Nat)(ts:List c9)(g:aB p ts)(m:Nat)(ok:Nat->Prop)(zs:List Int):Prop:=∃ C:List Nat,zs=C.map (fun x=>((x:Nat):Int))/\C.Pairwise (· < ·)/\(∀ c∈C,c<2^ts.length/\g.N.Ring c/\c≠m/\ok c)/\xorL C=m
def wo(p:Nat)(ts:List c9)(g:aB p ts)(m:Nat)(B:List Nat)(z:Int):Prop:=∃ M:Nat,z=(M:Int)/\M<2^ts.length/\g.N.par m M=true/\∀ b∈B,g.N.par b M=false
def Ab(p:Nat)(ts:List c9)(g:aB p ts)(l:List Nat)(m:Nat):PP->Prop
 | .nn zs=>tU p ts g m (fun c=>lenOf ts c<lenOf ts m) zs
 | .ss z zs=>wo p ts g m (qp ts l m) z/\tU p ts g m (fun c=>lenOf ts c<=lenOf ts m) zs
 | .ee z=>wo p ts g m (qt ts l m) z
theorem CP:∀{C C' : List Nat},C.map (fun x=>((x:Nat):Int))=C'.map (fun x=>((x:Nat):Int))->C=C':=fun {C C'} h=>by
 have:=congrArg (List.map Int.toNat) h;have e:∀ l:List Nat,(l.map fun x=>((x:Nat):Int)).map Int.toNat=l:=fun l=>by
  rw[List.map_map];exact(List.map_congr_left fun x _=>Int.toNat_natCast x).trans (List.map_id _)
 rwa [e,e]at this
theorem wq{C:List Nat}{i c:Nat}(h:C[i]?=some c):(C.take (i+1)).Pairwise (· < ·)↔(C.take i).Pairwise (· < ·)/\∀ b,0<i->C[i-1]?=some b->b<c:=by
 rw[take3 h,List.pairwise_append];have xx:=(oA.mp h).1
 constructor
 ·rintro⟨h1,_,h3⟩;refine⟨h1,fun b h0 hb=>h3 b (m8 (i:=i-1) ?_) c (by simp)⟩
  rw[List.getElem?_take,if_pos (by lia)]
  exact hb
 ·rintro⟨h1,h2⟩;refine⟨h1,List.pairwise_singleton _ _,fun x hx y hy=>?_⟩
  rw[List.mem_singleton.mp hy];obtain⟨j,hj⟩:=List.getElem?_of_mem hx;have M5:=hj;rw[List.getElem?_take]at hj
  split at hj
  ·rename_i hji
   have hl:C[i-1]?=some C[i-1]:=List.getElem?_eq_getElem (by lia)
   have:=h2 _ (by lia) hl
   by_cases e:j=i-1
   ·subst e;rw[hl]at hj;rw[<-Option.some.inj hj];exact this
   ·have hb:(C.take i)[i-1]?=some C[i-1]:=by rw[List.getElem?_take,if_pos (by lia)];exact hl
    obtain⟨a1,a2⟩:=oA.mp M5;obtain⟨b1,b2⟩:=oA.mp hb;have:=List.pairwise_iff_getElem.mp h1 j (i-1) a1 b1 (by lia)
    lia
  ·cases hj
theorem CQ(u:Int)(l:List Int):FF (.int u) (l.map V.int)=decide (u∈l):=by
 unfold FF;rw[List.any_map,Bool.eq_iff_iff,List.any_eq_true];simp only[Function.comp,decide_eq_true_eq]
 constructor
 ·rintro⟨x,hx,h⟩;have e:x=u:=eq_of_beq h;exact e▸hx
 ·intro h;exact⟨u,h,by simp[FE]⟩
theorem Ac(l:List Int):(l.map V.int).all my=true:=by
 rw[List.all_eq_true];intro x hx;obtain⟨y,_,rfl⟩:=List.mem_map.mp hx;rfl
theorem yn{p:Nat}{ts:List c9}{g:aB p ts}{m:Nat}{ok:Nat->Prop}{zs:List Int}(h:tU p ts g m ok zs):sI p ts g (fun c=>c≠m/\ok c) zs:=by
 obtain⟨C,rfl,_,hC,_⟩:=h;intro z hz;obtain⟨c,hc,rfl⟩:=List.mem_map.mp hz;exact⟨c,rfl,(hC c hc).1,(hC c hc).2.1,(hC c hc).2.2⟩
theorem wu{p:Nat}{ts:List c9}{g:aB p ts}{m:Nat}{ok:Nat->Prop}{C:List Nat}(hC:∀ c∈C,c<2^ts.length/\g.N.Ring c/\c≠m/\ok c):(C.Pairwise (· < ·)/\xorL C=m)↔tU p ts g m ok (C.map fun x=>((x:Nat):Int)) :=
 ⟨fun h=>⟨C,rfl,h.1,hC,h.2⟩,fun⟨C',e,h1,_,h2⟩=>by rw[CP e];exact⟨h1,h2⟩⟩
def Fd:Sp:=fun vs H Q _=>∃(m:Nat) (D:Addr) (C:List Nat),vs=[.int (m:Int),.ref D]/\H D=some (.lst (aG C))/\C.length<=200/\∀ H' (d:Bool),au H H'->(d=true↔C.Pairwise (· < ·)/\xorL C=m)->Q (.bl d) H'
def Fe:Sp:=fun vs H Q _=>∃ w p ts,∃ g:aB p ts,∃(m:Nat) (D:Addr) (zs:List Int),vs=[.ref w,.int (m:Int),.ref D]/\bg H w p ts/\m<2^ts.length/\H D=some (.lst (zs.map V.int))/\zs.length<=200/\∀ H' (d:Bool),au H H'->(d=true↔sI p ts g (fun c=>lenOf ts c<lenOf ts m) zs)->Q (.bl d) H'
def Ff:Sp:=fun vs H Q _=>∃ w p ts,∃ g:aB p ts,∃(m:Nat) (D:Addr) (zs:List Int),vs=[.ref w,.int (m:Int),.ref D]/\bg H w p ts/\m<2^ts.length/\H D=some (.lst (zs.map V.int))/\zs.length<=200/\∀ H' (d:Bool),au H H'->(d=true↔sI p ts g (fun c=>c≠m/\lenOf ts c<=lenOf ts m) zs)->Q (.bl d) H'
def Fg:Sp:=fun vs H Q _=>∃ w p ts,∃ g:aB p ts,∃(z:Int) (m:Nat) (D:Addr) (B:List Nat),vs=[.ref w,.int z,.int (m:Int),.ref D]/\bg H w p ts/\m<2^ts.length/\H D=some (.lst (aG B))/\B.length<=200/\∀ H' (d:Bool),au H H'->(d=true↔wo p ts g m B z)->Q (.bl d) H'
def Me(CT CB CN t:Addr)(lp:Pos):Sp:=fun vs H Q E=>∃ w p ts,∃ g:aB p ts,∃(S:Int) (v:V),vs=[.ref w,.int S,v]/\bg H w p ts/\H t=some (.kH (gb (vv "by_length") lp))/\g.N.az.length<=8/\ts.length<=9/\
 mJ ts S (∀ H',au H H'->E (.ref CB) none H') fun m=>(g.N.Ring m->∃ pp l,ym H v pp/\oh p ts g l/\∀ H' (d:Bool),au H H'->(d=true↔Ab p ts g l m pp)->Q (.bl d) H')/\(¬ g.N.Ring m->∀ H',au H H'->E (.ref CN) none H')
theorem yo{p:Nat}{ts:List c9}{g:aB p ts}{ok:Nat->Prop}{zs:List Int}{bs:List Bool}(hl:bs.length=zs.length)(h:∀(i:Nat) (z:Int) (b:Bool),zs[i]?=some z->bs[i]?=some b->(b=true↔∃ c:Nat,z=(c:Int)/\c<2^ts.length/\g.N.Ring c/\ok c)):bs.all id=true↔sI p ts g ok zs:=by
 rw[List.all_eq_true]
 constructor
 ·intro hb z hz;obtain⟨i,hi⟩:=List.getElem?_of_mem hz;have xx:=(oA.mp hi).1;have e:bs[i]?=some bs[i]:=List.getElem?_eq_getElem (by lia)
  exact(h i z _ hi e).mp (hb _ (m8 e))
 ·intro hz b hb;obtain⟨i,hi⟩:=List.getElem?_of_mem hb;have xx:=(oA.mp hi).1;have e:zs[i]?=some zs[i]:=List.getElem?_eq_getElem (by lia)
  exact(h i _ b e hi).mpr (hz _ (m8 e))
theorem jh:Ok T T.jg 1 Fd:=by
 refine T.jg.ok fP fun _ A _ s H vs Q E hr h=>?_
 ·obtain⟨m,D,C,rfl,hD,Cl,q⟩:=h;refine⟨_,(ai (aF (i:=2) fP.nd rfl (Or.inl rfl) ah)
   (ai (fJ PassesOwn.never rfl (vd K (by rfl) T.lD (aa (pv 1) af)) (Hv K (n:=2) rfl (bw (bD 3 fP.nd) (bw (bD 4 fP.nd) iX)))
   (ai (bf (PW.pt (oH (aI nj (pv 3) ah (aK _)) (lK (aI qN (pv 4) (aM (mh K) (pv 1) (aD gV (pv 3) ah)) (aK _))))) (aq (aE jx)) aP)
   (aq (qK (i:=2) fP.nd rfl (Or.inl rfl) (pv 4) uT))))
   (aq (aE (cB bE (pv 2) (pv 0) (aK _)))))),?_⟩
  refine vG ?_;intro cj cQ dH fH gS;refine(aj rfl ⟨D,rfl,⟨_,aQ.of hD⟩,wW (K:=K) (a:=D) (xs:=aG C) (fun i σ H2=>∃ v3 v4,σ=[some (.int (m:Int)),some (.ref D),some (.int ((xorL (C.take i):Nat):Int)),v3,v4]/\au H H2/\(C.take i).Pairwise (· < ·)) ⟨none,none,rfl,au.refl _,.nil⟩ (fun i σ H2 _ ⟨_,_,_,z,_⟩=>aQ.of (z _ _ hD)) ?_ ?_⟩)
  ·rintro i x T0 σ H2 hx ⟨v3,v4,rfl,s2,up⟩ hT;obtain⟨c,mK,rfl⟩:=bJ hx;have xx:=(oA.mp mK).1;have s3:au H2 (upd H2 T0 (.tup [.int (i:Int),.int (c:Int)])):=au.new hT;have L8:upd H2 T0 (.tup [.int (i:Int),.int (c:Int)]) T0=some (.tup [.int (i:Int),.int (c:Int)]):=ae;generalize upd H2 T0 (.tup [.int (i:Int),.int (c:Int)])=H3 at s3 L8;have HX:=s2.trans s3;refine⟨T0,_,rfl,aY.of L8,rfl,_,_,rfl,_,_,rfl,rfl,?_⟩;have next:(C.take (i+1)).Pairwise (· < ·)->∃ v3 v4,[some (V.int (m:Int)),some (V.ref D),some (V.int (Builtin.bitXor ((xorL (C.take i):Nat):Int) (c:Int))),some (V.int (i:Int)),some (V.int (c:Int))]=[some (.int (m:Int)),some (.ref D),some (.int ((xorL (C.take (i+1)):Nat):Int)),v3,v4]/\au H H3/\(C.take (i+1)).Pairwise (· < ·):=fun h=>by
    refine⟨some (V.int (i:Int)),some (V.int (c:Int)),?_,HX,h⟩;rw[xor_int,take3 mK,xorL_snoc]
   refine(aj rfl (bj (aj rfl (dD (fun h0=>?_) (fun h0=>?_)))))
   ·have h0:(0:Int)<(i:Int):=jw h0;have hp:C[i-1]?=some C[i-1]:=List.getElem?_eq_getElem (by lia)
    have hv:(aG C)[i-1]?=some (.int ((C[i-1]:Nat):Int)):=by unfold aG;rw[List.getElem?_map,hp];rfl
    have hat:yy (aG C) ((i:Int)-1)=some (.int ((C[i-1]:Nat):Int)):=by
     rw[show(i:Int)-1=((i-1:Nat):Int) by lia]
     exact ao (j:=i-1) hv
    refine(aj rfl (aj rfl (aj rfl (bj (lT (aQ.of (HX _ _ hD)) (hat) (bj (aj rfl (dD (fun h1=>?_) (fun h1=>?_)))))))))
    ·have h1:(c:Int)<=(C[i-1]:Int):=jw h1;refine q H3 false HX ⟨(fun z=>nomatch z),fun⟨z,_⟩=>?_⟩
     have:=((wq mK).mp (z.sublist (List.take_sublist _ _))).2 _ (by lia) hp
     lia
    ·have h1 : ¬(c:Int)<=(C[i-1]:Int):=fun z=>h1 (cN z)
     refine(aj rfl (aj rfl (bj (next ((wq mK).mpr ⟨up,fun b _ hb=>?_⟩)))))
     rw[hp]at hb;rw[<-Option.some.inj hb]
     lia
   ·have h0 : ¬(0:Int)<(i:Int):=fun z=>h0 (cN z)
    exact bK (aj rfl (aj rfl (bj (next ((wq mK).mpr ⟨up,fun b h _=>by lia⟩)))))
  ·rintro σ H2 ⟨v3,v4,rfl,s2,up⟩;rw[aA,List.take_length]at up ⊢;refine(aj rfl (aj rfl ⟨rfl,?_⟩));refine q H2 _ s2 ?_;rw[decide_eq_true_iff];exact⟨fun e=>⟨up,by have:=V.int.inj e;lia⟩,fun e=>by rw[e.2]⟩
theorem eT:Ok T T.eS 9 Fe:=by
 have aR:=aR T;have cu:=cu T;refine T.eS.ok gR fun _ A _ s H vs Q E hr h=>?_
 ·obtain⟨wb,p,ts,g,m,D,zs,rfl,hw,hm,hD,zl,q⟩:=h;refine⟨_,(ai (aF (i:=3) gR.nd rfl (Or.inr rfl) (aC aR hr T.bU.c gP (aa (pv 0) (aa (pv 1) af))))
   (aq (aE (bS (LD K rfl) (by rfl) T.HR PyProof.Rows.boot_all (aa (bh (own:=["other"]) (fq:=["web","length"]) (js:=[0,3]) (aJ (ak cR) ["web","ring","rings","length"]) rfl (mC K (pv 2)) (fun _ _ _ _=>(bD 0 (kZ ["other","web","length"]))) (fun _ _ _ _=>cI) (fun _ _ _ _=>(kM (aC cu hr T.eI.c aL (aa (pv 1) (aa (pv 0) af))) (kL (cB qM (aC aR hr T.bU.c gP (aa (pv 1) (aa (pv 0) af))) (pv 2) (aK _)))))) af))))),?_⟩
  refine dw ?_;intro cj;have W:=g.CZ;refine(aj rfl (aj rfl ⟨wb,p,ts,_,rfl,hw,W,.inl ⟨m,rfl,hm,fun H1 s1=>?_⟩⟩))
  have pY:=s1 _ _ hD;refine(aj rfl ⟨D,rfl,⟨_,aQ.of pY⟩,fun X hX=>aV (K:=K) (a:=D) (xs:=zs.map V.int) (fun i acc H2=>au H1 H2/\H2 X=some (.lst acc)/\∃ bs:List Bool,acc=bs.map V.bl/\bs.length=i/\∀(j:Nat) (z:Int) (b:Bool),zs[j]?=some z->bs[j]?=some b->(b=true↔∃ c:Nat,z=(c:Int)/\c<2^ts.length/\g.N.Ring c/\lenOf ts c<lenOf ts m)) ⟨au.new hX,ae,[],rfl,rfl,fun j z b _ h=>by simp at h⟩ (fun i acc H2 _ z=>⟨aQ.of (z.1 _ _ pY),z.2.1,?_⟩) (Nat.le_of_lt (bT (by rw[List.length_map];lia))) ?_ ?_⟩)
  ·obtain⟨bs,e,e2,_⟩:=z.2.2;rw[e,List.length_map,e2];exact Nat.le_refl _
  ·rintro i x acc H2 hx ⟨s2,hX2,bs,rfl,bl,hb⟩;rw[List.getElem?_map]at hx;obtain⟨z,hz,rfl⟩:=Ah.mp hx;have put:∀(b:Bool) H3,au H2 H3->(b=true↔∃ c:Nat,z=(c:Int)/\c<2^ts.length/\g.N.Ring c/\lenOf ts c<lenOf ts m)->H3 X=some (.lst (bs.map V.bl))/\au H1 (upd H3 X (.lst (bs.map V.bl++[V.bl b])))/\upd H3 X (.lst (bs.map V.bl++[V.bl b])) X=some (.lst (bs.map V.bl++[V.bl b]))/\∃ bs2:List Bool,bs.map V.bl++[V.bl b]=bs2.map V.bl/\bs2.length=i+1/\∀(j:Nat) (z:Int) (b:Bool),zs[j]?=some z->bs2[j]?=some b->(b=true↔∃ c:Nat,z=(c:Int)/\c<2^ts.length/\g.N.Ring c/\lenOf ts c<lenOf ts m):=fun b H3 s3 h=>by
    refine⟨s3 _ _ hX2,(s2.trans s3).put hX,ae,bs++[b],by rw[List.map_append];rfl,by rw[List.length_append,bl];rfl,fun j y b' hy hb'=>?_⟩
    by_cases hj:j<bs.length
    ·rw[List.getElem?_append_left hj]at hb';exact hb j y b' hy hb'
    ·have e:j=i:=by
      have:=(oA.mp hb').1;rw[List.length_append,List.length_singleton]at this
      lia
     subst e;rw[hz]at hy;rw[List.getElem?_append_right (by lia),bl,Nat.sub_self]at hb'
     rw[<-Option.some.inj hy,<-Option.some.inj hb'];exact h
   refine⟨rfl,aj rfl (aj rfl ⟨wb,p,ts,g,z,rfl,hw.same (s1.trans s2),fun H3 d s3 hd=>(aj rfl (?_))⟩)⟩
   cases d with
   | false =>
     refine bK (put false H3 s3 ⟨(fun z=>nomatch z),fun⟨c,h1,h2,h3,_⟩=>?_⟩)
     exact absurd (hd.mpr ⟨c,h1,h2,h3⟩) (by decide)
   | true =>
     obtain⟨c,rfl,c1,c2⟩:=hd.mp rfl;refine bW (aj rfl (aj rfl ⟨wb,p,ts,_,rfl,hw.same ((s1.trans s2).trans s3),W,.inl ⟨c,rfl,c1,fun H4 s4=>(aj rfl (bj (?_)))⟩⟩))
     refine put _ H4 (s3.trans s4) ?_;rw[decide_eq_true_iff];refine⟨fun h=>⟨c,rfl,c1,c2,h⟩,fun⟨c',e,_,_,h⟩=>?_⟩
     have:c=c':=by lia
     subst this;exact h
  ·rintro acc H2 ⟨s2,hX2,bs,rfl,bl,hb⟩;rw[List.length_map]at bl;exact⟨X,bs,rfl,aQ.of hX2,q H2 _ (s1.trans s2) (yo bl hb)⟩
theorem fX:Ok T T.fU 9 Ff:=by
 have aR:=aR T;have cu:=cu T;refine T.fU.ok iO fun _ A _ s H vs Q E hr h=>?_
 ·obtain⟨wb,p,ts,g,m,D,zs,rfl,hw,hm,hD,zl,q⟩:=h;refine⟨_,(ai (aF (i:=3) iO.nd rfl (Or.inr rfl) (aC aR hr T.bU.c gP (aa (pv 0) (aa (pv 1) af))))
   (ai (bf (aI (RA K) (pv 1) (pv 2) (by with_unfolding_all rfl)) (aq (aE jx)) aP)
   (aq (aE (bS (LD K rfl) (by rfl) T.HR PyProof.Rows.boot_all (aa (bh (own:=["other"]) (fq:=["web","length"]) (js:=[0,3]) (aJ (ak dI) ["web","ring","rings","length"]) rfl (mC K (pv 2)) (fun _ _ _ _=>(bD 0 (kZ ["other","web","length"]))) (fun _ _ _ _=>cI) (fun _ _ _ _=>(kM (aC cu hr T.eI.c aL (aa (pv 1) (aa (pv 0) af))) (kL (cB qN (aC aR hr T.bU.c gP (aa (pv 1) (aa (pv 0) af))) (pv 2) (aK _)))))) af)))))),?_⟩
  refine iP ?_;intro cj cQ dH;have W:=g.CZ;refine(aj rfl (aj rfl ⟨wb,p,ts,_,rfl,hw,W,.inl ⟨m,rfl,hm,fun H1 s1=>?_⟩⟩))
  have pY:=s1 _ _ hD;refine(aj rfl (aj rfl (oZ rfl (.inl (aQ.of pY)) ⟨rfl,Ac zs,_,rfl,?_⟩)));rw[if_neg Bool.false_ne_true,CQ]
  by_cases hin:(m:Int)∈zs
  ·rw[cN hin];refine bW (q H1 false s1 ⟨(fun z=>nomatch z),fun h=>?_⟩)
   obtain⟨c,e,_,_,h2,_⟩:=h _ hin
   lia
  rw[fk hin];refine bK ?_;refine(aj rfl ⟨D,rfl,⟨_,aQ.of pY⟩,fun X hX=>aV (K:=K) (a:=D) (xs:=zs.map V.int) (fun i acc H2=>au H1 H2/\H2 X=some (.lst acc)/\∃ bs:List Bool,acc=bs.map V.bl/\bs.length=i/\∀(j:Nat) (z:Int) (b:Bool),zs[j]?=some z->bs[j]?=some b->(b=true↔∃ c:Nat,z=(c:Int)/\c<2^ts.length/\g.N.Ring c/\lenOf ts c<=lenOf ts m)) ⟨au.new hX,ae,[],rfl,rfl,fun j z b _ h=>by simp at h⟩ (fun i acc H2 _ z=>⟨aQ.of (z.1 _ _ pY),z.2.1,?_⟩) (Nat.le_of_lt (bT (by rw[List.length_map];lia))) ?_ ?_⟩)
  ·obtain⟨bs,e,e2,_⟩:=z.2.2;rw[e,List.length_map,e2];exact Nat.le_refl _
  ·rintro i x acc H2 hx ⟨s2,hX2,bs,rfl,bl,hb⟩;rw[List.getElem?_map]at hx;obtain⟨z,hz,rfl⟩:=Ah.mp hx;have put:∀(b:Bool) H3,au H2 H3->(b=true↔∃ c:Nat,z=(c:Int)/\c<2^ts.length/\g.N.Ring c/\lenOf ts c<=lenOf ts m)->H3 X=some (.lst (bs.map V.bl))/\au H1 (upd H3 X (.lst (bs.map V.bl++[V.bl b])))/\upd H3 X (.lst (bs.map V.bl++[V.bl b])) X=some (.lst (bs.map V.bl++[V.bl b]))/\∃ bs2:List Bool,bs.map V.bl++[V.bl b]=bs2.map V.bl/\bs2.length=i+1/\∀(j:Nat) (z:Int) (b:Bool),zs[j]?=some z->bs2[j]?=some b->(b=true↔∃ c:Nat,z=(c:Int)/\c<2^ts.length/\g.N.Ring c/\lenOf ts c<=lenOf ts m):=fun b H3 s3 h=>by
    refine⟨s3 _ _ hX2,(s2.trans s3).put hX,ae,bs++[b],by rw[List.map_append];rfl,by rw[List.length_append,bl];rfl,fun j y b' hy hb'=>?_⟩
    by_cases hj:j<bs.length
    ·rw[List.getElem?_append_left hj]at hb';exact hb j y b' hy hb'
    ·have e:j=i:=by
      have:=(oA.mp hb').1;rw[List.length_append,List.length_singleton]at this
      lia
     subst e;rw[hz]at hy;rw[List.getElem?_append_right (by lia),bl,Nat.sub_self]at hb'
     rw[<-Option.some.inj hy,<-Option.some.inj hb'];exact h
   refine⟨rfl,aj rfl (aj rfl ⟨wb,p,ts,g,z,rfl,hw.same (s1.trans s2),fun H3 d s3 hd=>(aj rfl (?_))⟩)⟩
   cases d with
   | false =>
     refine bK (put false H3 s3 ⟨(fun z=>nomatch z),fun⟨c,h1,h2,h3,_⟩=>?_⟩)
     exact absurd (hd.mpr ⟨c,h1,h2,h3⟩) (by decide)
   | true =>
     obtain⟨c,rfl,c1,c2⟩:=hd.mp rfl;refine bW (aj rfl (aj rfl ⟨wb,p,ts,_,rfl,hw.same ((s1.trans s2).trans s3),W,.inl ⟨c,rfl,c1,fun H4 s4=>(aj rfl (bj (?_)))⟩⟩))
     refine put _ H4 (s3.trans s4) ?_;rw[decide_eq_true_iff];refine⟨fun h=>⟨c,rfl,c1,c2,h⟩,fun⟨c',e,_,_,h⟩=>?_⟩
     have:c=c':=by lia
     subst this;exact h
  ·rintro acc H2 ⟨s2,hX2,bs,rfl,bl,hb⟩;rw[List.length_map]at bl;refine⟨X,bs,rfl,aQ.of hX2,q H2 _ (s1.trans s2) ((yo bl hb).trans ⟨fun h z hz=>?_,fun h z hz=>?_⟩)⟩
   ·obtain⟨c,e,h1,h2,h3⟩:=h z hz;exact⟨c,e,h1,h2,fun z=>hin (by rw[<-z,<-e];exact hz),h3⟩
   ·obtain⟨c,e,h1,h2,_,h3⟩:=h z hz;exact⟨c,e,h1,h2,h3⟩
theorem ik:Ok T T.ie 5 Fg:=by
 have fW:=fW T;have gM:=gM T;refine T.ie.ok tE fun _ A _ s H vs Q E hr h=>?_
 ·obtain⟨wb,p,ts,g,z,m,D,B,rfl,hw,hm,hD,Bl,q⟩:=h;refine⟨_,(ai (bf (PW.pt (nh (jP (cS (aC fW hr T.ly.c aL (aa (pv 0) (aa (pv 1) af))))) (oG (jP (cS (aC gM hr T.gH.c aL (aa (pv 2) (aa (pv 1) af)))))))) (aq (aE jx)) aP)
   (aq (aE (Df (bS (OA K rfl) (by rfl) T.LX PyProof.Rows.boot_any (aa (bh (own:=["other"]) (fq:=["marks"]) (js:=[1]) (aJ (ak ia) ["web","marks","ring","rings"]) rfl (mC K (pv 3)) (fun _ _ _ _=>(bD 0 (kZ ["other","marks"]))) (fun _ _ _ _=>cI) (fun _ _ _ _=>(aC gM hr T.gH.c aL (aa (pv 0) (aa (pv 1) af))))) af)))))),?_⟩
  refine gF ?_;intro cj cQ;have W:=g.CZ;have wl:=g.len;have h2:((2:Int)^ts.length)=((2^ts.length:Nat):Int):=by simp
  refine(aj rfl (aj rfl ⟨wb,p,ts,z,rfl,hw,W,_,rfl,?_⟩))
  by_cases hz:0<=z/\z<2^ts.length
  case neg =>
   rw[fk hz];refine bW (q H false (au.refl _) ⟨(fun z=>nomatch z),fun⟨M,e,hM,_⟩=>absurd ⟨by lia,by lia⟩ hz⟩)
  rw[cN hz];obtain⟨M,rfl⟩:∃ M:Nat,z=(M:Int):=⟨z.toNat,by lia⟩
  have hM:M<2^ts.length:=by lia
  have HY:∀ e:Nat,Builtin.Int.intBits ((e&&&M:Nat):Int)<=1000:=fun e=>Nat.le_trans (bits_le (Nat.and_lt_two_pow _ hM)) (by lia)
  refine bK (aj rfl (aj rfl ⟨_,_,m,M,rfl,rfl,rfl,HY m,fun H1 s1=>(aj rfl (?_))⟩))
  rw[AR (g:=g) hM];cases hb:g.N.par m M with
  | false =>
    refine bW (q H1 false s1 ⟨(fun z=>nomatch z),fun⟨M',e,_,h,_⟩=>?_⟩)
    have:M=M':=by lia
    rw[<-this,hb]at h;cases h
  | true =>
    refine bK ?_;have pY:=s1 _ _ hD;refine(aj rfl ⟨D,rfl,⟨_,aQ.of pY⟩,fun X hX=>aV (K:=K) (a:=D) (xs:=aG B) (fun i acc H2=>au H1 H2/\H2 X=some (.lst acc)/\acc=((B.take i).map fun b=>g.N.par b M).map V.bl) ⟨au.new hX,ae,rfl⟩ (fun i acc H2 _ z=>⟨aQ.of (z.1 _ _ pY),z.2.1,by rw[z.2.2,List.length_map,List.length_map,List.length_take];lia⟩) (Nat.le_of_lt (bT (by rw[aA];lia))) ?_ ?_⟩)
    ·rintro i x acc H2 hx ⟨s2,hX2,rfl⟩;obtain⟨c,mK,rfl⟩:=bJ hx;refine⟨rfl,aj rfl (aj rfl ⟨_,_,c,M,rfl,rfl,rfl,HY c,fun H3 s3=>⟨s3 _ _ hX2,(s2.trans s3).put hX,ae,?_⟩⟩)⟩
     rw[AR (g:=g) hM,take3 mK,List.map_append,List.map_append];rfl
    ·rintro acc H2 ⟨s2,hX2,rfl⟩;rw[aA,List.take_length]at hX2;refine⟨X,_,rfl,aQ.of hX2,?_⟩;refine(aj rfl (q H2 _ (s1.trans s2) ?_));rw[Bool.not_eq_true',List.any_eq_false]
     constructor
     ·intro h;refine⟨M,rfl,hM,hb,fun b C5=>?_⟩
      have:=h _ (List.mem_map.mpr ⟨b,C5,rfl⟩);exact Ib.mpr this
     ·rintro⟨M',e,_,_,h⟩ x hx;obtain⟨b,C5,rfl⟩:=List.mem_map.mp hx;have:M=M':=by lia
      subst this;rw[h b C5]
      decide
theorem iV:CF T T.iU 12 (Me a.iA a.dh a.jJ a.cK b8):=by
 have cg:=cg T;have eK:=eK T;have cG:=cG T;have dz:=dz T;have jh:=jh T;have eT:=eT T;have fX:=fX T;have ik:=ik T;refine T.iU.yQ qa fun _ A _ s H vs Q E hr h=>?_
 ·obtain⟨wb,p,ts,g,S,v,rfl,hw,htb,h8,h9,q⟩:=h;refine⟨_,(ai (eZ (aC cg hr T.fT.c ef.passes (aa (pv 0) af)))
   (ai (eZ (aC eK hr T.ic.c ef.passes (aa (pv 0) (aa (pv 1) af))))
   (ai (bf (aI bE (aM (cC K) (pv 2) ah) dZ (aK _)) (aq (aE (kM (aC eT hr T.eS.c aL (aa (pv 0) (aa (pv 1) (aa (aM (cC K) (pv 2) ah) af)))) (kL (aC jh hr T.jg.c aL (aa (pv 1) (aa (aM (cC K) (pv 2) ah) af))))))) aP)
   (ai (bf (aI bE (aM (cC K) (pv 2) ah) dZ (aK _)) (aq (aE (aC ik hr T.ie.c aL (aa (pv 0) (aa (aM (cC K) (pv 2) ah) (aa (pv 1) (aa (aC dz hr T.gI.c aL (aa (pv 0) (aa (pv 1) af))) af))))))) aP)
   (ai (bf (jP (cS (aC ik hr T.ie.c aL (aa (pv 0) (aa (aM (cC K) (pv 2) ah) (aa (pv 1) (aa (aC cG hr T.fg.c aL (aa (pv 0) (aa (pv 1) af))) af))))))) (aq (aE jx)) aP)
   (aq (aE (kM (aC fX hr T.fU.c aL (aa (pv 0) (aa (pv 1) (aa (aM (cC K) (pv 2) ah) af)))) (kL (aC jh hr T.jg.c aL (aa (pv 1) (aa (aM (cC K) (pv 2) ah) af)))))))))))),?_⟩
  refine qb ?_;intro cj cQ dH fH gS mG nL rY;refine(aj rfl ⟨wb,p,ts,g,rfl,hw,.inl ⟨h8,fun H1 s1=>?_⟩⟩)
  refine(aj rfl (aj rfl ⟨wb,p,ts,g,S,rfl,hw.same s1,?_⟩));rcases q with⟨m,rfl,hm,q1,q2⟩|⟨hS,q⟩
  case inr=>exact .inr ⟨hS,fun H' s'=>q H' (s1.trans s')⟩
  refine .inl ⟨m,rfl,hm,fun r H2 s2=>?_,fun r H2 s2=>q2 r H2 (s1.trans s2)⟩
  have s12:=s1.trans s2;obtain⟨pp,l,hv,R,q⟩:=q1 r;clear q1 q2;cases pp with
  | nn zs =>
    obtain⟨c,D,rfl,hc,hD,zl⟩:=hv;refine(aj rfl (bX (aY.of (s12 _ _ hc)) (ao (j:=0) rfl) ⟨rfl,aj rfl (bW ?_)⟩));refine(aj rfl (aj rfl (aj rfl (bX (aY.of (s12 _ _ hc)) (ao (j:=1) rfl) ⟨wb,p,ts,g,m,D,zs,rfl,hw.same s12,hm,s12 _ _ hD,zl,fun H3 d s3 hd=>(aj rfl (?_))⟩))))
    have g4:=s12.trans s3;cases d with
    | false =>
      refine bK (q H3 false g4 ⟨(fun z=>nomatch z),fun h=>absurd (hd.mpr fun z hz=>?_) (by decide)⟩)
      obtain⟨c,e,h1,h2,_,h3⟩:=yn h z hz;exact⟨c,e,h1,h2,h3⟩
    | true =>
      obtain⟨C,rfl,hC⟩:=(hd.mp rfl).cast;rw[List.length_map]at zl;refine bW (aj rfl (aj rfl (bX (aY.of (g4 _ _ hc)) (ao (j:=1) rfl) ⟨m,D,C,rfl,by rw[cM];exact g4 _ _ hD,zl,fun H4 d2 s4 hd2=>q H4 d2 (g4.trans s4) (hd2.trans (wu fun c hc=>?_))⟩)))
      obtain⟨h1,h2,h3⟩:=hC c hc;exact⟨h1,h2,fun e=>by rw[e]at h3;lia,h3⟩
  | ss z zs =>
    obtain⟨c,D,rfl,hc,hD,zl⟩:=hv;refine(aj rfl (bX (aY.of (s12 _ _ hc)) (ao (j:=0) rfl) ⟨rfl,aj rfl (bK ?_)⟩));refine(aj rfl (bX (aY.of (s12 _ _ hc)) (ao (j:=0) rfl) ⟨rfl,aj rfl (bK ?_)⟩));refine(aj rfl (aj rfl (bX (aY.of (s12 _ _ hc)) (ao (j:=1) rfl) (aj rfl (aj rfl (aj rfl ⟨wb,p,ts,g,m,rfl,hw.same s12,hm,s12 _ _ htb,h8,h9,fun X l' H3 hX s3 jO R'=>?_⟩))))))
    obtain rfl:l' = l:=R'.uniq R;have CO:=R.few h9;have shl:(qp ts l' m).length<=l'.length:=List.length_filter_le _ _;have g4:=s12.trans s3;refine⟨wb,p,ts,g,z,m,X,_,rfl,hw.same g4,hm,jO,by lia,fun H4 d s4 hd=>(aj rfl (?_))⟩
    have wz:=g4.trans s4;cases d with
    | false=>exact bW (q H4 false wz ⟨(fun z=>nomatch z),fun h=>absurd (hd.mpr h.1) (by decide)⟩)
    | true =>
      have ON:=hd.mp rfl;refine bK (aj rfl (aj rfl (aj rfl (bX (aY.of (wz _ _ hc)) (ao (j:=2) rfl) ⟨wb,p,ts,g,m,D,zs,rfl,hw.same wz,hm,wz _ _ hD,zl,fun H5 d s5 hd=>(aj rfl (?_))⟩))))
      have A6:=wz.trans s5;cases d with
      | false=>exact bK (q H5 false A6 ⟨(fun z=>nomatch z),fun h=>absurd (hd.mpr (yn h.2)) (by decide)⟩)
      | true =>
        obtain⟨C,rfl,hC⟩:=(hd.mp rfl).cast;rw[List.length_map]at zl;exact bW (aj rfl (aj rfl (bX (aY.of (A6 _ _ hc)) (ao (j:=2) rfl) ⟨m,D,C,rfl,by rw[cM];exact A6 _ _ hD,zl,fun H6 d2 s6 hd2=>q H6 d2 (A6.trans s6) ((hd2.trans (wu hC)).trans ⟨fun h=>⟨ON,h⟩,fun h=>h.2⟩)⟩)))
  | ee z =>
    obtain⟨c,rfl,hc⟩:=hv;refine(aj rfl (bX (aY.of (s12 _ _ hc)) (ao (j:=0) rfl) ⟨rfl,aj rfl (bK ?_)⟩));refine(aj rfl (bX (aY.of (s12 _ _ hc)) (ao (j:=0) rfl) ⟨rfl,aj rfl (bW ?_)⟩));refine(aj rfl (aj rfl (bX (aY.of (s12 _ _ hc)) (ao (j:=1) rfl) (aj rfl (aj rfl (aj rfl ⟨wb,p,ts,g,m,rfl,hw.same s12,hm,s12 _ _ htb,h8,h9,fun X l' H3 hX s3 jO R'=>?_⟩))))))
    obtain rfl:l' = l:=R'.uniq R;have CO:=R.few h9;have OI:(qt ts l' m).length<=l'.length:=List.length_filter_le _ _;have g4:=s12.trans s3;exact⟨wb,p,ts,g,z,m,X,_,rfl,hw.same g4,hm,jO,by lia,fun H4 d s4 hd=>q H4 d (g4.trans s4) hd⟩
def G3(K:bI):Sp:=fun vs H Q _=>∃(a:Addr) (ns:List Int) (k:Int),vs=[.ref a,.int k]/\0<=k/\aQ K H a (ns.map V.int)/\∀ z,Q (.int z) H
def Fi:Sp:=fun vs H Q _=>∃(c k:Int),vs=[.int c,.int k]/\0<=k/\k<=1000/\∀ z,0<=z->z<1000000007->Q (.int z) H
def G4:Sp:=fun vs H Q _=>∃(c:Int) (k:Nat),vs=[.int c,.int (k:Int)]/\∀ z,1<=z->z<=1000000000000000000000000000000->Q (.int z) H
def JC:Sp:=fun vs H Q _=>∃(c:Int) (p m:Nat),vs=[.int c,.int (p:Int),.int (m:Int)]/\2<=p/\p<=10/\∀ t b H',au H H'->nE (p:Int) t->H' b=some (.tup (Gr t))->Q (.ref b) H'
def JD(K:bI):Sp:=fun vs H Q _=>∃(a:Addr) (ns:List Int) (mt rk:Nat),vs=[.ref a,.int (mt:Int),.int (rk:Int)]/\aQ K H a (ns.map V.int)/\ns.length<=63/\mt<=24/\
 ∀ w p ts H',au H H'->aB p ts->2<=p->p<=6->ts.length<=mt->bg H' w p ts->Q (.ref w) H'
def Mf(H:Hp)(D:Addr)(n p:Nat):Prop:=∃ ks:List Nat,H D=some (.lst (aG ks))/\ks.length=n/\∀ k∈ks,k<p
theorem dB:Ok T T.gJ 1 (G3 K):=by
 refine T.gJ.ok sj fun _ A _ s H vs Q E hr h=>?_
 ·obtain⟨b,ns,k,rfl,hk0,hS,q⟩:=h;refine⟨_,(ai (bf (aI qM (pv 1) (cz K T.dQ (aa (pv 0) af)) (aK _)) (aq (aE (aM (mh K) (pv 0) (pv 1)))) aP)
   (aq (aE ah))),?_⟩
  refine gF ?_;intro cj cQ;refine(aj rfl (aj rfl ⟨b,_,rfl,.inl hS,_,_,rfl,rfl,aj rfl (dD (fun hlt=>?_) (fun _=>q 0))⟩))
  have hlt:=jw hlt;rw[List.length_map]at hlt;obtain⟨k,rfl⟩:=Int.eq_ofNat_of_zero_le hk0;exact(aj rfl (aj rfl ⟨b,_,_,_,rfl,rfl,hS,ao (j:=k) (Gu (by lia)),q _⟩))
theorem bV:Ok T T.eA 1 Fi:=by
 refine T.eA.ok j4 fun _ A _ s H vs Q E hr h=>?_
 ·obtain⟨c,k,rfl,hk,hk2,q⟩:=h;refine⟨_,(ai (aF (i:=2) j4.nd rfl (Or.inl rfl) (aD cY (aD bA (pv 0) ah) (aD yI ah (pv 1))))
   (ai (aF (i:=3) j4.nd rfl (Or.inl rfl) (aD bA (aD yI (aD cY (pv 2) ah) (aD cY (pv 2) ah)) ah))
   (aq (aE (aD gB (aD bA (aD yI (pv 3) (pv 3)) ah) ah))))),?_⟩
  refine i9 ?_;intro cj cQ;have h1:=mD c 1000000007 (by decide)
  refine(aj rfl (bj ⟨(jk rfl),aj rfl (bj ⟨.inl ⟨by decide,by decide⟩,bj (?_)⟩)⟩))
  refine(aj rfl (bj (aj rfl (bj (bj ⟨.inl ⟨by lia,by lia⟩,bj ⟨(jk rfl),?_⟩⟩)))))
  have h2:=mD ((c%1000000007+7919*k+11)*(c%1000000007+7919*k+48271)) 998244353 (by decide)
  dsimp only;generalize (c%1000000007+7919*k+11)*(c%1000000007+7919*k+48271)%998244353=st at h2;refine(aj rfl (aj rfl (bj ⟨.inl ⟨by lia,by lia⟩,bj ⟨(jk rfl),bj ⟨⟨by decide,by decide⟩,?_⟩⟩⟩)))
  have h3:=mD (st*st) 1000000007 (by decide)
  dsimp only;generalize st*st%1000000007=y at h3;exact q _ (by lia) (by lia)
theorem kE:Ok T T.ko 1 G4:=by
 refine T.ko.ok tF fun _ A _ s H vs Q E hr h=>?_
 ·obtain⟨c,k,rfl,q⟩:=h;refine⟨_,(ai (bf (aI bE (pv 1) ah (aK _)) (aq (aE (aD cY ah (aD bA (pv 0) ah)))) aP)
   (ai (bf (aI bE (pv 1) ah (aK _)) (aq (aE (aD cY ah (aD bA (pv 0) ah)))) aP)
   (aq (aE (aD cY ah (aD bA (pv 0) (aD Ds ah ah))))))),?_⟩
  refine tG ?_;intro cj cQ dH fH;have h9:=mD c 9 (by decide)
  have h3:=mD c 3 (by decide)
  have Vx:=mD c (10^(30:Int).toNat) (by decide)
  have e:(10:Int)^(30:Int).toNat=1000000000000000000000000000000:=by decide
  refine(aj rfl ⟨rfl,aj rfl (dD (fun _=>(aj rfl (bj ⟨(jk rfl),bj (q _ (by lia) (by lia))⟩))) (fun _=>(aj rfl ⟨rfl,aj rfl (dD (fun _=>(aj rfl (bj ⟨(jk rfl),bj (q _ (by lia) (by lia))⟩))) (fun _=>(aj rfl (bj ⟨⟨by decide,by decide,by decide⟩,bj ⟨(jk (by decide)),bj (q _ (by lia) (by lia))⟩⟩))))⟩)))⟩)
theorem pO:Ok T T.pJ 2 JC:=by
 have kE:=kE T;refine T.pJ.ok j7 fun _ A _ s H vs Q E hr h=>?_
 ·obtain⟨c,p,m,rfl,hp,Pb,q⟩:=h;refine⟨_,(ai (aF (i:=3) j7.nd rfl (Or.inl rfl) (aD bA (pv 0) (pv 1)))
   (ai (aF (i:=0) j7.nd rfl (Or.inl rfl) (aD gB (pv 0) (pv 1)))
   (ai (aF (i:=4) j7.nd rfl (Or.inl rfl) (aD bA (aD cY (aD cY (pv 3) ah) (aD bA (pv 0) (aD gV (pv 1) ah))) (pv 1)))
   (aq (aE (fm (aa (pv 3) (aa (pv 4) (aa (aC kE hr T.ko.c aL (aa (aD gB (pv 0) (aD gV (pv 1) ah)) (aa (pv 2) af))) af))))))))),?_⟩
  refine zC ?_;intro cj cQ dH;obtain⟨h1,h2⟩:=mD c (p:Int) (by lia)
  obtain⟨h3,h4⟩:=mD (c/(p:Int)) ((p:Int)-1) (by lia)
  obtain⟨g1,g2,g3⟩:=DW h1 h2 h3 h4;refine(aj rfl (aj rfl (bj ⟨(by lia),?_⟩)))
  refine(aj rfl (aj rfl (bj ⟨⟨by lia,by lia⟩,?_⟩)))
  refine(aj rfl (bj (aj rfl (aj rfl (bj (bj ⟨(by lia),bj (aj rfl (bj ⟨(by lia),?_⟩))⟩))))))
  refine(aj rfl (aj rfl (aj rfl (aj rfl (bj (bj ⟨⟨by lia,by lia⟩,aj rfl ⟨_,m,rfl,fun z hz hz2=>⟨dl rfl,fun b hb=>?_⟩⟩⟩))))))
  exact q (_,_,z) b _ (au.new hb) ⟨h1,h2,g1,g2,g3,hz,hz2⟩ ae
theorem pP:Ok T T.pL 3 (JD K):=by
 have dB:=dB T;have bV:=bV T;have pO:=pO T;refine T.pL.ok bu fun _ A _ s H vs Q E hr h=>?_
 ·obtain⟨b,ns,mt,rk,rfl,hS,hn,hmt,q⟩:=h;refine⟨_,(ai (aF (i:=3) bu.nd rfl (Or.inr rfl) (aC dB hr T.gJ.c aL (aa (pv 0) (aa ah af))))
   (ai (aF (i:=4) bu.nd rfl (Or.inl rfl) (aD cY ah (aD bA (pv 3) ah)))
   (ai (aF (i:=5) bu.nd rfl (Or.inl rfl) (aD bA (aD gB (pv 3) ah) ah))
   (ai (aF (i:=6) bu.nd rfl (Or.inl rfl) (iF (Lm K) (pv 0) (iY ah) lM))
   (ai (bf (aI bE (aD bA (aD gB (pv 3) ah) ah) ah (aK _)) (ai (lN (i:=6) bu.nd rfl rfl (own:=["k","cell"]) (fq:=[]) (js:=[]) (aJ (ak gx) ["script","most","ranked","head","points","way","cells","ties","marks","free","cell","tie","joined","old"]) rfl (vd K (by rfl) T.lD (aa (iF (Lm K) (pv 0) (iY ah) lM) af)) (fun _ _ _ _=>(Hv K (n:=2) rfl (bw (bD 0 (kZ ["k","cell"])) (bw (bD 1 (kZ ["k","cell"])) iX)))) (fun _ _ _ _=>cI) (fun _ _ _ _=>(aC bV hr T.eA.c aL (aa (pv 1) (aa (pv 0) af)))))
   (aq (eZ (J8 K (t8 PySem.F.plainAttrs_list PySem.F.slot_list_extend PySem.F.type_list_extend Bt (pv 6) (aa (bh (own:=["k"]) (fq:=["head"]) (js:=[3]) (aJ (ak gx) ["script","most","ranked","head","points","way","cells","ties","marks","free","cell","tie","joined","old"]) rfl (cT (by rfl) T.dR (aa ah af)) (fun _ _ _ _=>(bD 0 (kZ ["k","head"]))) (fun _ _ _ _=>cI) (fun _ _ _ _=>(aC bV hr T.eA.c aL (aa (pv 1) (aa (aD cY ah (pv 0)) af))))) af)))))) aP)
   (ai (aF (i:=7) bu.nd rfl (Or.inl rfl) (cU af))
   (ai (aF (i:=8) bu.nd rfl (Or.inr rfl) (bh (own:=["point"]) (fq:=[]) (js:=[]) (aJ (ak gx) ["script","most","ranked","head","points","way","cells","ties","marks","free","cell","tie","joined","old"]) rfl (cT (by rfl) T.dR (aa (pv 4) af)) (fun _ _ _ _=>(bD 0 (kZ ["point"]))) (fun _ _ _ _=>cI) (fun _ _ _ _=>(pv 0))))
   (ai (aF (i:=9) bu.nd rfl (Or.inl rfl) ah)
   (ai (fJ PassesOwn.never rfl (mC K (pv 6)) (bD 10 bu.nd)
   (ai (aF (i:=11) bu.nd rfl (Or.inr rfl) (aC pO hr T.pJ.c aL (aa (pv 10) (aa (pv 4) (aa (pv 5) af)))))
   (ai (aF (i:=12) bu.nd rfl (Or.inl rfl) (cB qL (aM (mh K) (pv 8) (aM (cC K) (pv 11) ah)) (aM (mh K) (pv 8) (aM (cC K) (pv 11) ah)) (aK _)))
   (aq (bf (PW.pt (oH (aI qM (cz K T.dQ (aa (pv 7) af)) (pv 1) (aK _)) (lK (PW.pt (nh (cS (pv 12)) (oG (aI qM (pv 9) (pv 2) (aK _)))))))) (ai (eZ (J8 K (t8 PySem.F.plainAttrs_list PySem.F.slot_list_append PySem.F.type_list_append iq (pv 7) (aa (pv 11) af))))
   (ai (aF (i:=9) bu.nd rfl (Or.inl rfl) (aD cY (pv 9) (di oM (by rfl) T.E3 PyProof.Rows.boot_int (aa (Df (pv 12)) af))))
   (ai (aF (i:=13) bu.nd rfl (Or.inr rfl) (aM (mh K) (pv 8) (aM (cC K) (pv 11) ah)))
   (aq (aF (i:=8) bu.nd rfl (Or.inr rfl) (bh (own:=["mark"]) (fq:=["marks","tie","old"]) (js:=[8,11,13]) (aJ (ak gx) ["script","most","ranked","head","points","way","cells","ties","marks","free","cell","tie","joined","old"]) rfl (mC K (pv 8)) (fun _ _ _ _=>(bD 0 (kZ ["mark","marks","tie","old"]))) (fun _ _ _ _=>cI) (fun _ _ _ _=>(aM (mh K) (cU (aa (pv 0) (aa (aM (mh K) (pv 1) (aM (cC K) (pv 2) ah)) af))) (di oM (by rfl) T.E3 PyProof.Rows.boot_int (aa (cB bE (pv 0) (pv 3) (aK _)) af)))))))))) aP)))))
   (aq (aE (fm (aa (pv 4) (aa (di (Ll K) (by rfl) T.GX PyProof.Rows.boot_tuple (aa (pv 7) af)) af)))))))))))))),?_⟩
  refine zD ?_;intro cj cQ dH fH gS mG nL rY sY xN sq qe sr su sy EN EO ER;refine(aj rfl ⟨b,ns,0,rfl,(by decide),hS,fun z=>?_⟩)
  refine(aj rfl (bj ⟨(jk rfl),bj (?_)⟩));obtain⟨p,hp,p1,p2⟩:∃ p:Nat,2+z%5=(p:Int)/\2<=p/\p<=6:=by
   obtain⟨h1,h2⟩:=mD z 5 (by decide)
   exact⟨(2+z%5).toNat,by lia,by lia,by lia⟩
  dsimp only;rw[hp];refine(aj rfl (bj ⟨⟨by decide,by decide⟩,bj ⟨(jk rfl),?_⟩⟩))
  obtain⟨wy,SR⟩:∃ y:Nat,z/5%3=(y:Int):=by
   obtain⟨h1,h2⟩:=mD (z/5) 3 (by decide)
   exact⟨(z/5%3).toNat,by lia⟩
  dsimp only;rw[SR];refine(aj rfl (aj rfl ⟨b,_,rfl,hS,fun c hc=>?_⟩))
  have JE:=wV ns (some 1) none;have hml:((ns.drop (HT.eB ns.length 0 (some 1))).take (HT.eB ns.length ns.length none-HT.eB ns.length 0 (some 1))).length<=63:=by
   rw[List.length_take,List.length_drop]
   lia
  generalize (ns.drop (HT.eB ns.length 0 (some 1))).take (HT.eB ns.length ns.length none-HT.eB ns.length 0 (some 1))=ms at JE hml;rw[JE];have cont:∀(c1:Addr) (ms1:List Int) (H1:Hp),au H H1->H1 c1=some (.lst (ms1.map V.int))->qe { nx:=fun _ H'=>Q V.gh H',rt:=Q} [some (.ref b),some (.int (mt:Int)),some (.int (rk:Int)),some (.int z),some (.int (p:Int)),some (.int (wy:Int)),some (.ref c1),none,none,none,none,none,none,none] H1:=by
   intro c1 ms1 H1 s1 hc1;refine⟨dl rfl,fun L hL=>?_⟩
   have t2:p8 (p:Int) H1 L 0 (upd H1 L (.lst [])):=.start hL;generalize upd H1 L (.lst [])=H2 at t2;refine(aj rfl (aj rfl ⟨(by lia),(by lia),fun M hM=>fu (lo:=0) (m:=(p:Int).toNat) (nB (fun _=>true) H2 M) (.start hM) (fun i acc H3 _ pk=>pk.len) (e7 (by lia)) ?_ ?_⟩))
   ·intro i acc H3 hi pk;rw[Int.zero_add];exact⟨rfl,aj rfl (pk.yes hM (au.refl _) rfl)⟩
   intro acc H3 pk;have b3:Mf H3 M p p:=by
    refine⟨(List.range p).filter (fun _=>true),by rw[pk.2.1,pk.2.2,Int.toNat_natCast],?_,fun k hk=>List.mem_range.mp (List.mem_filter.mp hk).1⟩
    rw[List.filter_eq_self.mpr (fun _ _=>rfl),List.length_range]
   have t3:p8 (p:Int) H1 L 0 H3:=by
    obtain⟨a1,acc,ts,a2,a3,a4⟩:=t2;exact⟨a1.trans pk.1,acc,ts,pk.1 _ _ a2,Paired.imp' (fun _ _ z=>z.tups pk.1.tups) a3,a4⟩
   clear pk;have fr:H1 M=none:=t2.1.free hM;refine(aj rfl ⟨c1,rfl,⟨_,aQ.of (t3.1 _ _ hc1)⟩,dm (K:=K) (a:=c1) (xs:=ms1.map V.int) (fun i σ H4=>∃(M:Addr) (n:Nat) (f:Int) (v10 v11 OO Mg:Option V),σ=[some (.ref b),some (.int (mt:Int)),some (.int (rk:Int)),some (.int z),some (.int (p:Int)),some (.int (wy:Int)),some (.ref c1),some (.ref L),some (.ref M),some (.int f),v10,v11,OO,Mg]/\p8 (p:Int) H1 L n H4/\n<=mt/\Mf H4 M p p/\H1 M=none/\M≠L) ⟨M,0,0,none,none,none,none,rfl,t3,Nat.zero_le _,b3,fr,fun e=>?_⟩ (fun i σ H4 _ ⟨_,_,_,_,_,_,_,_,t,_⟩=>aQ.of (t.1 _ _ hc1)) ?_ ?_⟩)
   ·obtain⟨_,acc,_,a2,_⟩:=t2;rw[e,a2]at hM;cases hM
   ·rintro i y D' σ H4 hi ⟨M,n,f,v10,v11,OO,Mg,rfl,t4,hnm,b4,Qe,OP⟩;rw[List.getElem?_map]at hi;obtain⟨ce,hce,rfl⟩:=Ah.mp hi;refine(aj rfl (aj rfl (aj rfl ⟨ce,p,wy,rfl,p1,by lia,fun t bt H5 s5 gt Nb=>?_⟩)))
    obtain⟨ks,SS,kl,kb⟩:=b4;have Nc:=s5 _ _ SS;have t5:p8 (p:Int) H1 L n H5:=by
     obtain⟨a1,acc,ts,a2,a3,a4⟩:=t4;exact⟨a1.trans s5,acc,ts,s5 _ _ a2,Paired.imp' (fun _ _ z=>z.tups s5.tups) a3,a4⟩
    obtain⟨u,hu⟩:=Int.eq_ofNat_of_zero_le gt.a0;obtain⟨v,hv⟩:=Int.eq_ofNat_of_zero_le gt.b0;have Qf:u<ks.length:=by have:=gt.a1;lia
    have SV:v<ks.length:=by have:=gt.b1;lia
    have SW:(aG ks)[u]?=some (.int (ks[u]:Int)):=AJ (List.getElem?_eq_getElem Qf);have hkv:(aG ks)[v]?=some (.int (ks[v]:Int)):=AJ (List.getElem?_eq_getElem SV);have iu:yy (aG ks) t.1=some (.int (ks[u]:Int)):=by rw[hu];exact ao SW
    have iv:yy (aG ks) t.2.1=some (.int (ks[v]:Int)):=by rw[hv];exact ao hkv
    have SX:=kb _ (List.getElem_mem Qf);refine(aj rfl (aj rfl (bX (aY.of Nb) (ao (j:=0) rfl) (lT (aQ.of Nc) (iu) (aj rfl (aj rfl (bX (aY.of Nb) (ao (j:=1) rfl) (lT (aQ.of Nc) (iv) ⟨rfl,?_⟩))))))));obtain⟨Vy,Ad,Vz,Mh,VA,VB,VC⟩:=id t5;have skip:D'.nx [some (.ref b),some (.int (mt:Int)),some (.int (rk:Int)),some (.int z),some (.int (p:Int)),some (.int (wy:Int)),some (.ref c1),some (.ref L),some (.ref M),some (.int f),some (.int ce),some (.ref bt),some (.bl (!decide (V.int (ks[u]:Int)=V.int (ks[v]:Int)))),Mg] H5:=⟨M,n,f,_,_,_,_,rfl,t5,hnm,⟨ks,Nc,kl,kb⟩,Qe,OP⟩;generalize (!decide (V.int (ks[u]:Int)=V.int (ks[v]:Int)))=jb at skip;have put:Ad.length<mt->gS D' [some (.ref b),some (.int (mt:Int)),some (.int (rk:Int)),some (.int z),some (.int (p:Int)),some (.int (wy:Int)),some (.ref c1),some (.ref L),some (.ref M),some (.int f),some (.int ce),some (.ref bt),some (.bl jb),Mg] H5:=fun hlt=>by
     obtain⟨SY,e6,t6⟩:∃ acc,H5 L=some (.lst acc)/\p8 (p:Int) H1 L (n+1) (upd H5 L (.lst (acc++[.ref bt]))):=by
      have:=t5.push hL (au.refl _) gt Nb;obtain⟨acc,e1,_,e2⟩:=this;exact⟨acc,e1,e2⟩
     rw[Mh]at e6;cases e6;refine(aj rfl ⟨.inl ⟨rfl,_,aQ.of Mh⟩,aj rfl ⟨L,_,_,rfl,rfl,Mh,bT (by lia),?_⟩⟩)
     have Mi:upd H5 L (.lst (Ad++[.ref bt])) M=some (.lst (aG ks)):=by rw[ay OP];exact Nc
     have JF:upd H5 L (.lst (Ad++[.ref bt])) bt=some (.tup (Gr t)):=jz.put Mh _ _ Nb;have Qg:upd H5 L (.lst (Ad++[.ref bt])) L=some (.lst (Ad++[.ref bt])):=ae;generalize upd H5 L (.lst (Ad++[.ref bt]))=H6 at t6 Mi JF Qg;refine(aj rfl (aj rfl (aj rfl (.inr (aj rfl (bj (?_)))))));refine(aj rfl (aj rfl (bX (aY.of JF) (ao (j:=1) rfl) (lT (aQ.of Mi) (iv) (?_)))));refine(aj rfl ⟨M,rfl,⟨_,aQ.of Mi⟩,fun M2 G5=>aV (xs:=aG ks) (fun i acc H7=>au H6 H7/\H7 M2=some (.lst acc)/\∃ A7:List Nat,acc=aG A7/\A7.length=i/\∀ k∈A7,k<p) ⟨au.new G5,ae,[],rfl,rfl,(fun k hk=>nomatch hk)⟩ (fun i acc H7 _ z=>⟨aQ.of (z.1 _ _ Mi),z.2.1,by obtain⟨A7,e,e2,_⟩:=z.2.2;rw[e,aA,e2];exact Nat.le_refl _⟩) (e7 (by rw[aA];lia)) ?_ ?_⟩)
     ·rintro i x acc H7 hx ⟨s7,OQ,A7,rfl,Nd,kb2⟩;obtain⟨k,hk,rfl⟩:=bJ hx;have hkp:=kb k (m8 hk);refine⟨rfl,aj rfl (aj rfl (aj rfl (bX (aY.of (s7 _ _ JF)) (ao (j:=0) rfl) (lT (aQ.of (s7 _ _ Mi)) (iu) ⟨dl rfl,fun l hl=>?_⟩))))⟩
      have s8:au H7 (upd H7 l (.lst [.int (k:Int),.int (ks[u]:Int)])):=au.new hl;have OR:upd H7 l (.lst [.int (k:Int),.int (ks[u]:Int)]) l=some (.lst [.int (k:Int),.int (ks[u]:Int)]):=ae;generalize upd H7 l (.lst [.int (k:Int),.int (ks[u]:Int)])=H8 at s8 OR;refine(aj rfl (aj rfl ⟨rfl,.inr (aj rfl (?_))⟩));have Qh:∀ k' : Nat,k'<p->H8 M2=some (.lst (aG A7))/\au H6 (upd H8 M2 (.lst (aG A7++[.int (k' : Int)])))/\upd H8 M2 (.lst (aG A7++[.int (k' : Int)])) M2=some (.lst (aG A7++[.int (k' : Int)]))/\∃ ks3:List Nat,aG A7++[.int (k' : Int)]=aG ks3/\ks3.length=i+1/\∀ k∈ks3,k<p:=fun k' hk'=>by
       refine⟨s8 _ _ OQ,(s7.trans s8).put G5,ae,A7++[k'],(bL A7 k').symm,by rw[List.length_append,Nd];rfl,fun x hx=>?_⟩
       rcases List.mem_append.mp hx with hx|hx
       ·exact kb2 x hx
       ·have e:x=k':=by simpa using hx
        lia
      cases hd:decide (V.int (k:Int)=V.int (ks[v]:Int)) with
      | true=>exact(lT (aQ.of OR) (ao (j:=1) rfl) (Qh _ SX))
      | false=>exact(lT (aQ.of OR) (ao (j:=0) rfl) (Qh _ hkp))
     ·rintro acc H7 ⟨s7,OQ,A7,rfl,Nd,kb2⟩;rw[aA,kl]at Nd;refine⟨M2,n+1,_,_,_,_,_,rfl,?_,by lia,⟨A7,OQ,Nd,kb2⟩,t6.1.free G5,fun e=>?_⟩
      ·obtain⟨a1,acc,ts,a2,a3,a4⟩:=t6;exact⟨a1.trans s7,acc,ts,s7 _ _ a2,Paired.imp' (fun _ _ z=>z.tups s7.tups) a3,a4⟩
      ·rw[e,Qg]at G5;cases G5
    refine(aj rfl (oZ rfl (.inl (aQ.of Mh)) (aj rfl (bj (aj rfl (dD (fun h1=>?_) (fun _=>skip)))))))
    have h1:(Ad.length:Int)<(mt:Int):=jw h1;refine(aj rfl (aj rfl (?_)));cases jb with
    | true=>exact bW (put (by lia))
    | false=>exact bK (aj rfl (aj rfl (bj (aj rfl (dD (fun _=>put (by lia)) (fun _=>skip))))))
   ·rintro σ H4 ⟨M,n,f,v10,v11,OO,Mg,rfl,t4,hnm,b4,Qe,OP⟩;obtain⟨acc,ts,S0,VD,gd,mk⟩:=t4.fin;refine(aj rfl (aj rfl ⟨L,_,rfl,.inl ⟨aQ.of S0,fun l hl=>⟨dl rfl,fun w hw=>?_⟩⟩⟩))
    obtain⟨sm,S3⟩:=mk l hl w hw;exact q w p ts _ (s1.trans sm) ⟨by lia,by lia,by lia,gd⟩ p1 p2 (by lia) S3
  refine(aj rfl (bj ⟨⟨by decide,by decide⟩,bj ⟨(jk rfl),rfl,aj rfl (dD (fun _=>?_) (fun _=>cont c ms _ (au.new hc) ae))⟩⟩))
  have s1:au H (upd H c (.lst (ms.map V.int))):=au.new hc;generalize upd H c (.lst (ms.map V.int))=H1 at s1;refine(aj rfl (aj rfl ⟨b,_,rfl,s1.seq hS,fun c3 hc3=>?_⟩))
  rw[JE];have s2:au H1 (upd H1 c3 (.lst (ms.map V.int))):=au.new hc3;have hc2:upd H1 c3 (.lst (ms.map V.int)) c3=some (.lst (ms.map V.int)):=ae;generalize upd H1 c3 (.lst (ms.map V.int))=H2 at s2 hc2;refine⟨c3,rfl,⟨_,aQ.of hc2⟩,fun D hD=>zd (xs:=ms.map V.int) (fun i acc H3=>au H2 H3/\H3 D=some (.lst acc)/\∃ ms2:List Int,acc=ms2.map V.int/\ms2.length=i) ⟨au.new hD,ae,[],rfl,rfl⟩ (fun i acc H3 _ z=>⟨aQ.of (z.1 _ _ hc2),z.2.1,by obtain⟨ms2,e,e2⟩:=z.2.2;rw[e,List.length_map,e2];exact Nat.le_refl _⟩) (Nat.le_of_lt (bT (by rw[List.length_map];lia))) ?_ ?_⟩
  ·rintro i x T0 acc H3 hx ⟨s3,uc,ms2,rfl,OS⟩ hT;rw[List.getElem?_map]at hx;obtain⟨ce,hce,rfl⟩:=Ah.mp hx;have xx:=(oA.mp hce).1;refine⟨T0,_,rfl,aY.of ae,rfl,_,_,rfl,_,_,rfl,rfl,rfl,aj rfl (aj rfl ⟨ce,(i:Int),rfl,by lia,by lia,fun y _ _=>?_⟩)⟩
   have s4:au H3 (upd H3 T0 (.tup [.int (i:Int),.int ce])):=au.new hT;exact⟨s4 _ _ uc,(s3.trans s4).put hD,ae,ms2++[y],by rw[List.map_append];rfl,by rw[List.length_append,OS];rfl⟩
  ·rintro acc H3 ⟨s3,uc,ms2,rfl,OS⟩;rw[List.length_map]at OS;refine(aj rfl ⟨.inl ⟨rfl,_,aQ.of uc⟩,aj rfl ⟨(by decide),(by decide),fun D2 jN=>fu (lo:=0) (m:=5) (fun i acc H4=>au H3 H4/\H4 D2=some (.lst acc)/\∃ Kl:List Int,acc=Kl.map V.int/\Kl.length=i) ⟨au.new jN,ae,[],rfl,rfl⟩ (fun i acc H4 _ z=>⟨z.2.1,by obtain⟨ms2,e,e2⟩:=z.2.2;rw[e,List.length_map,e2];exact Nat.le_refl _⟩) (e7 (by decide)) ?_ ?_⟩⟩)
   ·rintro i acc H4 hi ⟨s4,uJ,Kl,rfl,Qi⟩;rw[Int.zero_add];exact⟨rfl,aj rfl (aj rfl (bj ⟨z,_,rfl,by lia,by lia,fun y _ _=>⟨uJ,s4.put jN,ae,Kl++[y],by rw[List.map_append];rfl,by rw[List.length_append,Qi];rfl⟩⟩))⟩
   ·rintro acc H4 ⟨s4,uJ,Kl,rfl,Qi⟩;have OT:=s4 _ _ uc;refine⟨D,D2,_,_,rfl,rfl,OT,uJ,dl (Nat.ble_eq.mpr (by rw[List.length_map,List.length_map];lia)),?_⟩
    refine cont D (ms2++Kl) _ ?_ ?_
    ·exact(((s1.trans s2).trans (s3.trans s4))).put ((s1.trans s2).free hD)
    ·rw[ae,List.map_append]
def CS:Sp:=fun vs H Q _=>∃ w p ts,∃ g:aB p ts,∃(S:Int) (m:Nat),vs=[.ref w,.int S]/\S=(m:Int)/\bg H w p ts/\m<2^ts.length/\∀ D H',au H H'->H' D=some (.lst (bZ (fun x=>g.N.dg m x) p))->Q (.ref D) H'
def Ae:Sp:=fun vs H Q _=>∃ w p ts,∃ g:aB p ts,∃(S:Int) (m:Nat),vs=[.ref w,.int S]/\S=(m:Int)/\bg H w p ts/\m<2^ts.length/\∀ H',au H H'->Q (.int ((RM.cnt (g.N.root (fun k=>m.testBit k) ts.length) p:Nat):Int)) H'
def Fj:Sp:=fun vs H Q _=>∃ w p ts,∃ g:aB p ts,∃(S:Int) (m:Nat),vs=[.ref w,.int S]/\S=(m:Int)/\bg H w p ts/\m<2^ts.length/\∀ H' (d:Bool),au H H'->(d=true↔g.N.Ring m)->Q (.bl d) H'
theorem Fl{N:RM.Net}{m x:Nat}(k:Nat):RM.cnt (fun j=>m.testBit j&&N.inc j x) (k+1)=RM.cnt (fun j=>m.testBit j&&N.inc j x) k+if(m.testBit k&&N.inc k x)=true then 1 else 0:=rfl
theorem JG(x u v:Nat):FF (.int (x:Int)) [.int (u:Int),.int (v:Int)]=decide (u=x\/v=x):=by
 have e:([.int (u:Int),.int (v:Int)]:List V)=aG [u,v]:=rfl;rw[e,rz];refine decide_eq_decide.mpr ?_;simp[eq_comm]
theorem yp{f:Nat->Nat}{n u v:Nat}:(bZ f n).set u (.int (v:Int))=bZ (fun x=>if x=u then v else f x) n:=by
 unfold bZ;refine List.ext_getElem? fun i=>?_
 rw[List.getElem?_set,List.getElem?_map]
 by_cases e:u=i
 ·subst e;rw[if_pos rfl,List.length_map,List.length_range]
  by_cases h:u<n
  ·rw[if_pos h,List.getElem?_map,List.getElem?_range h];simp
  ·rw[if_neg h,List.getElem?_map,List.getElem?_eq_none (by rw[List.length_range];lia)]
   rfl
 ·rw[if_neg e,List.getElem?_map]
  by_cases h:i<n
  ·rw[List.getElem?_range h];simp[show ¬ i=u from fun z=>e z.symm]
  ·rw[List.getElem?_eq_none (by rw[List.length_range];lia)]
   rfl
theorem CU{f g:Nat->Int}{n:Nat}(h:∀ i,i<n->f i=g i):PyProof.Rows.firstMet f n=PyProof.Rows.firstMet g n:=by
 unfold PyProof.Rows.firstMet;rw[List.map_congr_left fun i hi=>h i (List.mem_range.mp hi)]
theorem eM:Ok T T.ig 1 CS:=by
 refine T.ig.ok jr fun _ A _ s H vs Q E hr h=>?_
 ·obtain⟨wb,p,ts,g,S,m,rfl,rfl,hw,hm,q⟩:=h;refine⟨_,(ai (aF (i:=2) jr.nd rfl (Or.inl rfl) (aD yN (cU (aa ah af)) (aM (cC K) (pv 0) ah)))
   (ai (fJ PassesOwn.never rfl (cT (by rfl) T.dR (aa (cz K T.dQ (aa (aM (cC K) (pv 0) ah) af)) af)) (bD 3 jr.nd)
   (aq (bf (aI bE (aD bA (aD uR (pv 1) (pv 3)) ah) ah (aK _)) (ai (Dj (aD cY (aM (mh K) (pv 2) (aM (cC K) (aM (cC K) (aM (cC K) (pv 0) ah) (pv 3)) ah)) ah) (Di (pv 2) (aM (cC K) (aM (cC K) (aM (cC K) (pv 0) ah) (pv 3)) ah) set_list))
   (aq (Dj (aD cY (aM (mh K) (pv 2) (aM (cC K) (aM (cC K) (aM (cC K) (pv 0) ah) (pv 3)) ah)) ah) (Di (pv 2) (aM (cC K) (aM (cC K) (aM (cC K) (pv 0) ah) (pv 3)) ah) set_list)))) aP)))
   (aq (aE (pv 2))))),?_⟩
  refine mH ?_;intro cj cQ dH fH gS;obtain⟨bt,xs,h1,h2,h3⟩:=id hw.ex;have wg:=h3.length;have wl:=g.len;have wp:=g.p2;refine⟨dl rfl,fun c hc=>?_⟩
  have s1:au H (upd H c (.lst [.int 0])):=au.new hc;have hc1:upd H c (.lst [.int 0]) c=some (.lst [.int 0]):=ae;generalize upd H c (.lst [.int 0])=H1 at s1 hc1;refine(aj rfl (bX (aY.of (s1 _ _ h1)) (ao (j:=0) rfl) ⟨c,(p:Int),aj rfl ⟨rfl,hc1,by lia,by lia,(by rw[Int.toNat_natCast];show 1*p<=sizeLine;exact dl (Nat.ble_eq.mpr (by lia))),fun e he=>?_⟩⟩))
  have L3:H e=none:=s1.free he;have s2:=s1.trans (au.new (o:=.lst (List.replicate (p:Int).toNat [V.int 0]).flatten) he);have IV:upd H1 e (.lst (List.replicate (p:Int).toNat [V.int 0]).flatten) e=some (.lst (bZ (fun _=>0) p)):=by
   rw[ae,Int.toNat_natCast,xq]
  generalize upd H1 e (.lst (List.replicate (p:Int).toNat [V.int 0]).flatten)=H2 at s2 IV;refine(aj rfl (bX (aY.of (s2 _ _ h1)) (ao (j:=1) rfl) (oZ rfl (.inr (aY.of (s2 _ _ h2))) (aj rfl ⟨(by lia),(by lia),?_⟩))))
  refine iN (lo:=0) (n:=(xs.length:Int).toNat) (fun k σ H3=>∃ v3,σ=[some (.ref wb),some (.int (m:Int)),some (.ref e),v3]/\au H H3/\H3 e=some (.lst (bZ (fun x=>RM.cnt (fun j=>m.testBit j&&g.N.inc j x) k) p))) ⟨none,rfl,s2,IV⟩ ?_ ?_
  ·rintro k D' σ H3 hk ⟨v3,rfl,s3,CH⟩;rw[Int.toNat_natCast]at hk;rw[Int.zero_add];have oB:k<ts.length:=by lia
   obtain⟨ct,ex,hct⟩:=yZ (g:=g) h3 oB;have ha:g.N.a k<p:=g.N.al k oB;have hb:g.N.b k<p:=g.N.bl k oB;have ne:g.N.a k≠g.N.b k:=g.N.ne k oB;refine(aj rfl (aj rfl (bj ⟨(by lia),bj ⟨(jk rfl),rfl,aj rfl (?_)⟩⟩)))
   rw[Int.toNat_natCast,yR,i0];cases om:m.testBit k with
   | false =>
     refine bK (aj rfl ⟨s3,?_⟩);rw[CH]
     congr 2
     refine rg fun x _=>?_
     rw[Fl,om];rfl
   | true =>
     generalize hF:(fun x=>RM.cnt (fun j=>m.testBit j&&g.N.inc j x) k)=F at CH
     refine bW (aj rfl (aj rfl (bX (aY.of (s3 _ _ h1)) (ao (j:=1) rfl) (aj rfl (bX (aY.of (s3 _ _ h2)) (ao (j:=k) ex) (bX (aY.of (s3 _ _ hct)) (ao (j:=0) rfl) (lT (aQ.of CH) (ao (bH ha)) (bj (?_)))))))));refine(aj rfl (aj rfl (bX (aY.of (s3 _ _ h1)) (ao (j:=1) rfl) (aj rfl (bX (aY.of (s3 _ _ h2)) (ao (j:=k) ex) (bX (aY.of (s3 _ _ hct)) (ao (j:=0) rfl) ⟨e,_,_,g.N.a k,rfl,rfl,CH,qw (by rw[bG];exact ha),?_⟩))))))
     have e4:(bZ F p).set (g.N.a k) (.int ((F (g.N.a k):Nat)+1:Int))=bZ (fun x=>if x=g.N.a k then F (g.N.a k)+1 else F x) p:=by
      rw[<-yp];rfl
     dsimp only;rw[e4];have s4:au H (upd H3 e (.lst (bZ (fun x=>if x=g.N.a k then F (g.N.a k)+1 else F x) p))):=s3.put L3
     have Nf:upd H3 e (.lst (bZ (fun x=>if x=g.N.a k then F (g.N.a k)+1 else F x) p)) e=_:=ae
     generalize upd H3 e (.lst (bZ (fun x=>if x=g.N.a k then F (g.N.a k)+1 else F x) p))=H4 at s4 Nf
     generalize G6:(fun x=>if x=g.N.a k then F (g.N.a k)+1 else F x)=F2 at Nf
     refine(aj rfl (aj rfl (bX (aY.of (s4 _ _ h1)) (ao (j:=1) rfl) (aj rfl (bX (aY.of (s4 _ _ h2)) (ao (j:=k) ex) (bX (aY.of (s4 _ _ hct)) (ao (j:=1) rfl) (lT (aQ.of Nf) (ao (bH hb)) (bj (?_)))))))));refine(aj rfl (aj rfl (bX (aY.of (s4 _ _ h1)) (ao (j:=1) rfl) (aj rfl (bX (aY.of (s4 _ _ h2)) (ao (j:=k) ex) (bX (aY.of (s4 _ _ hct)) (ao (j:=1) rfl) ⟨e,_,_,g.N.b k,rfl,rfl,Nf,qw (by rw[bG];exact hb),?_⟩))))))
     refine(aj rfl ⟨s4.put L3,?_⟩);rw[ae];have e5:(bZ F2 p).set (g.N.b k) (.int ((F2 (g.N.b k):Nat)+1:Int))=bZ (fun x=>if x=g.N.b k then F2 (g.N.b k)+1 else F2 x) p:=by
      rw[<-yp];rfl
     dsimp only;rw[e5]
     congr 2
     refine rg fun x _=>?_
     rw[Fl,om,Bool.true_and,show RM.cnt (fun j=>m.testBit j&&g.N.inc j x) k=F x from congrFun hF x]
     unfold RM.Net.inc;have f2:∀ y,F2 y=if y=g.N.a k then F (g.N.a k)+1 else F y:=fun y=>(congrFun G6 y).symm
     by_cases e1:x=g.N.b k
     ·rw[if_pos e1,f2,if_neg (fun z:g.N.b k=g.N.a k=>ne z.symm),e1,fk ne,cN rfl]
      rfl
     ·rw[if_neg e1,f2,fk (fun z:g.N.b k=x=>e1 z.symm),Bool.xor_false]
      by_cases e2:x=g.N.a k
      ·rw[if_pos e2,e2,cN rfl];rfl
      ·rw[if_neg e2,fk (fun z:g.N.a k=x=>e2 z.symm)]
       rfl
  ·rintro σ H3 ⟨v3,rfl,s3,CH⟩;rw[Int.toNat_natCast,wg]at CH;exact(aj rfl (q e H3 s3 CH))
theorem kF:Ok T T.kq 1 Ae:=by
 refine T.kq.ok eY fun _ A _ s H vs Q E hr h=>?_
 ·obtain⟨wb,p,ts,g,S,m,rfl,rfl,hw,hm,q⟩:=h;refine⟨_,(ai (aF (i:=2) eY.nd rfl (Or.inr rfl) (bh (own:=["point"]) (fq:=[]) (js:=[]) (aJ (ak fQ) ["web","some","marks","k","old"]) rfl (cT (by rfl) T.dR (aa (aM (cC K) (pv 0) ah) af)) (fun _ _ _ _=>(bD 0 (kZ ["point"]))) (fun _ _ _ _=>cI) (fun _ _ _ _=>(pv 0))))
   (ai (fJ PassesOwn.never rfl (cT (by rfl) T.dR (aa (cz K T.dQ (aa (aM (cC K) (pv 0) ah) af)) af)) (uQ (i:=3) eY.nd rfl (Or.inr rfl))
   (aq (bf (aI bE (aD bA (aD uR (pv 1) (pv 3)) ah) ah (aK _)) (ai (aF (i:=4) eY.nd rfl (Or.inr rfl) (aM (mh K) (pv 2) (aM (cC K) (aM (cC K) (aM (cC K) (pv 0) ah) (pv 3)) ah)))
   (aq (aF (i:=2) eY.nd rfl (Or.inr rfl) (bh (own:=["mark"]) (fq:=["web","marks","k","old"]) (js:=[0,2,3,4]) (aJ (ak fQ) ["web","some","marks","k","old"]) rfl (mC K (pv 2)) (fun _ _ _ _=>(bD 0 (kZ ["mark","web","marks","k","old"]))) (fun _ _ _ _=>cI) (fun _ _ _ _=>(aM (mh K) (cU (aa (pv 0) (aa (aM (mh K) (pv 2) (aM (cC K) (aM (cC K) (aM (cC K) (pv 1) ah) (pv 3)) ah)) af))) (di oM (by rfl) T.E3 PyProof.Rows.boot_int (aa (cB bE (pv 0) (pv 4) (aK _)) af)))))))) aP)))
   (aq (aE (bS IX (by rfl) T.dQ PySem.boot_len (aa (di (Of K rfl) (by rfl) T.LZ PyProof.Rows.boot_set (aa (pv 2) af)) af)))))),?_⟩
  refine mH ?_;intro cj cQ dH fH gS;obtain⟨bt,xs,h1,h2,h3⟩:=id hw.ex;have wg:=h3.length;have wl:=g.len;have wp:=g.p2;refine(aj rfl (bX (aY.of h1) (ao (j:=0) rfl) (aj rfl ⟨(by lia),(by lia),fun M hM=>fu (lo:=0) (m:=p) (rh (fun x=>x) H M) (.start hM) (fun i acc H3 _ pd=>pd.len) (e7 (by lia)) ?_ ?_⟩)))
  ·intro i acc H3 hi pd;rw[Int.zero_add];exact⟨rfl,aj rfl (pd.next hM (au.refl _) rfl)⟩
  intro acc H1 pd;have S4:H1 M=some (.lst (bZ (fun x=>x) p)):=by rw[pd.2.1,pd.2.2]
  have s1:=pd.1;clear pd;refine(aj rfl (bX (aY.of (s1 _ _ h1)) (ao (j:=1) rfl) (oZ rfl (.inr (aY.of (s1 _ _ h2))) (aj rfl ⟨(by lia),(by lia),?_⟩))))
  refine iN (lo:=0) (n:=(xs.length:Int).toNat) (fun k σ H3=>∃ M v3 v4 L,σ=[some (.ref wb),some (.int (m:Int)),some (.ref M),v3,v4]/\au H H3/\H3 M=some (.lst (bZ L p))/\RM.rO g.N (fun k=>m.testBit k) L k) ⟨M,none,none,_,rfl,s1,S4,RM.rO.start⟩ ?_ ?_
  ·rintro k D' σ H3 hk ⟨M,v3,v4,L,rfl,s3,JH,rel⟩;rw[Int.toNat_natCast]at hk;rw[Int.zero_add];have oB:k<ts.length:=by lia
   obtain⟨ct,ex,hct⟩:=yZ (g:=g) h3 oB;have ha:g.N.a k<p:=g.N.al k oB;have hb:g.N.b k<p:=g.N.bl k oB;refine(aj rfl (aj rfl (bj ⟨(by lia),bj ⟨(jk rfl),rfl,aj rfl (?_)⟩⟩)))
   rw[Int.toNat_natCast,yR,i0];cases om:m.testBit k with
   | false=>exact bK ⟨M,_,_,L,rfl,s3,JH,rel.skip om⟩
   | true =>
     refine bW (aj rfl (aj rfl (bX (aY.of (s3 _ _ h1)) (ao (j:=1) rfl) (aj rfl (bX (aY.of (s3 _ _ h2)) (ao (j:=k) ex) (bX (aY.of (s3 _ _ hct)) (ao (j:=1) rfl) (lT (aQ.of JH) (ao (bH hb)) (?_))))))));refine(aj rfl ⟨M,rfl,⟨_,aQ.of JH⟩,fun M2 G5=>aV (xs:=bZ L p) (rh (RM.Jc L (g.N.a k) (g.N.b k)) H3 M2) (.start G5) (fun i acc H4 _ pd=>⟨aQ.of (pd.1 _ _ JH),pd.len⟩) (by rw[bG];exact dl (Nat.ble_eq.mpr (by lia))) ?_ ?_⟩)
     ·intro i x acc H4 hx pd;obtain⟨hi,rfl⟩:=i5 hx;have s4:=s3.trans pd.1;refine⟨rfl,aj rfl (aj rfl (aj rfl (bX (aY.of (s4 _ _ h1)) (ao (j:=1) rfl) (aj rfl (bX (aY.of (s4 _ _ h2)) (ao (j:=k) ex) (bX (aY.of (s4 _ _ hct)) (ao (j:=0) rfl) (lT (aQ.of (pd.1 _ _ JH)) (ao (bH ha)) ⟨dl rfl,fun l hl=>?_⟩)))))))⟩
      refine(aj rfl (aj rfl ⟨rfl,.inr (aj rfl (?_))⟩));rw[i6]
      by_cases e:L i=L (g.N.b k)
      ·rw[cN e];exact(lT (aQ.of ae) (ao (j:=1) rfl) (pd.next G5 (au.new hl) (by unfold RM.Jc;rw[if_pos e])))
      ·rw[fk e];exact(lT (aQ.of ae) (ao (j:=0) rfl) (pd.next G5 (au.new hl) (by unfold RM.Jc;rw[if_neg e])))
     ·intro acc H4 pd;rw[bG]at pd;exact⟨M2,_,_,_,rfl,s3.trans pd.1,by rw[pd.2.1,pd.2.2],rel.put oB om⟩
  ·rintro σ H3 ⟨M,v3,v4,L,rfl,s3,JH,rel⟩;rw[Int.toNat_natCast,wg]at rel;have ens:bZ L p=((List.range p).map fun x=>((L x:Nat):Int)).map V.int:=by
    unfold bZ;rw[List.map_map];rfl
   refine(aj rfl ⟨M,(List.range p).map (fun x=>((L x:Nat):Int)),rfl,aQ.of (by rw[JH,ens]),by rw[List.length_map,List.length_range];lia,fun l S hl=>⟨l,S,_,rfl,ae,?_⟩⟩)
   rw[List.length_map,List.length_range,CU (g:=fun i=>((L i:Nat):Int)) (fun i hi=>by rw[List.getD_eq_getElem?_getD,List.getElem?_map,List.getElem?_range hi];rfl)]
   have e:=RM.GK (N:=g.N) (L:=L) rel;have e:(PyProof.Rows.firstMet (fun i=>((L i:Nat):Int)) p).length=_:=e
   rw[e];exact q _ (s3.trans (au.new hl))
theorem gA:Ok T T.kr 2 Fj:=by
 have kF:=kF T;have eM:=eM T;refine T.kr.ok pZ fun _ A _ s H vs Q E hr h=>?_
 ·obtain⟨wb,p,ts,g,S,m,rfl,rfl,hw,hm,q⟩:=h;refine⟨_,(ai (aF (i:=2) pZ.nd rfl (Or.inl rfl) (aC eM hr T.ig.c aL (aa (pv 0) (aa (pv 1) af))))
   (ai (bf (PW.pt (nh (aI qN (pv 1) ah (aK _)) (oG (aI nj (cz K T.dQ (aa (bh (own:=["count"]) (fq:=[]) (js:=[]) (aJ (ak iR) ["web","some","counts"]) rfl (mC K (pv 2)) (fun _ _ _ _=>(bD 0 (kZ ["count"]))) (fun _ _ _ _=>(cO (aI (yP K) (pv 0) (fm (aa ah (aa ah af))) (by with_unfolding_all rfl)))) (fun _ _ _ _=>(pv 0))) af)) ah (aK _))))) (aq (aE jx)) aP)
   (aq (aE (cB bE (aC kF hr T.kq.c aL (aa (pv 0) (aa (pv 1) af))) (aD cY (aD gV (aM (cC K) (pv 0) ah) (cz K T.dQ (aa (bh (own:=["count"]) (fq:=[]) (js:=[]) (aJ (ak iR) ["web","some","counts"]) rfl (mC K (pv 2)) (fun _ _ _ _=>(bD 0 (kZ ["count"]))) (fun _ _ _ _=>(cO (aI bE (pv 0) ah (aK _)))) (fun _ _ _ _=>(pv 0))) af))) ah) (aK _)))))),?_⟩
  refine iP ?_;intro cj cQ dH;obtain⟨bt,xs,h1,h2,h3⟩:=id hw.ex;have wp:=g.p2;refine(aj rfl (aj rfl ⟨wb,p,ts,g,_,m,rfl,rfl,hw,hm,fun D H1 s1 pY=>?_⟩))
  refine(aj rfl (bj (aj rfl (dD (fun h0=>?_) (fun h0=>?_)))))
  ·have h0:(m:Int)<=0:=jw h0;exact q H1 false s1 ⟨(fun z=>nomatch z),fun r=>absurd (show m=0 by lia) r.1⟩
  have h0:m≠0:=fun z=>h0 (cN (show(m:Int)<=0 by lia))
  refine(aj rfl ⟨D,rfl,⟨_,aQ.of pY⟩,fun C hC=>aV (xs:=bZ (fun x=>g.N.dg m x) p) (fun i acc H2=>au H1 H2/\H2 C=some (.lst acc)/\acc.length=RM.cnt (fun x=>!decide (0=g.N.dg m x\/2=g.N.dg m x)) i) ⟨au.new hC,ae,rfl⟩ (fun i acc H2 _ f=>⟨aQ.of (f.1 _ _ pY),f.2.1,by have:=RM.i3 (fun x=>!decide (0=g.N.dg m x\/2=g.N.dg m x)) i;have:=f.2.2;lia⟩) (e7 (by rw[bG];lia)) ?_ ?_⟩)
  ·rintro i x acc H2 hx ⟨s2,zZ,al⟩;obtain⟨hi,rfl⟩:=i5 hx;refine⟨rfl,aj rfl ⟨dl rfl,fun u hu=>(oZ rfl (.inr (aY.of ae)) ⟨rfl,rfl,aj rfl (?_)⟩)⟩⟩
   have e:FF (.int ((g.N.dg m i:Nat):Int)) [.int 0,.int 2]=decide (0=g.N.dg m i\/2=g.N.dg m i):=JG _ 0 2;have hc1:RM.cnt (fun x=>!decide (0=g.N.dg m x\/2=g.N.dg m x)) (i+1)=RM.cnt (fun x=>!decide (0=g.N.dg m x\/2=g.N.dg m x)) i+if(!decide (0=g.N.dg m i\/2=g.N.dg m i))=true then 1 else 0:=rfl
   dsimp only;rw[if_pos rfl,e];have Qj:C≠u:=aS zZ hu;cases hb:decide (0=g.N.dg m i\/2=g.N.dg m i) with
   | false =>
     rw[hb]at hc1;refine bW (aj rfl ⟨by rw[ay Qj];exact zZ,(s2.trans (au.new hu)).put hC,ae,?_⟩)
     rw[List.length_append,hc1,al];rfl
   | true =>
     rw[hb]at hc1;exact bK ⟨s2.trans (au.new hu),by rw[ay Qj];exact zZ,by rw[hc1,al];rfl⟩
  rintro acc H2 ⟨s2,zZ,al⟩;rw[bG]at al;have s12:=s1.trans s2;refine(oZ rfl (.inl (aQ.of zZ)) (bj (aj rfl (dD (fun hpos=>?_) (fun hpos=>?_)))))
  ·have hpos:(0:Int)<(acc.length:Int):=jw hpos;refine q H2 false s12 ⟨(fun z=>nomatch z),fun r=>?_⟩
   obtain⟨x,hx,hf⟩:=RM.kW (show 0<RM.cnt _ p by rw[<-al];lia)
   have d2:=RM.GC hm r x hx;rw[Bool.not_eq_true',decide_eq_false_iff_not]at hf;exact absurd (d2.imp Eq.symm Eq.symm) hf
  have d2:g.N.D2 m:=fun x hx=>by
   apply Classical.byContradiction;intro hn;have:=RM.nI (f:=fun x=>!decide (0=g.N.dg m x\/2=g.N.dg m x)) (k:=x) (by
    rw[Bool.not_eq_true',decide_eq_false_iff_not];exact fun z=>hn (z.imp Eq.symm Eq.symm)) (show x<p from hx)
   exact hpos (cN (show(0:Int)<(acc.length:Int) by lia))
  refine(aj rfl (aj rfl ⟨wb,p,ts,g,_,m,rfl,rfl,hw.same s12,hm,fun H3 s3=>?_⟩))
  have g4:=s12.trans s3;have uc:=(s2.trans s3) _ _ pY;refine(aj rfl (bX (aY.of (g4 _ _ h1)) (ao (j:=0) rfl) (?_)));refine(aj rfl ⟨D,rfl,⟨_,aQ.of uc⟩,fun C2 zZ=>aV (xs:=bZ (fun x=>g.N.dg m x) p) (fun i acc H4=>au H3 H4/\H4 C2=some (.lst acc)/\acc.length=RM.cnt (fun x=>decide (g.N.dg m x=2)) i) ⟨au.new zZ,ae,rfl⟩ (fun i acc H4 _ f=>⟨aQ.of (f.1 _ _ uc),f.2.1,by have:=RM.i3 (fun x=>decide (g.N.dg m x=2)) i;have:=f.2.2;lia⟩) (e7 (by rw[bG];lia)) ?_ ?_⟩)
  ·rintro i x acc H4 hx ⟨s4,Nh,Ni⟩;obtain⟨hi,rfl⟩:=i5 hx;refine⟨rfl,aj rfl ⟨rfl,aj rfl (?_)⟩⟩;have hc1:RM.cnt (fun x=>decide (g.N.dg m x=2)) (i+1)=RM.cnt (fun x=>decide (g.N.dg m x=2)) i+if decide (g.N.dg m i=2)=true then 1 else 0:=rfl
   have e:decide (V.int ((g.N.dg m i:Nat):Int)=V.int 2)=decide (g.N.dg m i=2):=i6 _ 2;rw[e];cases hb:decide (g.N.dg m i=2) with
   | true =>
     rw[hb]at hc1;refine(aj rfl ⟨Nh,s4.put zZ,ae,?_⟩);rw[List.length_append,hc1,Ni];rfl
   | false =>
     rw[hb]at hc1;exact⟨s4,Nh,by rw[hc1,Ni];rfl⟩
  ·rintro acc H4 ⟨s4,Nh,Ni⟩;rw[bG]at Ni;refine(oZ rfl (.inl (aQ.of Nh)) (bj (bj ⟨rfl,q H4 _ (g4.trans s4) ?_⟩)));have h:=RM.Ep hm h0 d2;have hcc:RM.cnt (fun x=>decide (g.N.dg m x=2)) p<=p:=by have:=RM.i3 (fun x=>decide (g.N.dg m x=2)) p;lia
   rw[h,decide_eq_true_iff]
   constructor
   ·intro e;have e:=V.int.inj e;show RM.cnt (g.N.root (fun k=>m.testBit k) ts.length) p+RM.cnt (fun x=>decide (g.N.dg m x=2)) p=p+1
    lia
   ·intro e;have e:RM.cnt (g.N.root (fun k=>m.testBit k) ts.length) p+RM.cnt (fun x=>decide (g.N.dg m x=2)) p=p+1:=e
    exact congrArg V.int (by lia)
def Fo:Sp:=fun vs H Q _=>∃ w p ts,∃ g:aB p ts,∃(S:Int) (m:Nat),vs=[.ref w,.int S]/\S=(m:Int)/\bg H w p ts/\m<2^ts.length/\∀ H',au H H'->Q (.int (lenOf ts m)) H'
theorem cA:Ok T T.fB 1 Fo:=by
 refine T.fB.ok xR fun _ A _ s H vs Q E hr h=>?_
 ·obtain⟨wb,p,ts,g,S,m,rfl,rfl,hw,hm,q⟩:=h;refine⟨_,(aq (aE (bS (sumK K rfl) (by rfl) T.HU PyProof.Rows.boot_sum (aa (bh (own:=["k"]) (fq:=["web","some"]) (js:=[0,1]) (aJ (ak kc) ["web","some"]) rfl (cT (by rfl) T.dR (aa (cz K T.dQ (aa (aM (cC K) (pv 0) ah) af)) af)) (fun _ _ _ _=>(bD 0 (kZ ["k","web","some"]))) (fun _ _ _ _=>(cO (aI bE (aD bA (aD uR (pv 2) (pv 0)) ah) ah (aK _)))) (fun _ _ _ _=>(aM (cC K) (aM (cC K) (aM (cC K) (pv 1) ah) (pv 0)) ah))) af)))),?_⟩
  obtain⟨bt,xs,h1,h2,h3⟩:=id hw.ex;have wg:=h3.length;have wl:=g.len;refine(aj rfl (bX (aY.of h1) (ao (j:=1) rfl) (oZ rfl (.inr (aY.of h2)) (aj rfl ⟨(by lia),(by lia),fun D hD=>fu (lo:=0) (m:=xs.length) (fun i acc H2=>au H H2/\H2 D=some (.lst acc)/\acc=(((List.range i).filter (fun k=>m.testBit k)).map fun k=>(cD ts k).2.2).map V.int) ⟨au.new hD,ae,rfl⟩ (fun i acc H2 _ z=>⟨z.2.1,by rw[z.2.2,List.length_map,List.length_map];exact Nat.le_trans (List.length_filter_le _ _) (by rw[List.length_range];exact Nat.le_refl _)⟩) (e7 (by lia)) ?_ ?_⟩))))
  ·rintro i acc H2 hi ⟨s2,jN,rfl⟩;rw[Int.zero_add];obtain⟨c,hxc,hct⟩:=yZ (g:=g) h3 (show i<ts.length by lia)
   refine⟨rfl,aj rfl (aj rfl (bj ⟨(by lia),bj ⟨(jk rfl),rfl,aj rfl (?_)⟩⟩))⟩
   rw[Int.toNat_natCast,yR,i0];cases hb:m.testBit i with
   | true =>
     refine(aj rfl (bX (aY.of (s2 _ _ h1)) (ao (j:=1) rfl) (aj rfl (bX (aY.of (s2 _ _ h2)) (ao (j:=i) hxc) (bX (aY.of (s2 _ _ hct)) (ao (j:=2) rfl) ⟨jN,s2.put hD,ae,?_⟩)))));rw[aW,if_pos hb,List.map_append,List.map_append];rfl
   | false =>
     refine⟨s2,jN,?_⟩;rw[aW,if_neg (by rw[hb];decide),List.append_nil]
  ·rintro acc H2 ⟨s2,jN,rfl⟩;refine⟨D,_,rfl,aQ.of jN,?_⟩;have e:lenOf ts m=(((List.range xs.length).filter (fun k=>m.testBit k)).map fun k=>(cD ts k).2.2).sum:=by
    unfold lenOf;rw[fL hm,wg]
   rw[<-e];exact q H2 s2
def Fp:Sp:=fun vs H Q _=>∃(x y:Nat),vs=[.int (x:Int),.int (y:Int)]/\∀ v:Bool,(∀ d,x&&&y<2^d->v=RM.bF (fun j=>(x&&&y).testBit j) d)->Q (.bl v) H
theorem l6:Ok T T.lY 1 Fp:=by
 refine T.lY.ok iS fun _ A _ s H vs Q E hr h=>?_
 ·obtain⟨x,y,rfl,q⟩:=h;refine⟨_,(ai (aF (i:=2) iS.nd rfl (Or.inl rfl) (aD uS (pv 0) (pv 1)))
   (ai (aF (i:=3) iS.nd rfl (Or.inl rfl) ah)
   (ai (Dl PassesOwn.never (aI nj (pv 2) ah (aK _)) (ai (aF (i:=3) iS.nd rfl (Or.inl rfl) (aD gV ah (pv 3)))
   (aq (aF (i:=2) iS.nd rfl (Or.inl rfl) (aD uS (pv 2) (aD gV (pv 2) ah))))))
   (aq (aE (cB bE (pv 3) ah (aK _))))))),?_⟩
  refine zE ?_;intro cj cQ dH fH gS;refine(aj rfl (aj rfl (bj (?_))));have e0:Builtin.bitAnd (x:Int) (y:Int)=((x&&&y:Nat):Int):=and_int x y;refine⟨fun k σ H2=>∃(n:Nat) (c:Bool),σ=[some (.int (x:Int)),some (.int (y:Int)),some (.int (n:Int)),some (.int (c.toNat:Int))]/\H2=H/\(∀ d,x&&&y<2^d->n<2^d/\RM.bF (fun j=>(x&&&y).testBit j) d=(c^^RM.bF (fun j=>n.testBit j) d))/\n=k,⟨x&&&y,x&&&y,false,?_,rfl,fun d hd=>⟨hd,by rw[Bool.false_xor]⟩,rfl⟩,?_⟩
  ·show[_,_,some (V.int (Builtin.bitAnd (x:Int) (y:Int))),_]=_;rw[e0];rfl
  rintro k σ H2 ⟨n,c,rfl,rfl,hc,rfl⟩;refine(aj rfl (bj (aj rfl (dD (fun hpos=>?_) (fun hpos=>?_)))))
  ·have hpos:(0:Int)<((n:Nat):Int):=jw hpos;have hlt:n&&&(n-1)<n:=by
    have:=Nat.and_le_right (n:=n) (m:=n-1)
    lia
   refine⟨fun σ H3=>∃(n' : Nat) (c:Bool),σ=[some (.int (x:Int)),some (.int (y:Int)),some (.int (n' : Int)),some (.int (c.toNat:Int))]/\H3=H2/\(∀ d,x&&&y<2^d->n'<2^d/\RM.bF (fun j=>(x&&&y).testBit j) d=(c^^RM.bF (fun j=>n'.testBit j) d))/\n'<n,fun σ H3 ⟨n',c,z1,z2,z3,z4⟩=>⟨n',z4,n',c,z1,z2,z3,rfl⟩,?_⟩
   refine(aj rfl (bj (aj rfl (aj rfl (bj (bj ⟨n&&&(n-1),!c,?_,rfl,fun d hd=>?_,hlt⟩))))))
   ·show[_,_,some (V.int (Builtin.bitAnd (n:Int) ((n:Int)-1))),some (V.int (1-(c.toNat:Int)))]=_;rw[show(n:Int)-1=((n-1:Nat):Int) by lia,and_int]
    cases c<;>rfl
   ·obtain⟨h1,h2⟩:=hc d hd;refine⟨by lia,?_⟩
    rw[h2,RM.GL d n (by lia) h1]
    cases c<;>cases RM.bF (fun j=>n.testBit j) d<;>rfl
  ·have hz:n=0:=by
    have : ¬(0:Int)<((n:Nat):Int):=fun z=>hpos (cN z)
    lia
   subst hz;have ec:decide (V.int (c.toNat:Int)=V.int 1)=c:=by
    cases c
    ·rfl
    ·rfl
   refine(aj rfl ⟨rfl,?_⟩);rw[ec];refine q c fun d hd=>?_
   rw[(hc d hd).2,RM.iw fun k _=>Nat.zero_testBit k,Bool.xor_false]
def Fq:Sp:=fun vs H Q _=>∃ w p ts,∃ g:aB p ts,∃(S:Int) (m:Nat),vs=[.ref w,.int S]/\S=(m:Int)/\bg H w p ts/\m<2^ts.length/\∀ H' (d:Bool),au H H'->(d=true↔g.N.eg m)->Q (.bl d) H'
def Ft:Sp:=fun vs H Q _=>∃ w p ts,∃ g:aB p ts,vs=[.ref w]/\bg H w p ts/\ts.length<=9/\∀ D l H',H D=none->au H H'->H' D=some (.lst (aG l))->oh p ts g l->Q (.ref D) H'
theorem G7{p:Nat}{ts:List c9}{g:aB p ts}(h9:ts.length<=9){ps ps' : List (Addr×Int×Int)}{f:Nat->Bool}(hf:∀ r,f r=true↔r<2^ts.length/\g.N.Ring r)(e:ps.map (·.2)=((List.range (2^ts.length)).filter f).map fun r=>(lenOf ts r,(r:Int)))
 (hp:ps'.Perm ps) (hw:ps'.Pairwise (fun x y=>kx x.2<=kx y.2)):oh p ts g (ps'.map fun q=>q.2.2.toNat)/\∀ q∈ps',q.2.2=((q.2.2.toNat:Nat):Int):=by
 have mem:∀ q∈ps,∃ r,f r=true/\q.2=(lenOf ts r,(r:Int)):=fun q hq=>by
  have:q.2∈ps.map (·.2):=List.mem_map.mpr ⟨q,hq,rfl⟩;rw[e]at this;obtain⟨r,hr,e2⟩:=List.mem_map.mp this;exact⟨r,(List.mem_filter.mp hr).2,e2.symm⟩
 have big:(2:Nat)^ts.length<=2^9:=Nat.pow_le_pow_right (by decide) h9
 have e3:ps.map (fun q=>q.2.2.toNat)=(List.range (2^ts.length)).filter f:=by
  have:ps.map (fun q=>q.2.2.toNat)=(ps.map (·.2)).map fun z=>z.2.toNat:=by rw[List.map_map];rfl
  rw[this,e,List.map_map];exact List.map_id _
 have pm:(ps'.map fun q=>q.2.2.toNat).Perm ((List.range (2^ts.length)).filter f):=by rw[<-e3];exact hp.map _
 refine⟨⟨?_,?_,fun r=>?_⟩,fun q hq=>?_⟩
 ·rw[List.pairwise_map];refine List.Pairwise.imp_of_mem (fun {x y} hx hy h=>?_) hw
  obtain⟨r,hr,e1⟩:=mem x (hp.mem_iff.mp hx);obtain⟨r',hr',e2⟩:=mem y (hp.mem_iff.mp hy);have b1:=((hf r).mp hr).1;have b2:=((hf r').mp hr').1;rw[e1,e2]at h ⊢;unfold kx at h;show n8 ts ((r:Int).toNat) ((r' : Int).toNat);rw[Int.toNat_natCast,Int.toNat_natCast];unfold n8;have h:lenOf ts r*1073741824+(r:Int)<=lenOf ts r'*1073741824+(r' : Int):=h
  lia
 ·exact pm.nodup_iff.mpr (List.Pairwise.filter _ List.nodup_range)
 ·rw[pm.mem_iff,List.mem_filter,List.mem_range,hf];exact⟨fun z=>z.2,fun z=>⟨z.1,z⟩⟩
 ·obtain⟨r,_,e1⟩:=mem q (hp.mem_iff.mp hq);rw[e1];show(r:Int)=(((r:Int).toNat:Nat):Int);rw[Int.toNat_natCast]
theorem m6:Ok T T.m4 2 Fq:=by
 have eM:=eM T;refine T.m4.ok xQ fun _ A _ s H vs Q E hr h=>?_
 ·obtain⟨wb,p,ts,g,S,m,rfl,rfl,hw,hm,q⟩:=h;refine⟨_,(aq (aE (cB (yP K) ah (bh (own:=["count"]) (fq:=[]) (js:=[]) (aJ (ak j9) ["web","some"]) rfl (mC K (aC eM hr T.ig.c aL (aa (pv 0) (aa (pv 1) af)))) (fun _ _ _ _=>(bD 0 (kZ ["count"]))) (fun _ _ _ _=>cI) (fun _ _ _ _=>(aD bA (pv 0) ah))) (by with_unfolding_all rfl)))),?_⟩
  have wp:=g.p2;refine(aj rfl (aj rfl ⟨wb,p,ts,g,_,m,rfl,rfl,hw,hm,fun D H1 s1 pY=>?_⟩))
  refine⟨D,rfl,⟨_,aQ.of pY⟩,fun C hC=>aV (K:=K) (a:=D) (xs:=bZ (fun x=>g.N.dg m x) p) (fun i acc H2=>au H1 H2/\H2 C=some (.lst acc)/\acc=aG ((List.range i).map fun x=>g.N.dg m x%2)) ⟨au.new hC,ae,rfl⟩ (fun i acc H2 _ z=>⟨aQ.of (z.1 _ _ pY),z.2.1,by rw[z.2.2,aA,List.length_map,List.length_range];exact Nat.le_refl _⟩) (e7 (by rw[bG];lia)) ?_ ?_⟩
  ·rintro i x acc H2 hx ⟨s2,zZ,rfl⟩;obtain⟨hi,rfl⟩:=i5 hx;refine⟨rfl,aj rfl (bj ⟨(jk rfl),zZ,s2.put hC,ae,?_⟩)⟩;rw[List.range_succ,List.map_append,List.map_singleton,bL];rfl
  ·rintro acc H2 ⟨s2,zZ,rfl⟩;refine(oZ rfl (.inl (aQ.of zZ)) ⟨rfl,uv _,?_⟩);rw[bG,if_pos rfl];refine q H2 _ (s1.trans s2) ?_;rw[show(V.int 1)=V.int ((1:Nat):Int) from rfl,rz,Bool.not_eq_true',decide_eq_false_iff_not]
   refine⟨fun h x hx=>?_,fun h z=>?_⟩
   ·rw[RM.AM];refine fk fun e=>h (List.mem_map.mpr ⟨x,List.mem_range.mpr hx,e⟩)
   ·obtain⟨x,hx,e⟩:=List.mem_map.mp z;have:=h x (List.mem_range.mp hx);rw[RM.AM]at this;exact of_decide_eq_false this e
theorem g5:Ok T T.gZ 3 Ft:=by
 have m6:=m6 T;have gA:=gA T;have cA:=cA T;refine T.gZ.ok gy fun _ A _ s H vs Q E hr h=>?_
 ·obtain⟨wb,p,ts,g,rfl,hw,h9,qq⟩:=h;refine⟨_,(ai (aF (i:=1) gy.nd rfl (Or.inl rfl) (cU af))
   (ai (fJ PassesOwn.never rfl (Bh (by rfl) T.dR (aa ah (aa (aD jj ah (cz K T.dQ (aa (aM (cC K) (pv 0) ah) af))) af))) (bD 2 gy.nd)
   (aq (bf (PW.pt (oH (cS (aC m6 hr T.m4.c aL (aa (pv 0) (aa (pv 2) af)))) (lK (cS (aC gA hr T.kr.c aL (aa (pv 0) (aa (pv 2) af))))))) (aq (eZ (J8 K (t8 PySem.F.plainAttrs_list PySem.F.slot_list_append PySem.F.type_list_append iq (pv 1) (aa (fm (aa (aC cA hr T.fB.c aL (aa (pv 0) (aa (pv 2) af))) (aa (pv 2) af))) af))))) aP)))
   (aq (aE (bh (own:=["pair"]) (fq:=[]) (js:=[]) (aJ (ak fc) ["web","found","some"]) rfl (mC K (bS (EH K) (by rfl) T.lE PyProof.Rows.boot_sorted (aa (pv 1) af))) (fun _ _ _ _=>(bD 0 (kZ ["pair"]))) (fun _ _ _ _=>cI) (fun _ _ _ _=>(aM (cC K) (pv 0) ah))))))),?_⟩
  refine pB ?_;intro cj cQ dH fH;obtain⟨bt,xs,h1,h2,h3⟩:=id hw.ex;have wg:=h3.length;have big:(2:Nat)^ts.length<=2^9:=Nat.pow_le_pow_right (by decide) h9
  have zk:(1:Int)*2^((xs.length:Nat):Int).toNat=((2^ts.length:Nat):Int):=by rw[g8,wg]
  have tp:=Nat.two_pow_pos ts.length;refine⟨dl rfl,fun F hF=>?_⟩
  have s1:au H (upd H F (.lst [])):=au.new hF;obtain⟨f,hf⟩:∃ f:Nat->Bool,∀ r,f r=true↔r<2^ts.length/\g.N.Ring r:=⟨fun r=>@decide (r<2^ts.length/\g.N.Ring r) (Classical.propDecidable _),fun r=>@decide_eq_true_iff _ (Classical.propDecidable _)⟩
  have f0:f 0=false:=by
   cases h:f 0 with
   | false=>rfl
   | true=>exact absurd rfl ((hf 0).mp h).2.1
  have few:∀(i:Nat) (ps:List (Addr×Int×Int)),ps.map (·.2)=((List.range i).filter f).map (fun r=>(lenOf ts r,(r:Int)))->ps.length<64:=fun i ps e=>by
   have h1:=congrArg List.length e;rw[List.length_map,List.length_map]at h1;have h2:=RM.rV (N:=g.N) (l:=(List.range i).filter f) h9 (List.Pairwise.filter _ List.nodup_range) fun m hm=>(hf m).mp (List.mem_filter.mp hm).2
   lia
  refine(aj rfl (bX (aY.of (s1 _ _ h1)) (ao (j:=1) rfl) (oZ rfl (.inr (aY.of (s1 _ _ h2))) (bj ⟨⟨by lia,by lia,by decide⟩,1,((2^ts.length:Nat):Int),congrArg (fun z=>[V.int 1,V.int z]) zk,⟨by decide,by decide,by lia,by lia⟩,?_⟩))))
  refine iN (lo:=1) (n:=(((2^ts.length:Nat):Int)-1).toNat) (fun i σ H2=>∃(ps:List (Addr×Int×Int)) (v2:Option V),σ=[some (.ref wb),some (.ref F),v2]/\au H H2/\H2 F=some (.lst (ps.map fun q=>V.ref q.1))/\(∀ q∈ps,H2 q.1=some (.tup [.int q.2.1,.int q.2.2]))/\ps.map (·.2)=((List.range (i+1)).filter f).map fun r=>(lenOf ts r,(r:Int))) ⟨[],none,rfl,s1,ae,(fun q hq=>nomatch hq),?_⟩ ?_ ?_
  ·rw[aW,f0];rfl
  ·rintro i D' σ H2 hi ⟨ps,v2,rfl,s2,G6,Km,HZ⟩;have xx:i+1<2^ts.length:=by lia
   have ei:(1:Int)+(i:Int)=((i+1:Nat):Int):=by lia
   rw[ei];have fn:∀ H3,au H2 H3->f (i+1)=false->∃(ps:List (Addr×Int×Int)) (v2:Option V),[some (V.ref wb),some (V.ref F),some (V.int ((i+1:Nat):Int))]=[some (.ref wb),some (.ref F),v2]/\au H H3/\H3 F=some (.lst (ps.map fun q=>V.ref q.1))/\(∀ q∈ps,H3 q.1=some (.tup [.int q.2.1,.int q.2.2]))/\ps.map (·.2)=((List.range (i+1+1)).filter f).map fun r=>(lenOf ts r,(r:Int)):=fun H3 s3 e =>
    ⟨ps,_,rfl,s2.trans s3,s3 _ _ G6,fun q hq=>s3 _ _ (Km q hq),by rw[aW,e,HZ];simp⟩
   refine(aj rfl (aj rfl ⟨wb,p,ts,g,_,i+1,rfl,rfl,hw.same s2,xx,fun H3 d s3 hd=>(aj rfl (?_))⟩))
   cases d with
   | false =>
     refine fn H3 s3 ?_;cases h:f (i+1) with
     | false=>rfl
     | true=>exact absurd (hd.mpr ((hf _).mp h).2.2.1) (by decide)
   | true =>
     refine(aj rfl (aj rfl ⟨wb,p,ts,g,_,i+1,rfl,rfl,hw.same (s2.trans s3),xx,fun H4 d s4 hd=>(aj rfl (?_))⟩))
     cases d with
     | false =>
       refine fn H4 (s3.trans s4) ?_;cases h:f (i+1) with
       | false=>rfl
       | true=>exact absurd (hd.mpr ((hf _).mp h).2) (by decide)
     | true =>
       have Nj:=s3.trans s4;have S5:f (i+1)=true:=(hf _).mpr ⟨xx,hd.mp rfl⟩;refine(aj rfl ⟨.inl ⟨rfl,_,aQ.of (Nj _ _ G6)⟩,aj rfl (aj rfl ⟨wb,p,ts,g,_,i+1,rfl,rfl,hw.same (s2.trans Nj),xx,fun H5 s5=>(aj rfl ⟨dl rfl,fun c hc=>?_⟩)⟩)⟩)
       have s6:au H5 (upd H5 c (.tup [.int (lenOf ts (i+1)),.int ((i+1:Nat):Int)])):=au.new hc;have OU:=(Nj.trans s5).trans s6;have S6:=OU _ _ G6;have S7:c≠F:=fun z=>by rw[z,(Nj.trans s5) _ _ G6]at hc;cases hc
       have pl:=few _ ps HZ;refine⟨F,_,_,rfl,rfl,S6,bT (by rw[List.length_map];lia),?_⟩
       refine⟨ps++[(c,lenOf ts (i+1),((i+1:Nat):Int))],_,rfl,(s2.trans OU).put hF,?_,fun q hq=>?_,?_⟩
       ·rw[ae,List.map_append];rfl
       ·have S8:∀ q∈ps,q.1≠F:=fun q hq z=>by
         have:=Km q hq;rw[z,G6]at this;cases this
        rcases List.mem_append.mp hq with z|z
        ·rw[ay (S8 q z)];exact OU _ _ (Km q z)
        ·rw[List.mem_singleton.mp z,ay S7];exact ae
       ·rw[aW,S5,if_pos rfl,List.map_append,List.map_append,HZ];rfl
  ·rintro σ H2 ⟨ps,v2,rfl,s2,G6,Km,HZ⟩;have en:(((2^ts.length:Nat):Int)-1).toNat+1=2^ts.length:=by have:=Nat.two_pow_pos ts.length;lia
   rw[en]at HZ;have pl:=few _ ps HZ;have mem:∀ q∈ps,GQ q.2:=fun q hq=>by
    have:q.2∈ps.map (·.2):=List.mem_map.mpr ⟨q,hq,rfl⟩;rw[HZ]at this;obtain⟨r,hr,e2⟩:=List.mem_map.mp this;have:=((hf r).mp (List.mem_filter.mp hr).2).1;rw[<-e2];unfold GQ;show 0<=(r:Int)/\(r:Int)<1073741824
    lia
   refine(aj rfl ⟨F,ps,rfl,aQ.of G6,Km,mem,pl,fun l ps' hl pm pw=>?_⟩)
   obtain⟨rl,nat⟩:=G7 h9 hf HZ pm pw;have s3:au H2 (upd H2 l (.lst (ps'.map fun q=>V.ref q.1))):=au.new hl
   have OV:upd H2 l (.lst (ps'.map fun q=>V.ref q.1)) l=some (.lst (ps'.map fun q=>V.ref q.1)):=ae
   generalize upd H2 l (.lst (ps'.map fun q=>V.ref q.1))=H3 at s3 OV
   have VE:=pm.length_eq;refine⟨l,rfl,⟨_,aQ.of OV⟩,fun D hD=>aV (K:=K) (a:=l) (xs:=ps'.map fun q=>V.ref q.1) (fun i acc H4=>au H3 H4/\H4 D=some (.lst acc)/\acc=aG ((ps'.take i).map fun q=>q.2.2.toNat)) ⟨au.new hD,ae,rfl⟩ (fun i acc H4 _ z=>⟨aQ.of (z.1 _ _ OV),z.2.1,by rw[z.2.2,aA,List.length_map,List.length_take];lia⟩) (Nat.le_of_lt (bT (by rw[List.length_map];lia))) ?_ ?_⟩
   ·rintro i x acc H4 hx ⟨s4,uJ,rfl⟩;rw[List.getElem?_map]at hx;obtain⟨q,hq,rfl⟩:=Ah.mp hx;have hm:=m8 hq;have S9:=(s3.trans s4) _ _ (Km q (pm.mem_iff.mp hm));refine⟨rfl,aj rfl (bX (aY.of S9) (ao (j:=1) rfl) ⟨uJ,s4.put hD,ae,?_⟩)⟩;rw[take3 hq,List.map_append,List.map_singleton,bL,<-nat q hm]
   ·rintro acc H4 ⟨s4,uJ,rfl⟩;rw[List.length_map,List.take_length]at uJ;exact qq D _ H4 ((s2.trans s3).free hD) ((s2.trans s3).trans s4) uJ rl
theorem sJ{p:Nat}{ts:List c9}{g:aB p ts}{m:Nat}{ok:Nat->Prop}{zs:List Int}(h:tU p ts g m ok zs){i:Nat}{z:Int}(hz:zs[i]?=some z):(∃ c:Nat,z=(c:Int)/\c<2^ts.length/\g.N.Ring c/\c≠m/\ok c)/\∀(j:Nat) (y:Int),j<i->zs[j]?=some y->y<z:=by
 obtain⟨C,rfl,up,hC,_⟩:=h;rw[List.getElem?_map]at hz;obtain⟨c,hc,rfl⟩:=Ah.mp hz;have g1:=hC c (m8 hc);refine⟨⟨c,rfl,g1⟩,fun j y hj hy=>?_⟩
 rw[List.getElem?_map]at hy;obtain⟨b,hb,rfl⟩:=Ah.mp hy;obtain⟨a1,a2⟩:=oA.mp hb;obtain⟨b1,b2⟩:=oA.mp hc;have:=List.pairwise_iff_getElem.mp up j i a1 b1 hj
 lia
structure Tc(p:Nat)(ts:List c9)(g:aB p ts)(m:Nat)(f:Int)(zs:List Int)(i:Nat)(C:List Nat)(la:Int):Prop where
 e:zs.take i=C.map fun x=>((x:Nat):Int)
 up:C.Pairwise (· < ·)
 ok:∀ c∈C,c<2^ts.length/\g.N.Ring c/\c≠m/\lenOf ts c<=f
 le:∀ c∈C,(c:Int)<=la
 ls:la = -1\/∃ j,j<i/\zs[j]?=some la
 nn : -1<=la
def JI:Sp:=fun vs H Q _=>∃ w p ts,∃ g:aB p ts,∃(m:Nat) (D:Addr) (f:Int) (zs:List Int),vs=[.ref w,.int (m:Int),.ref D,.int f]/\bg H w p ts/\H D=some (.lst (zs.map V.int))/\zs.length<=200/\∀ H' (d:Bool),au H H'->(d=true↔tU p ts g m (fun c=>lenOf ts c<=f) zs)->Q (.bl d) H'
def JJ:Sp:=fun vs H Q _=>∃ w p ts,∃ g:aB p ts,∃(m:Nat) (z:Int) (D:Addr) (B:List Nat),vs=[.ref w,.int (m:Int),.int z,.ref D]/\bg H w p ts/\m<2^ts.length/\H D=some (.lst (aG B))/\B.length<=200/\(∀ b∈B,b<2^ts.length)/\∀ H' (d:Bool),au H H'->(d=true↔wo p ts g m B z)->Q (.bl d) H'
theorem dS:Ok T T.dN 3 JI:=by
 have gA:=gA T;have cA:=cA T;refine T.dN.ok bQ fun _ A _ s H vs Q E hr h=>?_
 ·obtain⟨wb,p,ts,g,m,D,f,zs,rfl,hw,hD,zl,q⟩:=h;refine⟨_,(ai (aF (i:=4) bQ.nd rfl (Or.inl rfl) ah)
   (ai (aF (i:=5) bQ.nd rfl (Or.inl rfl) (Al uU ah))
   (ai (fJ PassesOwn.never rfl (mC K (pv 2)) (bD 6 bQ.nd)
   (ai (bf (PW.pt (nh (aI qN (pv 6) (pv 5) (aK _)) (nh (aI Dv (pv 6) (aD jj ah (cz K T.dQ (aa (aM (cC K) (pv 0) ah) af))) (aK _)) (nh (aI bE (pv 6) (pv 1) (aK _)) (oG (jP (cS (aC gA hr T.kr.c aL (aa (pv 0) (aa (pv 6) af)))))))))) (aq (aE jx)) aP)
   (ai (bf (aI nj (aC cA hr T.fB.c aL (aa (pv 0) (aa (pv 6) af))) (pv 3) (aK _)) (aq (aE jx)) aP)
   (ai (aF (i:=4) bQ.nd rfl (Or.inl rfl) (aD iE (pv 4) (pv 6)))
   (aq (aF (i:=5) bQ.nd rfl (Or.inl rfl) (pv 6)))))))
   (aq (aE (cB bE (pv 4) (pv 1) (aK _))))))),?_⟩
  refine mW ?_;intro cj cQ dH fH gS mG nL rY sY;obtain⟨bt,xs,h1,h2,h3⟩:=id hw.ex;have wg:=h3.length;have wl:=g.len;have zk:(1:Int)*2^((xs.length:Nat):Int).toNat=((2^ts.length:Nat):Int):=by rw[g8,wg]
  refine(aj rfl (aj rfl ⟨D,rfl,⟨_,aQ.of hD⟩,dm (K:=K) (a:=D) (xs:=zs.map V.int) (fun i σ H2=>∃ C la v6,σ=[some (.ref wb),some (.int (m:Int)),some (.ref D),some (.int f),some (.int ((xorL C:Nat):Int)),some (.int la),v6]/\au H H2/\Tc p ts g m f zs i C la) ⟨[],-1,none,rfl,au.refl _,⟨rfl,.nil,(fun c hc=>nomatch hc),(fun c hc=>nomatch hc),.inl rfl,by lia⟩⟩ (fun i σ H2 _ ⟨_,_,_,_,z,_⟩=>aQ.of (z _ _ hD)) ?_ ?_⟩))
  ·rintro i y D' σ H2 hi ⟨C,la,v6,rfl,s2,R⟩;rw[List.getElem?_map]at hi;obtain⟨z,hz,rfl⟩:=Ah.mp hi;refine(aj rfl (aj rfl (bj (aj rfl (dD (fun h=>?_) (fun h=>?_))))))
   ·have h:z<=la:=jw h;refine bW (q H2 false s2 ⟨(fun z=>nomatch z),fun S=>?_⟩)
    obtain⟨⟨c,e,_⟩,b1⟩:=sJ S hz;rcases R.ls with e1|⟨j,hj,e1⟩
    ·lia
    ·have:=b1 j _ hj e1
     lia
   have h : ¬ z<=la:=fun z=>h (cN z)
   have nn:=R.nn;refine(aj rfl (aj rfl (bX (aY.of (s2 _ _ h1)) (ao (j:=1) rfl) (oZ rfl (.inr (aY.of (s2 _ _ h2))) (bj ⟨⟨by lia,by lia,by decide⟩,bj (aj rfl (dD (fun hb=>?_) (fun hb=>?_)))⟩)))))
   ·rw[zk]at hb;have hb:((2^ts.length:Nat):Int)<=z:=jw hb;refine bW (q H2 false s2 ⟨(fun z=>nomatch z),fun S=>?_⟩)
    obtain⟨⟨c,e,c1,_⟩,_⟩:=sJ S hz
    lia
   rw[zk]at hb;have hb : ¬((2^ts.length:Nat):Int)<=z:=fun z=>hb (cN z)
   obtain⟨c,rfl⟩:∃ c:Nat,z=(c:Int):=⟨z.toNat,by lia⟩
   have cl:c<2^ts.length:=by lia
   refine(aj rfl (aj rfl ⟨rfl,aj rfl (?_)⟩))
   by_cases em:c=m
   ·rw[cN (show V.int (c:Int)=V.int (m:Int) by rw[em])]
    refine bW (bW (q H2 false s2 ⟨(fun z=>nomatch z),fun S=>?_⟩))
    obtain⟨⟨c',e,_,_,c3,_⟩,_⟩:=sJ S hz
    lia
   rw[fk (show ¬ V.int (c:Int)=V.int (m:Int) from fun z=>em (by have:=V.int.inj z;lia))]
   refine bK (aj rfl (aj rfl ⟨wb,p,ts,g,_,c,rfl,rfl,hw.same s2,cl,fun H3 d s3 hd=>(aj rfl (?_))⟩))
   have HX:=s2.trans s3;cases d with
   | false =>
     refine bW (q H3 false HX ⟨(fun z=>nomatch z),fun S=>?_⟩)
     obtain⟨⟨c',e,_,c2,_⟩,_⟩:=sJ S hz;have:c=c':=by lia
     subst this;exact absurd (hd.mpr c2) (by decide)
   | true =>
     have cr:=hd.mp rfl;refine bK (aj rfl (aj rfl ⟨wb,p,ts,g,_,c,rfl,rfl,hw.same HX,cl,fun H4 s4=>(aj rfl (bj (aj rfl (dD (fun hf=>?_) (fun hf=>?_)))))⟩))
     ·have hf:f<lenOf ts c:=jw hf;refine q H4 false (HX.trans s4) ⟨(fun z=>nomatch z),fun S=>?_⟩
      obtain⟨⟨c',e,_,_,_,c4⟩,_⟩:=sJ S hz;have:c=c':=by lia
      subst this
      lia
     ·have hf : ¬ f<lenOf ts c:=fun z=>hf (cN z)
      refine(aj rfl (aj rfl (bj (aj rfl (?_)))));refine⟨C++[c],(c:Int),some (.int (c:Int)),?_,HX.trans s4,?_⟩
      ·rw[xorL_snoc];show[_,_,_,_,some (V.int (Builtin.bitXor _ _)),_,_]=_;rw[xor_int]
      ·refine⟨by rw[take3 hz,R.e,List.map_append];rfl,?_,fun b hb=>?_,fun b hb=>?_,.inr ⟨i,by lia,hz⟩,by lia⟩
       ·refine List.pairwise_append.mpr ⟨R.up,List.pairwise_singleton _ _,fun x hx y hy=>?_⟩
        rw[List.mem_singleton.mp hy];have:=R.le x hx
        lia
       ·rcases List.mem_append.mp hb with z|z
        ·exact R.ok b z
        ·rw[List.mem_singleton.mp z];exact⟨cl,cr,em,by lia⟩
       ·rcases List.mem_append.mp hb with z|z
        ·have:=R.le b z
         lia
        ·rw[List.mem_singleton.mp z];exact Int.le_refl _
  ·rintro σ H2 ⟨C,la,v6,rfl,s2,R⟩;have e:=R.e;rw[List.length_map,List.take_length]at e;refine(aj rfl (aj rfl ⟨rfl,q H2 _ s2 ?_⟩));rw[decide_eq_true_iff,e,<-wu R.ok];exact⟨fun h=>⟨R.up,by have:=V.int.inj h;lia⟩,fun h=>by rw[h.2]⟩
theorem dU:Ok T T.dO 2 JJ:=by
 have l6:=l6 T;refine T.dO.ok mX fun _ A _ s H vs Q E hr h=>?_
 ·obtain⟨wb,p,ts,g,m,z,D,B,rfl,hw,hm,hD,Bl,hB,q⟩:=h;refine⟨_,(ai (bf (PW.pt (nh (aI qM (pv 2) ah (aK _)) (nh (aI Dv (pv 2) (aD jj ah (cz K T.dQ (aa (aM (cC K) (pv 0) ah) af))) (aK _)) (oG (jP (cS (aC l6 hr T.lY.c aL (aa (pv 1) (aa (pv 2) af))))))))) (aq (aE jx)) aP)
   (aq (aE (cB (yO K hr.units) (bh (own:=["one"]) (fq:=["marks"]) (js:=[2]) (aJ (ak dJ) ["web","ring","marks","others"]) rfl (mC K (pv 3)) (fun _ _ _ _=>(bD 0 (kZ ["one","marks"]))) (fun _ _ _ _=>(cO (cS (aC l6 hr T.lY.c aL (aa (pv 0) (aa (pv 1) af)))))) (fun _ _ _ _=>(pv 0))) (cU af) (aK _))))),?_⟩
  refine gF ?_;intro cj cQ;obtain⟨bt,xs,h1,h2,h3⟩:=id hw.ex;have wg:=h3.length;have wl:=g.len;have zk:(1:Int)*2^((xs.length:Nat):Int).toNat=((2^ts.length:Nat):Int):=by rw[g8,wg]
  refine(aj rfl (bj (aj rfl (dD (fun h=>?_) (fun h=>?_)))))
  ·have h:z<0:=jw h;exact bW (q H false (au.refl _) ⟨(fun z=>nomatch z),fun⟨M,e,_⟩=>by lia⟩)
  have h : ¬ z<0:=fun z=>h (cN z)
  refine(aj rfl (aj rfl (bX (aY.of h1) (ao (j:=1) rfl) (oZ rfl (.inr (aY.of h2)) (bj ⟨⟨by lia,by lia,by decide⟩,bj (aj rfl (dD (fun hb=>?_) (fun hb=>?_)))⟩)))))
  ·rw[zk]at hb;have hb:((2^ts.length:Nat):Int)<=z:=jw hb;exact bW (q H false (au.refl _) ⟨(fun z=>nomatch z),fun⟨M,e,h,_⟩=>by lia⟩)
  rw[zk]at hb;have hb : ¬((2^ts.length:Nat):Int)<=z:=fun z=>hb (cN z)
  obtain⟨M,rfl⟩:∃ M:Nat,z=(M:Int):=⟨z.toNat,by lia⟩
  have hM:M<2^ts.length:=by lia
  refine(aj rfl (aj rfl ⟨m,M,rfl,fun v hv=>(aj rfl (?_))⟩))
  have hv2:v=g.N.par m M:=by
   rw[hv ts.length (Nat.lt_of_le_of_lt Nat.and_le_left hm)];exact RM.bM fun k _=>Nat.testBit_and ..
  cases v with
  | false =>
    refine bW (q H false (au.refl _) ⟨(fun z=>nomatch z),fun⟨M',e,_,h,_⟩=>?_⟩)
    have:M=M':=by lia
    rw[<-this,<-hv2]at h;cases h
  | true =>
    refine bK (aj rfl ⟨D,rfl,⟨_,aQ.of hD⟩,fun X hX=>aV (K:=K) (a:=D) (xs:=aG B) (fun i acc H2=>au H H2/\H2 X=some (.lst acc)/\acc=aG ((B.take i).filter fun b=>g.N.par b M)) ⟨au.new hX,ae,rfl⟩ (fun i acc H2 _ z=>⟨aQ.of (z.1 _ _ hD),z.2.1,?_⟩) (Nat.le_of_lt (bT (by rw[aA];lia))) ?_ ?_⟩)
    ·rw[z.2.2,aA];exact Nat.le_trans (List.length_filter_le _ _) (by rw[List.length_take];lia)
    ·rintro i x acc H2 hx ⟨s2,hX2,rfl⟩;obtain⟨c,mK,rfl⟩:=bJ hx;refine⟨rfl,aj rfl (aj rfl ⟨c,M,rfl,fun v hv=>(aj rfl (?_))⟩)⟩
     have hv2:v=g.N.par c M:=by
      rw[hv ts.length (Nat.lt_of_le_of_lt Nat.and_le_left (hB c (m8 mK)))];exact RM.bM fun k _=>Nat.testBit_and ..
     rw[take3 mK,List.filter_append,List.filter_cons,List.filter_nil,<-hv2];cases v with
     | true=>exact bW (aj rfl ⟨hX2,s2.put hX,ae,by rw[if_pos rfl];exact(bL _ _).symm⟩)
     | false=>exact bK ⟨s2,hX2,by rw[if_neg Bool.false_ne_true,List.append_nil]⟩
    ·rintro acc H2 ⟨s2,hX2,rfl⟩;rw[aA,List.take_length]at hX2;refine⟨dl rfl,fun l hl=>?_⟩
     have s3:au H2 (upd H2 l (.lst [])):=au.new hl;refine⟨_,_,.lst (aQ.of (s3 _ _ hX2)) (nC _),.lst (aQ.of ae) .nil,kR _,rfl,?_⟩;rw[vf];refine q _ _ (s2.trans s3) ?_;rw[decide_eq_true_iff,List.filter_eq_nil_iff]
     constructor
     ·exact fun h=>⟨M,rfl,hM,hv2.symm,fun b hb=>Ib.mpr (h b hb)⟩
     ·rintro⟨M',e,_,_,h⟩ b hb;have:M=M':=by lia
      subst this;rw[h b hb]
      decide
theorem tU.congr{p:Nat}{ts:List c9}{g:aB p ts}{m:Nat}{ok ok' : Nat->Prop}{zs:List Int}(h:∀ c,ok c↔ok' c):tU p ts g m ok zs↔tU p ts g m ok' zs :=
 ⟨fun⟨C,e,u,hC,x⟩=>⟨C,e,u,fun c hc=>let⟨a,b,d,k⟩:=hC c hc;⟨a,b,d,(h c).mp k⟩,x⟩,fun⟨C,e,u,hC,x⟩=>⟨C,e,u,fun c hc=>let⟨a,b,d,k⟩:=hC c hc;⟨a,b,d,(h c).mpr k⟩,x⟩⟩
def JK:Sp:=fun vs H Q _=>∃ w p ts,∃ g:aB p ts,∃(lr:Addr) (l:List Nat) (m:Nat) (v:V) (pp:PP),vs=[.ref w,.ref lr,.int (m:Int),v]/\bg H w p ts/\H lr=some (.lst (aG l))/\l.length<64/\(∀ r∈l,r<2^ts.length)/\m<2^ts.length/\ym H v pp/\∀ H' (d:Bool),au H H'->(d=true↔Ab p ts g l m pp)->Q (.bl d) H'
theorem fY:Ok T T.fV 4 JK:=by
 have dS:=dS T;have dU:=dU T;have cA:=cA T;refine T.fV.ok cZ fun _ A _ s H vs Q E hr h=>?_
 ·obtain⟨wb,p,ts,g,lr,l,m,v,pp,rfl,hw,hlr,CO,hlt,hm,hv,q⟩:=h;refine⟨_,(ai (aF (i:=4) cZ.nd rfl (Or.inr rfl) (aC cA hr T.fB.c aL (aa (pv 0) (aa (pv 2) af))))
   (ai (bf (aI bE (aM (cC K) (pv 3) ah) dZ (aK _)) (aq (aE (aC dS hr T.dN.c aL (aa (pv 0) (aa (pv 2) (aa (aM (cC K) (pv 3) ah) (aa (aD gV (pv 4) ah) af))))))) aP)
   (ai (lN (i:=5) cZ.nd rfl rfl (own:=["one"]) (fq:=["web","far"]) (js:=[0,4]) (aJ (ak cJ) ["web","rings","ring","paper","far","shorter","others"]) rfl (mC K (pv 1)) (fun _ _ _ _=>(bD 0 (kZ ["one","web","far"]))) (fun _ _ _ _=>(cO (aI qM (aC cA hr T.fB.c aL (aa (pv 1) (aa (pv 0) af))) (pv 2) (aK _)))) (fun _ _ _ _=>(pv 0)))
   (ai (bf (aI bE (aM (cC K) (pv 3) ah) dZ (aK _)) (aq (aE (kM (aC dU hr T.dO.c aL (aa (pv 0) (aa (pv 2) (aa (aM (cC K) (pv 3) ah) (aa (pv 5) af))))) (kL (aC dS hr T.dN.c aL (aa (pv 0) (aa (pv 2) (aa (aM (cC K) (pv 3) ah) (aa (pv 4) af))))))))) aP)
   (ai (lN (i:=6) cZ.nd rfl rfl (own:=["one"]) (fq:=["web","ring","far"]) (js:=[0,2,4]) (aJ (ak cJ) ["web","rings","ring","paper","far","shorter","others"]) rfl (mC K (pv 1)) (fun _ _ _ _=>(bD 0 (kZ ["one","web","ring","far"]))) (fun _ _ _ _=>(cO (PW.pt (oH (aI qL (pv 0) (pv 2) (aK _)) (lK (aI qN (aC cA hr T.fB.c aL (aa (pv 1) (aa (pv 0) af))) (pv 3) (aK _))))))) (fun _ _ _ _=>(pv 0)))
   (aq (aE (aC dU hr T.dO.c aL (aa (pv 0) (aa (pv 2) (aa (aM (cC K) (pv 3) ah) (aa (pv 6) af)))))))))))),?_⟩
  refine mY ?_;intro cj cQ dH fH gS mG nL;refine(aj rfl (aj rfl ⟨wb,p,ts,g,_,m,rfl,rfl,hw,hm,fun H1 s1=>?_⟩))
  have G8:=s1 _ _ hlr;have slt:∀ b∈qp ts l m,b<2^ts.length:=fun b hb=>hlt b (List.mem_filter.mp hb).1
  have OJ:∀ b∈qt ts l m,b<2^ts.length:=fun b hb=>hlt b (List.mem_filter.mp hb).1
  have shl:(qp ts l m).length<=l.length:=List.length_filter_le _ _;have OI:(qt ts l m).length<=l.length:=List.length_filter_le _ _;cases pp with
  | nn zs =>
    obtain⟨c,D,rfl,hc,hD,zl⟩:=hv;refine(aj rfl (bX (aY.of (s1 _ _ hc)) (ao (j:=0) rfl) ⟨rfl,aj rfl (bW ?_)⟩));refine(aj rfl (aj rfl (aj rfl (bX (aY.of (s1 _ _ hc)) (ao (j:=1) rfl) (aj rfl (bj ⟨wb,p,ts,g,m,D,_,zs,rfl,hw.same s1,s1 _ _ hD,zl,fun H2 d s2 hd=>q H2 d (s1.trans s2) (hd.trans (tU.congr fun c=>?_))⟩))))))
    lia
  | ss z zs =>
    obtain⟨c,D,rfl,hc,hD,zl⟩:=hv;refine(aj rfl (bX (aY.of (s1 _ _ hc)) (ao (j:=0) rfl) ⟨rfl,aj rfl (bK ?_)⟩));refine(aj rfl ⟨lr,rfl,⟨_,aQ.of G8⟩,fun X hX=>aV (K:=K) (a:=lr) (xs:=aG l) (fun i acc H3=>au H1 H3/\H3 X=some (.lst acc)/\acc=aG (qp ts (l.take i) m)) ⟨au.new hX,ae,rfl⟩ (fun i acc H3 _ z=>⟨aQ.of (z.1 _ _ G8),z.2.1,?_⟩) (Nat.le_of_lt (bT (by rw[aA];lia))) ?_ ?_⟩)
    ·rw[z.2.2,aA];exact Nat.le_trans (List.length_filter_le _ _) (by rw[List.length_take];lia)
    ·rintro i x acc H3 hx ⟨s3,jO,rfl⟩;obtain⟨c,mK,rfl⟩:=bJ hx;refine⟨rfl,aj rfl (aj rfl ⟨wb,p,ts,g,_,c,rfl,rfl,hw.same (s1.trans s3),hlt c (m8 mK),fun H4 s4=>(aj rfl (bj (aj rfl (dD (fun h=>?_) (fun h=>?_)))))⟩)⟩
     ·refine(aj rfl ⟨s4 _ _ jO,(s3.trans s4).put hX,ae,?_⟩);unfold qp;rw[take3 mK,List.filter_append,List.filter_cons,if_pos h];exact(bL _ _).symm
     ·refine⟨s3.trans s4,s4 _ _ jO,?_⟩;unfold qp;rw[take3 mK,List.filter_append,List.filter_cons,if_neg h,List.filter_nil,List.append_nil]
    rintro acc H3 ⟨s3,jO,rfl⟩;rw[aA,List.take_length]at jO;have g4:=s1.trans s3;refine(aj rfl (bX (aY.of (g4 _ _ hc)) (ao (j:=0) rfl) ⟨rfl,aj rfl (bW ?_)⟩));refine(aj rfl (aj rfl (aj rfl (bX (aY.of (g4 _ _ hc)) (ao (j:=1) rfl) (aj rfl ⟨wb,p,ts,g,m,z,X,_,rfl,hw.same g4,hm,jO,by lia,slt,fun H4 d s4 hd=>(aj rfl (?_))⟩)))))
    have wz:=g4.trans s4;cases d with
    | false=>exact bK (q H4 false wz ⟨(fun z=>nomatch z),fun h=>absurd (hd.mpr h.1) (by decide)⟩)
    | true =>
      have ON:=hd.mp rfl;exact bW (aj rfl (aj rfl (aj rfl (bX (aY.of (wz _ _ hc)) (ao (j:=2) rfl) (aj rfl ⟨wb,p,ts,g,m,D,_,zs,rfl,hw.same wz,wz _ _ hD,zl,fun H5 d s5 hd=>q H5 d (wz.trans s5) (hd.trans ⟨fun h=>⟨ON,h⟩,fun h=>h.2⟩)⟩)))))
  | ee z =>
    obtain⟨c,rfl,hc⟩:=hv;refine(aj rfl (bX (aY.of (s1 _ _ hc)) (ao (j:=0) rfl) ⟨rfl,aj rfl (bK ?_)⟩));refine(aj rfl ⟨lr,rfl,⟨_,aQ.of G8⟩,fun X hX=>aV (K:=K) (a:=lr) (xs:=aG l) (fun i acc H3=>au H1 H3/\H3 X=some (.lst acc)/\acc=aG (qp ts (l.take i) m)) ⟨au.new hX,ae,rfl⟩ (fun i acc H3 _ z=>⟨aQ.of (z.1 _ _ G8),z.2.1,?_⟩) (Nat.le_of_lt (bT (by rw[aA];lia))) ?_ ?_⟩)
    ·rw[z.2.2,aA];exact Nat.le_trans (List.length_filter_le _ _) (by rw[List.length_take];lia)
    ·rintro i x acc H3 hx ⟨s3,jO,rfl⟩;obtain⟨c,mK,rfl⟩:=bJ hx;refine⟨rfl,aj rfl (aj rfl ⟨wb,p,ts,g,_,c,rfl,rfl,hw.same (s1.trans s3),hlt c (m8 mK),fun H4 s4=>(aj rfl (bj (aj rfl (dD (fun h=>?_) (fun h=>?_)))))⟩)⟩
     ·refine(aj rfl ⟨s4 _ _ jO,(s3.trans s4).put hX,ae,?_⟩);unfold qp;rw[take3 mK,List.filter_append,List.filter_cons,if_pos h];exact(bL _ _).symm
     ·refine⟨s3.trans s4,s4 _ _ jO,?_⟩;unfold qp;rw[take3 mK,List.filter_append,List.filter_cons,if_neg h,List.filter_nil,List.append_nil]
    rintro acc H3 ⟨s3,jO,rfl⟩;have g4:=s1.trans s3;have Mj:=g4 _ _ hlr;refine(aj rfl (bX (aY.of (g4 _ _ hc)) (ao (j:=0) rfl) ⟨rfl,aj rfl (bK ?_)⟩));refine(aj rfl ⟨lr,rfl,⟨_,aQ.of Mj⟩,fun Y hY=>aV (K:=K) (a:=lr) (xs:=aG l) (fun i acc H4=>au H3 H4/\H4 Y=some (.lst acc)/\acc=aG (qt ts (l.take i) m)) ⟨au.new hY,ae,rfl⟩ (fun i acc H4 _ z=>⟨aQ.of (z.1 _ _ Mj),z.2.1,?_⟩) (Nat.le_of_lt (bT (by rw[aA];lia))) ?_ ?_⟩)
    ·rw[z.2.2,aA];exact Nat.le_trans (List.length_filter_le _ _) (by rw[List.length_take];lia)
    ·rintro i x acc H4 hx ⟨s4,Kn,rfl⟩;obtain⟨c,mK,rfl⟩:=bJ hx;refine⟨rfl,aj rfl (aj rfl ⟨rfl,aj rfl (?_)⟩)⟩;have tk:qt ts (l.take (i+1)) m=qt ts (l.take i) m++(if(!decide (c=m)&&decide (lenOf ts c<=lenOf ts m))=true then[c] else[]):=by
      unfold qt;rw[take3 mK,List.filter_append,List.filter_cons,List.filter_nil]
     by_cases e:c=m
     ·rw[cN (show V.int (c:Int)=V.int (m:Int) by rw[e])]
      refine bK (bK ⟨s4,Kn,?_⟩);rw[tk,cN e,Bool.not_true,Bool.false_and,if_neg Bool.false_ne_true,List.append_nil]
     ·rw[fk (show ¬ V.int (c:Int)=V.int (m:Int) from fun z=>e (by have:=V.int.inj z;lia))]
      refine bW (aj rfl (aj rfl ⟨wb,p,ts,g,_,c,rfl,rfl,hw.same (g4.trans s4),hlt c (m8 mK),fun H5 s5=>(aj rfl (bj (aj rfl (dD (fun h=>?_) (fun h=>?_)))))⟩))
      ·refine(aj rfl ⟨s5 _ _ Kn,(s4.trans s5).put hY,ae,?_⟩);rw[tk,fk e,h];exact(bL _ _).symm
      ·refine⟨s4.trans s5,s5 _ _ Kn,?_⟩;rw[tk,Ib.mpr h,Bool.and_false,if_neg Bool.false_ne_true,List.append_nil]
    rintro acc H4 ⟨s4,Kn,rfl⟩;rw[aA,List.take_length]at Kn;have wz:=g4.trans s4;exact(aj rfl (aj rfl (aj rfl (bX (aY.of (wz _ _ hc)) (ao (j:=1) rfl) (aj rfl ⟨wb,p,ts,g,m,z,Y,_,rfl,hw.same wz,hm,Kn,by lia,OJ,fun H5 d s5 hd=>q H5 d (wz.trans s5) hd⟩)))))
theorem oq{B C:List Nat}{m:Nat}(h:uK B m C):C.length<=B.length:=RM.lQ (h.up.imp fun h=>Nat.ne_of_lt h) h.mem
theorem Fv{p:Nat}{ts:List c9}{g:aB p ts}{l:List Nat}{m:Nat}{H0 H:Hp}{c:Addr}(R:oh p ts g l)(CO:l.length<64)(h:A5 p ts g l m H0 H c):∃ pp,ym H (.ref c) pp/\Ab p ts g l m pp/\((∃ z,pp = .ee z)\/∃(k:Str) (D:Addr) (xs:List V) (zs:List Int),k≠("every":Str)/\H c=some (.tup (.str k::xs))/\yy (.str k::xs) (-1)=some (.ref D)/\H0 D=none/\H D=some (.lst (zs.map V.int))/\zs.length<=200):=by
 have shl:(qp ts l m).length<=l.length:=List.length_filter_le _ _;have OI:(qt ts l m).length<=l.length:=List.length_filter_le _ _;rcases h with⟨D,C,h1,h0,h2,_,h3⟩|⟨M,h1,_,h4,h5,h6⟩|⟨D,C,M,h1,h0,h2,_,_,h4,h5,h6,h3⟩
 ·have cl:=oq h3;have e:H D=some (.lst ((C.map fun x=>((x:Nat):Int)).map V.int)):=by rw[<-cM];exact h2
  refine⟨.nn (C.map fun x=>((x:Nat):Int)),⟨c,D,rfl,h1,e,by rw[List.length_map];lia⟩,⟨C,rfl,h3.up,fun b hb=>?_,h3.sum⟩,.inr ⟨_,D,_,_,by decide,h1,rfl,h0,e,by rw[List.length_map];lia⟩⟩
  obtain⟨b1,b2⟩:=List.mem_filter.mp (h3.mem b hb);have b2:lenOf ts b<lenOf ts m:=jw b2;obtain⟨b3,b4⟩:=(R.all b).mp b1;exact⟨b3,b4,fun e=>by rw[e]at b2;lia,b2⟩
 ·exact⟨.ee (M:Int),⟨c,rfl,h1⟩,⟨M,rfl,h4,h5,h6⟩,.inl ⟨_,rfl⟩⟩
 ·have cl:=oq h3;have e:H D=some (.lst ((C.map fun x=>((x:Nat):Int)).map V.int)):=by rw[<-cM];exact h2
  refine⟨.ss (M:Int) (C.map fun x=>((x:Nat):Int)),⟨c,D,rfl,h1,e,by rw[List.length_map];lia⟩,⟨⟨M,rfl,h4,h5,h6⟩,C,rfl,h3.up,fun b hb=>?_,h3.sum⟩,.inr ⟨_,D,_,_,by decide,h1,rfl,h0,e,by rw[List.length_map];lia⟩⟩
  obtain⟨b1,b2⟩:=List.mem_filter.mp (h3.mem b hb);obtain⟨b5,b6⟩:=Bool.and_eq_true_iff.mp b2;obtain⟨b3,b4⟩:=(R.all b).mp b1;have b7:b≠m:=fun e=>by
   rw[cN e]at b5;cases b5
  exact⟨b3,b4,b7,jw b6⟩
theorem ym.same{H H' : Hp}{v:V}{pp:PP}(s:au H H')(h:ym H v pp):ym H' v pp:=by
 cases pp with
 | nn zs=>obtain⟨c,D,e,h1,h2,h3⟩:=h;exact⟨c,D,e,s _ _ h1,s _ _ h2,h3⟩
 | ss z zs=>obtain⟨c,D,e,h1,h2,h3⟩:=h;exact⟨c,D,e,s _ _ h1,s _ _ h2,h3⟩
 | ee z=>obtain⟨c,e,h1⟩:=h;exact⟨c,e,s _ _ h1⟩
theorem JL(l:List Int)(lo hi:Option Int):∃ l' : List Int,oO (l.map V.int) lo hi=l'.map V.int/\l'.length<=l.length:=by
 refine⟨_,wV l lo hi,?_⟩;rw[List.length_take,List.length_drop]
 lia
theorem A8(l:List Nat){z:Int}(h0:0<=z)(h1:z<(l.length:Int)):∃ y:Nat,y∈l/\yy (aG l) z=some (.int (y:Int)):=by
 obtain⟨n,rfl⟩:∃ n:Nat,z=(n:Int):=⟨z.toNat,by lia⟩
 have hn:n<l.length:=by lia
 refine⟨l[n],List.getElem_mem hn,ao (j:=n) ?_⟩;unfold aG;rw[List.getElem?_map,List.getElem?_eq_getElem hn];rfl
theorem G9(l:List Int){z:Int}(h0:0<=z)(h1:z<(l.length:Int)):∃ y:Int,yy (l.map V.int) z=some (.int y):=by
 obtain⟨n,rfl⟩:∃ n:Nat,z=(n:Int):=⟨z.toNat,by lia⟩
 have hn:n<l.length:=by lia
 refine⟨l[n],ao (j:=n) ?_⟩;rw[List.getElem?_map,List.getElem?_eq_getElem hn];rfl
theorem yq{ts:List c9}{l C:List Nat}{m:Nat}(hm:m∈l)(h:uK (qp ts l m) m C\/uK (qt ts l m) m C):C.length<l.length:=by
 have h1:(qt ts l m).length<l.length:=List.length_filter_lt_length_iff_exists.mpr ⟨m,hm,by rw[cN rfl,Bool.not_true,Bool.false_and];decide⟩
 have h2:(qp ts l m).length<l.length:=List.length_filter_lt_length_iff_exists.mpr ⟨m,hm,by rw[fk (by lia)];decide⟩
 rcases h with h|h
 ·exact Nat.lt_of_le_of_lt (oq h) h2
 ·exact Nat.lt_of_le_of_lt (oq h) h1
def CV:Sp:=fun vs H Q _=>∃(D lr:Addr) (C l:List Nat) (f c:Int),vs=[.ref D,.ref lr,.int f,.int c]/\H D=some (.lst (aG C))/\C.length<=62/\H lr=some (.lst (aG l))/\l.length<64/\0<l.length/\(∀ r∈l,r<=1000)/\0<=c/\∀ E (zs:List Int) H',au H H'->H' E=some (.lst (zs.map V.int))->zs.length<=200->Q (.ref E) H'
theorem dW:Ok T T.dP 2 CV:=by
 have bV:=bV T;refine T.dP.ok c6 fun _ A _ s H vs Q E hr h=>?_
 ·obtain⟨D,lr,C,l,f,c,rfl,hD,Cl,hlr,CO,l0,hlt,c0,q⟩:=h;refine⟨_,(ai (aF (i:=4) c6.nd rfl (Or.inl rfl) (aD bA (pv 3) ah))
   (ai (aF (i:=5) c6.nd rfl (Or.inr rfl) (aD gB (pv 3) ah))
   (ai (aF (i:=6) c6.nd rfl (Or.inl rfl) (aD bA (pv 5) (aD cY (cz K T.dQ (aa (pv 0) af)) ah)))
   (ai (bf (aI bE (pv 4) ah (aK _)) (aq (aE (aD (Bw K) (iF (Lm K) (pv 0) lM (iY (pv 6))) (iF (Lm K) (pv 0) (iY (aD cY (pv 6) ah)) lM)))) aP)
   (ai (bf (aI bE (pv 4) ah (aK _)) (aq (aE (bS (sortedK K) (by rfl) T.lE PyProof.Rows.boot_sorted (aa (aD (Bw K) (pv 0) (cU (aa (aM (mh K) (pv 1) (aD bA (aD gB (pv 5) ah) (cz K T.dQ (aa (pv 1) af)))) af))) af)))) aP)
   (ai (bf (aI bE (pv 4) ah (aK _)) (aq (aE (zf K rfl (by rfl) T.pM (by rfl) T.zS (pv 0)))) aP)
   (ai (bf (aI bE (pv 4) ah (aK _)) (aq (aE (aD (Bw K) (pv 0) (cU (aa (aD cY (pv 2) (pv 5)) af))))) aP)
   (ai (bf (aI bE (pv 4) ah (aK _)) (aq (aE (aD (Bw K) (cU (aa (aD gV (Al uU ah) (pv 5)) af)) (pv 0)))) aP)
   (ai (bf (aI bE (pv 4) ah (aK _)) (aq (aE (bS (sortedK K) (by rfl) T.lE PyProof.Rows.boot_sorted (aa (bh (own:=["ring"]) (fq:=["rest"]) (js:=[5]) (aJ (ak dM) ["told","rings","far","cell","way","rest","at"]) rfl (mC K (pv 1)) (fun _ _ _ _=>(bD 0 (kZ ["ring","rest"]))) (fun _ _ _ _=>(cO (aI bE (aD bA (aC bV hr T.eA.c aL (aa (pv 1) (aa (pv 0) af))) ah) ah (aK _)))) (fun _ _ _ _=>(pv 0))) af)))) aP)
   (aq (aE (pv 0)))))))))))),?_⟩
  refine mZ ?_;intro cj cQ dH fH gS mG nL rY sY xN sq qe sr su sy;refine(aj rfl (bj ⟨(jk rfl),aj rfl (bj ⟨⟨by decide,by decide⟩,aj rfl (aj rfl (oZ rfl (.inl (aQ.of hD)) (bj (bj ⟨?_,?_⟩))))⟩)⟩))
  ·show(0:Int)<((aG C).length:Int)+1
   lia
  rw[cM]at hD;have Td:(C.map fun x=>((x:Nat):Int)).length<=62:=by rw[List.length_map];exact Cl
  generalize (C.map fun x=>((x:Nat):Int))=Ci at hD Td
  have fin:∀ E (zs:List Int) H1,au H H1->H1 E=none->zs.length<=200->Q (.ref E) (upd H1 E (.lst (zs.map V.int))):=fun E zs H1 s1 hE hl=>q E zs _ (s1.trans (au.new hE)) ae hl
  refine(aj rfl ⟨rfl,aj rfl (dD (fun _=>?_) (fun _=>?_))⟩)
  ·refine(aj rfl (aj rfl (aj rfl ⟨D,_,rfl,aQ.of hD,fun c1 hc1=>?_⟩)))
   obtain⟨l1,e1,n1⟩:=JL Ci none (some (c/7%(((aG C).length:Int)+1)));obtain⟨l2,e2,n2⟩:=JL Ci (some (c/7%(((aG C).length:Int)+1)+1)) none;rw[e1];have s1:au H (upd H c1 (.lst (l1.map V.int))):=au.new hc1;have Fw:upd H c1 (.lst (l1.map V.int)) c1=some (.lst (l1.map V.int)):=ae;generalize upd H c1 (.lst (l1.map V.int))=H1 at s1 Fw;refine(aj rfl (aj rfl (bj (aj rfl ⟨D,_,rfl,aQ.of (s1 _ _ hD),fun c2 hc2=>?_⟩))))
   rw[e2];have s2:au H1 (upd H1 c2 (.lst (l2.map V.int))):=au.new hc2;refine⟨c1,c2,_,_,rfl,rfl,aQ.of (s2 _ _ Fw),aQ.of ae,Nat.le_of_lt (bT (by rw[List.length_map,List.length_map];lia)),fun c3 hc3=>?_⟩
   rw[<-List.map_append];exact fin c3 _ _ (s1.trans s2) hc3 (by rw[List.length_append];lia)
  refine(aj rfl ⟨rfl,aj rfl (dD (fun _=>?_) (fun _=>?_))⟩)
  ·have lp:(0:Int)<((aG l).length:Int):=by rw[aA];lia
   obtain⟨y,_,hy⟩:=A8 l (z:=c/7/5%((aG l).length:Int)) (Int.emod_nonneg _ (by lia)) (by have:=Int.emod_lt_of_pos (c/7/5) lp;rw[aA]at this ⊢;exact this)
   refine(aj rfl (aj rfl (aj rfl (bj ⟨⟨by decide,by decide⟩,aj rfl (oZ rfl (.inl (aQ.of hlr)) (bj ⟨lp,lT (aQ.of hlr) (hy) ⟨dl rfl,fun c1 hc1=>?_⟩⟩))⟩))))
   have s1:au H (upd H c1 (.lst [.int (y:Int)])):=au.new hc1;refine⟨D,c1,_,_,rfl,rfl,aQ.of (s1 _ _ hD),aQ.of ae,Nat.le_of_lt (bT (by rw[List.length_map];show Ci.length+1<=900;lia)),fun c2 hc2=>?_⟩
   refine⟨c2,Ci++[(y:Int)],rfl,aQ.of (by rw[ae,List.map_append];rfl),by rw[List.length_append,List.length_singleton];lia,fun c3 ns' hc3 pm _=>?_⟩
   exact fin c3 ns' _ (s1.trans (au.new hc2)) hc3 (by rw[pm.length_eq,List.length_append,List.length_singleton];lia)
  refine(aj rfl ⟨rfl,aj rfl (dD (fun _=>?_) (fun _=>?_))⟩)
  ·refine(aj rfl ⟨D,_,rfl,aQ.of hD,by rw[List.length_map];lia,fun c1 hc1=>?_⟩)
   rw[<-List.map_reverse];exact fin c1 _ _ (au.refl _) hc1 (by rw[List.length_reverse];lia)
  refine(aj rfl ⟨rfl,aj rfl (dD (fun _=>?_) (fun _=>?_))⟩)
  ·refine(aj rfl (aj rfl (aj rfl (bj ⟨dl rfl,fun c1 hc1=>?_⟩))))
   have s1:au H (upd H c1 (.lst [.int (f+c/7)])):=au.new hc1;refine⟨D,c1,_,_,rfl,rfl,aQ.of (s1 _ _ hD),aQ.of ae,Nat.le_of_lt (bT (by rw[List.length_map];show Ci.length+1<=900;lia)),fun c2 hc2=>?_⟩
   have e:Ci.map V.int++[V.int (f+c/7)]=(Ci++[f+c/7]).map V.int:=by rw[List.map_append];rfl
   show Q (.ref c2) (upd _ c2 (.lst (Ci.map V.int++[V.int (f+c/7)])));rw[e];exact fin c2 _ _ s1 hc2 (by rw[List.length_append,List.length_singleton];lia)
  refine(aj rfl ⟨rfl,aj rfl (dD (fun _=>?_) (fun _=>?_))⟩)
  ·refine(aj rfl (aj rfl (bj ⟨dl rfl,fun c1 hc1=>?_⟩)))
   have s1:au H (upd H c1 (.lst [.int (-1-c/7)])):=au.new hc1;refine(aj rfl ⟨c1,D,_,_,rfl,rfl,aQ.of ae,aQ.of (s1 _ _ hD),Nat.le_of_lt (bT (by rw[List.length_map];show 1+Ci.length<=900;lia)),fun c2 hc2=>?_⟩)
   show Q (.ref c2) (upd _ c2 (.lst ((((-1-c/7)::Ci):List Int).map V.int)));exact fin c2 _ _ s1 hc2 (by rw[List.length_cons];lia)
  refine(aj rfl ⟨rfl,aj rfl (dD (fun _=>?_) (fun _=>?_))⟩)
  ·refine(aj rfl ⟨lr,rfl,⟨_,aQ.of hlr⟩,fun X hX=>aV (K:=K) (a:=lr) (xs:=aG l) (fun i acc H1=>au H H1/\H1 X=some (.lst acc)/\∃ zs:List Int,acc=zs.map V.int/\zs.length<=i) ⟨au.new hX,ae,[],rfl,Nat.le_refl _⟩ (fun i acc H1 _ z=>⟨aQ.of (z.1 _ _ hlr),z.2.1,?_⟩) (Nat.le_of_lt (bT (by rw[aA];lia))) ?_ ?_⟩)
   ·obtain⟨zs,e,h⟩:=z.2.2;rw[e,List.length_map];exact h
   ·rintro i x acc H1 hx ⟨s1,Nk,zs,rfl,zl⟩;obtain⟨r,Tf,rfl⟩:=bJ hx;have rl:=hlt r (m8 Tf);refine⟨rfl,aj rfl (aj rfl ⟨_,(r:Int),rfl,by lia,by lia,fun z _ _=>(bj ⟨(jk rfl),rfl,aj rfl (dD (fun _=>?_) (fun _=>?_))⟩)⟩)⟩
    ·exact(aj rfl ⟨Nk,s1.put hX,ae,zs++[(r:Int)],by rw[List.map_append];rfl,by rw[List.length_append,List.length_singleton];lia⟩)
    ·exact⟨s1,Nk,zs,rfl,by lia⟩
   ·rintro acc H1 ⟨s1,Nk,zs,rfl,zl⟩;rw[aA]at zl;refine⟨X,zs,rfl,aQ.of Nk,by lia,fun c3 ns' hc3 pm _=>?_⟩
    exact fin c3 ns' _ s1 hc3 (by rw[pm.length_eq];lia)
  exact(aj rfl (q D Ci H (au.refl _) hD (by lia)))
def Af(t:Addr)(lp:Pos):Sp:=fun vs H Q _=>∃ w p ts,∃ g:aB p ts,∃(lr:Addr) (l:List Nat) (m:Nat) (c:Int),vs=[.ref w,.ref lr,.int (m:Int),.int c]/\bg H w p ts/\H t=some (.kH (gb (vv "by_length") lp))/\H lr=some (.lst (aG l))/\oh p ts g l/\g.N.az.length<=8/\ts.length<=9/\m∈l/\0<=c/\∀ v pp H',au H H'->ym H' v pp->Q v H'
theorem lI:Ok T T.lC 13 (Af a.cK b8):=by
 have kD:=kD T;have dW:=dW T;refine T.lC.ok b9 fun _ A _ s H vs Q E hr h=>?_
 ·obtain⟨wb,p,ts,g,lr,l,m,c,rfl,hw,htb,hlr,R,h8,h9,hml,c0,q⟩:=h;refine⟨_,(ai (aF (i:=4) b9.nd rfl (Or.inl rfl) (aC kD hr T.kj.c gP (aa (pv 0) (aa (pv 2) af))))
   (ai (aF (i:=5) b9.nd rfl (Or.inl rfl) (aD jj ah (cz K T.dQ (aa (aM (cC K) (pv 0) ah) af))))
   (ai (aF (i:=6) b9.nd rfl (Or.inl rfl) (aD bA (pv 3) ah))
   (ai (aF (i:=7) b9.nd rfl (Or.inl rfl) (aD gB (pv 3) ah))
   (ai (aF (i:=8) b9.nd rfl (Or.inl rfl) (aM (mh K) (cU (aa (aD bA (pv 7) (pv 5)) (aa (aD gV (Al uU ah) (aD bA (pv 7) (pv 5))) (aa (aD cY (pv 5) (pv 7)) (aa (aD bA (pv 7) (pv 5)) af))))) (aD bA (aD gB (pv 7) ah) ah)))
   (ai (aF (i:=9) b9.nd rfl (Or.inl rfl) (cU af))
   (ai (bf (aI qL (aM (cC K) (pv 4) ah) dZ (aK _)) (aq (aF (i:=9) b9.nd rfl (Or.inl rfl) (aM (cC K) (pv 4) (Al uU ah)))) aP)
   (ai (bf (PW.pt (oH (aI qL (aM (cC K) (pv 4) ah) dZ (aK _)) (lK (aI nj (aD bA (aD gB (pv 7) ah) ah) ah (aK _))))) (aq (aF (i:=8) b9.nd rfl (Or.inl rfl) (aM (cC K) (pv 4) ah))) aP)
   (ai (bf (aI bE (pv 6) ah (aK _)) (aq (aE (fm (aa dZ (aa (aC dW hr T.dP.c aL (aa (pv 9) (aa (pv 1) (aa (pv 5) (aa (pv 7) af))))) af))))) aP)
   (ai (bf (aI bE (pv 6) ah (aK _)) (aq (aE (fm (aa dZ (aa (pv 8) (aa (aC dW hr T.dP.c aL (aa (pv 9) (aa (pv 1) (aa (pv 5) (aa (pv 7) af))))) af)))))) aP)
   (ai (bf (aI bE (pv 6) ah (aK _)) (aq (aE (fm (aa dZ (aa (pv 8) af))))) aP)
   (ai (bf (aI bE (pv 6) ah (aK _)) (aq (aE (fm (aa dZ (aa (pv 8) (aa (pv 9) af)))))) aP)
   (aq (aE (pv 4))))))))))))))),?_⟩
  refine vH ?_;intro cj cQ dH fH gS mG nL rY sY xN sq qe sr su sy EN EO ER;have CO:=R.few h9;obtain⟨m1,m2⟩:=(R.all m).mp hml;have big:(2:Nat)^ts.length<=2^9:=Nat.pow_le_pow_right (by decide) h9
  have tp:=Nat.two_pow_pos ts.length;have hlt:∀ r∈l,r<=1000:=fun r hr=>by have:=((R.all r).mp hr).1;lia
  have JM:0<l.length:=List.length_pos_of_mem hml;obtain⟨bt,xs,h1,h2,h3⟩:=id hw.ex;have wg:=h3.length;have zk:(1:Int)*2^((xs.length:Nat):Int).toNat=((2^ts.length:Nat):Int):=by rw[g8,wg]
  refine(aj rfl (aj rfl ⟨wb,p,ts,g,_,rfl,hw,htb,.inr ⟨h8,h9,.inl ⟨m,rfl,m1,fun _ cp l' H3 s3 R' PA=>?_,fun z=>absurd m2 z⟩⟩⟩))
  obtain rfl:l' = l:=R'.uniq R;obtain⟨pp,pv,_⟩:=Fv R CO PA;refine(aj rfl (bX (aY.of (s3 _ _ h1)) (ao (j:=1) rfl) (oZ rfl (.inr (aY.of (s3 _ _ h2))) (bj ⟨⟨by lia,by lia,by decide⟩,?_⟩))))
  dsimp only;rw[zk];refine(aj rfl (bj ⟨(jk rfl),aj rfl (bj ⟨⟨by decide,by decide⟩,?_⟩)⟩))
  have cont:∀(mk:Int) (D:Addr) (C:List Nat) (H5:Hp),au H3 H5->H5 D=some (.lst (aG C))->C.length<=62->sY { nx:=fun _ H'=>Q V.gh H',rt:=Q} [some (V.ref wb),some (V.ref lr),some (V.int (m:Int)),some (V.int c),some (V.ref cp),some (V.int ((2^ts.length:Nat):Int)),some (V.int (c%5)),some (V.int (c/5)),some (V.int mk),some (V.ref D)] H5:=fun mk D C H5 s5 hD Cl=>by
   have FN:=s3.trans s5;have c5:0<=c/5:=by lia
   refine(aj rfl ⟨rfl,aj rfl (dD (fun _=>?_) (fun _=>?_))⟩)
   ·refine(aj rfl (aj rfl (aj rfl (aj rfl ⟨D,lr,C,l',_,_,rfl,hD,Cl,FN _ _ hlr,CO,JM,hlt,c5,fun E zs H6 s6 hE zl=>⟨dl rfl,fun e he=>?_⟩⟩))))
    exact q (.ref e) (.nn zs) _ ((FN.trans s6).trans (au.new he)) ⟨e,E,rfl,ae,au.new he _ _ hE,zl⟩
   refine(aj rfl ⟨rfl,aj rfl (dD (fun _=>?_) (fun _=>?_))⟩)
   ·refine(aj rfl (aj rfl (aj rfl (aj rfl (aj rfl ⟨D,lr,C,l',_,_,rfl,hD,Cl,FN _ _ hlr,CO,JM,hlt,c5,fun E zs H6 s6 hE zl=>⟨dl rfl,fun e he=>?_⟩⟩)))))
    exact q (.ref e) (.ss mk zs) _ ((FN.trans s6).trans (au.new he)) ⟨e,E,rfl,ae,au.new he _ _ hE,zl⟩
   refine(aj rfl ⟨rfl,aj rfl (dD (fun _=>?_) (fun _=>?_))⟩)
   ·exact(aj rfl ⟨dl rfl,fun e he=>q (.ref e) (.ee mk) _ (FN.trans (au.new he)) ⟨e,rfl,ae⟩⟩)
   refine(aj rfl ⟨rfl,aj rfl (dD (fun _=>?_) (fun _=>?_))⟩)
   ·refine(aj rfl (aj rfl ⟨dl rfl,fun e he=>q (.ref e) (.ss mk (C.map fun x=>((x:Nat):Int))) _ (FN.trans (au.new he)) ⟨e,D,rfl,ae,?_,by rw[List.length_map];lia⟩⟩))
    rw[<-cM];exact au.new he _ _ hD
   exact(aj rfl (q (.ref cp) pp H5 FN (pv.same s5)))
  refine(aj rfl (aj rfl (bj ⟨(by lia),aj rfl (aj rfl (aj rfl (bj ⟨(by lia),bj (aj rfl (aj rfl (bj (aj rfl (aj rfl (bj ⟨(by lia),dl rfl,fun M hM=>?_⟩))))))⟩)))⟩)))
  obtain⟨OW,Tg⟩:=G9 ([c/5%((2^ts.length:Nat):Int),-1-c/5%((2^ts.length:Nat):Int),((2^ts.length:Nat):Int)+c/5,c/5%((2^ts.length:Nat):Int)]:List Int) (z:=c/5/3%4) (Int.emod_nonneg _ (by decide)) (Int.emod_lt_of_pos _ (by decide))
  have s4:au H3 (upd H3 M (.lst (([c/5%((2^ts.length:Nat):Int),-1-c/5%((2^ts.length:Nat):Int),((2^ts.length:Nat):Int)+c/5,c/5%((2^ts.length:Nat):Int)]:List Int).map V.int))):=au.new hM;refine(aj rfl (bj ⟨⟨by decide,by decide⟩,bj ⟨(jk rfl),lT (aQ.of ae) (Tg) (?_)⟩⟩))
  refine⟨dl rfl,fun D0 Th=>?_⟩
  have s5:au H3 (upd (upd H3 M (.lst (([c/5%((2^ts.length:Nat):Int),-1-c/5%((2^ts.length:Nat):Int),((2^ts.length:Nat):Int)+c/5,c/5%((2^ts.length:Nat):Int)]:List Int).map V.int))) D0 (.lst [])):=s4.trans (au.new Th);have HV:upd (upd H3 M (.lst (([c/5%((2^ts.length:Nat):Int),-1-c/5%((2^ts.length:Nat):Int),((2^ts.length:Nat):Int)+c/5,c/5%((2^ts.length:Nat):Int)]:List Int).map V.int))) D0 (.lst []) D0=some (.lst (aG [])):=ae;rcases PA with⟨D,C,hc,_,hD,_,PL⟩|⟨Mk,hc,_⟩|⟨D,C,Mk,hc,_,hD,_,_,_,_,_,PL⟩
  ·have Cl:=yq hml (.inl PL);refine(aj rfl (bX (aY.of (s5 _ _ hc)) (ao (j:=0) rfl) ⟨rfl,aj rfl (bW (aj rfl (aj rfl (bX (v:=.ref D) (aY.of (s5 _ _ hc)) (rfl) (?_)))))⟩));exact(aj rfl (bX (aY.of (s5 _ _ hc)) (ao (j:=0) rfl) ⟨rfl,aj rfl (bK (bK (cont OW D C _ s5 (s5 _ _ hD) (by lia))))⟩))
  ·refine(aj rfl (bX (aY.of (s5 _ _ hc)) (ao (j:=0) rfl) ⟨rfl,aj rfl (bK ?_)⟩));refine(aj rfl (bX (aY.of (s5 _ _ hc)) (ao (j:=0) rfl) ⟨rfl,aj rfl (bW ?_)⟩));refine(aj rfl (bj ⟨⟨by decide,by decide⟩,bj ⟨(jk rfl),bj (aj rfl (dD (fun _=>?_) (fun _=>?_)))⟩⟩))
   ·exact(aj rfl (bX (aY.of (s5 _ _ hc)) (ao (j:=1) rfl) (cont _ D0 [] _ s5 HV (by decide))))
   ·exact cont OW D0 [] _ s5 HV (by decide)
  ·have Cl:=yq hml (.inr PL);refine(aj rfl (bX (aY.of (s5 _ _ hc)) (ao (j:=0) rfl) ⟨rfl,aj rfl (bW (aj rfl (aj rfl (bX (v:=.ref D) (aY.of (s5 _ _ hc)) (rfl) (?_)))))⟩));refine(aj rfl (bX (aY.of (s5 _ _ hc)) (ao (j:=0) rfl) ⟨rfl,aj rfl (bW ?_)⟩));refine(aj rfl (bj ⟨⟨by decide,by decide⟩,bj ⟨(jk rfl),bj (aj rfl (dD (fun _=>?_) (fun _=>?_)))⟩⟩))
   ·exact(aj rfl (bX (aY.of (s5 _ _ hc)) (ao (j:=1) rfl) (cont _ D C _ s5 (s5 _ _ hD) (by lia))))
   ·exact cont OW D C _ s5 (s5 _ _ hD) (by lia)
theorem uL{K:bI}{H:Hp}:∀ l:List Int,DatVs K H (l.map V.int) (l.map PyData.int)
 | []=>.nil
 | x::r=>.cons (.int x) (uL r)
theorem lay_ints:∀ l:List Int,PyData.canLayAll0 (l.map PyData.int)=true
 | []=>rfl
 | x::r=>by
   have ih:=lay_ints r;have e:(PyData.int x).canLay0=true:=by simp[PyData.canLay0]
   simp only[List.map_cons,PyData.canLayAll0,ih,Bool.and_true,e]
theorem uM:∀ l:List Int,PyData.depthAll (l.map PyData.int)=0
 | []=>rfl
 | x::r=>by
   show max (PyData.depth (PyData.int x)) (PyData.depthAll (r.map PyData.int))=0;rw[uM r];rfl
theorem Fx(l:List Int):(PyData.list (l.map PyData.int)).canLay0=true:=by
 have e:(PyData.list (l.map PyData.int)).canLay0=PyData.canLayAll0 (l.map PyData.int):=by simp[PyData.canLay0]
 rw[e,lay_ints]
theorem Fy(K:bI):PySem.W.kitOne K (.type "int") (.type "list")=some false:=by with_unfolding_all rfl
inductive C6(H:Hp):List V->List (List Int)->Prop
 | nil:C6 H [] []
 | int {r:List V} {L:List (List Int)} (z:Int) (h:C6 H r L):C6 H (r++[.int z]) L
 | lst {r:List V} {L:List (List Int)} {D:Addr} {zs:List Int} (hD:H D=some (.lst (zs.map V.int))) (hz:zs.length<=200) (h:C6 H r L):C6 H (r++[.ref D]) (L++[zs])
theorem l8{B B' : List V}{b b' : V}(h:B++[b]=B'++[b']):B=B'/\b=b':=by
 have:=List.append_inj' h rfl;exact⟨this.1,by simpa using this.2⟩
theorem C6.uniq{H:Hp}{r:List V}{L:List (List Int)}(h:C6 H r L):∀{r' L'},C6 H r' L'->r=r'->L=L':=by
 induction h with
 | nil =>
   intro r' L' h' e;cases h' with
   | nil=>rfl
   | int _ _=>exact absurd e (by simp)
   | lst _ _ _=>exact absurd e (by simp)
 | int z h ih =>
   intro r' L' h' e;cases h' with
   | nil=>exact absurd e (by simp)
   | int _ h'=>exact ih h' (l8 e).1
   | lst _ _ h'=>exact absurd (l8 e).2 (by simp)
 | lst hD hz h ih =>
   intro r' L' h' e;cases h' with
   | nil=>exact absurd e (by simp)
   | int _ h'=>exact absurd (l8 e).2 (by simp)
   | lst hD' _ h' =>
     obtain⟨e1,e2⟩:=l8 e;cases e2;rw[hD]at hD';have e3:=HO.lst.inj (Option.some.inj hD');have e4:∀{a b:List Int},a.map V.int=b.map V.int->a=b:=fun {a b} h=>List.map_inj_right (fun x y h=>V.int.inj h) |>.mp h
     rw[ih h' e1,e4 e3]
def JN(H:Hp)(r:List V):Prop:=∀(i:Nat) (x:V),r[i]?=some x->(∃ z,x = .int z)\/∃(D:Addr) (zs:List Int),x = .ref D/\H D=some (.lst (zs.map V.int))/\zs.length<=200
def sL(X:Addr)(H:Hp)(v:V)(zs:List Int):Prop:=∃ E,v = .ref E/\E≠X/\H E=some (.lst (zs.map V.int))
theorem sL.put{X:Addr}{H:Hp}{v:V}{zs:List Int}{o:HO}(h:sL X H v zs):sL X (upd H X o) v zs:=let⟨E,e,n,z⟩:=h;⟨E,e,n,by rw[ay n];exact z⟩
theorem C6.len{H:Hp}{r:List V}{L:List (List Int)}(h:C6 H r L):L.length<=r.length:=by
 induction h with
 | nil=>exact Nat.le_refl _
 | int z h ih=>rw[List.length_append];lia
 | lst _ _ h ih=>rw[List.length_append,List.length_append];exact Nat.add_le_add_right ih 1
def pQ(zs:List Int):PyData:=.list (zs.map PyData.int)
theorem wA{K:bI}{X:Addr}{H:Hp}:∀{acc:List V} {L:List (List Int)},Paired (sL X H) acc L->DatVs K H acc (L.map pQ)
 | _,_,.nil=>.nil
 | _,_,.cons ⟨E,e,_,h⟩ r=>by subst e;exact .cons (.lst (aQ.of h) (uL _)) (wA r)
theorem A9:∀ L:List (List Int),PyData.canLayAll0 (L.map pQ)=true
 | []=>rfl
 | x::r=>by
   have ih:=A9 r;simp only[List.map_cons,PyData.canLayAll0,ih,Bool.and_true];exact Fx x
theorem yr:∀ L:List (List Int),PyData.depthAll (L.map pQ)<=1
 | []=>Nat.zero_le _
 | x::r=>by
   have ih:=yr r;show max (PyData.depth (pQ x)) (PyData.depthAll (r.map pQ))<=1;have e:PyData.depth (pQ x)=PyData.depthAll (x.map PyData.int)+1:=by simp[pQ,PyData.depth]
   rw[e,uM]
   lia
theorem Ba(L:List (List Int)):(PyData.list (L.map pQ)).canLay0=true:=by
 have e:(PyData.list (L.map pQ)).canLay0=PyData.canLayAll0 (L.map pQ):=by simp[PyData.canLay0]
 rw[e,A9]
theorem sM(L:List (List Int)):SeqAt.shaped (.list (L.map pQ))=true:=by
 unfold SeqAt.shaped;rw[Ba,Bool.true_and];refine cN ?_;have h:=yr L;have e2:PyData.depth (PyData.list (L.map pQ))=PyData.depthAll (L.map pQ)+1:=by simp[PyData.depth]
 lia
theorem Fz{H:Hp}{v:V}{pp:PP}(h:ym H v pp):∃ c x r,v = .ref c/\H c=some (.tup (x::r))/\r.length<=2/\JN H r:=by
 cases pp with
 | nn zs =>
   obtain⟨c,D,rfl,hc,hD,zl⟩:=h;refine⟨c,_,_,rfl,hc,by simp,fun i x hx=>?_⟩
   match i,hx with
   | 0,hx=>exact .inr ⟨D,zs,(Option.some.inj hx).symm,hD,zl⟩
 | ss z zs =>
   obtain⟨c,D,rfl,hc,hD,zl⟩:=h;refine⟨c,_,_,rfl,hc,by simp,fun i x hx=>?_⟩
   match i,hx with
   | 0,hx=>exact .inl ⟨z,(Option.some.inj hx).symm⟩
   | 1,hx=>exact .inr ⟨D,zs,(Option.some.inj hx).symm,hD,zl⟩
 | ee z =>
   obtain⟨c,rfl,hc⟩:=h;refine⟨c,_,_,rfl,hc,by simp,fun i x hx=>?_⟩
   match i,hx with
   | 0,hx=>exact .inl ⟨z,(Option.some.inj hx).symm⟩
theorem sL.same{X:Addr}{H H' : Hp}(s:au H H'){v:V}{zs:List Int}(h:sL X H v zs):sL X H' v zs:=let⟨E,e,n,z⟩:=h;⟨E,e,n,s _ _ z⟩
def wB(K:bI)(tb:p9):Sp:=fun vs H Q _=>∃(a:Addr) (ns:List Int),vs=[.ref a]/\aQ K H a (ns.map V.int)/\ns.length<=63/\TabsAt tb H/\∀ H',Q (.bl true) H'
theorem Ml:Ok T T.HQ 14 (wB K [(a.cK,vv "by_length",b8)]):=by
 have pP:=pP T;have dB:=dB T;have bV:=bV T;have g5:=g5 T;have lI:=lI T;have fY:=fY T;have iV:=iV T;refine T.HQ.ok jt fun _ A _ s H vs Q E hr h=>?_
 ·obtain⟨b,ns,rfl,hS,hn,hT,fin⟩:=h;have Ti:=hT _ List.mem_cons_self;refine⟨_,(ai (aF (i:=1) jt.nd rfl (Or.inl rfl) (aC pP hr T.pL.c aL (aa (pv 0) (aa ah (aa ah af)))))
   (ai (aF (i:=2) jt.nd rfl (Or.inl rfl) (aC g5 hr T.gZ.c aL (aa (pv 1) af)))
   (ai (bf (aI (yO K hr.units) (pv 2) (cU af) (aK _)) (aq (aE jx)) aP)
   (ai (aF (i:=3) jt.nd rfl (Or.inl rfl) (aC dB hr T.gJ.c aL (aa (pv 0) (aa ah af))))
   (ai (fJ PassesOwn.never rfl (mC K (aD (Bw K) (iF (Lm K) (pv 0) (iY ah) (iY ah)) (cU (aa (pv 3) (aa (aC bV hr T.eA.c aL (aa (pv 3) (aa ah af))) af))))) (bD 4 jt.nd)
   (ai (aF (i:=4) jt.nd rfl (Or.inl rfl) (aD bA (pv 4) (aD Ds ah ah)))
   (ai (aF (i:=5) jt.nd rfl (Or.inl rfl) (aM (mh K) (pv 2) (aD bA (aC bV hr T.eA.c aL (aa (pv 4) (aa ah af))) (cz K T.dQ (aa (pv 2) af)))))
   (ai (aF (i:=6) jt.nd rfl (Or.inl rfl) (aC lI hr T.lC.c aL (aa (pv 1) (aa (pv 2) (aa (pv 5) (aa (pv 4) af))))))
   (ai (lN (i:=7) jt.nd rfl rfl (own:=["part"]) (fq:=[]) (js:=[]) (aJ (ak xS) ["script","web","rings","head","cell","ring","paper","kept","found"]) rfl (Pc K (iF (Ly) (pv 6) (iY ah) lM)) (fun _ _ _ _=>(bD 0 (kZ ["part"]))) (fun _ _ _ _=>(cO (cS (bS (IP K) (by rfl) T.ku PyProof.Rows.boot_isinstance (aa (pv 0) (aa (DK (by rfl) T.pM PyProof.Rows.boot_list) af)))))) (fun _ _ _ _=>(di (Lj K) (by rfl) T.pM PyProof.Rows.boot_list (aa (pv 0) af))))
   (ai (aF (i:=8) jt.nd rfl (Or.inl rfl) (aC iV hr T.iU.c gP (aa (pv 1) (aa (pv 5) (aa (pv 6) af)))))
   (ai (bf (PW.pt (nh (jP (cS (bS (IP K) (by rfl) T.ku PyProof.Rows.boot_isinstance (aa (pv 8) (aa (DK (by rfl) T.Jx PyProof.Rows.boot_bool) af))))) (oG (aI qL (pv 8) (aC fY hr T.fV.c aL (aa (pv 1) (aa (pv 2) (aa (pv 5) (aa (pv 6) af))))) (aK _))))) (aq (aE jx)) aP)
   (aq (bf (aI (IM K hr.units) (pv 7) (bh (own:=["part"]) (fq:=[]) (js:=[]) (aJ (ak xS) ["script","web","rings","head","cell","ring","paper","kept","found"]) rfl (Pc K (iF (Ly) (pv 6) (iY ah) lM)) (fun _ _ _ _=>(bD 0 (kZ ["part"]))) (fun _ _ _ _=>(cO (cS (bS (IP K) (by rfl) T.ku PyProof.Rows.boot_isinstance (aa (pv 0) (aa (DK (by rfl) T.pM PyProof.Rows.boot_list) af)))))) (fun _ _ _ _=>(pv 0))) (aK _)) (aq (aE jx)) aP)))))))))
   (aq (aE jx))))))),?_⟩
  refine Ju ?_;intro cj cQ dH fH gS mG nL rY sY xN sq qe sr su sy;refine(aj rfl ⟨b,ns,9,5,rfl,hS,hn,by decide,fun wb p ts H1 s1 g p2 p6 Tj hw=>?_⟩)
  have htb:=s1 _ _ Ti;have h9:ts.length<=9:=Tj;refine(aj rfl ⟨wb,p,ts,g,rfl,hw,h9,fun L l H7 OD Qk Ql R=>?_⟩)
  have CO:=R.few h9;have Tn:∀ r∈l,r<2^ts.length:=fun r hr=>((R.all r).mp hr).1
  have h8:g.N.az.length<=8:=by
   by_cases h0:0<g.N.n
   ·have:=RM.B5 h0;have h2:g.N.n=ts.length:=rfl
    lia
   ·have h1:g.N.az.length<=(List.range g.N.n).length:=List.length_filter_le ..;rw[List.length_range]at h1
    lia
  refine(aj rfl ⟨dl rfl,fun E0 To=>?_⟩)
  have Mm:au H7 (upd H7 E0 (.lst [])):=au.new To;refine⟨_,_,.lst (aQ.of (Mm _ _ Ql)) (nC _),.lst (aQ.of ae) .nil,kR _,rfl,aj rfl (?_)⟩;rw[vf];generalize upd H7 E0 (.lst [])=H8 at Mm
  by_cases DG:l=[]
  ·rw[cN DG];exact bW (fin _)
  rw[fk DG];refine bK ?_;have JM:0<l.length:=List.length_pos_iff.mpr DG;have Mc:=s1.trans (Qk.trans Mm);refine(aj rfl ⟨b,ns,0,rfl,(by decide),Mc.seq hS,fun z0=>?_⟩)
  refine(aj rfl (aj rfl (aj rfl ⟨b,_,rfl,Mc.seq hS,fun c1 hc1=>?_⟩)))
  obtain⟨k1,e1,n1⟩:=JL ns (some 1) (some 5);rw[e1];have u1:au H8 (upd H8 c1 (.lst (k1.map V.int))):=au.new hc1;have Fw:upd H8 c1 (.lst (k1.map V.int)) c1=some (.lst (k1.map V.int)):=ae;generalize upd H8 c1 (.lst (k1.map V.int))=H9 at u1 Fw;refine(aj rfl (aj rfl ⟨_,5,rfl,(by decide),(by decide),fun z5 _ _=>⟨dl rfl,fun c2 hc2=>?_⟩⟩))
  have u2:au H9 (upd H9 c2 (.lst (([z0,z5]:List Int).map V.int))):=au.new hc2;refine⟨c1,c2,_,_,rfl,rfl,aQ.of (u2 _ _ Fw),aQ.of ae,Nat.le_of_lt (bT (by rw[List.length_map];show k1.length+2<=900;lia)),fun c3 hc3=>?_⟩
  have u3:au (upd H9 c2 (.lst (([z0,z5]:List Int).map V.int))) (upd (upd H9 c2 (.lst (([z0,z5]:List Int).map V.int))) c3 (.lst (k1.map V.int++([z0,z5]:List Int).map V.int))):=au.new hc3;have Mn:upd (upd H9 c2 (.lst (([z0,z5]:List Int).map V.int))) c3 (.lst (k1.map V.int++([z0,z5]:List Int).map V.int)) c3=some (.lst (k1.map V.int++([z0,z5]:List Int).map V.int)):=ae;have Tp:=(u1.trans u2).trans u3;have lp:(0:Int)<((aG l).length:Int):=by rw[aA];lia
  refine⟨c3,rfl,⟨_,aQ.of Mn⟩,dm (K:=K) (a:=c3) (xs:=k1.map V.int++([z0,z5]:List Int).map V.int) (fun i σ Kh=>∃ v4 v5 v6 v7 v8,σ=[some (.ref b),some (.ref wb),some (.ref L),some (.int z0),v4,v5,v6,v7,v8]/\au H8 Kh/\Kh c3=some (.lst (k1.map V.int++([z0,z5]:List Int).map V.int))) ⟨_,_,_,_,_,rfl,Tp,Mn⟩ (fun i σ Kh _ ⟨_,_,_,_,_,_,_,z⟩=>aQ.of z) ?_ ?_⟩
  ·rintro i y D' σ Kh hi ⟨v4,v5,v6,v7,v8,rfl,x1,Mp⟩;obtain⟨z,rfl⟩:∃ z,y = .int z:=by
    rcases List.mem_append.mp (m8 hi) with h|h<;>obtain⟨z,_,rfl⟩:=List.mem_map.mp h<;>exact⟨z,rfl⟩
   have cc:0<=z%10^(40:Int).toNat:=Int.emod_nonneg _ (by decide)
   refine(aj rfl (bj ⟨⟨by decide,by decide,by decide⟩,bj ⟨(show(0:Int)<10^(40:Int).toNat by decide),?_⟩⟩))
   have w1:=(Qk.trans Mm).trans x1;have Hf:=(Mm.trans x1) _ _ Ql;refine(aj rfl (aj rfl ⟨_,6,rfl,(by decide),(by decide),fun z6 VF VG=>?_⟩))
   obtain⟨m,hml,hy⟩:=A8 l (z:=z6%((aG l).length:Int)) (Int.emod_nonneg _ (by lia)) (by have:=Int.emod_lt_of_pos z6 lp;rw[aA]at this ⊢;exact this)
   refine(aj rfl (oZ rfl (.inl (aQ.of Hf)) (bj ⟨lp,lT (aQ.of Hf) (hy) (?_)⟩)));obtain⟨m1,m2⟩:=(R.all m).mp hml;refine(aj rfl (aj rfl (aj rfl (aj rfl ⟨wb,p,ts,g,L,l,m,_,rfl,hw.same w1,w1 _ _ htb,Hf,R,h8,h9,hml,cc,fun v pp Qm Nl pv=>?_⟩))))
   have w2:=w1.trans Nl;have OX:=Nl _ _ Hf;obtain⟨pc,px,pr,rfl,Qn,VH,ra⟩:=Fz pv;have ec:oO (px::pr) (some 1) none=pr:=by
    have:=cutD (px::pr) 1;exact this
   refine(aj rfl (aj rfl ⟨pc,_,rfl,Qn,fun q1 Tq s12 hq1=>?_⟩))
   rw[ec]at hq1;refine⟨q1,rfl,⟨_,aY.of hq1⟩,fun X hX=>wR (K:=K) (a:=q1) (xs:=pr) (fun i acc Ia=>au Tq Ia/\Ia X=some (.lst acc)/\∃ Ls,C6 Qm (pr.take i) Ls/\Paired (sL X Ia) acc Ls) ⟨au.new hX,ae,[],.nil,.nil⟩ (fun i acc Ia _ z=>⟨aY.of (z.1 _ _ hq1),z.2.1,?_⟩) (e7 (by lia)) ?_ ?_⟩
   ·obtain⟨_,_,Ls,rs,pd⟩:=z;have h1:=rs.len;have h2:=pd.length;have h3:=List.length_take_le i pr
    lia
   ·rintro i x acc Ia hx ⟨g4,FA,Ls,rs,pd⟩;rcases ra i x hx with⟨y,rfl⟩|⟨D,zs,rfl,hD,zl⟩
    ·exact⟨rfl,aj rfl ⟨_,_,_,_,_,rfl,rfl,.int _,Fy K,_,rfl,bK ⟨g4,FA,Ls,by rw[take3 hx];exact .int y rs,pd⟩⟩⟩
    ·have Mq:=(s12.trans g4) _ _ hD;refine⟨rfl,aj rfl ⟨_,_,_,_,_,rfl,rfl,.lst Mq,DJ K,_,rfl,bW (aj rfl (oZ rfl (.inl (aQ.of Mq)) (fun l hl=>?_)))⟩⟩
     have nl:l≠X:=Ne.symm (aS FA hl);have s3:au Ia (upd Ia l (.lst (zs.map V.int))):=au.new hl;exact⟨s3 _ _ FA,(g4.trans s3).put hX,ae,Ls++[zs],by rw[take3 hx];exact .lst hD zl rs,Paired.snoc (Paired.imp' (fun _ _ z=>(z.same s3).put) pd) (sL.put ⟨l,rfl,nl,ae⟩)⟩
   ·rintro kept Ia ⟨g4,FA,Ls,rs,pd⟩;rw[List.take_length]at rs;have w3:=w2.trans (s12.trans g4);have u3:=s12.trans g4;refine(aj rfl (aj rfl (aj rfl ⟨wb,p,ts,g,_,_,rfl,hw.same w3,w3 _ _ htb,h8,h9,.inl ⟨m,rfl,m1,fun _=>⟨pp,l,pv.same u3,R,fun VI d wz hd=>?_⟩,fun z=>absurd m2 z⟩⟩)))
    have w4:=w3.trans wz;have u4:=u3.trans wz;refine(aj rfl ⟨_,_,_,_,_,rfl,rfl,.bl d,IL K,_,rfl,bK (aj rfl (aj rfl (aj rfl (aj rfl (aj rfl ⟨wb,p,ts,g,L,l,m,_,pp,rfl,hw.same w4,u4 _ _ OX,CO,Tn,m1,pv.same u4,fun VJ d2 A6 hd2=>?_⟩)))))⟩)
    have w5:=w4.trans A6;have u5:=u4.trans A6;obtain rfl:d=d2:=by
     have h:=hd.trans hd2.symm;cases d<;>cases d2
     ·rfl
     ·exact absurd (h.mpr rfl) (by decide)
     ·exact absurd (h.mp rfl) (by decide)
     ·rfl
    refine⟨rfl,?_⟩;rw[cN rfl];refine(aj rfl (bK ?_));refine(aj rfl (aj rfl (aj rfl ⟨pc,_,rfl,u5 _ _ Qn,fun q2 Tr Qo hq2=>?_⟩)))
    rw[ec]at hq2;have u6:=u5.trans Qo;refine⟨q2,rfl,⟨_,aY.of hq2⟩,fun Y hY=>wR (K:=K) (a:=q2) (xs:=pr) (fun i acc Ko=>au Tr Ko/\Ko Y=some (.lst acc)/\∃ Ls,C6 Qm (pr.take i) Ls/\Paired (sL Y Ko) acc Ls) ⟨au.new hY,ae,[],.nil,.nil⟩ (fun i acc Ko _ z=>⟨aY.of (z.1 _ _ hq2),z.2.1,?_⟩) (e7 (by lia)) ?_ ?_⟩
    ·obtain⟨_,_,Ls,rs,pd⟩:=z;have h1:=rs.len;have h2:=pd.length;have h3:=List.length_take_le i pr
     lia
    ·rintro i x acc Ko hx ⟨JO,Hg,Ls,rs,pd⟩;rcases ra i x hx with⟨y,rfl⟩|⟨D,zs,rfl,hD,zl⟩
     ·exact⟨rfl,aj rfl ⟨_,_,_,_,_,rfl,rfl,.int _,Fy K,_,rfl,bK ⟨JO,Hg,Ls,by rw[take3 hx];exact .int y rs,pd⟩⟩⟩
     ·have Mr:=u6 _ _ hD;have Ms:=JO _ _ Mr;have nl:D≠Y:=aS Mr hY;exact⟨rfl,aj rfl ⟨_,_,_,_,_,rfl,rfl,.lst Ms,DJ K,_,rfl,bW (aj rfl ⟨Hg,JO.put hY,ae,Ls++[zs],by rw[take3 hx];exact .lst hD zl rs,Paired.snoc (Paired.imp' (fun _ _ z=>z.put) pd) (sL.put ⟨D,rfl,nl,Ms⟩)⟩)⟩⟩
    ·rintro parts Ko ⟨JO,Hg,VL,Qp,Tt⟩;rw[List.take_length]at Qp;obtain rfl:=rs.uniq Qp rfl;have v7:=((wz.trans A6).trans Qo).trans JO;refine⟨_,_,.lst (aQ.of (v7 _ _ FA)) (wA (Paired.imp' (fun _ _ z=>z.same v7) pd)),.lst (aQ.of Hg) (wA Tt),sM _,sM _,?_⟩
     rw[SeqAt.eqv_refl _ (Ba _)];refine(aj rfl (bK ?_));exact⟨_,_,_,_,_,rfl,x1.trans ((Nl.trans u6).trans JO),((Nl.trans u6).trans JO) _ _ Mp⟩
  ·rintro σ Kh ⟨v4,v5,v6,v7,v8,rfl,x1,Mp⟩;exact fin _
end
section
variable {l:PySem.W.OpenLaw}{w:World}{K:bI}{h:Heap}{mg:kK}{fa f0 f1 f2 f3 f4 f5 f6 f7 f8 f9 Qq Qs Qt Qu Qv Qw Qx Qy Qz QA QB QC QD QE QF QG QH QI QJ QK QL QM f32 QN QO QS QT QU QV QW QX QY QZ Q0 Q2 Q3 Q4 Q5 Q6 Q7 Q8 Q9 Ra Rb Rc Rf Tu sN pR pS pT ou eN:Addr}{d0 d1 d2 d3 d4 d5 d6 d7 d8 d9 Tv Tw Tz TF TH TJ TL TM TN TQ TR TU TV TX TY TZ T3 T4 T5 T6 T7 T8 T9 Ua Ub Uc Ud Ue Ug Uh Ui Uj Uk Ul Um Uo Uq Ur Us Ut Uu Uv Uw Ux Uy Uz UA:FuncData}{ts:List Addr}{yt:Tok}
open PySem.W
theorem all_mk(X:K.In h)(G:h.Ns mainGlobals mg)(UB:mg "law"=some (.ref fa))(te:ts=[eN])
 (d_BadSet:nsIn K mainGlobals "BadSet"=some (some (.ref sN)))
 (d_NotRing:nsIn K mainGlobals "NotRing"=some (some (.ref pR)))
 (d_NoChord:nsIn K mainGlobals "NoChord"=some (some (.ref pS)))
 (d_TooMany:nsIn K mainGlobals "TooMany"=some (some (.ref pT)))
 (xc_BadSet:excIn K sN [.type "ValueError",.type "Exception",.type "BaseException",.type "object"] "ValueError.__new__"=true)
 (xc_NotRing:excIn K pR [.type "ValueError",.type "Exception",.type "BaseException",.type "object"] "ValueError.__new__"=true)
 (xc_NoChord:excIn K pS [.type "ValueError",.type "Exception",.type "BaseException",.type "object"] "ValueError.__new__"=true)
 (xc_TooMany:excIn K pT [.type "ValueError",.type "Exception",.type "BaseException",.type "object"] "ValueError.__new__"=true)
 (nt:noTabs K=true) (pn:([eN]:List Addr).Nodup) (pi:∀ p∈([eN]:List Addr),p∈ts)
 (a0:Dk K "has_tie" o4 f0 d0)
 (a1:Dk K "ties_in" lU f1 d1)
 (a2:Dk K "all_ties" mU f2 d2)
 (a3:Dk K "is_set" rX f3 d3)
 (a4:Dk K "check_set" k6 f4 d4)
 (a5:Dk K "triples_in" hU f5 d5)
 (a6:Dk K "length_of" i8 f6 d6)
 (a7:Dk K "odd_points" h7 f7 d7)
 (a8:Dk K "drawn_together" eG f8 d8)
 (a9:Dk K "pieces" nK f9 d9)
 (UC:Dk K "rank" zx Qq Tv)
 (UD:Dk K "is_even" o5 Qs Tw)
 (UE:Dk K "forest_trails" e8 Qt Tz)
 (UG:Dk K "forest" rZ Qu TF)
 (UH:Dk K "chords" r6 Qv TH)
 (UI:Dk K "ring_closed" jn Qw TJ)
 (UJ:Dk K "chord_ring" jV Qx TL)
 (UK:Dk K "is_ring" lW Qy TM)
 (UL:Dk K "is_ring_number" gv Qz TN)
 (UM:Dk K "check_ring" jW QA TQ)
 (Rg:LQ K "by_length" ja QB TR ou eN)
 (UN:Dk K "common" sd QC TU)
 (UO:Dk K "bears_oddly" jo QD TV)
 (UP:Dk K "reduced" o7 QE TX)
 (UQ:Dk K "with_row" mV QF TY)
 (UR:Dk K "rows_of" o8 QG TZ)
 (US:Dk K "check_rank" jX QH T3)
 (UT:Dk K "even_sets" jc QI T4)
 (UU:Dk K "all_rings" jd QJ T5)
 (UW:Dk K "shorter_rings" fb QK T6)
 (UX:Dk K "other_rings" gG QL T7)
 (UY:Dk K "parts_of" jY QM T8)
 (a32:Dk K "marks_against" gY f32 T9)
 (UZ:Dk K "ring_paper" jZ QN Ua)
 (U0:Dk K "is_sum_of" lg QO Ub)
 (U1:Dk K "all_rings_shorter" cR QS Uc)
 (U3:Dk K "all_rings_other" dI QT Ud)
 (U4:Dk K "marks_part" ia QU Ue)
 (U5:Dk K "paper_judged" iQ QV Ug)
 (U6:Dk K "_law_cell_at" jq QW Uh)
 (U7:Dk K "_law_mixed" lj QX Ui)
 (U8:Dk K "_law_length" j6 QY Uj)
 (U9:Dk K "_law_tie" pe QZ Uk)
 (Va:Dk K "_law_web" gx Q0 Ul)
 (Vb:Dk K "_law_counts" j8 Q2 Um)
 (Vc:Dk K "_law_pieces" fQ Q3 Uo)
 (Vd:Dk K "_law_even" j9 Q4 Uq)
 (Ve:Dk K "_law_ring" iR Q5 Ur)
 (Vf:Dk K "_law_long" kc Q6 Us)
 (Vg:Dk K "_law_odd" pA Q7 Ut)
 (Vh:Dk K "_law_all_rings" fc Q8 Uu)
 (Vi:Dk K "_law_rings_right" fR Q9 Uv)
 (Vj:Dk K "_law_marks_right" dJ Ra Uw)
 (Vk:Dk K "_law_paper_right" cJ Rb Ux)
 (Vl:Dk K "_law_list_spoilt" dM Rc Uy)
 (Vm:Dk K "_law_drawn" lq Rf Uz)
 (OY:Dk K "law" xS Tu UA)
 (wC:Ng K "ValueError")
 (Mt:Ng K "all")
 (Mu:Ng K "any")
 (JP:Ng K "bool")
 (yu:Ng K "enumerate")
 (Mv:Ng K "int")
 (wD:Ng K "isinstance")
 (Mw:Ng K "len")
 (JQ:Ng K "list")
 (Mx:Ng K "max")
 (My:Ng K "min")
 (Hh:Ng K "range")
 (Ag:Ng K "reversed")
 (Mz:Ng K "set")
 (FD:Ng K "sorted")
 (MA:Ng K "sum")
 (Hi:Ng K "tuple")
 (MB:Ng K "zip")
 (yv:nsIn K mainGlobals "MOST_RANK"=some (some (.int 8 yt)))
 : ∃(fd:FuncData) (tb:p9),((tb.map (·.1)).Nodup/\noTabs K=true/\∀ p∈tb,p.1∈ts/\∃ c,codeHdIn K c p.1=true)/\(∀(s:Shared) (v:Value),BindsTo s fd ⟨[v],[]⟩ [("script",v)])/\∀ base:Heap,K.In base->base.Ns mainGlobals mg->kO l.prog w K mg base Ax 14 fa fd ["script"] (wB K tb):=by
 have e:=UB.symm.trans (mg_of X G OY.n);cases e;have T:∀ base,Txt l.prog w base K mg ⟨f0,_,f1,_,f2,_,f3,_,f4,_,f5,_,f6,_,f7,_,f8,_,f9,_,Qq,_,Qs,_,Qt,_,Qu,_,Qv,_,Qw,_,Qx,_,Qy,_,Qz,_,QA,_,QB,_,QC,_,QD,_,QE,_,QF,_,QG,_,QH,_,QI,_,QJ,_,QK,_,QL,_,QM,_,f32,_,QN,_,QO,_,QS,_,QT,_,QU,_,QV,_,QW,_,QX,_,QY,_,QZ,_,Q0,_,Q2,_,Q3,_,Q4,_,Q5,_,Q6,_,Q7,_,Q8,_,Q9,_,Ra,_,Rb,_,Rc,_,Rf,_,fa,_,sN,pR,pS,pT,ou,eN⟩:=fun _=>⟨m7 X G a0,C1 X G a1,C1 X G a2,m7 X G a3,m7 X G a4,m7 X G a5,m7 X G a6,m7 X G a7,HN X G a8,m7 X G a9,C1 X G UC,m7 X G UD,C1 X G UE,C1 X G UG,C1 X G UH,HN X G UI,m7 X G UJ,m7 X G UK,m7 X G UL,m7 X G UM,Sn X G Rg,m7 X G UN,m7 X G UO,m7 X G UP,m7 X G UQ,C1 X G UR,C1 X G US,C1 X G UT,C1 X G UU,m7 X G UW,m7 X G UX,HN X G UY,m7 X G a32,m7 X G UZ,m7 X G U0,HN X G U1,HN X G U3,Ka X G U4,HN X G U5,m7 X G U6,m7 X G U7,m7 X G U8,HN X G U9,HN X G Va,m7 X G Vb,m7 X G Vc,m7 X G Vd,m7 X G Ve,m7 X G Vf,m7 X G Vg,C1 X G Vh,Ka X G Vi,Ka X G Vj,Ka X G Vk,Ka X G Vl,Ka X G Vm,C1 X G OY,mg_none_of X G wC.n,mg_none_of X G Mt.n,mg_none_of X G Mu.n,mg_none_of X G JP.n,mg_none_of X G yu.n,mg_none_of X G Mv.n,mg_none_of X G wD.n,mg_none_of X G Mw.n,mg_none_of X G JQ.n,mg_none_of X G Mx.n,mg_none_of X G My.n,mg_none_of X G Hh.n,mg_none_of X G Ag.n,mg_none_of X G Mz.n,mg_none_of X G FD.n,mg_none_of X G MA.n,mg_none_of X G Hi.n,mg_none_of X G MB.n,⟨_,mg_of X G yv⟩,mg_of X G d_BadSet,mg_of X G d_NotRing,mg_of X G d_NoChord,mg_of X G d_TooMany,fun h1 X1 G1=>vc X1 G1 d_BadSet xc_BadSet,fun h1 X1 G1=>vc X1 G1 d_NotRing xc_NotRing,fun h1 X1 G1=>vc X1 G1 d_NoChord xc_NoChord,fun h1 X1 G1=>vc X1 G1 d_TooMany xc_TooMany⟩
 exact⟨_,[(eN,vv "by_length",b8)],⟨pn,nt,fun p hp=>⟨pi _ (List.mem_map_of_mem (f:=(·.1)) hp),by simp only[List.mem_cons,List.not_mem_nil,or_false]at hp;rcases hp with rfl;all_goals first | exact⟨_,Rg.F.hd⟩⟩⟩,Jt OY,fun base _ _=>Ml (T base)⟩
end
theorem walk{l:PySem.W.OpenLaw}{q:Program}{loose:List Str}{XP:(Str->Option Value)->Heap->Prop}{YP:World->Heap->Prop}{d:DefRec}{K:Params->bI}{ts:List Addr}(hn:l.most=some 63)(K6:d.params.defaults=[])
 (hY:∀(w:World) (h:Heap),YP w h->(K w.params).In h/\∀ P∈ts,h.get? P=some (PySem.W.tabObj #[]))
 (F:∀(w:World) (mg:kK) (fa:Addr) (h:Heap),(K w.params).In h->h.Ns mainGlobals mg->mg d.name=some (.ref fa)->
  ∃(fd:FuncData) (tb:p9),((tb.map (·.1)).Nodup/\PySem.W.noTabs (K w.params)=true/\∀ p∈tb,p.1∈ts/\∃ c,PySem.W.codeHdIn (K w.params) c p.1=true)/\(∀(s:Shared) (u:Value),BindsTo s fd ⟨[u],[]⟩ [("script",u)])/\∀ base:Heap,(K w.params).In base->base.Ns mainGlobals mg->kO l.prog w (K w.params) mg base Ax 14 fa fd ["script"] (wB (K w.params) tb)) :
 PySem.W.WalkO q loose XP YP l.row.toRowW d [] (fun f vs=>PySem.call f vs) :=
 L2.EC (n:=63) (k:=14) (x:="script") (CX:=fun _=>Ax) (sp:=fun w=>wB (K w.params)) hn (by decide) K6 ⟨rfl,by decide,by decide⟩ hY F (fun _ _ a ns tb hl hT hS=>⟨a,ns,rfl,hS,hl,hT,fun _=>rfl⟩) fun _ _ _ _ _ z=>z
end K36
namespace PySem.W.Fast
def tw12889126125530134970:=()
def tw10597040222341127734:=()
def tw16888330894124344204:=()
def tw16231699721636727437:=()
def tw2375873762975520283:=()
def tw15505201444906099260:=()
def tw15964877816003331368:=()
def tw9072763884699642754:=()
def tw5304060897321420214:=()
def tw6452212506489951455:=()
def tw14502729924864172087:=()
def tw11995361230353084826:=()
def tw8977058328018035909:=()
def tw4785705776728525714:=()
def tw9751885559127271251:=()
def tw13335100504083955263:=()
def tw7899629017941443938:=()
def tw13397838422807738318:=()
def tw15715919082511306057:=()
def tw8861191889881448532:=()
def tw8829518487565199481:=()
def tw2602019251220384102:=()
def tw5031357137298889074:=()
def tw14974163621282758125:=()
def tw1101241194776239703:=()
def tw12860589112409188515:=()
def tw5034668835835348823:=()
def tw16834942957178085770:=()
def tw444825652420296879:=()
def tw9979871272026990632:=()
def tw11953230145093870739:=()
def tw6156129944561761438:=()
def tw4282208150565509187:=()
def tw682467694275746186:=()
def tw7866654806735713214:=()
def tw11801264744379590582:=()
def tw8609762894669900999:=()
def tw6244145898993558645:=()
def tw11980021144403473872:=()
def tw66681522637185723:=()
def tw2837454576066861720:=()
def tw13069823382885154771:=()
def tw12460974938356224443:=()
def tw6359227312984865053:=()
def tw1595830362264422701:=()
def tw13373628728809729750:=()
def tw10720574052831855529:=()
def tw12792119569737430601:=()
def tw15751584447741944917:=()
def tw1426661898962113211:=()
def tw17561294795047665457:=()
def tw292064842282250731:=()
def tw10826543946302930893:=()
def tw7067219670410540774:=()
def tw18228864769275513713:=()
def tw1821017048420627787:=()
def tw54795313236813250:=()
def tw17179594280560581946:=()
def tw8583650563379167889:=()
def tw11487714518368106523:=()
def tw4187559299343843957:=()
def tw168514978684270776:=()
def tw15070879680536710973:=()
def tw15369755536809609639:=()
def tw8012111541009994465:=()
def tw17292176044701903962:=()
def tw6841862264130464743:=()
def tw18157084895027695551:=()
def tw17246472612009858306:=()
def tw4207130941246307065:=()
def tw1894335932533403304:=()
def tw7239950337838952628:=()
def tw11662870381606410098:=()
def tw12547813147071453055:=()
def tw6417926995744663640:=()
def tw8189070525236916307:=()
def tw3755957084043403001:=()
def tw7602920227603680719:=()
def tw17094751094641540957:=()
def tw3991045153185717303:=()
def tw14907300711293925825:=()
def tw11083288151589960139:=()
def tw9239695404460979680:=()
def tw4615947077282397751:=()
def tw577753529689603029:=()
def tw12615060383346890659:=()
def tw4466000388754442089:=()
def tw7691054574485234950:=()
def tw5442758276224880722:=()
def tw14248140474426581867:=()
def tw138943601335308003:=()
def tw6637897124654348997:=()
def tw15788325852529135037:=()
def tw4989859830550659706:=()
def tw1473625572036003711:=()
def tw11971080917579117003:=()
def tw7027576438874485382:=()
def tw11922014476917019986:=()
def tw3489849667209672809:=()
def tw9816494302111893565:=()
end PySem.W.Fast
open PySem PySem.W PyProof.Rows
set_option maxRecDepth 100000 in
set_option maxHeartbeats 0 in
theorem PySem.Challenge.cw_ringbase_k36_papers_judged_holds : PySem.Challenge.rw_ringbase_k36_papers_judged.Holds := by
 w_on;o_law;k_head;(case hw=>w_witness2)
 k_fill
 refine K36.walk (l:=PySem.Challenge.rw_ringbase_k36_papers_judged) rfl rfl (fun w h Y=>⟨PySem.W.km_in_of Y,PySem.W.km_tabs_of Y⟩) ?F
 case F =>
  intro w mg fa h KX G hmg;refine' K36.all_mk KX G hmg ?te ?d_BadSet ?d_NotRing ?d_NoChord ?d_TooMany ?xc_BadSet ?xc_NotRing ?xc_NoChord ?xc_TooMany ?nt ?pn ?pi ..
  (case te=>exact rfl)
  (case d_BadSet=>k_is)
  (case d_NotRing=>k_is)
  (case d_NoChord=>k_is)
  (case d_TooMany=>k_is)
  any_goals (refine' L2.dk ?ga ?gl ?gc ?gk;(case ga=>k_is);(case gl=>k_is);(case gc=>k_is);(case gk=>k_is))
  any_goals (refine' L2.Sj ?ga ?gl ?gc ?gk ?gd;(case ga=>k_is);(case gl=>k_is);(case gd=>kernel_rfl);(case gc=>k_is);(case gk=>k_is))
  any_goals (refine' L2.Ng.mk ?ga;(case ga=>k_is))
  (case xc_BadSet=>k_exc)
  (case xc_NotRing=>k_exc)
  (case xc_NoChord=>k_exc)
  (case xc_TooMany=>k_exc)
  (case nt=>kernel_rfl)
  (case pn=>decide)
  (case pi=>decide)
  any_goals k_is
